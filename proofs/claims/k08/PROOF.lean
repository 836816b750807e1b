import PyProof.Rows.All
import Wide.All
import OpenK.AllK
import Wide.FinOn
import HandS.ForMost
import HandS.ForExc
import HandS.Flow
import HandS.Style
import HandS.Wide
import HandS.Property
import HandS.Star
import HandS.MakeKw
import HandS.MakeKwOnly
import HandS.OwnEq
import HandS.IsInst
import HandS.Defaults
import HandS.TryOnly
import HandS.NoneIn
import HandS.Lambda
import HandS.EndTab
import HandS.EndOwn
import HandS.ExcOwn
import HandS.ExcIs
import HandS.TupSets
import HandS.Deep
import PySem.Challenge.RW_copyarms_k08_copies_that_carry
set_option Elab.async false
set_option linter.all false
set_option maxRecDepth 100000
set_option maxHeartbeats 4000000
set_option exponentiation.threshold 100000
namespace Mth
/-! ### numbers of two parts, in lowest terms -/
abbrev T3 := Int × Int × Int
def g3 (x y d : Int) : Int := ((Int.gcd ((Int.gcd x y : Nat) : Int) d : Nat) : Int)
def sg (x y d : Int) : Int := if d < 0 then -(g3 x y d) else g3 x y d
def low (x y d : Int) : T3 := (x.fdiv (sg x y d), y.fdiv (sg x y d), d.fdiv (sg x y d))
def Ok (s : T3) : Prop := 0 < s.2.2 ∧ g3 s.1 s.2.1 s.2.2 = 1
def re (s : T3) : Rat := (s.1 : Rat) / (s.2.2 : Rat)
def im (s : T3) : Rat := (s.2.1 : Rat) / (s.2.2 : Rat)
theorem g3_pos {x y d : Int} (hd : d ≠ 0) : 0 < g3 x y d := by
  unfold g3
  have : 0 < Int.gcd ((Int.gcd x y : Nat) : Int) d := Int.gcd_pos_of_ne_zero_right _ hd
  omega
theorem g3_dx {x y d : Int} : g3 x y d ∣ x := Int.dvd_trans (Int.gcd_dvd_left _ _) (Int.gcd_dvd_left _ _)
theorem g3_dy {x y d : Int} : g3 x y d ∣ y := Int.dvd_trans (Int.gcd_dvd_left _ _) (Int.gcd_dvd_right _ _)
theorem g3_dd {x y d : Int} : g3 x y d ∣ d := Int.gcd_dvd_right _ _
theorem g3_great {x y d c : Int} (h1 : c ∣ x) (h2 : c ∣ y) (h3 : c ∣ d) : c ∣ g3 x y d := Int.dvd_coe_gcd (Int.dvd_coe_gcd h1 h2) h3
theorem sg_ne {x y d : Int} (hd : d ≠ 0) : sg x y d ≠ 0 := by
  have := g3_pos (x := x) (y := y) hd
  unfold sg; split <;> omega
theorem sg_of {x y d : Int} : sg x y d = g3 x y d ∨ sg x y d = -g3 x y d := by unfold sg; split <;> simp
theorem sg_dx {x y d : Int} : sg x y d ∣ x := by rcases @sg_of x y d with h | h <;> rw [h]; exact g3_dx; exact Int.neg_dvd.mpr g3_dx
theorem sg_dy {x y d : Int} : sg x y d ∣ y := by rcases @sg_of x y d with h | h <;> rw [h]; exact g3_dy; exact Int.neg_dvd.mpr g3_dy
theorem sg_dd {x y d : Int} : sg x y d ∣ d := by rcases @sg_of x y d with h | h <;> rw [h]; exact g3_dd; exact Int.neg_dvd.mpr g3_dd
/-- the three parts, times the divisor -/
theorem low_mul (x y d : Int) : x = sg x y d * (low x y d).1 ∧ y = sg x y d * (low x y d).2.1 ∧ d = sg x y d * (low x y d).2.2 := by
  unfold low
  refine ⟨?_, ?_, ?_⟩ <;> dsimp only
  · rw [Int.fdiv_eq_ediv_of_dvd sg_dx]; exact (Int.mul_ediv_cancel' sg_dx).symm
  · rw [Int.fdiv_eq_ediv_of_dvd sg_dy]; exact (Int.mul_ediv_cancel' sg_dy).symm
  · rw [Int.fdiv_eq_ediv_of_dvd sg_dd]; exact (Int.mul_ediv_cancel' sg_dd).symm
theorem low_pos {x y d : Int} (hd : d ≠ 0) : 0 < (low x y d).2.2 := by
  have h := (low_mul x y d).2.2
  have hg := g3_pos (x := x) (y := y) hd
  generalize (low x y d).2.2 = z at h ⊢
  unfold sg at h
  rcases Int.lt_trichotomy z 0 with hz | hz | hz
  · exfalso
    split at h
    · have : 0 < (g3 x y d) * (-z) := Int.mul_pos hg (by omega)
      have e : g3 x y d * -z = - g3 x y d * z := by grind
      omega
    · have : 0 < (g3 x y d) * (-z) := Int.mul_pos hg (by omega)
      have e : g3 x y d * -z = - (g3 x y d * z) := by grind
      omega
  · subst hz; simp at h; exact absurd h hd
  · exact hz
theorem low_ok {x y d : Int} (hd : d ≠ 0) : Ok (low x y d) := by
  refine ⟨low_pos hd, ?_⟩
  obtain ⟨h1, h2, h3⟩ := low_mul x y d
  have hs := sg_ne (x := x) (y := y) hd
  have hp := low_pos (x := x) (y := y) hd
  generalize (low x y d).1 = a at *
  generalize (low x y d).2.1 = b at *
  generalize (low x y d).2.2 = c at *
  have hg := g3_pos (x := a) (y := b) (d := c) (by omega)
  have k1 : sg x y d * g3 a b c ∣ x := by
    obtain ⟨u, hu⟩ := @g3_dx a b c
    exact ⟨u, by rw [Int.mul_assoc, ← hu, ← h1]⟩
  have k2 : sg x y d * g3 a b c ∣ y := by
    obtain ⟨u, hu⟩ := @g3_dy a b c
    exact ⟨u, by rw [Int.mul_assoc, ← hu, ← h2]⟩
  have k3 : sg x y d * g3 a b c ∣ d := by
    obtain ⟨u, hu⟩ := @g3_dd a b c
    exact ⟨u, by rw [Int.mul_assoc, ← hu, ← h3]⟩
  have k := g3_great k1 k2 k3
  have k' : sg x y d * g3 a b c ∣ sg x y d := by
    rcases @sg_of x y d with h | h
    · rw [h] at k ⊢; exact k
    · rw [h]; rw [h] at k; exact (Int.dvd_neg).mpr k
  obtain ⟨u, hu⟩ := k'
  have e : g3 a b c * u = 1 := by
    have : sg x y d * (g3 a b c * u) = sg x y d * 1 := by rw [← Int.mul_assoc, ← hu, Int.mul_one]
    exact Int.eq_of_mul_eq_mul_left hs this
  exact Int.eq_one_of_dvd_one (by omega) ⟨u, e.symm⟩
theorem cast_ne {d : Int} (h : d ≠ 0) : (d : Rat) ≠ 0 := by simpa using h
theorem low_re {x y d : Int} (hd : d ≠ 0) : re (low x y d) = (x : Rat) / (d : Rat) := by
  obtain ⟨h1, h2, h3⟩ := low_mul x y d
  have hs := cast_ne (sg_ne (x := x) (y := y) hd)
  have hp := cast_ne (show (low x y d).2.2 ≠ 0 by have := low_pos (x := x) (y := y) hd; omega)
  unfold re
  have e1 : (x : Rat) = (sg x y d : Rat) * ((low x y d).1 : Rat) := by rw [← Rat.intCast_mul, ← h1]
  have e3 : (d : Rat) = (sg x y d : Rat) * ((low x y d).2.2 : Rat) := by rw [← Rat.intCast_mul, ← h3]
  generalize (sg x y d : Rat) = s at *
  generalize ((low x y d).1 : Rat) = a at *
  generalize ((low x y d).2.2 : Rat) = c at *
  grind
theorem low_im {x y d : Int} (hd : d ≠ 0) : im (low x y d) = (y : Rat) / (d : Rat) := by
  obtain ⟨h1, h2, h3⟩ := low_mul x y d
  have hs := cast_ne (sg_ne (x := x) (y := y) hd)
  have hp := cast_ne (show (low x y d).2.2 ≠ 0 by have := low_pos (x := x) (y := y) hd; omega)
  unfold im
  have e1 : (y : Rat) = (sg x y d : Rat) * ((low x y d).2.1 : Rat) := by rw [← Rat.intCast_mul, ← h2]
  have e3 : (d : Rat) = (sg x y d : Rat) * ((low x y d).2.2 : Rat) := by rw [← Rat.intCast_mul, ← h3]
  generalize (sg x y d : Rat) = s at *
  generalize ((low x y d).2.1 : Rat) = a at *
  generalize ((low x y d).2.2 : Rat) = c at *
  grind
theorem div_eq {a b c d : Int} (hb : b ≠ 0) (hd : d ≠ 0) (h : (a : Rat) / (b : Rat) = (c : Rat) / (d : Rat)) : a * d = c * b := by
  have h1 := cast_ne hb
  have h2 := cast_ne hd
  have : (a : Rat) * (d : Rat) = (c : Rat) * (b : Rat) := by grind
  rw [← Rat.intCast_mul, ← Rat.intCast_mul] at this
  exact Rat.intCast_inj.mp this
theorem dvd_of {s t : T3} (hs : Ok s) (ht : Ok t) (h1 : s.1 * t.2.2 = t.1 * s.2.2) (h2 : s.2.1 * t.2.2 = t.2.1 * s.2.2) : s.2.2 ∣ t.2.2 := by
  have a : s.2.2 ∣ s.1 * t.2.2 := ⟨t.1, by rw [h1, Int.mul_comm]⟩
  have b : s.2.2 ∣ s.2.1 * t.2.2 := ⟨t.2.1, by rw [h2, Int.mul_comm]⟩
  have c := Int.dvd_coe_gcd a b
  rw [Int.gcd_mul_right] at c
  have d : s.2.2 ∣ s.2.2 * ((t.2.2.natAbs : Nat) : Int) := ⟨_, rfl⟩
  have c' : s.2.2 ∣ ((Int.gcd s.1 s.2.1 : Nat) : Int) * ((t.2.2.natAbs : Nat) : Int) := by rw [← Int.natCast_mul]; exact c
  have e := Int.dvd_coe_gcd c' d
  rw [Int.gcd_mul_right] at e
  have g := hs.2
  unfold g3 at g
  have g' : Int.gcd ((Int.gcd s.1 s.2.1 : Nat) : Int) s.2.2 = 1 := by omega
  rw [g'] at e
  have ht2 := ht.1
  have e2 : (((1 * ((t.2.2.natAbs : Nat) : Int).natAbs : Nat)) : Int) = t.2.2 := by omega
  rw [e2] at e
  exact e
theorem ext {s t : T3} (hs : Ok s) (ht : Ok t) (h1 : re s = re t) (h2 : im s = im t) : s = t := by
  have ps := hs.1
  have pt := ht.1
  have e1 := div_eq (by omega) (by omega) h1
  have e2 := div_eq (by omega) (by omega) h2
  have d1 := dvd_of hs ht e1 e2
  have d2 := dvd_of ht hs e1.symm e2.symm
  have e3 : s.2.2 = t.2.2 := Int.le_antisymm (Int.le_of_dvd pt d1) (Int.le_of_dvd ps d2)
  obtain ⟨a, b, c⟩ := s
  obtain ⟨u, v, w⟩ := t
  dsimp only at *
  subst e3
  have q1 := Int.eq_of_mul_eq_mul_right (by omega) e1
  have q2 := Int.eq_of_mul_eq_mul_right (by omega) e2
  rw [q1, q2]
/-! ### reckoning -/
def plus (a b : T3) : T3 := low (a.1 * b.2.2 + b.1 * a.2.2) (a.2.1 * b.2.2 + b.2.1 * a.2.2) (a.2.2 * b.2.2)
def times (a b : T3) : T3 := low (a.1 * b.1 - a.2.1 * b.2.1) (a.1 * b.2.1 + a.2.1 * b.1) (a.2.2 * b.2.2)
def over (a : T3) : T3 := (a.1, -a.2.1, a.2.2)
def neg (a : T3) : T3 := (-a.1, -a.2.1, a.2.2)
def inv (a : T3) : T3 := low (a.1 * a.2.2) (-a.2.1 * a.2.2) (a.1 * a.1 + a.2.1 * a.2.1)
def face (a : T3) (m : Bool) : T3 := if m = true then over a else a
def car (t s : T3) (m : Bool) (z : T3) : T3 := plus (times t (face z m)) s
theorem Ok.ne {a : T3} (h : Ok a) : a.2.2 ≠ 0 := by have := h.1; omega
theorem mul_ne {a b : Int} (ha : a ≠ 0) (hb : b ≠ 0) : a * b ≠ 0 := fun h => (Int.mul_eq_zero.mp h).elim ha hb
theorem plus_ok {a b : T3} (ha : Ok a) (hb : Ok b) : Ok (plus a b) := low_ok (mul_ne ha.ne hb.ne)
theorem times_ok {a b : T3} (ha : Ok a) (hb : Ok b) : Ok (times a b) := low_ok (mul_ne ha.ne hb.ne)
theorem over_ok {a : T3} (ha : Ok a) : Ok (over a) := by
  refine ⟨ha.1, ?_⟩
  have h := ha.2
  unfold g3 over at *
  dsimp only at *
  rw [Int.gcd_neg]; exact h
theorem neg_ok {a : T3} (ha : Ok a) : Ok (neg a) := by
  refine ⟨ha.1, ?_⟩
  have h := ha.2
  unfold g3 neg at *
  dsimp only at *
  rw [Int.gcd_neg, Int.neg_gcd]; exact h
theorem face_ok {a : T3} (ha : Ok a) (m : Bool) : Ok (face a m) := by
  unfold face; split
  · exact over_ok ha
  · exact ha
theorem car_ok {t s z : T3} {m : Bool} (ht : Ok t) (hs : Ok s) (hz : Ok z) : Ok (car t s m z) := plus_ok (times_ok ht (face_ok hz m)) hs
def Nz (a : T3) : Prop := a.1 ≠ 0 ∨ a.2.1 ≠ 0
theorem sq_ne {a : T3} (h : Nz a) : a.1 * a.1 + a.2.1 * a.2.1 ≠ 0 := by
  have h1 : 0 ≤ a.1 * a.1 := by rcases Int.le_total 0 a.1 with h | h; exact Int.mul_nonneg h h; exact Int.mul_nonneg_of_nonpos_of_nonpos h h
  have h2 : 0 ≤ a.2.1 * a.2.1 := by rcases Int.le_total 0 a.2.1 with h | h; exact Int.mul_nonneg h h; exact Int.mul_nonneg_of_nonpos_of_nonpos h h
  rcases h with h | h
  · have := mul_ne h h; omega
  · have := mul_ne h h; omega
theorem inv_ok {a : T3} (h : Nz a) : Ok (inv a) := low_ok (sq_ne h)
theorem re_plus {a b : T3} (ha : Ok a) (hb : Ok b) : re (plus a b) = re a + re b := by
  unfold plus
  rw [low_re (mul_ne ha.ne hb.ne)]
  have h1 := cast_ne ha.ne
  have h2 := cast_ne hb.ne
  unfold re
  simp only [Rat.intCast_add, Rat.intCast_mul]
  grind
theorem im_plus {a b : T3} (ha : Ok a) (hb : Ok b) : im (plus a b) = im a + im b := by
  unfold plus
  rw [low_im (mul_ne ha.ne hb.ne)]
  have h1 := cast_ne ha.ne
  have h2 := cast_ne hb.ne
  unfold im
  simp only [Rat.intCast_add, Rat.intCast_mul]
  grind
theorem re_times {a b : T3} (ha : Ok a) (hb : Ok b) : re (times a b) = re a * re b - im a * im b := by
  unfold times
  rw [low_re (mul_ne ha.ne hb.ne)]
  have h1 := cast_ne ha.ne
  have h2 := cast_ne hb.ne
  unfold re im
  simp only [Rat.intCast_sub, Rat.intCast_mul]
  grind
theorem im_times {a b : T3} (ha : Ok a) (hb : Ok b) : im (times a b) = re a * im b + im a * re b := by
  unfold times
  rw [low_im (mul_ne ha.ne hb.ne)]
  have h1 := cast_ne ha.ne
  have h2 := cast_ne hb.ne
  unfold re im
  simp only [Rat.intCast_add, Rat.intCast_mul]
  grind
theorem re_over (a : T3) : re (over a) = re a := rfl
theorem im_over (a : T3) : im (over a) = - im a := by
  unfold im over
  simp only [Rat.intCast_neg]
  grind
theorem re_neg (a : T3) : re (neg a) = - re a := by
  unfold re neg
  simp only [Rat.intCast_neg]
  grind
theorem im_neg (a : T3) : im (neg a) = - im a := by
  unfold im neg
  simp only [Rat.intCast_neg]
  grind
theorem re_face (a : T3) (m : Bool) : re (face a m) = re a := by
  unfold face; split <;> first | exact re_over a | rfl
theorem im_face (a : T3) (m : Bool) : im (face a m) = (if m = true then -1 else 1) * im a := by
  unfold face; split
  · rw [im_over]; grind
  · grind
/-- the square of the size -/
def nn (a : T3) : Rat := re a * re a + im a * im a
theorem nn_eq {a : T3} (ha : Ok a) : nn a * ((a.2.2 : Rat) * (a.2.2 : Rat)) = ((a.1 * a.1 + a.2.1 * a.2.1 : Int) : Rat) := by
  have h1 := cast_ne ha.ne
  unfold nn re im
  simp only [Rat.intCast_add, Rat.intCast_mul]
  grind
theorem nn_ne {a : T3} (ha : Ok a) (h : Nz a) : nn a ≠ 0 := by
  intro e
  have q := nn_eq ha
  rw [e] at q
  have : ((a.1 * a.1 + a.2.1 * a.2.1 : Int) : Rat) = 0 := by rw [← q]; grind
  exact cast_ne (sq_ne h) this
theorem re_inv {a : T3} (ha : Ok a) (h : Nz a) : re (inv a) = re a / nn a := by
  have q := nn_eq ha
  have n := nn_ne ha h
  have h1 := cast_ne ha.ne
  have h2 := cast_ne (sq_ne h)
  unfold inv
  rw [low_re (sq_ne h), ← q]
  unfold re
  simp only [Rat.intCast_mul]
  rw [← q] at h2
  generalize nn a = k at *
  grind
theorem im_inv {a : T3} (ha : Ok a) (h : Nz a) : im (inv a) = - im a / nn a := by
  have q := nn_eq ha
  have n := nn_ne ha h
  have h1 := cast_ne ha.ne
  have h2 := cast_ne (sq_ne h)
  unfold inv
  rw [low_im (sq_ne h), ← q]
  unfold im
  simp only [Rat.intCast_mul, Rat.intCast_neg]
  rw [← q] at h2
  generalize nn a = k at *
  grind
theorem nz_iff {a : T3} (ha : Ok a) : Nz a ↔ nn a ≠ 0 := by
  refine ⟨nn_ne ha, fun h => ?_⟩
  by_cases h1 : a.1 = 0
  · by_cases h2 : a.2.1 = 0
    · exfalso; apply h; unfold nn re im; rw [h1, h2]; grind
    · exact .inr h2
  · exact .inl h1
theorem nn_times {a b : T3} (ha : Ok a) (hb : Ok b) : nn (times a b) = nn a * nn b := by
  unfold nn; rw [re_times ha hb, im_times ha hb]; grind
theorem nn_face (a : T3) (m : Bool) : nn (face a m) = nn a := by
  unfold nn; rw [re_face, im_face]; split <;> grind
theorem nn_inv {a : T3} (ha : Ok a) (h : Nz a) : nn (inv a) = 1 / nn a := by
  have n := nn_ne ha h
  have e : nn (inv a) = (re a / nn a) * (re a / nn a) + (- im a / nn a) * (- im a / nn a) := by
    rw [← re_inv ha h, ← im_inv ha h]; rfl
  rw [e]
  have q : nn a = re a * re a + im a * im a := rfl
  generalize nn a = k at *
  grind
theorem times_nz {a b : T3} (ha : Ok a) (hb : Ok b) (na : Nz a) (nb : Nz b) : Nz (times a b) := (nz_iff (times_ok ha hb)).mpr (by
  rw [nn_times ha hb]
  have := nn_ne ha na
  have := nn_ne hb nb
  grind)
theorem face_nz {a : T3} (ha : Ok a) (na : Nz a) (m : Bool) : Nz (face a m) := (nz_iff (face_ok ha m)).mpr (by rw [nn_face]; exact nn_ne ha na)
theorem inv_nz {a : T3} (ha : Ok a) (na : Nz a) : Nz (inv a) := (nz_iff (inv_ok na)).mpr (by
  rw [nn_inv ha na]
  have := nn_ne ha na
  grind)
/-! ### copies -/
structure Cp where
  t : T3
  s : T3
  m : Bool
  deriving DecidableEq
structure CpOk (c : Cp) : Prop where
  t : Ok c.t
  n : Nz c.t
  s : Ok c.s
def ap (c : Cp) (z : T3) : T3 := car c.t c.s c.m z
def jn (a b : Cp) : Cp := ⟨times b.t (face a.t b.m), car b.t b.s b.m a.s, a.m != b.m⟩
def bk (c : Cp) : Cp := ⟨face (inv c.t) c.m, face (neg (times (inv c.t) c.s)) c.m, c.m⟩
def still : Cp := ⟨(1, 0, 1), (0, 0, 1), false⟩
theorem still_ok : CpOk still := ⟨⟨by decide, by decide⟩, .inl (by decide), ⟨by decide, by decide⟩⟩
theorem jn_ok {a b : Cp} (ha : CpOk a) (hb : CpOk b) : CpOk (jn a b) :=
  ⟨times_ok hb.t (face_ok ha.t _), times_nz hb.t (face_ok ha.t _) hb.n (face_nz ha.t ha.n _), car_ok hb.t hb.s ha.s⟩
theorem bk_ok {c : Cp} (h : CpOk c) : CpOk (bk c) :=
  ⟨face_ok (inv_ok h.n) _, face_nz (inv_ok h.n) (inv_nz h.t h.n) _, face_ok (neg_ok (times_ok (inv_ok h.n) h.s)) _⟩
theorem re_car {t s z : T3} {m : Bool} (ht : Ok t) (hs : Ok s) (hz : Ok z) : re (car t s m z) = re t * re z - im t * ((if m = true then -1 else 1) * im z) + re s := by
  unfold car
  rw [re_plus (times_ok ht (face_ok hz m)) hs, re_times ht (face_ok hz m), re_face, im_face]
theorem im_car {t s z : T3} {m : Bool} (ht : Ok t) (hs : Ok s) (hz : Ok z) : im (car t s m z) = re t * ((if m = true then -1 else 1) * im z) + im t * re z + im s := by
  unfold car
  rw [im_plus (times_ok ht (face_ok hz m)) hs, im_times ht (face_ok hz m), re_face, im_face]
theorem ap_ok {c : Cp} {z : T3} (h : CpOk c) (hz : Ok z) : Ok (ap c z) := car_ok h.t h.s hz
theorem jn_ap {a b : Cp} (ha : CpOk a) (hb : CpOk b) {z : T3} (hz : Ok z) : ap (jn a b) z = ap b (ap a z) := by
  have hj := jn_ok ha hb
  refine ext (ap_ok hj hz) (ap_ok hb (ap_ok ha hz)) ?_ ?_
  · unfold ap
    rw [re_car hj.t hj.s hz, re_car hb.t hb.s (car_ok ha.t ha.s hz), re_car ha.t ha.s hz, im_car ha.t ha.s hz]
    show re (times b.t (face a.t b.m)) * re z - im (times b.t (face a.t b.m)) * ((if (a.m != b.m) = true then -1 else 1) * im z) + re (car b.t b.s b.m a.s) = _
    rw [re_times hb.t (face_ok ha.t _), im_times hb.t (face_ok ha.t _), re_face, im_face, re_car hb.t hb.s ha.s]
    cases a.m <;> cases b.m <;> simp <;> grind
  · unfold ap
    rw [im_car hj.t hj.s hz, im_car hb.t hb.s (car_ok ha.t ha.s hz), re_car ha.t ha.s hz, im_car ha.t ha.s hz]
    show re (times b.t (face a.t b.m)) * ((if (a.m != b.m) = true then -1 else 1) * im z) + im (times b.t (face a.t b.m)) * re z + im (car b.t b.s b.m a.s) = _
    rw [re_times hb.t (face_ok ha.t _), im_times hb.t (face_ok ha.t _), re_face, im_face, im_car hb.t hb.s ha.s]
    cases a.m <;> cases b.m <;> simp <;> grind
theorem cp_ext {a b : Cp} (ha : CpOk a) (hb : CpOk b) (h1 : re a.t = re b.t) (h2 : im a.t = im b.t) (h3 : re a.s = re b.s) (h4 : im a.s = im b.s) (h5 : a.m = b.m) : a = b := by
  have e1 := ext ha.t hb.t h1 h2
  have e2 := ext ha.s hb.s h3 h4
  cases a; cases b
  dsimp only at e1 e2 h5
  rw [e1, e2, h5]
theorem re_jt {a b : Cp} (ha : CpOk a) (hb : CpOk b) : re (jn a b).t = re b.t * re a.t - im b.t * ((if b.m = true then -1 else 1) * im a.t) := by
  show re (times b.t (face a.t b.m)) = _
  rw [re_times hb.t (face_ok ha.t _), re_face, im_face]
theorem im_jt {a b : Cp} (ha : CpOk a) (hb : CpOk b) : im (jn a b).t = re b.t * ((if b.m = true then -1 else 1) * im a.t) + im b.t * re a.t := by
  show im (times b.t (face a.t b.m)) = _
  rw [im_times hb.t (face_ok ha.t _), re_face, im_face]
theorem re_js {a b : Cp} (ha : CpOk a) (hb : CpOk b) : re (jn a b).s = re b.t * re a.s - im b.t * ((if b.m = true then -1 else 1) * im a.s) + re b.s := re_car hb.t hb.s ha.s
theorem im_js {a b : Cp} (ha : CpOk a) (hb : CpOk b) : im (jn a b).s = re b.t * ((if b.m = true then -1 else 1) * im a.s) + im b.t * re a.s + im b.s := im_car hb.t hb.s ha.s
theorem jn_m (a b : Cp) : (jn a b).m = (a.m != b.m) := rfl
theorem jn_assoc {a b c : Cp} (ha : CpOk a) (hb : CpOk b) (hc : CpOk c) : jn (jn a b) c = jn a (jn b c) := by
  have h1 := jn_ok ha hb
  have h2 := jn_ok hb hc
  refine cp_ext (jn_ok h1 hc) (jn_ok ha h2) ?_ ?_ ?_ ?_ ?_
  · rw [re_jt h1 hc, re_jt ha h2, re_jt ha hb, im_jt ha hb, re_jt hb hc, im_jt hb hc, jn_m]
    cases b.m <;> cases c.m <;> simp <;> grind
  · rw [im_jt h1 hc, im_jt ha h2, re_jt ha hb, im_jt ha hb, re_jt hb hc, im_jt hb hc, jn_m]
    cases b.m <;> cases c.m <;> simp <;> grind
  · rw [re_js h1 hc, re_js ha h2, re_js ha hb, im_js ha hb, re_js hb hc, re_jt hb hc, im_jt hb hc, jn_m]
    cases b.m <;> cases c.m <;> simp <;> grind
  · rw [im_js h1 hc, im_js ha h2, re_js ha hb, im_js ha hb, im_js hb hc, re_jt hb hc, im_jt hb hc, jn_m]
    cases b.m <;> cases c.m <;> simp <;> grind
  · show ((a.m != b.m) != c.m) = (a.m != (b.m != c.m))
    cases a.m <;> cases b.m <;> cases c.m <;> rfl
theorem re_1 : re (1, 0, 1) = 1 := by unfold re; decide +kernel
theorem im_1 : im (1, 0, 1) = 0 := by unfold im; decide +kernel
theorem re_0 : re (0, 0, 1) = 0 := by unfold re; decide +kernel
theorem im_0 : im (0, 0, 1) = 0 := by unfold im; decide +kernel
theorem jn_still {a : Cp} (ha : CpOk a) : jn a still = a := by
  refine cp_ext (jn_ok ha still_ok) ha ?_ ?_ ?_ ?_ ?_
  · rw [re_jt ha still_ok]; simp only [still, re_1, im_1]; grind
  · rw [im_jt ha still_ok]; simp only [still, re_1, im_1]; grind
  · rw [re_js ha still_ok]; simp only [still, re_1, im_1, re_0, im_0]; grind
  · rw [im_js ha still_ok]; simp only [still, re_1, im_1, re_0, im_0]; grind
  · rw [jn_m]; simp [still]
theorem still_jn {a : Cp} (ha : CpOk a) : jn still a = a := by
  refine cp_ext (jn_ok still_ok ha) ha ?_ ?_ ?_ ?_ ?_
  · rw [re_jt still_ok ha]; simp only [still, re_1, im_1]; grind
  · rw [im_jt still_ok ha]; simp only [still, re_1, im_1]; grind
  · rw [re_js still_ok ha]; simp only [still, re_1, im_1, re_0, im_0]; grind
  · rw [im_js still_ok ha]; simp only [still, re_1, im_1, re_0, im_0]; grind
  · rw [jn_m]; simp [still]
theorem re_bt {a : Cp} (ha : CpOk a) : re (bk a).t = re a.t / nn a.t := by
  show re (face (inv a.t) a.m) = _
  rw [re_face, re_inv ha.t ha.n]
theorem im_bt {a : Cp} (ha : CpOk a) : im (bk a).t = (if a.m = true then -1 else 1) * (- im a.t / nn a.t) := by
  show im (face (inv a.t) a.m) = _
  rw [im_face, im_inv ha.t ha.n]
theorem re_bs {a : Cp} (ha : CpOk a) : re (bk a).s = -((re a.t / nn a.t) * re a.s - (- im a.t / nn a.t) * im a.s) := by
  show re (face (neg (times (inv a.t) a.s)) a.m) = _
  rw [re_face, re_neg, re_times (inv_ok ha.n) ha.s, re_inv ha.t ha.n, im_inv ha.t ha.n]
theorem im_bs {a : Cp} (ha : CpOk a) : im (bk a).s = (if a.m = true then -1 else 1) * -((re a.t / nn a.t) * im a.s + (- im a.t / nn a.t) * re a.s) := by
  show im (face (neg (times (inv a.t) a.s)) a.m) = _
  rw [im_face, im_neg, im_times (inv_ok ha.n) ha.s, re_inv ha.t ha.n, im_inv ha.t ha.n]
theorem jn_bk {a : Cp} (ha : CpOk a) : jn a (bk a) = still := by
  have hb := bk_ok ha
  have n := nn_ne ha.t ha.n
  have q : nn a.t = re a.t * re a.t + im a.t * im a.t := rfl
  have em : (bk a).m = a.m := rfl
  refine cp_ext (jn_ok ha hb) still_ok ?_ ?_ ?_ ?_ ?_
  · rw [re_jt ha hb, re_bt ha, im_bt ha, em]; simp only [still, re_1, im_1]
    generalize nn a.t = k at *
    cases a.m <;> simp <;> grind
  · rw [im_jt ha hb, re_bt ha, im_bt ha, em]; simp only [still, re_1, im_1]
    generalize nn a.t = k at *
    cases a.m <;> simp <;> grind
  · rw [re_js ha hb, re_bt ha, im_bt ha, re_bs ha, em]; simp only [still, re_0, im_0]
    generalize nn a.t = k at *
    cases a.m <;> simp <;> grind
  · rw [im_js ha hb, re_bt ha, im_bt ha, im_bs ha, em]; simp only [still, re_0, im_0]
    generalize nn a.t = k at *
    cases a.m <;> simp <;> grind
  · show (a.m != a.m) = false
    simp
theorem bk_jn {a : Cp} (ha : CpOk a) : jn (bk a) a = still := by
  have hb := bk_ok ha
  have n := nn_ne ha.t ha.n
  have q : nn a.t = re a.t * re a.t + im a.t * im a.t := rfl
  have em : (bk a).m = a.m := rfl
  refine cp_ext (jn_ok hb ha) still_ok ?_ ?_ ?_ ?_ ?_
  · rw [re_jt hb ha, re_bt ha, im_bt ha]; simp only [still, re_1, im_1]
    generalize nn a.t = k at *
    cases a.m <;> simp <;> grind
  · rw [im_jt hb ha, re_bt ha, im_bt ha]; simp only [still, re_1, im_1]
    generalize nn a.t = k at *
    cases a.m <;> simp <;> grind
  · rw [re_js hb ha, re_bs ha, im_bs ha]; simp only [still, re_0, im_0]
    generalize nn a.t = k at *
    cases a.m <;> simp <;> grind
  · rw [im_js hb ha, re_bs ha, im_bs ha]; simp only [still, re_0, im_0]
    generalize nn a.t = k at *
    cases a.m <;> simp <;> grind
  · show (a.m != a.m) = false
    simp
/-- what brings back is one -/
theorem bk_uniq {a b : Cp} (ha : CpOk a) (hb : CpOk b) (h : jn a b = still) : b = bk a := by
  have e : jn (jn (bk a) a) b = jn (bk a) (jn a b) := jn_assoc (bk_ok ha) ha hb
  rw [bk_jn ha, h, still_jn hb, jn_still (bk_ok ha)] at e
  exact e
theorem bk_bk {a : Cp} (ha : CpOk a) : bk (bk a) = a := (bk_uniq (bk_ok ha) ha (bk_jn ha)).symm
theorem bk_jn_eq {a b : Cp} (ha : CpOk a) (hb : CpOk b) : bk (jn a b) = jn (bk b) (bk a) := by
  refine (bk_uniq (jn_ok ha hb) (jn_ok (bk_ok hb) (bk_ok ha)) ?_).symm
  rw [jn_assoc ha hb (jn_ok (bk_ok hb) (bk_ok ha)), ← jn_assoc hb (bk_ok hb) (bk_ok ha), jn_bk hb, still_jn (bk_ok ha), jn_bk ha]
theorem bk_still : bk still = still := (bk_uniq still_ok still_ok (jn_still still_ok)).symm
theorem ap_still {z : T3} (hz : Ok z) : ap still z = z := by
  refine ext (ap_ok still_ok hz) hz ?_ ?_
  · unfold ap; rw [re_car still_ok.t still_ok.s hz]; simp only [still, re_1, im_1, re_0]; grind
  · unfold ap; rw [im_car still_ok.t still_ok.s hz]; simp only [still, re_1, im_1, im_0]; grind
theorem bk_ap {a : Cp} (ha : CpOk a) {z : T3} (hz : Ok z) : ap (bk a) (ap a z) = z := by
  rw [← jn_ap ha (bk_ok ha) hz, jn_bk ha, ap_still hz]
theorem ap_bk {a : Cp} (ha : CpOk a) {z : T3} (hz : Ok z) : ap a (ap (bk a) z) = z := by
  rw [← jn_ap (bk_ok ha) ha hz, bk_jn ha, ap_still hz]
/-! ### growth: the square of the size, a fraction -/
def fr (p q : Int) : Int × Int := ((low p 0 q).1, (low p 0 q).2.2)
def gr (t : T3) : Int × Int := fr (t.1 * t.1 + t.2.1 * t.2.1) (t.2.2 * t.2.2)
def gr3 (t : T3) : T3 := low (t.1 * t.1 + t.2.1 * t.2.1) 0 (t.2.2 * t.2.2)
theorem low_0 (p q : Int) : (low p 0 q).2.1 = 0 := by
  unfold low; dsimp only; exact Int.zero_fdiv _
theorem low_fr (p q : Int) : low p 0 q = ((fr p q).1, 0, (fr p q).2) := by
  have e := low_0 p q
  unfold fr
  generalize low p 0 q = z at *
  obtain ⟨a, b, c⟩ := z
  dsimp only at *
  rw [e]
theorem gr3_eq (t : T3) : gr3 t = ((gr t).1, 0, (gr t).2) := low_fr _ _
theorem gr3_ok {t : T3} (h : Ok t) : Ok (gr3 t) := low_ok (mul_ne h.ne h.ne)
theorem re_gr3 {t : T3} (h : Ok t) : re (gr3 t) = nn t := by
  have h1 := cast_ne h.ne
  have q := nn_eq h
  unfold gr3
  rw [low_re (mul_ne h.ne h.ne), ← q]
  simp only [Rat.intCast_mul]
  generalize nn t = k at *
  grind
theorem im_gr3 {t : T3} (h : Ok t) : im (gr3 t) = 0 := by
  unfold im gr3; rw [low_0]; grind
theorem gr_jn {a b : Cp} (ha : CpOk a) (hb : CpOk b) : times (gr3 a.t) (gr3 b.t) = gr3 (jn a b).t := by
  refine ext (times_ok (gr3_ok ha.t) (gr3_ok hb.t)) (gr3_ok (jn_ok ha hb).t) ?_ ?_
  · rw [re_times (gr3_ok ha.t) (gr3_ok hb.t), re_gr3 (jn_ok ha hb).t, re_gr3 ha.t, re_gr3 hb.t, im_gr3 ha.t]
    show _ = nn (times b.t (face a.t b.m))
    rw [nn_times hb.t (face_ok ha.t _), nn_face]
    grind
  · rw [im_times (gr3_ok ha.t) (gr3_ok hb.t), im_gr3 (jn_ok ha hb).t, im_gr3 ha.t, im_gr3 hb.t]
    grind
theorem gr_pos {t : T3} (h : Ok t) (n : Nz t) : 0 < (gr t).1 ∧ 0 < (gr t).2 := by
  have k := low_pos (x := t.1 * t.1 + t.2.1 * t.2.1) (y := 0) (d := t.2.2 * t.2.2) (mul_ne h.ne h.ne)
  refine ⟨?_, k⟩
  obtain ⟨h1, h2, h3⟩ := low_mul (t.1 * t.1 + t.2.1 * t.2.1) 0 (t.2.2 * t.2.2)
  have hsq := sq_ne n
  have q1 : 0 ≤ t.1 * t.1 := by rcases Int.le_total 0 t.1 with h | h; exact Int.mul_nonneg h h; exact Int.mul_nonneg_of_nonpos_of_nonpos h h
  have q2 : 0 ≤ t.2.1 * t.2.1 := by rcases Int.le_total 0 t.2.1 with h | h; exact Int.mul_nonneg h h; exact Int.mul_nonneg_of_nonpos_of_nonpos h h
  have q3 : 0 < t.2.2 * t.2.2 := Int.mul_pos h.1 h.1
  show 0 < (low (t.1 * t.1 + t.2.1 * t.2.1) 0 (t.2.2 * t.2.2)).1
  generalize (low (t.1 * t.1 + t.2.1 * t.2.1) 0 (t.2.2 * t.2.2)).1 = a at *
  generalize (low (t.1 * t.1 + t.2.1 * t.2.1) 0 (t.2.2 * t.2.2)).2.2 = c at *
  generalize hS : sg (t.1 * t.1 + t.2.1 * t.2.1) 0 (t.2.2 * t.2.2) = g at *
  have gp : 0 < g := by
    rcases Int.lt_trichotomy g 0 with z | z | z
    · have : g * c < 0 := Int.mul_neg_of_neg_of_pos z k
      omega
    · subst z; simp at h3; omega
    · exact z
  rcases Int.lt_trichotomy a 0 with z | z | z
  · have : g * a < 0 := Int.mul_neg_of_pos_of_neg gp z
    omega
  · subst z; simp at h1; omega
  · exact z
theorem gr_bk {a : Cp} (ha : CpOk a) : gr (bk a).t = ((gr a.t).2, (gr a.t).1) := by
  obtain ⟨p1, p2⟩ := gr_pos ha.t ha.n
  have o := gr3_ok ha.t
  rw [gr3_eq] at o
  have o2 : Ok ((gr a.t).2, 0, (gr a.t).1) := by
    refine ⟨p1, ?_⟩
    have z := o.2
    unfold g3 at z ⊢
    dsimp only at z ⊢
    rw [Int.gcd_zero_right] at z ⊢
    have e1 : (((gr a.t).1.natAbs : Nat) : Int) = (gr a.t).1 := by omega
    have e2 : (((gr a.t).2.natAbs : Nat) : Int) = (gr a.t).2 := by omega
    rw [e1] at z
    rw [e2, Int.gcd_comm]
    exact z
  have e : gr3 (bk a).t = ((gr a.t).2, 0, (gr a.t).1) := by
    have n := nn_ne ha.t ha.n
    refine ext (gr3_ok (bk_ok ha).t) o2 ?_ ?_
    · rw [re_gr3 (bk_ok ha).t]
      show nn (face (inv a.t) a.m) = _
      rw [nn_face, nn_inv ha.t ha.n, ← re_gr3 ha.t, gr3_eq]
      unfold re
      dsimp only
      have c1 := cast_ne (show (gr a.t).1 ≠ 0 by omega)
      have c2 := cast_ne (show (gr a.t).2 ≠ 0 by omega)
      grind
    · rw [im_gr3 (bk_ok ha).t]; unfold im; dsimp only; grind
  rw [gr3_eq] at e
  have x1 := congrArg (fun z : T3 => z.1) e
  have x2 := congrArg (fun z : T3 => z.2.2) e
  dsimp only at x1 x2
  exact Prod.ext x1 x2
/-! ### sizes -/
def B (n : Nat) (s : T3) : Prop := s.1.natAbs < 2 ^ n ∧ s.2.1.natAbs < 2 ^ n ∧ s.2.2.natAbs < 2 ^ n
theorem pw {n m : Nat} (h : n ≤ m) : 2 ^ n ≤ 2 ^ m := Nat.pow_le_pow_right (by decide) h
theorem B.mono {n m : Nat} {s : T3} (b : B n s) (h : n ≤ m) : B m s := ⟨Nat.lt_of_lt_of_le b.1 (pw h), Nat.lt_of_lt_of_le b.2.1 (pw h), Nat.lt_of_lt_of_le b.2.2 (pw h)⟩
theorem abs_le {g a : Int} (h : g ≠ 0) : a.natAbs ≤ (g * a).natAbs := by
  rw [Int.natAbs_mul]
  have : 1 ≤ g.natAbs := by omega
  calc a.natAbs = 1 * a.natAbs := by omega
    _ ≤ g.natAbs * a.natAbs := Nat.mul_le_mul_right _ this
theorem low_B {x y d : Int} {n : Nat} (hd : d ≠ 0) (h1 : x.natAbs < 2 ^ n) (h2 : y.natAbs < 2 ^ n) (h3 : d.natAbs < 2 ^ n) : B n (low x y d) := by
  obtain ⟨e1, e2, e3⟩ := low_mul x y d
  have hs := sg_ne (x := x) (y := y) hd
  refine ⟨?_, ?_, ?_⟩
  · have := abs_le (a := (low x y d).1) hs; rw [← e1] at this; omega
  · have := abs_le (a := (low x y d).2.1) hs; rw [← e2] at this; omega
  · have := abs_le (a := (low x y d).2.2) hs; rw [← e3] at this; omega
theorem mul_lt {a b : Int} {n m : Nat} (ha : a.natAbs < 2 ^ n) (hb : b.natAbs < 2 ^ m) : (a * b).natAbs < 2 ^ (n + m) := by
  rw [Int.natAbs_mul, Nat.pow_add]
  exact Nat.mul_lt_mul'' ha hb
theorem add_lt {a b : Int} {n : Nat} (ha : a.natAbs < 2 ^ n) (hb : b.natAbs < 2 ^ n) : (a + b).natAbs < 2 ^ (n + 1) := by
  rw [Nat.pow_succ]; omega
theorem sub_lt {a b : Int} {n : Nat} (ha : a.natAbs < 2 ^ n) (hb : b.natAbs < 2 ^ n) : (a - b).natAbs < 2 ^ (n + 1) := by
  rw [Nat.pow_succ]; omega
theorem up_lt {a : Int} {n m : Nat} (h : n ≤ m) (ha : a.natAbs < 2 ^ n) : a.natAbs < 2 ^ m := Nat.lt_of_lt_of_le ha (pw h)
theorem plus_B {a b : T3} {n m : Nat} (oa : Ok a) (ob : Ok b) (ha : B n a) (hb : B m b) : B (n + m + 1) (plus a b) := by
  refine low_B (mul_ne oa.ne ob.ne) (add_lt (mul_lt ha.1 hb.2.2) ?_) (add_lt (mul_lt ha.2.1 hb.2.2) ?_) (up_lt (Nat.le_succ _) (mul_lt ha.2.2 hb.2.2))
  · rw [Nat.add_comm]; exact mul_lt hb.1 ha.2.2
  · rw [Nat.add_comm]; exact mul_lt hb.2.1 ha.2.2
theorem times_B {a b : T3} {n m : Nat} (oa : Ok a) (ob : Ok b) (ha : B n a) (hb : B m b) : B (n + m + 1) (times a b) :=
  low_B (mul_ne oa.ne ob.ne) (sub_lt (mul_lt ha.1 hb.1) (mul_lt ha.2.1 hb.2.1)) (add_lt (mul_lt ha.1 hb.2.1) (mul_lt ha.2.1 hb.1)) (up_lt (Nat.le_succ _) (mul_lt ha.2.2 hb.2.2))
theorem over_B {a : T3} {n : Nat} (h : B n a) : B n (over a) := ⟨h.1, by show (-a.2.1).natAbs < _; rw [Int.natAbs_neg]; exact h.2.1, h.2.2⟩
theorem neg_B {a : T3} {n : Nat} (h : B n a) : B n (neg a) := ⟨by show (-a.1).natAbs < _; rw [Int.natAbs_neg]; exact h.1, by show (-a.2.1).natAbs < _; rw [Int.natAbs_neg]; exact h.2.1, h.2.2⟩
theorem face_B {a : T3} {n : Nat} (h : B n a) (m : Bool) : B n (face a m) := by unfold face; split; exact over_B h; exact h
theorem neg_lt {a : Int} {n : Nat} (h : a.natAbs < 2 ^ n) : (-a).natAbs < 2 ^ n := by rw [Int.natAbs_neg]; exact h
theorem inv_B {a : T3} {n : Nat} (z : Nz a) (h : B n a) : B (n + n + 1) (inv a) :=
  low_B (sq_ne z) (up_lt (Nat.le_succ _) (mul_lt h.1 h.2.2)) (up_lt (Nat.le_succ _) (mul_lt (neg_lt h.2.1) h.2.2)) (add_lt (mul_lt h.1 h.1) (mul_lt h.2.1 h.2.1))
theorem car_B {t s z : T3} {m : Bool} {i j k : Nat} (ot : Ok t) (os : Ok s) (oz : Ok z) (ht : B i t) (hs : B j s) (hz : B k z) : B (i + k + 1 + j + 1) (car t s m z) :=
  plus_B (times_ok ot (face_ok oz m)) os (times_B ot (face_ok oz m) ht (face_B hz m)) hs
/-! ### the divisor by remainders -/
theorem gcd_fmod (a b : Int) : Int.gcd b (a.fmod b) = Int.gcd a b := by
  rw [Int.fmod_def, Int.gcd_sub_mul_left_right, Int.gcd_comm]
theorem fmod_small {a b : Int} (h : b ≠ 0) : (a.fmod b).natAbs < b.natAbs := by
  rw [Int.fmod_eq_emod]
  have h1 := Int.emod_nonneg a h
  have h2 : a % b < (b.natAbs : Int) := Int.emod_lt a h
  split
  · omega
  · have h3 : a % b ≠ 0 := fun e => by
      have := Int.dvd_of_emod_eq_zero e
      simp_all
    omega
theorem gcd_0 (a : Int) : ((Int.gcd a 0 : Nat) : Int) = if a < 0 then -a else a := by
  rw [Int.gcd_zero_right]; split <;> omega
end Mth
namespace Mth
/-! ### copies done several times -/
def ag (c : Cp) : Nat → Cp
  | 0 => still
  | n + 1 => jn (ag c n) c
theorem ag_ok {c : Cp} (h : CpOk c) : ∀ n, CpOk (ag c n)
  | 0 => still_ok
  | n + 1 => jn_ok (ag_ok h n) h
theorem ag_add {c : Cp} (h : CpOk c) (n : Nat) : ∀ m, ag c (n + m) = jn (ag c n) (ag c m)
  | 0 => (jn_still (ag_ok h n)).symm
  | m + 1 => by
    show jn (ag c (n + m)) c = jn (ag c n) (jn (ag c m) c)
    rw [ag_add h n m, jn_assoc (ag_ok h n) (ag_ok h m) h]
theorem ag_one {c : Cp} (h : CpOk c) : ag c 1 = c := still_jn h
theorem ag_comm {c : Cp} (h : CpOk c) (n : Nat) : jn c (ag c n) = jn (ag c n) c := by
  have e1 := ag_add h 1 n
  rw [ag_one h, Nat.add_comm] at e1
  exact e1.symm
theorem ag_mul {c : Cp} (h : CpOk c) (n : Nat) : ∀ m, ag c (n * m) = ag (ag c n) m
  | 0 => rfl
  | m + 1 => by
    show ag c (n * m + n) = jn (ag (ag c n) m) (ag c n)
    rw [ag_add h, ag_mul h n m]
theorem bk_ag {c : Cp} (h : CpOk c) : ∀ n, bk (ag c n) = ag (bk c) n
  | 0 => bk_still
  | n + 1 => by
    show bk (jn (ag c n) c) = jn (ag (bk c) n) (bk c)
    rw [bk_jn_eq (ag_ok h n) h, bk_ag h n, ag_comm (bk_ok h)]
theorem jn_l {a b c : Cp} (ha : CpOk a) (hb : CpOk b) (hc : CpOk c) (e : jn a b = jn a c) : b = c := by
  have q := congrArg (jn (bk a)) e
  rw [← jn_assoc (bk_ok ha) ha hb, ← jn_assoc (bk_ok ha) ha hc, bk_jn ha, still_jn hb, still_jn hc] at q
  exact q
theorem bk_still_iff {a : Cp} (ha : CpOk a) : bk a = still ↔ a = still := ⟨fun e => by have q := congrArg bk e; rw [bk_bk ha, bk_still] at q; exact q, fun e => by rw [e, bk_still]⟩
/-- seen from elsewhere -/
def cj (o c : Cp) : Cp := jn (jn (bk o) c) o
theorem cj_ok {o c : Cp} (ho : CpOk o) (hc : CpOk c) : CpOk (cj o c) := jn_ok (jn_ok (bk_ok ho) hc) ho
theorem cj_jn {o a b : Cp} (ho : CpOk o) (ha : CpOk a) (hb : CpOk b) : jn (cj o a) (cj o b) = cj o (jn a b) := by
  have hbo := bk_ok ho
  unfold cj
  rw [jn_assoc (jn_ok hbo ha) ho (jn_ok (jn_ok hbo hb) ho), jn_assoc hbo hb ho, ← jn_assoc ho hbo (jn_ok hb ho), jn_bk ho, still_jn (jn_ok hb ho),
    jn_assoc hbo ha (jn_ok hb ho), ← jn_assoc ha hb ho, jn_assoc hbo (jn_ok ha hb) ho]
theorem cj_still {o : Cp} (ho : CpOk o) : cj o still = still := by
  unfold cj; rw [jn_still (bk_ok ho), bk_jn ho]
theorem cj_ag {o c : Cp} (ho : CpOk o) (hc : CpOk c) : ∀ n, ag (cj o c) n = cj o (ag c n)
  | 0 => (cj_still ho).symm
  | n + 1 => by
    show jn (ag (cj o c) n) (cj o c) = cj o (jn (ag c n) c)
    rw [cj_ag ho hc n, cj_jn ho (ag_ok hc n) hc]
theorem cj_iff {o c : Cp} (ho : CpOk o) (hc : CpOk c) : cj o c = still ↔ c = still := by
  refine ⟨fun e => ?_, fun e => by rw [e, cj_still ho]⟩
  have q := congrArg (fun z => jn (jn o z) (bk o)) e
  unfold cj at q
  have hbo := bk_ok ho
  rw [jn_assoc hbo hc ho, ← jn_assoc ho hbo (jn_ok hc ho), jn_bk ho, still_jn (jn_ok hc ho), jn_assoc hc ho hbo, jn_bk ho, jn_still hc, jn_still ho, jn_bk ho] at q
  exact q
/-- the times as the program has them -/
def stp (c : Cp) (n : Int) : Cp := if 0 ≤ n then c else bk c
def agz (c : Cp) (n : Int) : Cp := ag (stp c n) n.natAbs
theorem stp_ok {c : Cp} (h : CpOk c) (n : Int) : CpOk (stp c n) := by unfold stp; split; exact h; exact bk_ok h
theorem agz_ok {c : Cp} (h : CpOk c) (n : Int) : CpOk (agz c n) := ag_ok (stp_ok h n) _
/-! ### the first time at which all is as it was -/
def At (c : Cp) (n : Nat) : Prop := ag c n = still
/-- the turns alone -/
def tn (t : T3) (m : Bool) : Nat → T3
  | 0 => (1, 0, 1)
  | n + 1 => times t (face (tn t m n) m)
theorem ag_t (c : Cp) : ∀ n, (ag c n).t = tn c.t c.m n
  | 0 => rfl
  | n + 1 => by
    show times c.t (face (ag c n).t c.m) = times c.t (face (tn c.t c.m n) c.m)
    rw [ag_t c n]
theorem ag_m (c : Cp) : ∀ n, (ag c n).m = (c.m && (n % 2 == 1))
  | 0 => by show false = _; simp
  | n + 1 => by
    show ((ag c n).m != c.m) = _
    rw [ag_m c n]
    rcases Nat.mod_two_eq_zero_or_one n with h | h
    · have h' : (n + 1) % 2 = 1 := by omega
      rw [h, h']; cases c.m <;> rfl
    · have h' : (n + 1) % 2 = 0 := by omega
      rw [h, h']; cases c.m <;> rfl
/-- only a shift: k times it is still none but if the shift is none -/
theorem shift_only {c : Cp} (h : CpOk c) (ht : c.t = (1, 0, 1)) (hm : c.m = false) : ∀ n : Nat, re (ag c n).s = (n : Rat) * re c.s ∧ im (ag c n).s = (n : Rat) * im c.s
  | 0 => by
    refine ⟨?_, ?_⟩
    · show re (0, 0, 1) = _; rw [re_0]; simp
    · show im (0, 0, 1) = _; rw [im_0]; simp
  | n + 1 => by
    obtain ⟨h1, h2⟩ := shift_only h ht hm n
    have e1 : re (ag c (n + 1)).s = _ := re_js (ag_ok h n) h
    have e2 : im (ag c (n + 1)).s = _ := im_js (ag_ok h n) h
    rw [ht, hm, re_1, im_1, h1] at e1
    rw [ht, hm, re_1, im_1, h2] at e2
    have ec : ((n + 1 : Nat) : Rat) = (n : Rat) + 1 := by simp
    rw [e1, e2, ec]
    refine ⟨?_, ?_⟩
    · simp; grind
    · simp; grind
theorem shift_still {c : Cp} (h : CpOk c) (ht : c.t = (1, 0, 1)) (hm : c.m = false) {n : Nat} (hn : 0 < n) (e : ag c n = still) : c = still := by
  obtain ⟨h1, h2⟩ := shift_only h ht hm n
  rw [e] at h1 h2
  have n0 : (n : Rat) ≠ 0 := by
    have : ((n : Int) : Rat) ≠ 0 := cast_ne (by omega)
    simpa using this
  have z1 : re c.s = 0 := by
    have : re still.s = 0 := re_0
    rw [this] at h1
    grind
  have z2 : im c.s = 0 := by
    have : im still.s = 0 := im_0
    rw [this] at h2
    grind
  refine cp_ext h still_ok ?_ ?_ ?_ ?_ hm
  · rw [ht]; rfl
  · rw [ht]; rfl
  · rw [z1]; exact re_0.symm
  · rw [z2]; exact im_0.symm
theorem at_half {c : Cp} (h : CpOk c) (ht : c.t = (-1, 0, 1)) (hm : c.m = false) : ag c 2 = still := by
  have e : ag c 2 = jn c c := by
    show jn (jn still c) c = _
    rw [still_jn h]
  have r : re (-1, 0, 1) = -1 := by unfold re; decide +kernel
  have i : im (-1, 0, 1) = 0 := by unfold im; decide +kernel
  rw [e]
  refine cp_ext (jn_ok h h) still_ok ?_ ?_ ?_ ?_ ?_
  · rw [re_jt h h, ht, hm, r, i]; show _ = re (1, 0, 1); rw [re_1]; simp; grind
  · rw [im_jt h h, ht, hm, r, i]; show _ = im (1, 0, 1); rw [im_1]; simp; grind
  · rw [re_js h h, ht, hm, r, i]; show _ = re (0, 0, 1); rw [re_0]; simp; grind
  · rw [im_js h h, ht, hm, r, i]; show _ = im (0, 0, 1); rw [im_0]; simp; grind
  · rw [jn_m, hm]; rfl
def turns13 : List T3 := [(1, 0, 1), (-1, 0, 1), (0, 1, 1), (0, -1, 1), (2, 0, 1), (1, 0, 2), (1, 1, 1), (3, 4, 5), (0, 2, 1), (-1, 0, 3), (1, -1, 2), (2, 1, 1), (-4, 3, 5)]
theorem turns_cases : ∀ t ∈ turns13, ∀ m ∈ [false, true], (t = (1, 0, 1) ∧ m = false) ∨ (t = (-1, 0, 1) ∧ m = false) ∨ (tn t m 2 = (-1, 0, 1) ∧ m = false ∧ ∀ n ∈ [1, 2, 3], tn t m n ≠ (1, 0, 1)) ∨ (tn t m 2 = (1, 0, 1) ∧ m = true) ∨
    (∀ n ∈ [1, 2, 3, 4, 5, 6, 7, 8, 9, 10, 11, 12], tn t m n ≠ (1, 0, 1) ∨ (m = true ∧ n % 2 = 1)) := by decide +kernel
theorem first_of {c : Cp} (h : CpOk c) (ht : c.t ∈ turns13) {n : Nat} (n1 : 1 ≤ n) (n12 : n ≤ 12) (e : ag c n = still) : ag c 1 = still ∨ (2 ≤ n ∧ ag c 2 = still) ∨ (4 ≤ n ∧ ag c 4 = still) := by
  have et : tn c.t c.m n = (1, 0, 1) := by rw [← ag_t, e]; rfl
  have em : (c.m && (n % 2 == 1)) = false := by rw [← ag_m, e]; rfl
  rcases turns_cases c.t ht c.m (by cases c.m <;> simp) with ⟨h1, h2⟩ | ⟨h1, h2⟩ | ⟨h1, h2, h3⟩ | ⟨h1, h2⟩ | h1
  · left
    rw [ag_one h]
    exact shift_still h h1 h2 n1 e
  · right; left
    refine ⟨?_, at_half h h1 h2⟩
    rcases Nat.lt_or_ge n 2 with z | z
    · have : n = 1 := by omega
      subst this
      rw [ag_one h] at e
      rw [e] at h1
      exact absurd h1 (by decide)
    · exact z
  · right; right
    refine ⟨?_, ?_⟩
    · rcases Nat.lt_or_ge n 4 with z | z
      · exact absurd et (h3 n (by simp; omega))
      · exact z
    · show ag c (2 * 2) = still
      rw [ag_mul h]
      exact at_half (ag_ok h 2) (by rw [ag_t]; exact h1) (by rw [ag_m, h2]; rfl)
  · right; left
    rw [h2] at em
    have ev : n % 2 = 0 := by
      rcases Nat.mod_two_eq_zero_or_one n with z | z
      · exact z
      · rw [z] at em; simp at em
    refine ⟨by omega, ?_⟩
    obtain ⟨k, rfl⟩ : ∃ k, n = 2 * k := ⟨n / 2, by omega⟩
    rw [ag_mul h] at e
    refine shift_still (ag_ok h 2) (by rw [ag_t]; exact h1) (by rw [ag_m]; simp) (by omega) e
  · exfalso
    rcases h1 n (by simp; omega) with z | ⟨z1, z2⟩
    · exact z et
    · rw [z1, z2] at em; simp at em
/-! ### the order as the program finds it -/
def ord (c : Cp) : Option Nat := if ag c 1 = still then some 1 else if ag c 2 = still then some 2 else if ag c 4 = still then some 4 else none
theorem ord_congr {a b : Cp} (h : ∀ n, ag a n = still ↔ ag b n = still) : ord a = ord b := by
  unfold ord
  simp only [h]
theorem ord_bk {c : Cp} (h : CpOk c) : ord (bk c) = ord c := ord_congr fun n => by rw [← bk_ag h, bk_still_iff (ag_ok h n)]
theorem ord_cj {o c : Cp} (ho : CpOk o) (h : CpOk c) : ord (cj o c) = ord c := ord_congr fun n => by rw [cj_ag ho h, cj_iff ho (ag_ok h n)]
/-- the first one of 1 .. i -/
def due (c : Cp) : Nat → Option Nat
  | 0 => none
  | n + 1 => if due c n = none ∧ ag c (n + 1) = still then some (n + 1) else due c n
theorem due_eq {c : Cp} (h : CpOk c) (ht : c.t ∈ turns13) : due c 12 = ord c := by
  have P := fun n n1 n12 e => first_of (n := n) h ht n1 n12 e
  have s1 : due c 1 = if ag c 1 = still then some 1 else none := by simp [due]
  by_cases h1 : ag c 1 = still
  · have k : ∀ n, due c (n + 1) = some 1 := fun n => by
      induction n with
      | zero => rw [s1, if_pos h1]
      | succ n ih => simp [due] at ih ⊢; simp [ih]
    rw [k 11]
    unfold ord
    rw [if_pos h1]
  · have d1 : due c 1 = none := by rw [s1, if_neg h1]
    by_cases h2 : ag c 2 = still
    · have k : ∀ n, due c (n + 2) = some 2 := fun n => by
        induction n with
        | zero => show (if due c 1 = none ∧ ag c 2 = still then some 2 else due c 1) = _; rw [if_pos ⟨d1, h2⟩]
        | succ n ih => show (if due c (n + 2) = none ∧ ag c (n + 3) = still then some (n + 3) else due c (n + 2)) = _; rw [ih]; simp
      rw [k 10]
      unfold ord
      rw [if_neg h1, if_pos h2]
    · have d2 : due c 2 = none := by show (if due c 1 = none ∧ ag c 2 = still then some 2 else due c 1) = _; rw [if_neg (fun z => h2 z.2), d1]
      have n3 : ag c 3 ≠ still := fun e => by
        rcases P 3 (by decide) (by decide) e with z | ⟨_, z⟩ | ⟨z, _⟩
        · exact h1 z
        · exact h2 z
        · omega
      have d3 : due c 3 = none := by show (if due c 2 = none ∧ ag c 3 = still then some 3 else due c 2) = _; rw [if_neg (fun z => n3 z.2), d2]
      by_cases h4 : ag c 4 = still
      · have k : ∀ n, due c (n + 4) = some 4 := fun n => by
          induction n with
          | zero => show (if due c 3 = none ∧ ag c 4 = still then some 4 else due c 3) = _; rw [if_pos ⟨d3, h4⟩]
          | succ n ih => show (if due c (n + 4) = none ∧ ag c (n + 5) = still then some (n + 5) else due c (n + 4)) = _; rw [ih]; simp
        rw [k 8]
        unfold ord
        rw [if_neg h1, if_neg h2, if_pos h4]
      · have k : ∀ n, n ≤ 12 → due c n = none := fun n => by
          induction n with
          | zero => intro _; rfl
          | succ n ih =>
            intro hn
            have nn : ag c (n + 1) ≠ still := fun e => by
              rcases P (n + 1) (by omega) hn e with z | ⟨_, z⟩ | ⟨_, z⟩
              · exact h1 z
              · exact h2 z
              · exact h4 z
            show (if due c n = none ∧ ag c (n + 1) = still then some (n + 1) else due c n) = _
            rw [if_neg (fun z => nn z.2)]
            exact ih (by omega)
        rw [k 12 (by decide)]
        unfold ord
        rw [if_neg h1, if_neg h2, if_neg h4]
end Mth
namespace Mth
/-! ### lines a * x + b * y = c, and what satisfies rows of them -/
def sgl (a b c : Int) : Int := if a < 0 ∨ (a = 0 ∧ b < 0) then -(g3 a b c) else g3 a b c
def lf (r : T3) : T3 := (r.1.fdiv (sgl r.1 r.2.1 r.2.2), r.2.1.fdiv (sgl r.1 r.2.1 r.2.2), r.2.2.fdiv (sgl r.1 r.2.1 r.2.2))
def on (l z : T3) : Prop := l.1 * z.1 + l.2.1 * z.2.1 = l.2.2 * z.2.2
instance (l z : T3) : Decidable (on l z) := inferInstanceAs (Decidable (_ = _))
theorem g3_pos' {a b c : Int} (h : a ≠ 0 ∨ b ≠ 0) : 0 < g3 a b c := by
  unfold g3
  have h1 : 0 < Int.gcd a b := by
    rcases h with h | h
    · exact Int.gcd_pos_of_ne_zero_left _ h
    · exact Int.gcd_pos_of_ne_zero_right _ h
  have h2 : 0 < Int.gcd ((Int.gcd a b : Nat) : Int) c := Int.gcd_pos_of_ne_zero_left _ (by omega)
  omega
theorem sgl_of {a b c : Int} : sgl a b c = g3 a b c ∨ sgl a b c = -g3 a b c := by unfold sgl; split <;> simp
theorem sgl_ne {a b c : Int} (h : a ≠ 0 ∨ b ≠ 0) : sgl a b c ≠ 0 := by
  have := g3_pos' (c := c) h
  rcases @sgl_of a b c with e | e <;> omega
theorem sgl_d1 {a b c : Int} : sgl a b c ∣ a := by rcases @sgl_of a b c with h | h <;> rw [h]; exact g3_dx; exact Int.neg_dvd.mpr g3_dx
theorem sgl_d2 {a b c : Int} : sgl a b c ∣ b := by rcases @sgl_of a b c with h | h <;> rw [h]; exact g3_dy; exact Int.neg_dvd.mpr g3_dy
theorem sgl_d3 {a b c : Int} : sgl a b c ∣ c := by rcases @sgl_of a b c with h | h <;> rw [h]; exact g3_dd; exact Int.neg_dvd.mpr g3_dd
theorem lf_mul (r : T3) : r.1 = sgl r.1 r.2.1 r.2.2 * (lf r).1 ∧ r.2.1 = sgl r.1 r.2.1 r.2.2 * (lf r).2.1 ∧ r.2.2 = sgl r.1 r.2.1 r.2.2 * (lf r).2.2 := by
  unfold lf
  refine ⟨?_, ?_, ?_⟩ <;> dsimp only
  · rw [Int.fdiv_eq_ediv_of_dvd sgl_d1]; exact (Int.mul_ediv_cancel' sgl_d1).symm
  · rw [Int.fdiv_eq_ediv_of_dvd sgl_d2]; exact (Int.mul_ediv_cancel' sgl_d2).symm
  · rw [Int.fdiv_eq_ediv_of_dvd sgl_d3]; exact (Int.mul_ediv_cancel' sgl_d3).symm
/-- a line in its only form -/
structure Ln (l : T3) : Prop where
  g : g3 l.1 l.2.1 l.2.2 = 1
  s : 0 < l.1 ∨ (l.1 = 0 ∧ 0 < l.2.1)
theorem lf_ln {r : T3} (h : r.1 ≠ 0 ∨ r.2.1 ≠ 0) : Ln (lf r) := by
  obtain ⟨h1, h2, h3⟩ := lf_mul r
  have hs := sgl_ne (c := r.2.2) h
  have hg := g3_pos' (c := r.2.2) h
  have sdef : sgl r.1 r.2.1 r.2.2 = if r.1 < 0 ∨ (r.1 = 0 ∧ r.2.1 < 0) then -(g3 r.1 r.2.1 r.2.2) else g3 r.1 r.2.1 r.2.2 := rfl
  have so := @sgl_of r.1 r.2.1 r.2.2
  generalize hx : (lf r).1 = x at *
  generalize hy : (lf r).2.1 = y at *
  generalize hz : (lf r).2.2 = z at *
  generalize sgl r.1 r.2.1 r.2.2 = g at *
  generalize hG : g3 r.1 r.2.1 r.2.2 = G at *
  have sgn : ∀ u v : Int, u = g * v → 0 < G → (g = G → (0 < u → 0 < v) ∧ (u = 0 → v = 0)) ∧ (g = -G → (u < 0 → 0 < v) ∧ (u = 0 → v = 0)) := by
    intro u v e hG
    refine ⟨fun eg => ⟨fun hu => ?_, fun hu => ?_⟩, fun eg => ⟨fun hu => ?_, fun hu => ?_⟩⟩
    · rcases Int.lt_trichotomy v 0 with z | z | z
      · have : g * v < 0 := Int.mul_neg_of_pos_of_neg (by omega) z
        omega
      · subst z; simp at e; omega
      · exact z
    · rw [hu] at e; exact (Int.mul_eq_zero.mp e.symm).resolve_left hs
    · rcases Int.lt_trichotomy v 0 with z | z | z
      · have : 0 < g * v := Int.mul_pos_of_neg_of_neg (by omega) z
        omega
      · subst z; simp at e; omega
      · exact z
    · rw [hu] at e; exact (Int.mul_eq_zero.mp e.symm).resolve_left hs
  refine ⟨?_, ?_⟩
  · rw [hx, hy, hz]
    have k1 : g * g3 x y z ∣ r.1 := by
      obtain ⟨u, hu⟩ := @g3_dx x y z
      exact ⟨u, by rw [Int.mul_assoc, ← hu, ← h1]⟩
    have k2 : g * g3 x y z ∣ r.2.1 := by
      obtain ⟨u, hu⟩ := @g3_dy x y z
      exact ⟨u, by rw [Int.mul_assoc, ← hu, ← h2]⟩
    have k3 : g * g3 x y z ∣ r.2.2 := by
      obtain ⟨u, hu⟩ := @g3_dd x y z
      exact ⟨u, by rw [Int.mul_assoc, ← hu, ← h3]⟩
    have k := g3_great k1 k2 k3
    rw [hG] at k
    have k' : g * g3 x y z ∣ g := by
      rcases so with e | e
      · rw [e] at k ⊢; exact k
      · rw [e]; rw [e] at k; exact (Int.dvd_neg).mpr k
    obtain ⟨u, hu⟩ := k'
    have e : g3 x y z * u = 1 := by
      have : g * (g3 x y z * u) = g * 1 := by rw [← Int.mul_assoc, ← hu, Int.mul_one]
      exact Int.eq_of_mul_eq_mul_left hs this
    have nn : 0 ≤ g3 x y z := by unfold g3; omega
    exact Int.eq_one_of_dvd_one nn ⟨u, e.symm⟩
  · rw [hx, hy]
    by_cases c : r.1 < 0 ∨ (r.1 = 0 ∧ r.2.1 < 0)
    · rw [if_pos c] at sdef
      have a1 := (sgn r.1 x h1 hg).2 sdef
      have a2 := (sgn r.2.1 y h2 hg).2 sdef
      rcases c with c | ⟨c1, c2⟩
      · exact .inl (a1.1 c)
      · exact .inr ⟨a1.2 c1, a2.1 c2⟩
    · rw [if_neg c] at sdef
      have a1 := (sgn r.1 x h1 hg).1 sdef
      have a2 := (sgn r.2.1 y h2 hg).1 sdef
      rcases Int.lt_trichotomy r.1 0 with z1 | z1 | z1
      · exact absurd (.inl z1) c
      · rcases Int.lt_trichotomy r.2.1 0 with z2 | z2 | z2
        · exact absurd (.inr ⟨z1, z2⟩) c
        · omega
        · exact .inr ⟨a1.2 z1, a2.1 z2⟩
      · exact .inl (a1.1 z1)
theorem lf_on {r : T3} (h : r.1 ≠ 0 ∨ r.2.1 ≠ 0) (z : T3) : on (lf r) z ↔ on r z := by
  obtain ⟨h1, h2, h3⟩ := lf_mul r
  have hs := sgl_ne (c := r.2.2) h
  unfold on
  generalize sgl r.1 r.2.1 r.2.2 = g at *
  refine ⟨fun e => ?_, fun e => ?_⟩
  · rw [h1, h2, h3]
    have : g * ((lf r).1 * z.1 + (lf r).2.1 * z.2.1) = g * ((lf r).2.2 * z.2.2) := by rw [e]
    grind
  · have : g * ((lf r).1 * z.1 + (lf r).2.1 * z.2.1) = g * ((lf r).2.2 * z.2.2) := by
      rw [h1, h2, h3] at e
      grind
    exact Int.eq_of_mul_eq_mul_left hs this
theorem on_iff {l z : T3} (hz : Ok z) : on l z ↔ (l.1 : Rat) * re z + (l.2.1 : Rat) * im z = (l.2.2 : Rat) := by
  have d := cast_ne hz.ne
  unfold on re im
  rw [← Rat.intCast_inj]
  simp only [Rat.intCast_add, Rat.intCast_mul]
  refine ⟨fun e => ?_, fun e => ?_⟩ <;> grind
theorem dvd3 {k m x y z : Int} (h1 : k ∣ x * m) (h2 : k ∣ y * m) (h3 : k ∣ z * m) (g : g3 x y z = 1) : k ∣ m := by
  have c := Int.dvd_coe_gcd h1 h2
  rw [Int.gcd_mul_right] at c
  have c' : k ∣ ((Int.gcd x y : Nat) : Int) * ((m.natAbs : Nat) : Int) := by rw [← Int.natCast_mul]; exact c
  have d : k ∣ z * ((m.natAbs : Nat) : Int) := by
    rcases Int.natAbs_eq m with e | e
    · rw [← e]; exact h3
    · have : ((m.natAbs : Nat) : Int) = -m := by omega
      rw [this, Int.mul_neg]; exact (Int.dvd_neg).mpr h3
  have e := Int.dvd_coe_gcd c' d
  rw [Int.gcd_mul_right] at e
  unfold g3 at g
  have g' : Int.gcd ((Int.gcd x y : Nat) : Int) z = 1 := by omega
  rw [g', Nat.one_mul, Int.natAbs_natCast] at e
  exact Int.dvd_natAbs.mp e
theorem ln_same {l m z : T3} (hl : Ln l) (hm : Ln m) (hz : Ok z) (p : l.1 * m.2.1 = m.1 * l.2.1) (h1 : on l z) (h2 : on m z) : l = m := by
  have dz := hz.ne
  unfold on at h1 h2
  obtain ⟨a, b, c⟩ := l
  obtain ⟨u, v, w⟩ := m
  obtain ⟨x, y, d⟩ := z
  have sl := hl.s
  have sm := hm.s
  have gl := hl.g
  have gm := hm.g
  dsimp only at *
  have e1 : a * w = u * c := by
    have : d * (a * w) = d * (u * c) := by grind
    exact Int.eq_of_mul_eq_mul_left dz this
  have e2 : b * w = v * c := by
    have : d * (b * w) = d * (v * c) := by grind
    exact Int.eq_of_mul_eq_mul_left dz this
  by_cases a0 : a = 0
  · subst a0
    have b0 : 0 < b := by omega
    have u0 : u = 0 := by
      have : u * b = 0 := by rw [← p]; simp
      exact (Int.mul_eq_zero.mp this).resolve_right (by omega)
    subst u0
    have v0 : 0 < v := by omega
    have d1 : b ∣ v := dvd3 (x := 0) (y := b) (z := c) (by simp) ⟨v, rfl⟩ ⟨w, by grind⟩ gl
    have d2 : v ∣ b := dvd3 (x := 0) (y := v) (z := w) (by simp) ⟨b, rfl⟩ ⟨c, by grind⟩ gm
    have eb : b = v := Int.le_antisymm (Int.le_of_dvd v0 d1) (Int.le_of_dvd b0 d2)
    subst eb
    have : w = c := Int.eq_of_mul_eq_mul_left (by omega) e2
    rw [this]
  · have a1 : 0 < a := by omega
    have u1 : 0 < u := by
      rcases sm with h | ⟨h, _⟩
      · exact h
      · exfalso
        subst h
        have : a * v = 0 := by rw [p]; simp
        have v0 := (Int.mul_eq_zero.mp this).resolve_left a0
        omega
    have d1 : a ∣ u := dvd3 (x := a) (y := b) (z := c) ⟨u, rfl⟩ ⟨v, by grind⟩ ⟨w, by grind⟩ gl
    have d2 : u ∣ a := dvd3 (x := u) (y := v) (z := w) ⟨a, rfl⟩ ⟨b, by grind⟩ ⟨c, by grind⟩ gm
    have ea : a = u := Int.le_antisymm (Int.le_of_dvd u1 d1) (Int.le_of_dvd a1 d2)
    subst ea
    have : v = b := Int.eq_of_mul_eq_mul_left a0 (by grind)
    have : w = c := Int.eq_of_mul_eq_mul_left a0 (by grind)
    simp_all
def cross (l m : T3) : T3 := low (l.2.2 * m.2.1 - m.2.2 * l.2.1) (l.1 * m.2.2 - m.1 * l.2.2) (l.1 * m.2.1 - m.1 * l.2.1)
theorem cross_iff {l m z : T3} (hz : Ok z) (d : l.1 * m.2.1 ≠ m.1 * l.2.1) : (on l z ∧ on m z) ↔ z = cross l m := by
  have dn : l.1 * m.2.1 - m.1 * l.2.1 ≠ 0 := by omega
  have oc : Ok (cross l m) := low_ok dn
  have r : re (cross l m) = ((l.2.2 * m.2.1 - m.2.2 * l.2.1 : Int) : Rat) / ((l.1 * m.2.1 - m.1 * l.2.1 : Int) : Rat) := low_re dn
  have i : im (cross l m) = ((l.1 * m.2.2 - m.1 * l.2.2 : Int) : Rat) / ((l.1 * m.2.1 - m.1 * l.2.1 : Int) : Rat) := low_im dn
  have dq := cast_ne dn
  simp only [Rat.intCast_sub, Rat.intCast_mul] at r i dq
  refine ⟨fun ⟨h1, h2⟩ => ?_, fun e => ?_⟩
  · rw [on_iff hz] at h1 h2
    refine ext hz oc ?_ ?_
    · rw [r]; grind
    · rw [i]; grind
  · rw [e, on_iff oc, on_iff oc, r, i]
    refine ⟨?_, ?_⟩ <;> grind
/-! ### what satisfies all rows -/
inductive KS where
  | all | none | spot (s : T3) | line (l : T3)
def Mem : KS → T3 → Prop
  | .all, _ => True
  | .none, _ => False
  | .spot s, z => z = s
  | .line l, z => on l z
def bad (r : T3) : Bool := decide (r.1 = 0) && (decide (r.2.1 = 0) && !decide (r.2.2 = 0))
def nz2 (r : T3) : Bool := !decide (r.1 = 0) || !decide (r.2.1 = 0)
def solL : List T3 → KS
  | [] => .all
  | f :: ls => match (f :: ls).filter (fun l => !decide (l = f)) with
    | [] => .line f
    | o :: _ => if f.1 * o.2.1 = o.1 * f.2.1 then .none else if (f :: ls).all (fun l => decide (on l (cross f o))) = true then .spot (cross f o) else .none
def sol (rows : List T3) : KS := if rows.any bad = true then .none else solL ((rows.filter nz2).map lf)
theorem sol_mem (rows : List T3) {z : T3} (hz : Ok z) : Mem (sol rows) z ↔ ∀ r ∈ rows, on r z := by
  unfold sol
  by_cases hb : rows.any bad = true
  · rw [if_pos hb]
    refine ⟨fun h => h.elim, fun h => ?_⟩
    obtain ⟨r, hr, b⟩ := List.any_eq_true.mp hb
    have o := h r hr
    unfold bad at b
    simp at b
    unfold on at o
    rw [b.1, b.2.1] at o
    have o' : r.2.2 * z.2.2 = 0 := by rw [← o]; simp
    rcases Int.mul_eq_zero.mp o' with o | o
    · exact absurd o b.2.2
    · exact absurd o hz.ne
  · rw [if_neg hb]
    have key : (∀ r ∈ rows, on r z) ↔ ∀ l ∈ (rows.filter nz2).map lf, on l z := by
      refine ⟨fun h l hl => ?_, fun h r hr => ?_⟩
      · obtain ⟨r, hr, rfl⟩ := List.mem_map.mp hl
        obtain ⟨hr1, hr2⟩ := List.mem_filter.mp hr
        have n : r.1 ≠ 0 ∨ r.2.1 ≠ 0 := by unfold nz2 at hr2; simpa using hr2
        exact (lf_on n z).mpr (h r hr1)
      · by_cases n : nz2 r = true
        · have n' : r.1 ≠ 0 ∨ r.2.1 ≠ 0 := by unfold nz2 at n; simpa using n
          exact (lf_on n' z).mp (h _ (List.mem_map.mpr ⟨r, List.mem_filter.mpr ⟨hr, n⟩, rfl⟩))
        · unfold nz2 at n
          simp at n
          have nb : bad r = false := by
            cases e : bad r with
            | false => rfl
            | true => exact absurd (List.any_eq_true.mpr ⟨r, hr, e⟩) hb
          unfold bad at nb
          simp [n.1, n.2] at nb
          unfold on
          rw [n.1, n.2, nb]
          simp
    have lns : ∀ l ∈ (rows.filter nz2).map lf, Ln l := fun l hl => by
      obtain ⟨r, hr, rfl⟩ := List.mem_map.mp hl
      obtain ⟨hr1, hr2⟩ := List.mem_filter.mp hr
      exact lf_ln (by unfold nz2 at hr2; simpa using hr2)
    rw [key]
    generalize (rows.filter nz2).map lf = ls at *
    cases ls with
    | nil => simp [solL, Mem]
    | cons f ls =>
      unfold solL
      dsimp only
      cases ho : (f :: ls).filter (fun l => !decide (l = f)) with
      | nil =>
        dsimp only
        show on f z ↔ _
        refine ⟨fun h l hl => ?_, fun h => h f (List.mem_cons_self ..)⟩
        have := List.filter_eq_nil_iff.mp ho l hl
        simp at this
        rw [this]; exact h
      | cons o os =>
        dsimp only
        have om : o ∈ (f :: ls).filter (fun l => !decide (l = f)) := by rw [ho]; exact List.mem_cons_self ..
        obtain ⟨om1, om2⟩ := List.mem_filter.mp om
        have one : o ≠ f := by simpa using om2
        have fm : f ∈ f :: ls := List.mem_cons_self ..
        by_cases p : f.1 * o.2.1 = o.1 * f.2.1
        · rw [if_pos p]
          refine ⟨fun h => h.elim, fun h => ?_⟩
          exact one (ln_same (lns f fm) (lns o om1) hz p (h f fm) (h o om1)).symm
        · rw [if_neg p]
          have ci := cross_iff hz p
          by_cases q : (f :: ls).all (fun l => decide (on l (cross f o))) = true
          · rw [if_pos q]
            show z = _ ↔ _
            refine ⟨fun e l hl => ?_, fun h => ci.mp ⟨h f fm, h o om1⟩⟩
            rw [e]
            exact of_decide_eq_true (List.all_eq_true.mp q l hl)
          · rw [if_neg q]
            refine ⟨fun h => h.elim, fun h => ?_⟩
            have e := ci.mp ⟨h f fm, h o om1⟩
            refine q (List.all_eq_true.mpr fun l hl => ?_)
            rw [← e]
            exact decide_eq_true (h l hl)
/-- the form of what is told -/
def KOk : KS → Prop
  | .spot s => Ok s
  | .line l => Ln l
  | _ => True
theorem sol_ok (rows : List T3) : KOk (sol rows) := by
  unfold sol
  split
  · trivial
  · have lns : ∀ l ∈ (rows.filter nz2).map lf, Ln l := fun l hl => by
      obtain ⟨r, hr, rfl⟩ := List.mem_map.mp hl
      obtain ⟨hr1, hr2⟩ := List.mem_filter.mp hr
      exact lf_ln (by unfold nz2 at hr2; simpa using hr2)
    generalize (rows.filter nz2).map lf = ls at *
    cases ls with
    | nil => trivial
    | cons f ls =>
      unfold solL
      dsimp only
      cases (f :: ls).filter (fun l => !decide (l = f)) with
      | nil => exact lns f (List.mem_cons_self ..)
      | cons o os =>
        dsimp only
        split
        · trivial
        · rename_i p
          split
          · exact low_ok (by omega)
          · trivial
/-! ### where two copies meet -/
def minus (a b : T3) : T3 := plus a (neg b)
def gap (a b : Cp) (z : T3) : T3 := minus (ap a z) (ap b z)
def eqs (R U G : T3) : List T3 := [(R.1 * U.2.2 * G.2.2, U.1 * R.2.2 * G.2.2, G.1 * R.2.2 * U.2.2), (R.2.1 * U.2.2 * G.2.2, U.2.1 * R.2.2 * G.2.2, G.2.1 * R.2.2 * U.2.2)]
def meet (a b : Cp) : KS := sol (eqs (minus (gap a b (1, 0, 1)) (gap a b (0, 0, 1))) (minus (gap a b (0, 1, 1)) (gap a b (0, 0, 1))) (neg (gap a b (0, 0, 1))))
theorem minus_ok {a b : T3} (ha : Ok a) (hb : Ok b) : Ok (minus a b) := plus_ok ha (neg_ok hb)
theorem re_minus {a b : T3} (ha : Ok a) (hb : Ok b) : re (minus a b) = re a - re b := by unfold minus; rw [re_plus ha (neg_ok hb), re_neg]; grind
theorem im_minus {a b : T3} (ha : Ok a) (hb : Ok b) : im (minus a b) = im a - im b := by unfold minus; rw [im_plus ha (neg_ok hb), im_neg]; grind
theorem eqs_iff {R U G z : T3} (hR : Ok R) (hU : Ok U) (hG : Ok G) (hz : Ok z) : (∀ r ∈ eqs R U G, on r z) ↔ (re R * re z + re U * im z = re G ∧ im R * re z + im U * im z = im G) := by
  have r0 := cast_ne hR.ne
  have u0 := cast_ne hU.ne
  have g0 := cast_ne hG.ne
  have h : ∀ r1 u1 g1 : Int, on (r1 * U.2.2 * G.2.2, u1 * R.2.2 * G.2.2, g1 * R.2.2 * U.2.2) z ↔ (r1 : Rat) / (R.2.2 : Rat) * re z + (u1 : Rat) / (U.2.2 : Rat) * im z = (g1 : Rat) / (G.2.2 : Rat) := fun r1 u1 g1 => by
    rw [on_iff hz]
    simp only [Rat.intCast_mul]
    refine ⟨fun e => ?_, fun e => ?_⟩ <;> grind
  have e : (∀ r ∈ eqs R U G, on r z) ↔ (on (R.1 * U.2.2 * G.2.2, U.1 * R.2.2 * G.2.2, G.1 * R.2.2 * U.2.2) z ∧ on (R.2.1 * U.2.2 * G.2.2, U.2.1 * R.2.2 * G.2.2, G.2.1 * R.2.2 * U.2.2) z) := by
    unfold eqs; simp
  rw [e, h, h]
  rfl
theorem ok_0 : Ok (0, 0, 1) := ⟨by decide, by decide⟩
theorem ok_1 : Ok (1, 0, 1) := ⟨by decide, by decide⟩
theorem ok_i : Ok (0, 1, 1) := ⟨by decide, by decide⟩
theorem re_i : re (0, 1, 1) = 0 := by unfold re; decide +kernel
theorem im_i : im (0, 1, 1) = 1 := by unfold im; decide +kernel
theorem gap_ok {a b : Cp} {z : T3} (ha : CpOk a) (hb : CpOk b) (hz : Ok z) : Ok (gap a b z) := minus_ok (ap_ok ha hz) (ap_ok hb hz)
theorem re_gap {a b : Cp} {z : T3} (ha : CpOk a) (hb : CpOk b) (hz : Ok z) : re (gap a b z) = re (ap a z) - re (ap b z) := re_minus (ap_ok ha hz) (ap_ok hb hz)
theorem im_gap {a b : Cp} {z : T3} (ha : CpOk a) (hb : CpOk b) (hz : Ok z) : im (gap a b z) = im (ap a z) - im (ap b z) := im_minus (ap_ok ha hz) (ap_ok hb hz)
theorem meet_mem {a b : Cp} {z : T3} (ha : CpOk a) (hb : CpOk b) (hz : Ok z) : Mem (meet a b) z ↔ ap a z = ap b z := by
  unfold meet
  have g0 := gap_ok ha hb ok_0
  have g1 := gap_ok ha hb ok_1
  have gi := gap_ok ha hb ok_i
  rw [sol_mem _ hz, eqs_iff (minus_ok g1 g0) (minus_ok gi g0) (neg_ok g0) hz, re_minus g1 g0, re_minus gi g0, im_minus g1 g0, im_minus gi g0, re_neg, im_neg]
  simp only [re_gap ha hb ok_0, re_gap ha hb ok_1, re_gap ha hb ok_i, im_gap ha hb ok_0, im_gap ha hb ok_1, im_gap ha hb ok_i]
  unfold ap
  simp only [re_car ha.t ha.s ok_0, re_car ha.t ha.s ok_1, re_car ha.t ha.s ok_i, re_car hb.t hb.s ok_0, re_car hb.t hb.s ok_1, re_car hb.t hb.s ok_i, im_car ha.t ha.s ok_0, im_car ha.t ha.s ok_1, im_car ha.t ha.s ok_i, im_car hb.t hb.s ok_0, im_car hb.t hb.s ok_1, im_car hb.t hb.s ok_i, re_0, im_0, re_1, im_1, re_i, im_i]
  have k : car a.t a.s a.m z = car b.t b.s b.m z ↔ (re (car a.t a.s a.m z) = re (car b.t b.s b.m z) ∧ im (car a.t a.s a.m z) = im (car b.t b.s b.m z)) :=
    ⟨fun e => by rw [e]; exact ⟨rfl, rfl⟩, fun ⟨e1, e2⟩ => ext (car_ok ha.t ha.s hz) (car_ok hb.t hb.s hz) e1 e2⟩
  rw [k, re_car ha.t ha.s hz, re_car hb.t hb.s hz, im_car ha.t ha.s hz, im_car hb.t hb.s hz]
  generalize (if a.m = true then (-1 : Rat) else 1) = sa
  generalize (if b.m = true then (-1 : Rat) else 1) = sb
  refine ⟨fun ⟨e1, e2⟩ => ⟨?_, ?_⟩, fun ⟨e1, e2⟩ => ⟨?_, ?_⟩⟩ <;> grind
theorem meet_ok (a b : Cp) : KOk (meet a b) := sol_ok _
theorem all_iff {a b : Cp} (ha : CpOk a) (hb : CpOk b) : meet a b = .all ↔ a = b := by
  refine ⟨fun e => ?_, fun e => ?_⟩
  · have h : ∀ z, Ok z → ap a z = ap b z := fun z hz => (meet_mem ha hb hz).mp (by rw [e]; trivial)
    have e0 := h _ ok_0
    have e1 := h _ ok_1
    have ei := h _ ok_i
    have r0 := congrArg re e0
    have i0 := congrArg im e0
    have r1 := congrArg re e1
    have i1 := congrArg im e1
    have ri := congrArg re ei
    have ii := congrArg im ei
    unfold ap at r0 i0 r1 i1 ri ii
    simp only [re_car ha.t ha.s ok_0, re_car ha.t ha.s ok_1, re_car ha.t ha.s ok_i, re_car hb.t hb.s ok_0, re_car hb.t hb.s ok_1, re_car hb.t hb.s ok_i, im_car ha.t ha.s ok_0, im_car ha.t ha.s ok_1, im_car ha.t ha.s ok_i, im_car hb.t hb.s ok_0, im_car hb.t hb.s ok_1, im_car hb.t hb.s ok_i, re_0, im_0, re_1, im_1, re_i, im_i] at r0 i0 r1 i1 ri ii
    have n := nn_ne ha.t ha.n
    have q : nn a.t = re a.t * re a.t + im a.t * im a.t := rfl
    have tr : re a.t = re b.t := by grind
    have ti : im a.t = im b.t := by grind
    refine cp_ext ha hb tr ti (by grind) (by grind) ?_
    have no : a.m ≠ b.m → False := fun hne => by
      apply n
      rw [q]
      have z : re a.t = 0 ∧ im a.t = 0 := by
        cases hm : a.m <;> cases hm' : b.m
        · exact absurd (hm.trans hm'.symm) hne
        · rw [hm, hm'] at ri ii
          simp at ri ii
          exact ⟨by grind, by grind⟩
        · rw [hm, hm'] at ri ii
          simp at ri ii
          exact ⟨by grind, by grind⟩
        · exact absurd (hm.trans hm'.symm) hne
      rw [z.1, z.2]
      grind
    exact Decidable.byContradiction no
  · have h : ∀ z, Ok z → Mem (meet a b) z := fun z hz => (meet_mem ha hb hz).mpr (by rw [e])
    have ok := meet_ok a b
    generalize meet a b = k at *
    have h0 := h _ ok_0
    have h1 := h _ ok_1
    have hi := h _ ok_i
    cases k with
    | all => rfl
    | none => exact h0.elim
    | spot s =>
      have z0 : ((0, 0, 1) : T3) = s := h0
      have z1 : ((1, 0, 1) : T3) = s := h1
      rw [← z0] at z1
      exact absurd z1 (by decide)
    | line l =>
      exfalso
      have ok : Ln l := ok
      have z0 : on l (0, 0, 1) := h0
      have z1 : on l (1, 0, 1) := h1
      have zi : on l (0, 1, 1) := hi
      unfold on at z0 z1 zi
      simp at z0 z1 zi
      have := ok.s
      omega
/-! ### sizes of what is told -/
def KB (n m : Nat) : KS → Prop
  | .spot s => B n s
  | .line l => B m l
  | _ => True
theorem lf_B {r : T3} {n : Nat} (h : r.1 ≠ 0 ∨ r.2.1 ≠ 0) (b : B n r) : B n (lf r) := by
  obtain ⟨e1, e2, e3⟩ := lf_mul r
  have hs := sgl_ne (c := r.2.2) h
  obtain ⟨b1, b2, b3⟩ := b
  refine ⟨?_, ?_, ?_⟩
  · have := abs_le (a := (lf r).1) hs; rw [← e1] at this; omega
  · have := abs_le (a := (lf r).2.1) hs; rw [← e2] at this; omega
  · have := abs_le (a := (lf r).2.2) hs; rw [← e3] at this; omega
theorem sol_KB {rows : List T3} {n : Nat} (h : ∀ r ∈ rows, B n r) : KB (n + n + 1) n (sol rows) := by
  unfold sol
  split
  · trivial
  · have lns : ∀ l ∈ (rows.filter nz2).map lf, B n l := fun l hl => by
      obtain ⟨r, hr, rfl⟩ := List.mem_map.mp hl
      obtain ⟨hr1, hr2⟩ := List.mem_filter.mp hr
      exact lf_B (by unfold nz2 at hr2; simpa using hr2) (h r hr1)
    generalize (rows.filter nz2).map lf = ls at *
    cases ls with
    | nil => trivial
    | cons f ls =>
      unfold solL
      dsimp only
      have hf := lns f (List.mem_cons_self ..)
      cases ho : (f :: ls).filter (fun l => !decide (l = f)) with
      | nil => exact hf
      | cons o os =>
        dsimp only
        have om : o ∈ (f :: ls).filter (fun l => !decide (l = f)) := by rw [ho]; exact List.mem_cons_self ..
        have hO := lns o (List.mem_filter.mp om).1
        split
        · trivial
        · rename_i p
          split
          · exact low_B (fun z => p (Int.sub_eq_zero.mp z)) (sub_lt (mul_lt hf.2.2 hO.2.1) (mul_lt hO.2.2 hf.2.1)) (sub_lt (mul_lt hf.1 hO.2.2) (mul_lt hO.1 hf.2.2)) (sub_lt (mul_lt hf.1 hO.2.1) (mul_lt hO.1 hf.2.1))
          · trivial
theorem eqs_B {R U G : T3} {n : Nat} (hR : B n R) (hU : B n U) (hG : B n G) : ∀ r ∈ eqs R U G, B (n + n + n) r := by
  intro r hr
  unfold eqs at hr
  simp only [List.mem_cons, List.mem_nil_iff, or_false] at hr
  rcases hr with rfl | rfl
  · exact ⟨mul_lt (mul_lt hR.1 hU.2.2) hG.2.2, mul_lt (mul_lt hU.1 hR.2.2) hG.2.2, mul_lt (mul_lt hG.1 hR.2.2) hU.2.2⟩
  · exact ⟨mul_lt (mul_lt hR.2.1 hU.2.2) hG.2.2, mul_lt (mul_lt hU.2.1 hR.2.2) hG.2.2, mul_lt (mul_lt hG.2.1 hR.2.2) hU.2.2⟩
theorem minus_B {a b : T3} {n m : Nat} (oa : Ok a) (ob : Ok b) (ha : B n a) (hb : B m b) : B (n + m + 1) (minus a b) := plus_B oa (neg_ok ob) ha (neg_B hb)
theorem gap_Bn {a b : Cp} {z : T3} {n m : Nat} (ha : CpOk a) (hb : CpOk b) (hz : Ok z) (ta : B n a.t) (sa : B n a.s) (tb : B m b.t) (sb : B m b.s) (bz : B 1 z) : B (2 * n + 3 + (2 * m + 3) + 1) (gap a b z) :=
  minus_B (ap_ok ha hz) (ap_ok hb hz) ((car_B ha.t ha.s hz ta sa bz).mono (by omega)) ((car_B hb.t hb.s hz tb sb bz).mono (by omega))
instance (n : Nat) (t : T3) : Decidable (B n t) := inferInstanceAs (Decidable (_ ∧ _ ∧ _))
theorem meet_KB {a b : Cp} {n m : Nat} (ha : CpOk a) (hb : CpOk b) (ta : B n a.t) (sa : B n a.s) (tb : B m b.t) (sb : B m b.s) : KB (24 * n + 24 * m + 91) (12 * n + 12 * m + 45) (meet a b) := by
  have z0 : B 1 (0, 0, 1) := by decide
  have z1 : B 1 (1, 0, 1) := by decide
  have zi : B 1 (0, 1, 1) := by decide
  have b0 := gap_Bn ha hb ok_0 ta sa tb sb z0
  have b1 := gap_Bn ha hb ok_1 ta sa tb sb z1
  have bi := gap_Bn ha hb ok_i ta sa tb sb zi
  have g0 := gap_ok ha hb ok_0
  have g1 := gap_ok ha hb ok_1
  have gi := gap_ok ha hb ok_i
  have bR := minus_B g1 g0 b1 b0
  have bU := minus_B gi g0 bi b0
  have bG := (neg_B b0).mono (show 2 * n + 3 + (2 * m + 3) + 1 ≤ 2 * n + 3 + (2 * m + 3) + 1 + (2 * n + 3 + (2 * m + 3) + 1) + 1 by omega)
  have e1 : 24 * n + 24 * m + 91 = (12 * n + 12 * m + 45) + (12 * n + 12 * m + 45) + 1 := by omega
  rw [e1]
  exact sol_KB fun r hr => (eqs_B bR bU bG r hr).mono (by omega)
/-! ### a spot of a line, and others along it -/
def along (l : T3) (k : Int) : T3 := low (l.1 * l.2.2 + k * l.2.1) (l.2.1 * l.2.2 - k * l.1) (l.1 * l.1 + l.2.1 * l.2.1)
theorem ln_sq {l : T3} (h : Ln l) : l.1 * l.1 + l.2.1 * l.2.1 ≠ 0 := sq_ne (a := l) (by have := h.s; unfold Nz; omega)
theorem along_ok {l : T3} (h : Ln l) (k : Int) : Ok (along l k) := low_ok (ln_sq h)
theorem along_on {l : T3} (h : Ln l) (k : Int) : on l (along l k) := by
  rw [on_iff (along_ok h k)]
  have n := cast_ne (ln_sq h)
  unfold along
  rw [low_re (ln_sq h), low_im (ln_sq h)]
  simp only [Rat.intCast_add, Rat.intCast_sub, Rat.intCast_mul] at n ⊢
  grind
theorem along_re {l : T3} (h : Ln l) (k : Int) : re (along l k) = ((l.1 * l.2.2 + k * l.2.1 : Int) : Rat) / ((l.1 * l.1 + l.2.1 * l.2.1 : Int) : Rat) := low_re (ln_sq h)
theorem along_im {l : T3} (h : Ln l) (k : Int) : im (along l k) = ((l.2.1 * l.2.2 - k * l.1 : Int) : Rat) / ((l.1 * l.1 + l.2.1 * l.2.1 : Int) : Rat) := low_im (ln_sq h)
theorem two_on {l m : T3} (hl : Ln l) (hm : Ln m) (h0 : on m (along l 0)) (h1 : on m (along l 1)) : l = m := by
  refine ln_same hl hm (along_ok hl 0) ?_ (along_on hl 0) h0
  rw [on_iff (along_ok hl _), along_re hl, along_im hl] at h0 h1
  have n := cast_ne (ln_sq hl)
  simp only [Rat.intCast_add, Rat.intCast_sub, Rat.intCast_mul] at n h0 h1
  have e : (l.1 : Rat) * (m.2.1 : Rat) = (m.1 : Rat) * (l.2.1 : Rat) := by
    simp at h0 h1
    grind
  rw [← Rat.intCast_mul, ← Rat.intCast_mul] at e
  exact Rat.intCast_inj.mp e
theorem along_ne {l : T3} (h : Ln l) : along l 0 ≠ along l 1 := fun e => by
  have r := congrArg re e
  have i := congrArg im e
  rw [along_re h, along_re h] at r
  rw [along_im h, along_im h] at i
  have n := cast_ne (ln_sq h)
  simp only [Rat.intCast_add, Rat.intCast_sub, Rat.intCast_mul] at n r i
  have e1 : (l.2.1 : Rat) = 0 := by simp at r; grind
  have e2 : (l.1 : Rat) = 0 := by simp at i; grind
  have z1 : l.2.1 = 0 := by
    have : ((l.2.1 : Int) : Rat) = ((0 : Int) : Rat) := by rw [e1]; simp
    exact Rat.intCast_inj.mp this
  have z2 : l.1 = 0 := by
    have : ((l.1 : Int) : Rat) = ((0 : Int) : Rat) := by rw [e2]; simp
    exact Rat.intCast_inj.mp this
  have := h.s
  omega
theorem no_line {l : T3} (h : Ln l) (a : ∀ z, Ok z → on l z) : False := by
  have z0 := a _ ok_0
  have z1 := a _ ok_1
  have zi := a _ ok_i
  unfold on at z0 z1 zi
  simp at z0 z1 zi
  have := h.s
  omega
theorem no_spot {s : T3} (a : ∀ z, Ok z → z = s) : False := by
  have e := (a _ ok_0).trans (a _ ok_1).symm
  exact absurd e (by decide)
theorem ks_ext {k m : KS} (hk : KOk k) (hm : KOk m) (h : ∀ z, Ok z → (Mem k z ↔ Mem m z)) : k = m := by
  cases k with
  | all =>
    cases m with
    | all => rfl
    | none => exact ((h _ ok_0).mp trivial).elim
    | spot s => exact (no_spot fun z hz => (h z hz).mp trivial).elim
    | line l => exact (no_line hm fun z hz => (h z hz).mp trivial).elim
  | none =>
    cases m with
    | all => exact ((h _ ok_0).mpr trivial).elim
    | none => rfl
    | spot s => exact ((h s hm).mpr rfl).elim
    | line l => exact ((h _ (along_ok hm 0)).mpr (along_on hm 0)).elim
  | spot s =>
    cases m with
    | all => exact (no_spot fun z hz => (h z hz).mpr trivial).elim
    | none => exact ((h s hk).mp rfl).elim
    | spot t => exact congrArg KS.spot ((h s hk).mp rfl)
    | line l =>
      have a : along l 0 = s := (h _ (along_ok hm 0)).mpr (along_on hm 0)
      have b : along l 1 = s := (h _ (along_ok hm 1)).mpr (along_on hm 1)
      exact absurd (a.trans b.symm) (along_ne hm)
  | line l =>
    cases m with
    | all => exact (no_line hk fun z hz => (h z hz).mpr trivial).elim
    | none => exact ((h _ (along_ok hk 0)).mp (along_on hk 0)).elim
    | spot s =>
      have a : along l 0 = s := (h _ (along_ok hk 0)).mp (along_on hk 0)
      have b : along l 1 = s := (h _ (along_ok hk 1)).mp (along_on hk 1)
      exact absurd (a.trans b.symm) (along_ne hk)
    | line l' => exact congrArg KS.line (two_on hk hm ((h _ (along_ok hk 0)).mp (along_on hk 0)) ((h _ (along_ok hk 1)).mp (along_on hk 1)))
theorem meet_comm {a b : Cp} (ha : CpOk a) (hb : CpOk b) : meet b a = meet a b := ks_ext (meet_ok b a) (meet_ok a b) fun z hz => by
  rw [meet_mem hb ha hz, meet_mem ha hb hz]; exact ⟨Eq.symm, Eq.symm⟩
end Mth
namespace Mth
/-! ### times of any sign -/
theorem agz_zero (c : Cp) : agz c 0 = still := rfl
theorem agz_one {c : Cp} (h : CpOk c) : agz c 1 = c := ag_one h
theorem agz_neg1 {c : Cp} (h : CpOk c) : agz c (-1) = bk c := ag_one (bk_ok h)
theorem agz_pos (c : Cp) (n : Nat) : agz c (n : Int) = ag c n := by
  unfold agz stp
  rw [if_pos (by omega), Int.natAbs_natCast]
theorem agz_neg (c : Cp) (n : Nat) : agz c (-(n : Int)) = ag (bk c) n := by
  by_cases h0 : n = 0
  · subst h0; rfl
  · unfold agz stp
    rw [if_neg (by omega), Int.natAbs_neg, Int.natAbs_natCast]
theorem agz_succ {c : Cp} (h : CpOk c) (n : Int) : agz c (n + 1) = jn (agz c n) c := by
  by_cases h0 : 0 ≤ n
  · obtain ⟨k, rfl⟩ : ∃ k : Nat, n = (k : Int) := ⟨n.toNat, by omega⟩
    have e : ((k : Int) + 1) = ((k + 1 : Nat) : Int) := by omega
    rw [e, agz_pos, agz_pos]
    rfl
  · obtain ⟨k, rfl⟩ : ∃ k : Nat, n = -((k + 1 : Nat) : Int) := ⟨(-n).toNat - 1, by omega⟩
    have e : (-((k + 1 : Nat) : Int) + 1) = -(k : Int) := by omega
    rw [e, agz_neg, agz_neg]
    show ag (bk c) k = jn (jn (ag (bk c) k) (bk c)) c
    rw [jn_assoc (ag_ok (bk_ok h) k) (bk_ok h) h, bk_jn h, jn_still (ag_ok (bk_ok h) k)]
theorem agz_pred {c : Cp} (h : CpOk c) (n : Int) : agz c (n - 1) = jn (agz c n) (bk c) := by
  have e := agz_succ h (n - 1)
  rw [show n - 1 + 1 = n by omega] at e
  rw [e, jn_assoc (agz_ok h _) h (bk_ok h), jn_bk h, jn_still (agz_ok h _)]
theorem agz_addn {c : Cp} (h : CpOk c) (m : Int) : ∀ k : Nat, agz c (m + (k : Int)) = jn (agz c m) (ag c k)
  | 0 => by
    show agz c (m + 0) = jn (agz c m) still
    rw [Int.add_zero, jn_still (agz_ok h m)]
  | k + 1 => by
    have e : m + ((k + 1 : Nat) : Int) = m + (k : Int) + 1 := by omega
    rw [e, agz_succ h, agz_addn h m k]
    show jn (jn (agz c m) (ag c k)) c = jn (agz c m) (jn (ag c k) c)
    rw [jn_assoc (agz_ok h m) (ag_ok h k) h]
theorem agz_subn {c : Cp} (h : CpOk c) (m : Int) : ∀ k : Nat, agz c (m - (k : Int)) = jn (agz c m) (ag (bk c) k)
  | 0 => by
    show agz c (m - 0) = jn (agz c m) still
    rw [Int.sub_zero, jn_still (agz_ok h m)]
  | k + 1 => by
    have e : m - ((k + 1 : Nat) : Int) = m - (k : Int) - 1 := by omega
    rw [e, agz_pred h, agz_subn h m k]
    show jn (jn (agz c m) (ag (bk c) k)) (bk c) = jn (agz c m) (jn (ag (bk c) k) (bk c))
    rw [jn_assoc (agz_ok h m) (ag_ok (bk_ok h) k) (bk_ok h)]
theorem agz_add {c : Cp} (h : CpOk c) (m n : Int) : agz c (m + n) = jn (agz c m) (agz c n) := by
  by_cases h0 : 0 ≤ n
  · obtain ⟨k, rfl⟩ : ∃ k : Nat, n = (k : Int) := ⟨n.toNat, by omega⟩
    rw [agz_addn h, agz_pos]
  · obtain ⟨k, rfl⟩ : ∃ k : Nat, n = -(k : Int) := ⟨(-n).toNat, by omega⟩
    rw [show m + -(k : Int) = m - (k : Int) by omega, agz_subn h, agz_neg]
theorem agz_two {c : Cp} (h : CpOk c) (n : Int) : agz (agz c n) 2 = agz c (2 * n) := by
  rw [show 2 * n = n + n by omega, agz_add h]
  show jn (jn still (agz c n)) (agz c n) = _
  rw [still_jn (agz_ok h n)]
/-! ### step by step -/
def itn (c : Cp) (z : T3) : Nat → T3
  | 0 => z
  | n + 1 => ap c (itn c z n)
theorem itn_ok {c : Cp} (h : CpOk c) {z : T3} (hz : Ok z) : ∀ n, Ok (itn c z n)
  | 0 => hz
  | n + 1 => ap_ok h (itn_ok h hz n)
theorem ap_ag {c : Cp} (h : CpOk c) {z : T3} (hz : Ok z) : ∀ n, ap (ag c n) z = itn c z n
  | 0 => ap_still hz
  | n + 1 => by
    show ap (jn (ag c n) c) z = ap c (itn c z n)
    rw [jn_ap (ag_ok h n) h hz, ap_ag h hz n]
/-! ### a quarter -/
theorem ag_still : ∀ n, ag still n = still
  | 0 => rfl
  | n + 1 => by
    show jn (ag still n) still = still
    rw [ag_still n, jn_still still_ok]
theorem quarter4 {c : Cp} (h : CpOk c) (ht : c.t = (0, 1, 1)) (hm : c.m = false) : ag c 4 = still := by
  have e : ag c 4 = ag (ag c 2) 2 := ag_mul h 2 2
  rw [e]
  refine at_half (ag_ok h 2) ?_ ?_
  · rw [ag_t, ht, hm]; decide
  · rw [ag_m, hm]; rfl
theorem period4 {c : Cp} (h : CpOk c) (e4 : ag c 4 = still) (k : Nat) : ag c k = ag c (k % 4) := by
  have e : ag c (4 * (k / 4) + k % 4) = jn (ag c (4 * (k / 4))) (ag c (k % 4)) := ag_add h _ _
  rw [Nat.div_add_mod, ag_mul h, e4, ag_still, still_jn (ag_ok h _)] at e
  exact e
theorem quarter100 {c : Cp} (h : CpOk c) (e4 : ag c 4 = still) : agz c 100 = still := by
  show ag c 100 = still
  rw [period4 h e4]
  rfl
theorem quarter99 {c : Cp} (h : CpOk c) (e4 : ag c 4 = still) : agz c (-99) = c := by
  show ag (bk c) 99 = c
  rw [← bk_ag h]
  refine (bk_uniq (ag_ok h 99) h ?_).symm
  show ag c 100 = still
  rw [period4 h e4]
  rfl
theorem back4 {c : Cp} (h : CpOk c) (e4 : ag c 4 = still) : ag (bk c) 4 = still := by
  rw [← bk_ag h, e4, bk_still]
end Mth
namespace Mth
/-! ### copies that carry pairs of spots -/
abbrev Pr := T3 × T3
def crC (s g : T3) (o : Pr) (m : Bool) : Cp := ⟨times (minus o.2 g) (inv (face (minus o.1 s) m)), minus g (times (times (minus o.2 g) (inv (face (minus o.1 s) m))) (face s m)), m⟩
def crb (prs : List Pr) (h o : Pr) (m : Bool) : List Cp := if (crC h.1 h.2 o m).t = (0, 0, 1) then [] else if prs.any (fun p => !decide (ap (crC h.1 h.2 o m) p.1 = p.2)) = true then [] else [crC h.1 h.2 o m]
def oth (prs : List Pr) (h : Pr) : List Pr := prs.filter fun p => !decide (p.1 = h.1)
def crs (prs : List Pr) (h o : Pr) : List Cp := crb prs h o false ++ crb prs h o true
structure PrOk (p : Pr) : Prop where
  a : Ok p.1
  b : Ok p.2
theorem sq_nonneg (x : Rat) : 0 ≤ x * x := by
  rcases Rat.le_total (a := 0) (b := x) with c | c
  · exact Rat.mul_nonneg c c
  · have d : 0 ≤ -x := by grind
    have := Rat.mul_nonneg d d
    grind
theorem sq_zero {x y : Rat} (e : x * x + y * y = 0) : x = 0 ∧ y = 0 := by
  have p := sq_nonneg x
  have q := sq_nonneg y
  have ex : x * x = 0 := by grind
  have ey : y * y = 0 := by grind
  constructor
  · rcases Rat.mul_eq_zero.mp ex with c | c <;> exact c
  · rcases Rat.mul_eq_zero.mp ey with c | c <;> exact c
/-- two ways to carry -/
theorem two_ways {a b a' b' u v x y : Rat} (e1 : a * u - b * v = a' * u + b' * v) (e2 : a * v + b * u = b' * u - a' * v) (e3 : a * x - b * y = a' * x + b' * y) (e4 : a * y + b * x = b' * x - a' * y) (k : a * a + b * b ≠ 0) (w : u * u + v * v ≠ 0) : x * v = y * u := by
  have f1 : a' * (u * u + v * v) = (a * u - b * v) * u - (a * v + b * u) * v := by rw [e1, e2]; grind
  have f2 : b' * (u * u + v * v) = (a * u - b * v) * v + (a * v + b * u) * u := by rw [e1, e2]; grind
  have g1 : (a * x - b * y) * (u * u + v * v) = a' * (u * u + v * v) * x + b' * (u * u + v * v) * y := by rw [e3]; grind
  have g2 : (a * y + b * x) * (u * u + v * v) = b' * (u * u + v * v) * x - a' * (u * u + v * v) * y := by rw [e4]; grind
  rw [f1, f2] at g1 g2
  have h1 : (a * v + b * u) * (x * v - y * u) = 0 := by grind
  have h2 : (b * v - a * u) * (x * v - y * u) = 0 := by grind
  have h3 : ((a * a + b * b) * (u * u + v * v)) * (x * v - y * u) = 0 := by
    have : ((a * a + b * b) * (u * u + v * v)) * (x * v - y * u) = (a * v + b * u) * ((a * v + b * u) * (x * v - y * u)) + (b * v - a * u) * ((b * v - a * u) * (x * v - y * u)) := by grind
    rw [this, h1, h2]; grind
  rcases Rat.mul_eq_zero.mp h3 with c | c
  · rcases Rat.mul_eq_zero.mp c with c | c
    · exact absurd c k
    · exact absurd c w
  · grind
theorem minus_ne {a b : T3} (ha : Ok a) (hb : Ok b) (h : a ≠ b) : Nz (minus a b) := (nz_iff (minus_ok ha hb)).mpr fun e => by
  unfold nn at e
  rw [re_minus ha hb, im_minus ha hb] at e
  obtain ⟨h1, h2⟩ := sq_zero e
  exact h (ext ha hb (by grind) (by grind))
theorem zero_of {t : T3} (h : Ok t) (z : ¬ Nz t) : t = (0, 0, 1) := by
  unfold Nz at z
  refine ext h ok_0 ?_ ?_
  · rw [re_0]; unfold re; rw [show t.1 = 0 by omega]; simp only [Rat.intCast_zero, Rat.div_def, Rat.zero_mul]
  · rw [im_0]; unfold im; rw [show t.2.1 = 0 by omega]; simp only [Rat.intCast_zero, Rat.div_def, Rat.zero_mul]
section
variable {h o : Pr} {m : Bool} (ph : PrOk h) (po : PrOk o) (hn : o.1 ≠ h.1)
include ph po hn
theorem st_nz : Nz (face (minus o.1 h.1) m) := face_nz (minus_ok po.a ph.a) (minus_ne po.a ph.a hn) m
theorem crC_t : Ok (crC h.1 h.2 o m).t := times_ok (minus_ok po.b ph.b) (inv_ok (st_nz ph po hn))
theorem crC_s : Ok (crC h.1 h.2 o m).s := minus_ok ph.b (times_ok (crC_t ph po hn) (face_ok ph.a m))
theorem crC_ok (z : (crC h.1 h.2 o m).t ≠ (0, 0, 1)) : CpOk (crC h.1 h.2 o m) := ⟨crC_t ph po hn, Classical.byContradiction fun c => z (zero_of (crC_t ph po hn) c), crC_s ph po hn⟩
/-- the only one -/
theorem crC_uniq {c : Cp} (hc : CpOk c) (hm : c.m = m) (e1 : ap c h.1 = h.2) (e2 : ap c o.1 = o.2) : crC h.1 h.2 o m = c := by
  have n1 := st_nz (m := m) ph po hn
  have os := face_ok (minus_ok po.a ph.a) m
  have nn0 := nn_ne os n1
  have a1 := congrArg re e1
  have a2 := congrArg im e1
  have b1 := congrArg re e2
  have b2 := congrArg im e2
  unfold ap at a1 a2 b1 b2
  rw [re_car hc.t hc.s ph.a] at a1
  rw [im_car hc.t hc.s ph.a] at a2
  rw [re_car hc.t hc.s po.a] at b1
  rw [im_car hc.t hc.s po.a] at b2
  have ot : Ok (times (minus o.2 h.2) (inv (face (minus o.1 h.1) m))) := times_ok (minus_ok po.b ph.b) (inv_ok n1)
  have t1 : times (minus o.2 h.2) (inv (face (minus o.1 h.1) m)) = c.t := by
    have en : nn (face (minus o.1 h.1) m) = (re o.1 - re h.1) * (re o.1 - re h.1) + (im o.1 - im h.1) * (im o.1 - im h.1) := by
      rw [nn_face]; unfold nn; rw [re_minus po.a ph.a, im_minus po.a ph.a]
    refine ext ot hc.t ?_ ?_
    · rw [re_times (minus_ok po.b ph.b) (inv_ok n1), re_inv os n1, im_inv os n1, re_minus po.b ph.b, im_minus po.b ph.b, re_face, im_face, re_minus po.a ph.a, im_minus po.a ph.a]
      rw [en] at nn0 ⊢
      rw [hm] at a1 a2 b1 b2
      cases m <;> simp only [if_true, if_false, Bool.false_eq_true] at * <;> grind
    · rw [im_times (minus_ok po.b ph.b) (inv_ok n1), re_inv os n1, im_inv os n1, re_minus po.b ph.b, im_minus po.b ph.b, re_face, im_face, re_minus po.a ph.a, im_minus po.a ph.a]
      rw [en] at nn0 ⊢
      rw [hm] at a1 a2 b1 b2
      cases m <;> simp only [if_true, if_false, Bool.false_eq_true] at * <;> grind
  have e : crC h.1 h.2 o m = ⟨c.t, minus h.2 (times c.t (face h.1 m)), m⟩ := by unfold crC; rw [t1]
  rw [e]
  refine cp_ext (a := ⟨c.t, minus h.2 (times c.t (face h.1 m)), m⟩) ⟨hc.t, hc.n, minus_ok ph.b (times_ok hc.t (face_ok ph.a m))⟩ hc rfl rfl ?_ ?_ hm.symm
  · show re (minus h.2 (times c.t (face h.1 m))) = _
    rw [re_minus ph.b (times_ok hc.t (face_ok ph.a m)), re_times hc.t (face_ok ph.a m), re_face, im_face]
    rw [hm] at a1; grind
  · show im (minus h.2 (times c.t (face h.1 m))) = _
    rw [im_minus ph.b (times_ok hc.t (face_ok ph.a m)), im_times hc.t (face_ok ph.a m), re_face, im_face]
    rw [hm] at a2; grind
theorem crb_mem {prs : List Pr} (hh : h ∈ prs) (ho : o ∈ prs) {c : Cp} : c ∈ crb prs h o m ↔ (CpOk c ∧ c.m = m ∧ ∀ p ∈ prs, ap c p.1 = p.2) := by
  unfold crb
  constructor
  · intro hc
    split at hc
    · cases hc
    · rename_i z
      split at hc
      · cases hc
      · rename_i a
        rw [List.mem_singleton.mp hc]
        refine ⟨crC_ok ph po hn z, rfl, fun p hp => ?_⟩
        have a' : prs.any (fun p => !decide (ap (crC h.1 h.2 o m) p.1 = p.2)) = false := by simpa using a
        have := List.any_eq_false.mp a' p hp
        simpa using this
  · rintro ⟨hc, hm, hp⟩
    have e := crC_uniq ph po hn hc hm (hp h hh) (hp o ho)
    rw [e]
    rw [if_neg (fun z => by have := hc.n; rw [z] at this; rcases this with n | n <;> exact n rfl)]
    rw [if_neg (by
      intro a
      obtain ⟨p, h1, h2⟩ := List.any_eq_true.mp a
      simp [hp p h1] at h2)]
    exact List.mem_singleton.mpr rfl
theorem crb_len {prs : List Pr} : (crb prs h o m).length ≤ 1 := by
  unfold crb
  split
  · simp
  · split <;> simp
end
/-- all in one line -/
def flatP (h o p : Pr) : Prop := (minus p.1 h.1).1 * (minus o.1 h.1).2.1 = (minus p.1 h.1).2.1 * (minus o.1 h.1).1
theorem flat_iff {h o p : Pr} (ph : PrOk h) (po : PrOk o) (pp : PrOk p) : flatP h o p ↔ (re p.1 - re h.1) * (im o.1 - im h.1) = (im p.1 - im h.1) * (re o.1 - re h.1) := by
  have o1 := minus_ok pp.a ph.a
  have o2 := minus_ok po.a ph.a
  rw [← re_minus pp.a ph.a, ← im_minus pp.a ph.a, ← re_minus po.a ph.a, ← im_minus po.a ph.a]
  unfold flatP
  generalize minus p.1 h.1 = a at *
  generalize minus o.1 h.1 = b at *
  have na := cast_ne o1.ne
  have nb := cast_ne o2.ne
  unfold re im
  constructor
  · intro e
    have e' : ((a.1 * b.2.1 : Int) : Rat) = ((a.2.1 * b.1 : Int) : Rat) := by rw [e]
    simp only [Rat.intCast_mul] at e'
    grind
  · intro e
    have e' : ((a.1 * b.2.1 : Int) : Rat) = ((a.2.1 * b.1 : Int) : Rat) := by
      simp only [Rat.intCast_mul]
      grind
    exact_mod_cast e'
section
variable {h o : Pr} (ph : PrOk h) (po : PrOk o) (hn : o.1 ≠ h.1)
include ph po hn
theorem wn : (re o.1 - re h.1) * (re o.1 - re h.1) + (im o.1 - im h.1) * (im o.1 - im h.1) ≠ 0 := by
  have := nn_ne (minus_ok po.a ph.a) (minus_ne po.a ph.a hn)
  unfold nn at this
  rwa [re_minus po.a ph.a, im_minus po.a ph.a] at this
/-- carried the other way round, where all is in one line -/
theorem flat_both {prs : List Pr} (hh : h ∈ prs) (ho : o ∈ prs) (ok : ∀ p ∈ prs, PrOk p) (fl : ∀ p ∈ prs, flatP h o p) (m : Bool) {c : Cp} (hc : c ∈ crb prs h o m) : crb prs h o (!m) ≠ [] := by
  obtain ⟨oc, cm, cp⟩ := (crb_mem ph po hn hh ho).mp hc
  intro em
  have w := wn ph po hn
  have ot := crC_t (m := !m) ph po hn
  have n1 := st_nz (m := !m) ph po hn
  have os := face_ok (minus_ok po.a ph.a) (!m)
  have nn0 := nn_ne os n1
  have en : nn (face (minus o.1 h.1) (!m)) = (re o.1 - re h.1) * (re o.1 - re h.1) + (im o.1 - im h.1) * (im o.1 - im h.1) := by
    rw [nn_face]; unfold nn; rw [re_minus po.a ph.a, im_minus po.a ph.a]
  have a1 := congrArg re (cp h hh)
  have a2 := congrArg im (cp h hh)
  have b1 := congrArg re (cp o ho)
  have b2 := congrArg im (cp o ho)
  unfold ap at a1 a2 b1 b2
  rw [re_car oc.t oc.s ph.a, cm] at a1
  rw [im_car oc.t oc.s ph.a, cm] at a2
  rw [re_car oc.t oc.s po.a, cm] at b1
  rw [im_car oc.t oc.s po.a, cm] at b2
  have rt : re (crC h.1 h.2 o (!m)).t = ((re o.2 - re h.2) * (re o.1 - re h.1) + (im o.2 - im h.2) * ((if (!m) = true then -1 else 1) * (im o.1 - im h.1))) / ((re o.1 - re h.1) * (re o.1 - re h.1) + (im o.1 - im h.1) * (im o.1 - im h.1)) := by
    show re (times _ _) = _
    rw [re_times (minus_ok po.b ph.b) (inv_ok n1), re_inv os n1, im_inv os n1, en, re_minus po.b ph.b, im_minus po.b ph.b, re_face, im_face, re_minus po.a ph.a, im_minus po.a ph.a]
    grind
  have it : im (crC h.1 h.2 o (!m)).t = ((im o.2 - im h.2) * (re o.1 - re h.1) - (re o.2 - re h.2) * ((if (!m) = true then -1 else 1) * (im o.1 - im h.1))) / ((re o.1 - re h.1) * (re o.1 - re h.1) + (im o.1 - im h.1) * (im o.1 - im h.1)) := by
    show im (times _ _) = _
    rw [im_times (minus_ok po.b ph.b) (inv_ok n1), re_inv os n1, im_inv os n1, en, re_minus po.b ph.b, im_minus po.b ph.b, re_face, im_face, re_minus po.a ph.a, im_minus po.a ph.a]
    grind
  have nt : (crC h.1 h.2 o (!m)).t ≠ (0, 0, 1) := fun z => by
    have z1 := congrArg re z
    have z2 := congrArg im z
    rw [re_0] at z1
    rw [im_0] at z2
    have k := nn_ne oc.t oc.n
    unfold nn at k
    rw [rt] at z1
    rw [it] at z2
    cases m <;> simp only [Bool.not_true, Bool.not_false, if_true, if_false, Bool.false_eq_true] at * <;> grind
  have oc' := crC_ok ph po hn nt
  have key : crC h.1 h.2 o (!m) ∈ crb prs h o (!m) := (crb_mem ph po hn hh ho).mpr ⟨oc', rfl, fun p hp => by
    have pp := ok p hp
    have f := (flat_iff ph po pp).mp (fl p hp)
    have c1 := congrArg re (cp p hp)
    have c2 := congrArg im (cp p hp)
    unfold ap at c1 c2
    rw [re_car oc.t oc.s pp.a, cm] at c1
    rw [im_car oc.t oc.s pp.a, cm] at c2
    have sre : re (crC h.1 h.2 o (!m)).s = re h.2 - (re (crC h.1 h.2 o (!m)).t * re h.1 - im (crC h.1 h.2 o (!m)).t * ((if (!m) = true then -1 else 1) * im h.1)) := by
      show re (minus h.2 (times (crC h.1 h.2 o (!m)).t (face h.1 (!m)))) = _
      rw [re_minus ph.b (times_ok ot (face_ok ph.a _)), re_times ot (face_ok ph.a _), re_face, im_face]
    have sim : im (crC h.1 h.2 o (!m)).s = im h.2 - (re (crC h.1 h.2 o (!m)).t * ((if (!m) = true then -1 else 1) * im h.1) + im (crC h.1 h.2 o (!m)).t * re h.1) := by
      show im (minus h.2 (times (crC h.1 h.2 o (!m)).t (face h.1 (!m)))) = _
      rw [im_minus ph.b (times_ok ot (face_ok ph.a _)), im_times ot (face_ok ph.a _), re_face, im_face]
    refine ext (ap_ok oc' pp.a) pp.b ?_ ?_
    · unfold ap
      rw [re_car oc'.t oc'.s pp.a, sre, rt, it]
      show _ - _ * ((if (!m) = true then -1 else 1) * _) + _ = _
      cases m <;> simp only [Bool.not_true, Bool.not_false, if_true, if_false, Bool.false_eq_true] at * <;> grind
    · unfold ap
      rw [im_car oc'.t oc'.s pp.a, sim, rt, it]
      show _ * ((if (!m) = true then -1 else 1) * _) + _ + _ = _
      cases m <;> simp only [Bool.not_true, Bool.not_false, if_true, if_false, Bool.false_eq_true] at * <;> grind⟩
  rw [em] at key
  cases key
/-- not both, where not all is in one line -/
theorem not_both {prs : List Pr} (hh : h ∈ prs) (ho : o ∈ prs) (ok : ∀ p ∈ prs, PrOk p) {c e : Cp} (hc : c ∈ crb prs h o false) (he : e ∈ crb prs h o true) : ∀ p ∈ prs, flatP h o p := by
  obtain ⟨oc, cm, cp⟩ := (crb_mem ph po hn hh ho).mp hc
  obtain ⟨oe, em, ep⟩ := (crb_mem ph po hn hh ho).mp he
  intro p hp
  have pp := ok p hp
  rw [flat_iff ph po pp]
  have rows : ∀ q : Pr, q ∈ prs → PrOk q → re c.t * re q.1 - im c.t * im q.1 + re c.s = re q.2 ∧ re c.t * im q.1 + im c.t * re q.1 + im c.s = im q.2 ∧ re e.t * re q.1 + im e.t * im q.1 + re e.s = re q.2 ∧ im e.t * re q.1 - re e.t * im q.1 + im e.s = im q.2 := fun q hq pq => by
    have c1 := congrArg re (cp q hq)
    have c2 := congrArg im (cp q hq)
    have e1 := congrArg re (ep q hq)
    have e2 := congrArg im (ep q hq)
    unfold ap at c1 c2 e1 e2
    rw [re_car oc.t oc.s pq.a, cm] at c1
    rw [im_car oc.t oc.s pq.a, cm] at c2
    rw [re_car oe.t oe.s pq.a, em] at e1
    rw [im_car oe.t oe.s pq.a, em] at e2
    simp only [if_true, if_false, Bool.false_eq_true] at c1 c2 e1 e2
    exact ⟨by grind, by grind, by grind, by grind⟩
  obtain ⟨h1, h2, h3, h4⟩ := rows h hh ph
  obtain ⟨o1, o2, o3, o4⟩ := rows o ho po
  obtain ⟨p1, p2, p3, p4⟩ := rows p hp pp
  have k := nn_ne oc.t oc.n
  unfold nn at k
  have w := wn ph po hn
  exact two_ways (a := re c.t) (b := im c.t) (a' := re e.t) (b' := im e.t) (u := re o.1 - re h.1) (v := im o.1 - im h.1) (x := re p.1 - re h.1) (y := im p.1 - im h.1) (by grind) (by grind) (by grind) (by grind) k w
/-- nothing is carried to one spot -/
theorem crb_one {prs : List Pr} (e : o.2 = h.2) (m : Bool) : crb prs h o m = [] := by
  unfold crb
  rw [if_pos]
  refine ext (crC_t ph po hn) ok_0 ?_ ?_
  · show re (times (minus o.2 h.2) (inv (face (minus o.1 h.1) m))) = _
    rw [re_times (minus_ok po.b ph.b) (inv_ok (st_nz ph po hn)), re_minus po.b ph.b, im_minus po.b ph.b, e, re_0]; grind
  · show im (times (minus o.2 h.2) (inv (face (minus o.1 h.1) m))) = _
    rw [im_times (minus_ok po.b ph.b) (inv_ok (st_nz ph po hn)), re_minus po.b ph.b, im_minus po.b ph.b, e, im_0]; grind
/-- one of them alone where all is in one line, both where not, is not so -/
theorem crs_flat {prs : List Pr} (hh : h ∈ prs) (ho : o ∈ prs) (ok : ∀ p ∈ prs, PrOk p) (fl : ∀ p ∈ prs, flatP h o p) : (crs prs h o).length ≠ 1 := by
  unfold crs
  rw [List.length_append]
  have l1 := crb_len (m := false) ph po hn (prs := prs)
  have l2 := crb_len (m := true) ph po hn (prs := prs)
  have b1 := fun c hc => flat_both ph po hn hh ho ok fl false (c := c) hc
  have b2 := fun c hc => flat_both ph po hn hh ho ok fl true (c := c) hc
  cases e1 : crb prs h o false with
  | nil =>
    cases e2 : crb prs h o true with
    | nil => simp
    | cons c r => exact absurd e1 (b2 c (by rw [e2]; exact List.mem_cons_self ..))
  | cons c r =>
    cases e2 : crb prs h o true with
    | nil => exact absurd e2 (b1 c (by rw [e1]; exact List.mem_cons_self ..))
    | cons d t =>
      simp only [List.length_cons]
      omega
theorem crs_two {prs : List Pr} (hh : h ∈ prs) (ho : o ∈ prs) (ok : ∀ p ∈ prs, PrOk p) (nf : ¬ ∀ p ∈ prs, flatP h o p) : (crs prs h o).length ≠ 2 := by
  unfold crs
  rw [List.length_append]
  have l1 := crb_len (m := false) ph po hn (prs := prs)
  have l2 := crb_len (m := true) ph po hn (prs := prs)
  cases e1 : crb prs h o false with
  | nil => rw [List.length_nil]; omega
  | cons c r =>
    cases e2 : crb prs h o true with
    | nil => rw [e1] at l1; rw [List.length_nil]; omega
    | cons d t => exact absurd (not_both ph po hn hh ho ok (c := c) (e := d) (by rw [e1]; exact List.mem_cons_self ..) (by rw [e2]; exact List.mem_cons_self ..)) nf
theorem crs_mem {prs : List Pr} (hh : h ∈ prs) (ho : o ∈ prs) {c : Cp} : c ∈ crs prs h o ↔ (CpOk c ∧ ∀ p ∈ prs, ap c p.1 = p.2) := by
  unfold crs
  rw [List.mem_append, crb_mem ph po hn hh ho, crb_mem ph po hn hh ho]
  constructor
  · rintro (⟨a, _, b⟩ | ⟨a, _, b⟩) <;> exact ⟨a, b⟩
  · rintro ⟨a, b⟩
    cases e : c.m with
    | false => exact .inl ⟨a, rfl, b⟩
    | true => exact .inr ⟨a, rfl, b⟩
theorem crs_flags {prs : List Pr} (hh : h ∈ prs) (ho : o ∈ prs) : (crs prs h o).map (·.m) ∈ [[], [false], [true], [false, true]] := by
  unfold crs
  have l1 := crb_len (m := false) ph po hn (prs := prs)
  have l2 := crb_len (m := true) ph po hn (prs := prs)
  have f1 := fun c (hc : c ∈ crb prs h o false) => ((crb_mem ph po hn hh ho).mp hc).2.1
  have f2 := fun c (hc : c ∈ crb prs h o true) => ((crb_mem ph po hn hh ho).mp hc).2.1
  match e1 : crb prs h o false, e2 : crb prs h o true with
  | [], [] => decide
  | [c], [] => rw [List.map_append]; simp only [List.map_cons, List.map_nil]; rw [f1 c (by rw [e1]; exact List.mem_cons_self ..)]; decide
  | [], [d] => rw [List.map_append]; simp only [List.map_cons, List.map_nil]; rw [f2 d (by rw [e2]; exact List.mem_cons_self ..)]; decide
  | [c], [d] => rw [List.map_append]; simp only [List.map_cons, List.map_nil]; rw [f1 c (by rw [e1]; exact List.mem_cons_self ..), f2 d (by rw [e2]; exact List.mem_cons_self ..)]; decide
  | _ :: _ :: _, _ => rw [e1] at l1; simp at l1
  | _, _ :: _ :: _ => rw [e2] at l2; simp at l2
end
end Mth
namespace Mth
/-! ### arms -/
structure Am where
  pole : T3
  t : T3
  near : Int
  far : Int
  m : Bool
  deriving DecidableEq
structure AmOk (a : Am) : Prop where
  p : Ok a.pole
  t : Ok a.t
  n : Nz a.t
  lo : 0 ≤ a.near
  mi : a.near ≤ a.far
  hi : a.far ≤ 1000
def about (a : Am) : Cp := ⟨a.t, minus a.pole (times a.t (face a.pole a.m)), a.m⟩
theorem about_ok {a : Am} (h : AmOk a) : CpOk (about a) := ⟨h.t, h.n, minus_ok h.p (times_ok h.t (face_ok h.p _))⟩
theorem re_sh {p t : T3} (hp : Ok p) (ht : Ok t) (m : Bool) : re (minus p (times t (face p m))) = re p - (re t * re p - im t * ((if m = true then -1 else 1) * im p)) := by
  rw [re_minus hp (times_ok ht (face_ok hp m)), re_times ht (face_ok hp m), re_face, im_face]
theorem im_sh {p t : T3} (hp : Ok p) (ht : Ok t) (m : Bool) : im (minus p (times t (face p m))) = im p - (re t * ((if m = true then -1 else 1) * im p) + im t * re p) := by
  rw [im_minus hp (times_ok ht (face_ok hp m)), im_times ht (face_ok hp m), re_face, im_face]
theorem about_fix {a : Am} (h : AmOk a) : ap (about a) a.pole = a.pole := by
  have o := minus_ok h.p (times_ok h.t (face_ok h.p a.m))
  refine ext (ap_ok (about_ok h) h.p) h.p ?_ ?_
  · show re (car a.t (minus a.pole (times a.t (face a.pole a.m))) a.m a.pole) = _
    rw [re_car h.t o h.p, re_sh h.p h.t]; grind
  · show im (car a.t (minus a.pole (times a.t (face a.pole a.m))) a.m a.pole) = _
    rw [im_car h.t o h.p, im_sh h.p h.t]; grind
theorem about_of {c : Cp} {z : T3} {n f : Int} (hc : CpOk c) (hz : Ok z) (h : ap c z = z) : about ⟨z, c.t, n, f, c.m⟩ = c := by
  have o := minus_ok hz (times_ok hc.t (face_ok hz c.m))
  have h1 := congrArg re h
  have h2 := congrArg im h
  unfold ap at h1 h2
  rw [re_car hc.t hc.s hz] at h1
  rw [im_car hc.t hc.s hz] at h2
  refine cp_ext (a := about ⟨z, c.t, n, f, c.m⟩) ⟨hc.t, hc.n, o⟩ hc rfl rfl ?_ ?_ rfl
  · show re (minus z (times c.t (face z c.m))) = _
    rw [re_sh hz hc.t]; grind
  · show im (minus z (times c.t (face z c.m))) = _
    rw [im_sh hz hc.t]; grind
/-! ### chains -/
def jall (as : List Am) : Cp := as.foldl (fun c a => jn c (about a)) still
theorem foldl_ok {as : List Am} : ∀ {c : Cp}, CpOk c → (∀ a ∈ as, AmOk a) → CpOk (as.foldl (fun c a => jn c (about a)) c) := by
  induction as with
  | nil => intro c hc _; exact hc
  | cons a as ih => intro c hc h; exact ih (jn_ok hc (about_ok (h a (List.mem_cons_self ..)))) fun b hb => h b (List.mem_cons_of_mem _ hb)
theorem jall_ok {as : List Am} (h : ∀ a ∈ as, AmOk a) : CpOk (jall as) := foldl_ok still_ok h
theorem jall_snoc (as : List Am) (a : Am) : jall (as ++ [a]) = jn (jall as) (about a) := by
  unfold jall; rw [List.foldl_append]; rfl
theorem jall_take {as : List Am} {i : Nat} {a : Am} (h : as[i]? = some a) : jall (as.take (i + 1)) = jn (jall (as.take i)) (about a) := by
  rw [List.take_succ, h]; exact jall_snoc _ _
theorem jall_one {a : Am} (h : AmOk a) : jall [a] = about a := still_jn (about_ok h)
/-! ### the spot nearest to the middle -/
def near0 : KS → Option T3
  | .none => none
  | .all => some (0, 0, 1)
  | .spot s => some s
  | .line l => some (along l 0)
theorem along0 (l : T3) : along l 0 = low (l.1 * l.2.2) (l.2.1 * l.2.2) (l.1 * l.1 + l.2.1 * l.2.1) := by
  unfold along; rw [Int.zero_mul, Int.zero_mul, Int.add_zero, Int.sub_zero]
theorem near0_mem {k : KS} (hk : KOk k) {z : T3} (h : near0 k = some z) : Ok z ∧ Mem k z := by
  cases k with
  | none => cases h
  | all => cases h; exact ⟨ok_0, trivial⟩
  | spot s => cases h; exact ⟨hk, rfl⟩
  | line l => cases h; exact ⟨along_ok hk 0, along_on hk 0⟩
theorem along_perp {l : T3} (h : Ln l) : l.1 * (along l 0).2.1 = l.2.1 * (along l 0).1 := by
  have o := along_ok h 0
  have n := cast_ne (ln_sq h)
  have d := cast_ne o.ne
  have e1 := along_re h 0
  have e2 := along_im h 0
  unfold re at e1
  unfold im at e2
  generalize along l 0 = z at *
  simp only [Rat.intCast_add, Rat.intCast_sub, Rat.intCast_mul] at e1 e2 n
  have : ((l.1 * z.2.1 : Int) : Rat) = ((l.2.1 * z.1 : Int) : Rat) := by
    simp only [Rat.intCast_mul]
    grind
  exact_mod_cast this
def sng (c : Cp) : Option Am := (near0 (meet c still)).map fun z => ⟨z, c.t, 0, 1000, c.m⟩
theorem sng_ok {c : Cp} {a : Am} (hc : CpOk c) (h : sng c = some a) : AmOk a ∧ about a = c ∧ near0 (meet c still) = some a.pole ∧ a.near = 0 ∧ a.far = 1000 ∧ a.t = c.t ∧ a.m = c.m := by
  unfold sng at h
  cases e : near0 (meet c still) with
  | none => rw [e] at h; cases h
  | some z =>
    rw [e] at h
    cases h
    obtain ⟨oz, mz⟩ := near0_mem (meet_ok c still) e
    have fz : ap c z = z := by rw [(meet_mem hc still_ok oz).mp mz, ap_still oz]
    exact ⟨⟨oz, hc.t, hc.n, by show (0 : Int) ≤ 0; decide, by show (0 : Int) ≤ 1000; decide, by show (1000 : Int) ≤ 1000; decide⟩, about_of hc oz fz, rfl, rfl, rfl, rfl, rfl⟩
theorem sng_none {c : Cp} : sng c = none ↔ meet c still = .none := by
  unfold sng
  cases e : meet c still with
  | none => exact ⟨fun _ => rfl, fun _ => rfl⟩
  | all => exact ⟨(fun h => by cases h), (fun h => by cases h)⟩
  | spot s => exact ⟨(fun h => by cases h), (fun h => by cases h)⟩
  | line l => exact ⟨(fun h => by cases h), (fun h => by cases h)⟩
theorem near0_B {k : KS} {n m : Nat} (hk : KOk k) (kb : KB n m k) (hn : n ≤ 2600) (hm : m + m + 1 ≤ 2600) {z : T3} (e : near0 k = some z) : B 2600 z := by
  cases k with
  | none => cases e
  | all => cases e; exact B.mono (n := 3) (by decide) (by decide)
  | spot s => cases e; exact B.mono kb hn
  | line l =>
    cases e
    have kb : B m l := kb
    rw [along0]
    exact (low_B (ln_sq hk) (up_lt (by omega) (mul_lt kb.1 kb.2.2)) (up_lt (by omega) (mul_lt kb.2.1 kb.2.2)) (add_lt (mul_lt kb.1 kb.1) (mul_lt kb.2.1 kb.2.1))).mono hm
/-- a single arm is its own -/
theorem sng_single {c : Cp} {a : Am} (hc : CpOk c) (h : sng c = some a) : sng (jall [a]) = some a := by
  obtain ⟨o, e, _⟩ := sng_ok hc h
  rw [jall_one o, e]; exact h
/-- the level line of a spot -/
def lev (s : T3) : Am := ⟨s, (1, 0, 1), 0, 9, true⟩
theorem lev_ok {s : T3} (h : Ok s) : AmOk (lev s) := ⟨h, ok_1, .inl (show (1 : Int) ≠ 0 by decide), (by show (0 : Int) ≤ 0; decide), (by show (0 : Int) ≤ 9; decide), (by show (9 : Int) ≤ 1000; decide)⟩
theorem lev_meet {s : T3} (h : Ok s) : meet (jall [lev s]) still = .line (lf (0, s.2.2, s.2.1)) := by
  have oa := lev_ok h
  have oc := about_ok oa
  have hn : (0, s.2.2, s.2.1).1 ≠ (0 : Int) ∨ (0, s.2.2, s.2.1).2.1 ≠ (0 : Int) := .inr h.ne
  rw [jall_one oa]
  refine ks_ext (meet_ok _ _) (lf_ln hn) fun z hz => ?_
  rw [meet_mem oc still_ok hz, ap_still hz]
  show _ ↔ on (lf (0, s.2.2, s.2.1)) z
  rw [lf_on hn z, on_iff hz]
  have n := cast_ne h.ne
  have ei : im s = (s.2.1 : Rat) / (s.2.2 : Rat) := rfl
  have e1 : re (ap (about (lev s)) z) = re z := by
    unfold ap; rw [re_car oc.t oc.s hz]; unfold about lev; dsimp only; rw [re_sh h ok_1, re_1, im_1]; grind
  have e2 : im (ap (about (lev s)) z) = 2 * im s - im z := by
    unfold ap; rw [im_car oc.t oc.s hz]; unfold about lev; dsimp only; rw [im_sh h ok_1, re_1, im_1]; grind
  have z0 : (((0 : Int)) : Rat) = 0 := rfl
  dsimp only
  rw [z0]
  constructor
  · intro e
    have := congrArg im e
    rw [e2] at this
    grind
  · intro e
    refine ext (ap_ok oc hz) hz e1 ?_
    rw [e2]
    grind
theorem lev_pole {s : T3} (h : Ok s) {a : Am} (e : sng (jall [lev s]) = some a) : a.pole = low 0 s.2.1 s.2.2 := by
  obtain ⟨_, _, h3, _⟩ := sng_ok (jall_ok fun b hb => by rw [List.mem_singleton.mp hb]; exact lev_ok h) e
  rw [lev_meet h] at h3
  have h3 := Option.some.inj h3
  rw [← h3]
  have hn : (0, s.2.2, s.2.1).1 ≠ (0 : Int) ∨ (0, s.2.2, s.2.1).2.1 ≠ (0 : Int) := .inr h.ne
  have hl := lf_ln hn
  have hm := lf_mul (0, s.2.2, s.2.1)
  have sn := sgl_ne (c := s.2.1) hn
  dsimp only at hm sn
  have l1 : (lf (0, s.2.2, s.2.1)).1 = 0 := by
    rcases Int.mul_eq_zero.mp hm.1.symm with z | z
    · exact absurd z sn
    · exact z
  have on1 := along_on hl 0
  rw [lf_on hn, on_iff (along_ok hl 0)] at on1
  have n := cast_ne h.ne
  refine ext (along_ok hl 0) (low_ok h.ne) ?_ ?_
  · rw [along_re hl, low_re h.ne, l1]
    simp only [Int.zero_mul, Int.add_zero, Rat.intCast_zero, Rat.div_def, Rat.zero_mul]
  · rw [low_im h.ne]
    have z0 : (((0 : Int)) : Rat) = 0 := rfl
    dsimp only at on1
    rw [z0] at on1
    grind
theorem lev_some {s : T3} (h : Ok s) : ∃ a, sng (jall [lev s]) = some a := by
  unfold sng
  rw [lev_meet h]
  exact ⟨_, rfl⟩
end Mth
namespace My
open PySem L2 Mth
/-! ### a def of the module and its promise -/
structure D (P : Program) (w : World) (K : PySem.W.Frag) (mg : Str → Option Value) (base : Heap) (x : Str) (k : Nat) (sp : Sp) : Prop where
  ex : ∃ f, FnR P w K mg base CX0 k f sp ∧ PySem.W.keepIn K (.ref f) = true ∧ mg x = some (.ref f)
theorem rOf {P : Program} {w : World} {K : PySem.W.Frag} {mg : Str → Option Value} {base : Heap} {CX : CXT} {k : Nat} {f : Addr} {fd : FuncData} {ps : List Str} {sp : Sp} (F : FnOk P w K mg base CX k f fd ps sp) (b : Binds K fd ps []) : FnR P w K mg base CX k f sp := by
  intro A outer s H us vs Q E hr e0 r h
  have KX : K.In s.heap := e0.mod.kin.keeps fun b o e => (e0.bs b o e).1
  have hl : us.length = ps.length := by rw [← r.length]; exact F.len _ _ _ _ h
  have z := b s us KX (by rw [List.append_nil]; exact hl)
  rw [List.append_nil] at z
  exact F.run A outer s H ⟨us, []⟩ us vs Q E hr e0 z r h
def tCl (sp : Sp) (t : TA) : TE := fun σ H Q => t σ H fun vs H1 => sp vs H1 Q E0
section
variable {X : Cx} {k : Nat} {f : Addr} {sp : Sp} {x : Str} {e : Expr} {es : List Expr} {t : TA} {p pos : Pos}
theorem pcR (F : FnR X.prog X.w X.K X.mg X.base CX0 k f sp) (hr : Room k X.A) (hk : PySem.W.keepIn X.K (.ref f) = true) (hm : X.mg x = some (.ref f)) (ha : PA X (e :: es) t) (hg : Gl X x := by rfl) (hd : (x == ("__debug__" : Str)) = false := by decide)
    (he : starEach (e :: es) X.env = (false, eval e X.env) :: starEach es X.env := by rfl) (hpl : (backTo pos (starEach es X.env)).any (·.1) = false := by rfl) :
    PE X (.Call (.Name x p) (e :: es) [] pos) (tCl sp t) := by
  refine ⟨fun pins s σ H Q I h => ?_⟩
  refine wpAny_Call_Name_kw (ld_glob I hg hm ?_ hd)
  refine PySem.W.callWith_K (h₀ := X.base) I.ok.mod.kin hk (thn (ha.run pos pins s σ H _ I h) fun us s1 ⟨vs, H1, I1, r, q⟩ => ⟨I1.kIn, ?_⟩) he hpl
  exact wpAny_call (run_fnR F hr pass0 I1 r q)
/-- f(e, ..) by the promise of f -/
theorem pc (d : D X.prog X.w X.K X.mg X.base x k sp) (hr : Room k X.A) (ha : PA X (e :: es) t) (hg : Gl X x := by rfl) (hd : (x == ("__debug__" : Str)) = false := by decide)
    (he : starEach (e :: es) X.env = (false, eval e X.env) :: starEach es X.env := by rfl) (hpl : (backTo pos (starEach es X.env)).any (·.1) = false := by rfl) :
    PE X (.Call (.Name x p) (e :: es) [] pos) (tCl sp t) := by
  obtain ⟨f, F, hk, hm⟩ := d.ex
  exact pcR F hr hk hm ha hg hd he hpl
end
section
variable {X : Cx} {k : Nat} {sp : Sp} {x : Str} {p pos : Pos}
/-- f() by the promise of f -/
theorem pc0 (d : D X.prog X.w X.K X.mg X.base x k sp) (hr : Room k X.A) (hg : Gl X x := by rfl) (hd : (x == ("__debug__" : Str)) = false := by decide) : PE X (.Call (.Name x p) [] [] pos) (tCl sp tNil) := by
  obtain ⟨f, F, hk, hm⟩ := d.ex
  refine ⟨fun pins s σ H Q I h => ?_⟩
  refine wpAny_Call_Name_kw (ld_glob I hg hm ?_ hd)
  exact PySem.W.callWith_K0 I.kIn hk (wpAny_call (run_fnR (us := []) (vs := []) F hr pass0 I .nil h))
end
/-! ### operators of own classes -/
def rOwn2 (C : Addr) (sp : Sp) : R2 := fun x y H Q => ∃ a b dx fs dy gs, x = .ref a ∧ y = .ref b ∧ H a = some (.ins C dx fs) ∧ H b = some (.ins C dy gs) ∧ sp [x, y] H Q E0
def rOwn1 (C : Addr) (sp : Sp) : V → Hp → VK → Prop := fun x H Q => ∃ a dx fs, x = .ref a ∧ H a = some (.ins C dx fs) ∧ sp [x] H Q E0
section
variable {X : Cx} {k : Nat} {f C : Addr} {sp : Sp}
theorem back_of {pins : List (Addr × Obj)} {σ : L2.St} {Q : VK} {v : Value} {s' : Shared} (h : EP X pins σ Q v s') : PySem.W.CmpBack (EP X pins σ Q) v s' := by
  have h0 := h
  obtain ⟨z, H', I', rz, q⟩ := h
  cases v <;> first | exact h0 | (exfalso; cases z <;> first | (obtain ⟨t, e⟩ := rz; cases e) | cases rz)
theorem op_own {op : Operator} (F : FnR X.prog X.w X.K X.mg X.base CX0 k f sp) (hr : Room k X.A) (hc : PySem.W.selfFirst X.K C = true)
    (hs : PySem.W.findIn X.K (.ref C) (PySem.dunder op.info.2) = some (some (.ref f))) (hf : PySem.W.isFn X.K (.ref f) = true) : OpR X (binaryOp op) (rOwn2 C sp) := by
  intro pins s σ H x y v u Q I rx ry hq
  obtain ⟨a, b, dx, fs, dy, gs, rfl, rfl, ha, hb', q⟩ := hq
  cases rx
  cases ry
  obtain ⟨mA, J, _⟩ := ins_get I.hok ha
  obtain ⟨mB, J', _⟩ := ins_get I.hok hb'
  obtain ⟨od, J, _⟩ := J.look
  obtain ⟨od', J', _⟩ := J'.look
  obtain ⟨m, hF⟩ := I.fr
  refine PySem.W.binop_K hF I.ok.mod.kin J J'.type hc hs hf ?_
  exact wpAny_mono (wpAny_call (run_fnR (us := [.ref a, .ref b]) (vs := [V.ref a, V.ref b]) F hr pass0 I (.cons rfl (.cons rfl .nil)) q)) (fun v s' h => back_of h) fun _ _ z => z
theorem un_own (F : FnR X.prog X.w X.K X.mg X.base CX0 k f sp) (hr : Room k X.A)
    (hs : PySem.W.findIn X.K (.ref C) "__invert__" = some (some (.ref f))) (hf : PySem.W.isFn X.K (.ref f) = true) : UnR X (unaryOp .Invert) (rOwn1 C sp) := by
  intro pins s σ H x v Q I rx hq
  obtain ⟨a, dx, fs, rfl, ha, q⟩ := hq
  cases rx
  obtain ⟨mA, J, _⟩ := ins_get I.hok ha
  obtain ⟨od, J, _⟩ := J.look
  obtain ⟨m, hF⟩ := I.fr
  refine PySem.W.ksp_inv hF I.ok.mod.kin J hs hf ?_
  exact wpAny_call (run_fnR (us := [.ref a]) (vs := [V.ref a]) F hr pass0 I (.cons rfl .nil) q)
theorem eq_own (F : FnR X.prog X.w X.K X.mg X.base CX0 k f sp) (hr : Room k X.A)
    (hs : PySem.W.findIn X.K (.ref C) "__eq__" = some (some (.ref f))) (hf : PySem.W.isFn X.K (.ref f) = true) : OpR X (compareOp .Eq) (rOwn2 C sp) := by
  intro pins s σ H x y v u Q I rx ry hq
  obtain ⟨a, b, dx, fs, dy, gs, rfl, rfl, ha, hb', q⟩ := hq
  cases rx
  cases ry
  obtain ⟨mA, J, _⟩ := ins_get I.hok ha
  obtain ⟨mB, J', _⟩ := ins_get I.hok hb'
  obtain ⟨od, J, _⟩ := J.look
  obtain ⟨od', J', _⟩ := J'.look
  obtain ⟨m, hF⟩ := I.fr
  show wpAny (model X.prog X.w) X.A (richCompare .Eq (.ref a) (.ref b)) (EP X pins σ Q) X.xe s
  refine PySem.W.cmp_K (op := .Eq) (tb := .ref C) hr.units0 hF I.ok.mod.kin J J'.type (by simp [PySem.W.notFirst]) hs hf ?_
  exact wpAny_mono (wpAny_call (run_fnR (us := [.ref a, .ref b]) (vs := [V.ref a, V.ref b]) F hr pass0 I (.cons rfl (.cons rfl .nil)) q)) (fun v s' h => back_of h) fun _ _ z => z
end
/-! ### // by a number of any sign -/
def CDivX (_ j : Int) : Prop := j ≠ 0 ∧ j.natAbs.log2 < 9000
theorem op_fdivX {X : Cx} : OpR X (binaryOp .FloorDiv) (rI CDivX fun i j => .int (i.fdiv j)) := opI fun i j _ _ _ _ _ hc q =>
  PyProof.Rows.floordiv_int hc.1 q (.inl (PyProof.noPylong_of_log2 hc.2))
theorem divX {i j : Int} {b : Nat} (h : j ≠ 0) (hb : j.natAbs < 2 ^ b) (h0 : 0 < b) (h9 : b ≤ 9000) : CDivX i j := ⟨h, Nat.lt_of_lt_of_le (PySem.Flt.log2_lt_of h0 hb) h9⟩
/-! ### tuples of three ints -/
def v3 (s : T3) : List V := [.int s.1, .int s.2.1, .int s.2.2]
def IsT (K : PySem.W.Frag) (H : Hp) (v : V) (s : T3) : Prop := ∃ p, v = .ref p ∧ SqT K H p (v3 s)
theorem same_T {K : PySem.W.Frag} {H H' : Hp} {a : Addr} {xs : List V} (e : Same H H') (h : SqT K H a xs) : SqT K H' a xs := SqT.ext h e
theorem IsT.same {K : PySem.W.Frag} {H H' : Hp} {v : V} {s : T3} (h : IsT K H v s) (e : Same H H') : IsT K H' v s := by
  obtain ⟨p, rfl, q⟩ := h
  exact ⟨p, rfl, same_T e q⟩
theorem same_new {H : Hp} {p : Addr} (h : H p = none) (o : HO) : Same H (upd H p o) := fun b u q => by rw [upd_ne (ne_of_none q h)]; exact q
theorem IsT.new {K : PySem.W.Frag} {H : Hp} {p : Addr} {a b c : Int} : IsT K (upd H p (.tup [.int a, .int b, .int c])) (.ref p) (a, b, c) := ⟨p, rfl, .inl (.inl upd_same)⟩
theorem yes_of {σ : St} {H : Hp} {A B : Hp → Prop} (h : A H) : tYes σ H (fun b H3 => if b = true then A H3 else B H3) := by
  show if true = true then A H else B H
  rw [if_pos rfl]
  exact h
/-! ### displays of tuples of three written ints -/
def tT3 (K : PySem.W.Frag) (t : T3) : TE := fun _ H Q => ∀ H' p, Same H H' → SqT K H' p (v3 t) → Q (.ref p) H'
def tTups (K : PySem.W.Frag) (ts : List T3) : TA := fun _ H Q => ∀ H' (ps : List Addr), Same H H' → Paired (fun p t => SqT K H' p (v3 t)) ps ts → Q (ps.map V.ref) H'
theorem paT0 {X : Cx} : PA X [] (tTups X.K []) := ⟨fun pos pins s σ H Q I h => (pa_nil (X := X)).run pos pins s σ H Q I (h H [] (Same.refl _) .nil)⟩
theorem paT {X : Cx} {e : Expr} {es : List Expr} {te : TE} {t : T3} {ts : List T3} (he : PE X e te) (hi : ∀ σ H Q, tT3 X.K t σ H Q → te σ H Q) (hr : PA X es (tTups X.K ts))
    (hs : starEach (e :: es) X.env = (false, eval e X.env) :: starEach es X.env := by rfl) : PA X (e :: es) (tTups X.K (t :: ts)) :=
  ⟨fun pos pins s σ H Q I h => (pa_cons he hr hs).run pos pins s σ H Q I (hi σ H _ fun H1 p s1 h1 => fun H2 ps s2 h2 => h H2 (p :: ps) (s1.trans s2) (.cons (same_T s2 h1) h2))⟩
/-! ### all is kept but one list -/
def Keep (d : Addr) (H H' : Hp) : Prop := ∀ b o, b ≠ d → H b = some o → H' b = some o
theorem Keep.of {d : Addr} {H H' : Hp} (s : Same H H') : Keep d H H' := fun b o _ e => s b o e
theorem Keep.trans {d : Addr} {H H1 H2 : Hp} (a : Keep d H H1) (b : Keep d H1 H2) : Keep d H H2 := fun c o n e => b c o n (a c o n e)
theorem keep_upd {d : Addr} {H : Hp} {o : HO} : Keep d H (upd H d o) := fun b u n e => by rw [upd_ne n]; exact e
theorem keep_T {K : PySem.W.Frag} {H H' : Hp} {d p : Addr} {xs ys : List V} (h : SqT K H p xs) (hd : H d = some (.lst ys)) (k : Keep d H H') : SqT K H' p xs := by
  rcases h with (h | ⟨o, h⟩) | h
  · exact .inl (.inl (k _ _ (ne_of h hd (by intro z; cases z)) h))
  · exact .inl (.inr ⟨o, k _ _ (ne_of h hd (by intro z; cases z)) h⟩)
  · exact .inr h
theorem IsT.keep {K : PySem.W.Frag} {H H' : Hp} {v : V} {s : T3} {d : Addr} {ys : List V} (h : IsT K H v s) (hd : H d = some (.lst ys)) (k : Keep d H H') : IsT K H' v s := by
  obtain ⟨p, rfl, q⟩ := h
  exact ⟨p, rfl, keep_T q hd k⟩
/-! ### two ways that meet -/
theorem seq_join {t u : TS} {D : Ends} {σ : St} {H : Hp} (W : St → Hp → Prop) (k : ∀ σ' H', W σ' H' → u D σ' H') (h : ∀ D' : Ends, D'.rt = D.rt → (∀ σ' H', W σ' H' → D'.nx σ' H') → t D' σ H) : tSeq t u D σ H := h { D with nx := u D } rfl k
theorem exp_join {t : TT} {ta tb : TE} {σ : St} {H : Hp} {Q : VK} (W : V → Hp → Prop) (k : ∀ v H', W v H' → Q v H') (h : ∀ Q' : VK, (∀ v H', W v H' → Q' v H') → tIf t ta tb σ H Q') : tIf t ta tb σ H Q := h Q k
theorem small {n : Nat} (h : n ≤ 1000) : n ≤ sizeLine := Nat.le_of_lt (small1000 h)
end My
namespace My
open PySem L2 Mth LamX
/-! ### list.count of flat items -/
section
variable {X : Cx}
def rCount (K : PySem.W.Frag) : V → List V → Hp → VK → Prop := fun x xs H Q => ∃ (a : Addr) (ys : List V) (y : V), x = V.ref a ∧ xs = [y] ∧ SqL K H a ys ∧ flatV y = true ∧ ys.all flatV = true ∧ Q (.int ((ys.countP fun z => eqV z y) : Nat)) H
theorem count_eqU {y : V} : ∀ {ys : List V} {us : List Value}, Vals ys us → ys.all flatV = true → us.countP (eqU y) = ys.countP fun z => eqV z y
  | _, _, .nil, _ => rfl
  | z :: ys, u :: us, .cons r rs, f => by
    rw [List.all_cons, Bool.and_eq_true] at f
    rw [List.countP_cons, List.countP_cons, count_eqU rs f.2, eqU_of r f.1]
theorem mt_count : MtR X "list.count" (rCount X.K) := by
  intro pins s σ H x xs v us Q I rx rxs h
  obtain ⟨a, ys, y, rfl, rfl, hs, fy, fys, q⟩ := h
  cases rx
  cases rxs with
  | cons ry rt =>
    rename_i uy ut
    cases rt
    obtain ⟨its, rv, ⟨⟨cls, dd, data, sl⟩, n, ho, hc, hdn, hd⟩, hlen⟩ := I.list hs
    simp only at hc hd
    subst hc hd
    refine call_meets PySem.F.slot_list_count ⟨_, ho, rfl⟩ PySem.F.entry_list_count (PySem.F.args_list_count_2 _ _)
      (SeqAt.list_countAt a its.toArray n dd sl uy (eqU y)) ⟨ho, fun u' hu' => mem_eqAt ry fy rv fys u' (by simpa using hu'), ?_⟩
    have ec : its.toArray.toList.countP (eqU y) = ys.countP fun z => eqV z y := count_eqU rv fys
    refine ⟨.int ((ys.countP fun z => eqV z y) : Nat), H, I.tok _, ⟨s.toks, ?_⟩, q⟩
    show Value.int ((its.toArray.toList.countP (eqU y) : Nat) : Int) s.toks = _
    rw [ec]
end
/-! ### what is never asked -/
def tNev : TE := fun _ _ _ => False
theorem pe_nev {X : Cx} {e : Expr} : PE X e tNev := ⟨fun _ _ _ _ _ _ h => h.elim⟩
/-! ### the kinds of a caught error -/
def tIs (a : Addr) (i : Nat) (bs : List Bool) : TA := fun σ H Q => σ[i]? = some (some (.ref a)) ∧ Q (bs.map V.bl) H
section
variable {X : Cx} {a D : Addr} {oe : Obj} {pn : List (Addr × Obj)} {i : Nat}
theorem paIs0 : PA (X.suite a ((a, oe) :: pn)) [] (tIs a i []) := ⟨fun pos pins s σ H Q I h => (pa_nil (X := X.suite a ((a, oe) :: pn))).run pos pins s σ H Q I h.2⟩
theorem paIs {x n : Str} {p p1 p2 pos : Pos} {C : Addr} {b : Bool} {bs : List Bool} {es : List Expr} (EC : ExcC X.K D) (hz : Zc (.ref D) none oe) (hf : ∃ vs, oe.data = .fields vs) (hk : PySem.W.kitOne X.K (.ref D) (.ref C) = some b)
    (hm : X.mg x = some (.ref C)) (bi : X.mg "isinstance" = none) (hg : Gl X x) (hgi : Gl X "isinstance") (hd : (x == ("__debug__" : Str)) = false) (hN : X.N[i]? = some n) (hv : Vis X.env.scope n) (hnd : (n == ("__debug__" : Str)) = false) (hnc : (n == ("__classdict__" : Str)) = false)
    (hr : PA (X.suite a ((a, oe) :: pn)) es (tIs a i bs))
    (hs : starEach ((.Call (.Name "isinstance" p) [.Name n p1, .Name x p2] [] pos) :: es) X.env = (false, eval (.Call (.Name "isinstance" p) [.Name n p1, .Name x p2] [] pos) X.env) :: starEach es X.env := by rfl)
    (he : starEach (.Name n p1 :: [.Name x p2]) X.env = (false, eval (.Name n p1) X.env) :: starEach [.Name x p2] X.env := by rfl) :
    PA (X.suite a ((a, oe) :: pn)) ((.Call (.Name "isinstance" p) [.Name n p1, .Name x p2] [] pos) :: es) (tIs a i (b :: bs)) := by
  have h1 : PE (X.suite a ((a, oe) :: pn)) (.Call (.Name "isinstance" p) [.Name n p1, .Name x p2] [] pos) (tCB (rIsE X.K D a) (tCons (tVar i) (tCons (tC (.ref C)) tNil))) :=
    pe_callB (call_isE EC hz hf) hgi bi (by decide +kernel) (pa_cons (pe_var hN hv hnd hnc) (pa_cons (pe_glob (v := .ref C) hg hm rfl hd) pa_nil rfl) he) (by decide) (by decide) rfl rfl
  refine ⟨fun pos' pins s σ H Q I h => (pa_cons h1 hr hs).run pos' pins s σ H Q I ?_⟩
  exact ⟨_, h.1, .ref C, .ref C, b, rfl, fun u r => r, hk, h.1, h.2⟩
end
end My
namespace My
open PySem L2 Mth PyProof.Rows
/-! ### a op b op c op d as a test -/
def tChain3 (r r' r'' : R2) (ta tb tc td : TE) : TE := fun σ H Q => ta σ H fun x H1 => tb σ H1 fun y H2 => r x y H2 fun z H3 => ∃ k, z = .bl k ∧
  (if k = true then tc σ H3 fun w' H4 => r' y w' H4 fun z' H5 => ∃ k', z' = .bl k' ∧ (if k' = true then td σ H5 fun u' H6 => r'' w' u' H6 Q else Q (.bl false) H5) else Q (.bl false) H3)
theorem pt_chain3 {X : Cx} {a b c d : Expr} {ta tb tc td : TE} {pos : Pos} {op op' op'' : CmpOp} {r r' r'' : R2} (ho : OpR X (compareOp op) r) (ho' : OpR X (compareOp op') r') (ho'' : OpR X (compareOp op'') r'') (ha : PE X a ta) (hb : PE X b tb) (hc : PE X c tc) (hd : PE X d td)
    (hm : lastMarks [op, op', op''] [b, c, d] = false := by with_unfolding_all rfl) : PT X (.Compare a [op, op', op''] [b, c, d] pos) (tTest (tChain3 r r' r'' ta tb tc td)) := by
  refine ⟨fun pins s σ H Q I h => ?_⟩
  refine isTrue_chain (thn (ha.run pins s σ H _ I h) fun v s1 ⟨x, H1, I1, r1, q1⟩ => test_link (thn (hb.run pins s1 σ H1 _ I1 q1) fun u s2 ⟨y, H2, I2, r2, q2⟩ =>
    thn (ho pins s2 σ H2 x y v u _ I2 r1 r2 q2) fun e s3 ⟨z, H3, I3, r3, k, ek, q3⟩ => ?_)) hm
  subst ek
  cases r3
  refine wpAny_truthy_bool ?_
  cases k with
  | false =>
    obtain ⟨k', e', q'⟩ := q3
    cases e'
    exact ite_ff ⟨H3, I3, q'⟩
  | true =>
    refine ite_tt (test_link (thn (hc.run pins s3 σ H3 _ I3 q3) fun w' s4 ⟨z', H4, I4, r4, q4⟩ => thn (ho' pins s4 σ H4 y z' u w' _ I4 r2 r4 q4) fun d' s5 ⟨z2, H5, I5, r5, k2, e2, q5⟩ => ?_))
    subst e2
    cases r5
    refine wpAny_truthy_bool ?_
    cases k2 with
    | false =>
      obtain ⟨k', e', q'⟩ := q5
      cases e'
      exact ite_ff ⟨H5, I5, q'⟩
    | true =>
      refine ite_tt (test_last (thn (hd.run pins s5 σ H5 _ I5 q5) fun w2 s6 ⟨z3, H6, I6, r6, q6⟩ => thn (ho'' pins s6 σ H6 z' z3 w' w2 _ I6 r4 r6 q6) fun d3 s7 ⟨z4, H7, I7, r7, k3, e3, q7⟩ => ?_))
      subst e3
      cases r7
      exact wpAny_truthy_bool ⟨H7, I7, q7⟩
/-! ### instances made with no argument, with a starred one -/
section
variable {X : Cx} {k : Nat} {f C : Addr} {sp : Sp} {x : Str} {p pos sp_ : Pos} {e : Expr} {te : TE}
theorem pe_makeR0 (M : Mk X.K C f) (F : FnR X.prog X.w X.K X.mg X.base CX0 k f sp) (hr : Room (k + 1) X.A) (hg : Gl X x) (hm : X.mg x = some (.ref C)) (hdb : (x == ("__debug__" : Str)) = false := by decide) : PE X (.Call (.Name x p) [] [] pos) (StX.tMakeR C sp E0 tNil) := by
  refine ⟨fun pins s σ H Q I h => ?_⟩
  refine wpAny_Call_Name_kw (ld_glob I hg hm ?_ hdb)
  exact PySem.W.callWith_K0 I.kIn M.kp (StX.run_makeR (us := []) M F hr pass0 I .nil h)
def tMakeS (K : PySem.W.Frag) (C : Addr) (sp : Sp) (te : TE) : TE := fun σ H Q => te σ H fun y H1 => ∃ a xs, y = V.ref a ∧ (SqT K H1 a xs ∨ SqL K H1 a xs) ∧ ∀ x dx, H1 x = Option.none → H1 dx = Option.none → dx ≠ x →
  sp (V.ref x :: xs) (upd (upd H1 dx (.own x)) x (.ins C dx [])) (fun v H2 => v = .non ∧ Q (.ref x) H2) E0
theorem pe_makeS (M : Mk X.K C f) (F : FnR X.prog X.w X.K X.mg X.base CX0 k f sp) (hr : Room (k + 1) X.A) (hg : Gl X x) (hm : X.mg x = some (.ref C)) (he : PE X e te) (hdb : (x == ("__debug__" : Str)) = false := by decide)
    (hst : starEach [.Starred e sp_] X.env = [(true, eval e X.env)] := by rfl) : PE X (.Call (.Name x p) [.Starred e sp_] [] pos) (tMakeS X.K C sp te) := by
  refine ⟨fun pins s σ H Q I h => ?_⟩
  refine wpAny_Call_Name_kw (ld_glob I hg hm ?_ hdb)
  refine PySem.W.callWith_S (h₀ := X.base) I.ok.mod.kin M.kp (thn (he.run pins s σ H _ I h) fun v s1 ⟨y, H1, I1, ry, a, xs, ey, hxs, q⟩ => ?_) hst
  subst ey
  obtain rfl : v = Value.ref a := ry
  exact StX.star_any I1 hxs fun us s2 I2 rv => ⟨I2.kIn, StX.run_makeR M F hr pass0 I2 rv q⟩
end
/-! ### properties that tell a field -/
structure MPf (P : Program) (w : World) (K : PySem.W.Frag) (mg : Str → Option Value) (base : Heap) (C : Addr) (x f : Str) : Prop where
  cl : Cls K C
  ex : ∃ g fd p, FnOk P w K mg base CX0 1 g fd ["self"] (getSp C f) ∧ Binds K fd ["self"] [] ∧ PropOf K C x p g
theorem pe_pf {X : Cx} {C : Addr} {x f : Str} {e : Expr} {te : TE} {pos : Pos} (M : MPf X.prog X.w X.K X.mg X.base C x f) (hr : Room 2 X.A) (he : PE X e te) (hab : attributeBase e x X.env (eval e X.env) = eval e X.env := by rfl) : PE X (.Attribute e x pos) (tProp C (getSp C f) [] E0 te) := by
  obtain ⟨g, fd, p, F, b, hp⟩ := M.ex
  exact pe_prop he M.cl hp F hr b .nil pass0 hab
theorem pf_of {C p dx : Addr} {H : Hp} {Q : VK} {fs : List (Str × V)} {f : Str} {z : V} (h : H p = some (.ins C dx fs)) (l : fs.lookup f = some z) (q : Q z H) : ∃ a dx fs, V.ref p = .ref a ∧ H a = some (.ins C dx fs) ∧ getSp C f (.ref a :: []) H Q E0 :=
  ⟨p, dx, fs, rfl, h, p, dx, fs, z, rfl, h, l, q⟩
/-! ### fields -/
theorem putF_len (x : Str) (v : V) : ∀ fs : List (Str × V), (putF x v fs).length ≤ fs.length + 1
  | [] => Nat.le_refl _
  | (y, u) :: fs => by
    unfold putF
    split
    · simp
    · have := putF_len x v fs
      simp only [List.length_cons]
      omega
/-- all is kept but an instance that is being made -/
theorem keepI_T {K : PySem.W.Frag} {H H' : Hp} {d p C dx : Addr} {fs : List (Str × V)} {xs : List V} (h : SqT K H p xs) (hd : H d = some (.ins C dx fs)) (k : Keep d H H') : SqT K H' p xs := by
  rcases h with (h | ⟨o, h⟩) | h
  · exact .inl (.inl (k _ _ (ne_of h hd (by intro z; cases z)) h))
  · exact .inl (.inr ⟨o, k _ _ (ne_of h hd (by intro z; cases z)) h⟩)
  · exact .inr h
/-! ### a def with a star parameter behind its others -/
theorem fun_star {P : Program} {w : World} {K : PySem.W.Frag} {mg : Str → Option Value} {base : Heap} {x qual : Str} {st : Stmt} {f : Addr} {fd : FuncData} {N ps : List Str} {pv : Str} {k : Nat} {sp : Sp} (F : Fun K x qual st f fd) (S : FnScope N (ps ++ [pv]) (defScope st))
    (hb : ∀ (kV doc pm : Value) (an : Option Addr) (cdv ct : Value) (us rest : List Value), us.length = ps.length → bindArgs (PySem.W.fnOf x qual (defArgs st) (defBody st) (defScope st) .none kV doc pm an cdv ct) ⟨us ++ rest, []⟩ = (newTuple rest >>= fun t => pure (ps.zip us ++ [(pv, t)])))
    (hbody : ∀ (cdv : Value) (A : Around) (outer : List Env) (s : Shared) (H : Hp) (vs : List V) (Q : VK) (E : XK), Room k (A.deeper (envOfC qual (defScope st) s.heap.objs.size f cdv)) → sp vs H Q E →
      ∃ t, PSs (cxOf CX0 P w K mg base N qual (defScope st) f cdv A outer s H E).nox (defBody st) t ∧ t { nx := fun _ H' => Q .non H', rt := Q } (start N vs) H) :
    FnR P w K mg base CX0 (k + 1) f (fun vs H Q E => ∃ ws rest, vs = ws ++ rest ∧ ws.length = ps.length ∧ rest.length ≤ sizeLine ∧ ∀ p, H p = Option.none → sp (ws ++ [V.ref p]) (upd H p (.tup rest)) Q E) := by
  obtain ⟨oc, od, kV, doc, pm, an, cdv, ct, osl, rfl, lk, hcd⟩ := F.ex
  refine StX.fn_star lk hcd S StX.cxUp_none (hb kV doc pm an cdv ct) fun A outer s H vs Q E hr hsp => ?_
  obtain ⟨t, h, q⟩ := hbody cdv A outer s H vs Q E hr hsp
  exact ⟨t, h.nox, q⟩
end My
namespace My
open PySem PySem.Spec PyProof.Rows L2 TS
/-! ### sorted(a set of tuples of ints of any sign): how many there are -/
/-- ints of any sign, ranked -/
def rkS (B : Int) (ns : List Int) : Int := code (2 * B) (ns.map (· + B))
def SdS (B : Int) (ns : List Int) : Prop := ∀ m ∈ ns, -B ≤ m ∧ m < B
theorem SdS.up {B : Int} {ns : List Int} (h : SdS B ns) : Bd (2 * B) (ns.map (· + B)) := fun m hm => by
  obtain ⟨k, hk, rfl⟩ := List.mem_map.mp hm
  have := h k hk
  constructor <;> omega
theorem SdS.tl {B k : Int} {ns : List Int} (h : SdS B (k :: ns)) : SdS B ns := fun m hm => h m (List.mem_cons_of_mem _ hm)
theorem rkS_lt {B k l : Int} {ns ms : List Int} (e : ns.length = ms.length) (h1 : SdS B ns) (h2 : SdS B ms) (h : k < l) : rkS B (k :: ns) < rkS B (l :: ms) :=
  code_lt (by rw [List.length_map, List.length_map]; exact e) h1.up h2.up (show k + B < l + B by omega)
theorem rkS_eq {B k : Int} {ns ms : List Int} (e : ns.length = ms.length) : rkS B (k :: ns) < rkS B (k :: ms) ↔ rkS B ns < rkS B ms := code_same (by rw [List.length_map, List.length_map]; exact e)
section
variable {prog : Program} {w : World} {A : Around} {E : Value → Shared → Prop} {s : Shared}
theorem lexS {Q : Bool → Shared → Prop} {B : Int} {c : Bool} {us : List Value} {ns : List Int} (hu : IntsAre us ns) : ∀ {ws : List Value} {ms : List Int} (j : Nat), IntsAre ws ms → ns.length = ms.length → SdS B ns → SdS B ms → Q (decide (rkS B ns < rkS B ms)) s → PySem.W.KatLex prog w A c false Q (us.zip ws) j s := by
  induction hu with
  | nil =>
    intro ws ms j hw hl _ _ q
    cases hw with
    | nil =>
      rw [decide_eq_false (Int.lt_irrefl _)] at q
      exact PySem.W.kat_nil q
    | cons _ _ _ => cases hl
  | @cons k tk us ns hu ih =>
    intro ws ms j hw hl b1 b2 q
    cases hw with
    | nil => cases hl
    | @cons l tl ws ms hw =>
      have el : ns.length = ms.length := Nat.succ.inj hl
      show PySem.W.KatLex prog w A c false Q ((.int k tk, .int l tl) :: us.zip ws) j s
      refine PySem.W.kat_cons (wpAny_eqBool_int ?_)
      by_cases same : k = l
      · subst same
        rw [decide_eq_decide.mpr (rkS_eq el)] at q
        rw [beq_self_eq_true]
        exact PySem.W.kat_yes (ih (j + 1) hw el b1.tl b2.tl q)
      · have er : decide (rkS B (k :: ns) < rkS B (l :: ms)) = decide (k < l) := decide_eq_decide.mpr ⟨fun y => by
            rcases Int.lt_or_gt_of_ne same with z | z
            · exact z
            · have := rkS_lt el.symm b2.tl b1.tl z
              omega, rkS_lt el b1.tl b2.tl⟩
        rw [er] at q
        rw [beq_eq_false_iff_ne.mpr same]
        exact PySem.W.kat_no (oneLt_ints _ q)
/-- tuples of d ints each -/
def TupsS (h : Heap) (d : Nat) (B : Int) (us : List Value) : Prop := ∀ u ∈ us, ∃ ns, TupInts h u ns ∧ ns.length = d + 1 ∧ SdS B ns
theorem headsS {h : Heap} {d : Nat} {B : Int} : ∀ us : List Value, TupsS h d B us → ∃ fs, PySem.W.KatTups h us fs ∧ fs.length = us.length ∧ ∀ y ∈ fs, ∃ k t, y = Value.int k t
  | [], _ => ⟨[], .nil, rfl, fun y hy => nomatch hy⟩
  | u :: us, T => by
    obtain ⟨fs, k1, k2, k3⟩ := headsS us fun z hz => T z (List.mem_cons_of_mem _ hz)
    obtain ⟨ns, ⟨a, arr, rfl, ⟨ob, g1, g2, m, g3⟩, ia⟩, ln, _⟩ := T u List.mem_cons_self
    cases ea : arr.toList with
    | nil =>
      rw [ea] at ia
      have := ia.length
      rw [ln] at this
      cases this
    | cons z zs =>
      obtain ⟨k, t, ez⟩ := ia.all z (by rw [ea]; exact List.mem_cons_self)
      have e0 : arr[0]? = some z := by
        rw [← Array.getElem?_toList, ea]; rfl
      refine ⟨z :: fs, .cons g1 g2 g3 e0 k1, congrArg Nat.succ k2, fun y hy => ?_⟩
      cases hy with
      | head => exact ⟨k, t, ez⟩
      | tail _ hy => exact k3 y hy
theorem TupsS.up {h h' : Heap} {d : Nat} {B : Int} {us : List Value} (T : TupsS h d B us) (k : ∀ b o, h.get? b = some o → o.cls = .type "tuple" → h'.get? b = some o) : TupsS h' d B us := fun u hu => by
  obtain ⟨ns, t, r⟩ := T u hu
  exact ⟨ns, t.keeps k, r⟩
theorem kindS {d : Nat} {B : Int} {us : List Value} {Q : SortKind → Shared → Prop} (two : 2 ≤ us.length) (T : TupsS s.heap d B us) (q : ∀ κ, Cmp prog w A s κ (pairsOf us) (fun u => rkS B (intsOf s.heap u)) → Q κ s) : wpAny (model prog w) A (keyKind' us.toArray) Q E s := by
  obtain ⟨fs, k1, k2, k3⟩ := headsS us T
  refine PySem.W.kat_kind (T := Value.type "int") k1 (by omega) (fun y hy => ?_) rfl (q _ fun x y hx hy Q2 E2 q2 => ?_)
  · obtain ⟨k, t, rfl⟩ := k3 y hy
    exact .of_pure rfl
  rw [pairsOf_toList] at hx hy
  obtain ⟨ns, tx, lx, bx⟩ := T _ (mem_zip_self hx).2
  obtain ⟨ms, ty, ly, by_⟩ := T _ (mem_zip_self hy).2
  have q2 : Q2 (decide (rkS B (intsOf s.heap x.1) < rkS B (intsOf s.heap y.1))) s := q2
  rw [tx.ints, ty.ints] at q2
  obtain ⟨a1, r1, f1, ⟨o1, u1, u2, m1, u3⟩, j1⟩ := tx
  obtain ⟨a2, r2, f2, ⟨o2, v1, v2, m2, v3⟩, j2⟩ := ty
  have sz : decide (r1.size < r2.size) = false := decide_eq_false (by have n1 := j1.length; have n2 := j2.length; rw [Array.length_toList] at n1 n2; omega)
  rw [f1, f2]
  refine PySem.W.kat_lt u1 u3 v1 v3 ?_
  rw [sz]
  exact lexS j1 0 j2 (by omega) bx by_ q2
theorem sortS {l : Addr} {us : List Value} {n d : Nat} {B : Int} {Q : Value → Shared → Prop} (ho : s.heap.get? l = some (seqObj "list" us.toArray n)) (few : us.length < 64) (T : TupsS s.heap d B us)
    (q : ∀ out : Array Value, out.toList.Perm us → Q .none { s with heap := sortedHeap s.heap l us out }) : wpAny (model prog w) A (call (.builtin "list.sort") [.ref l]) Q E s := by
  have nl : ∀ b o, s.heap.get? b = some o → o.cls = .type "tuple" → b ≠ l := fun b o e hc z => by
    rw [z, ho] at e
    rw [← Option.some.inj e] at hc
    have hc : Value.type "list" = Value.type "tuple" := hc
    injection hc with hc
    exact absurd hc (by decide)
  refine wpAny_call_entry slot_list_sort ⟨_, ho, rfl⟩ entry_list_sort (SK.plain_sort (r := fun u => rkS B (intsOf (midHeap s.heap l us) u)) ho few (fun two Q2 q2 => ?_) fun ps out e1 e2 _ => ⟨_, rfl, q out ?_⟩) (args_list_sort _)
  · exact kindS (s := { s with heap := midHeap s.heap l us }) two (T.up fun b o e hc => midHeap_old (nl b o e hc) e) q2
  · rw [e1]
    have := e2.map Prod.snd
    rwa [List.map_snd_zip (Nat.le_refl _)] at this
end
theorem u65 {k : Nat} {A : Around} (r : Room k A) : A.units + 65 < cLine := by have := r.un; omega
/-! ### shapes of data -/
theorem canAll : ∀ {xs : List PyData}, (∀ x ∈ xs, x.canLay0 = true) → PyData.canLayAll0 xs = true
  | [], _ => rfl
  | x :: xs, h => by
    unfold PyData.canLayAll0
    rw [h x List.mem_cons_self, canAll fun y hy => h y (List.mem_cons_of_mem _ hy)]
    rfl
theorem depAll {n : Nat} : ∀ {xs : List PyData}, (∀ x ∈ xs, x.depth ≤ n) → PyData.depthAll xs ≤ n
  | [], _ => Nat.zero_le _
  | x :: xs, h => by
    unfold PyData.depthAll
    have h1 := h x List.mem_cons_self
    have h2 := depAll fun y hy => h y (List.mem_cons_of_mem _ hy)
    omega
theorem shapedL {xs : List PyData} (h : ∀ x ∈ xs, x.canLay0 = true ∧ x.depth ≤ 60) : SeqAt.shaped (.list xs) = true := by
  show (PyData.canLayAll0 xs && decide (PyData.depthAll xs + 1 ≤ 64)) = true
  rw [canAll fun x hx => (h x hx).1, decide_eq_true (by have := depAll (n := 60) fun x hx => (h x hx).2; omega)]
  rfl
theorem eqvL : ∀ (xs : List PyData), PyData.eqv (.list xs) (.list []) = xs.isEmpty
  | [] => rfl
  | _ :: _ => rfl
theorem paired_perm {α β : Type} {R : α → β → Prop} {us ws : List α} (p : ws.Perm us) : ∀ {ps : List β}, Paired R us ps → ∃ qs : List β, qs.Perm ps ∧ Paired R ws qs := by
  induction p with
  | nil => intro ps h; cases h; exact ⟨[], .nil, .nil⟩
  | cons x _ ih =>
    intro ps h
    cases h with
    | cons r t =>
      obtain ⟨qs, a, b⟩ := ih t
      exact ⟨_ :: qs, a.cons _, .cons r b⟩
  | swap x y l =>
    intro ps h
    cases h with
    | cons r t =>
      cases t with
      | cons r2 t2 => exact ⟨_ :: _ :: _, .swap _ _ _, .cons r2 (.cons r t2)⟩
  | trans _ _ ih1 ih2 =>
    intro ps h
    obtain ⟨qs, a, b⟩ := ih2 h
    obtain ⟨rs, c, d⟩ := ih1 b
    exact ⟨rs, c.trans a, d⟩
section
variable {X : Cx}
def rSortedN (K : PySem.W.Frag) (P : Program) (w : World) : List V → Hp → VK → Prop := fun vs H Q => ∃ (a : Addr) (L : List (Addr × List Int)) (d : Nat) (B : Int), vs = [V.ref a] ∧ H a = some (SetTO P w a L) ∧ (∀ p ∈ L, SqT K H p.1 (p.2.map V.int) ∧ p.2.length = d + 1 ∧ SdS B p.2) ∧
  ((L.map (·.2)).Nodup → L.length < 64 → ∀ zs p, zs.length = L.length → H p = none → Q (.ref p) (upd H p (.lst zs)))
theorem cr_sortedN (hc : X.calm = true) : CallR X (.builtin "sorted") (rSortedN X.K X.prog X.w) := by
  intro pins s σ H vs us Q I r h
  obtain ⟨a, L, d, B, rfl, ha, hL, q⟩ := h
  obtain ⟨es, ep, t, R⟩ := ((I.hok a _ ha).1 : SetT0 X.prog X.w s.heap a L).full fun p hp => I.isT (hL p hp).1
  have few := R.few
  rw [Vals.ref1 r]
  refine Calls.call_function_entry kind_sorted plain_sorted entry_sorted (args_sorted1 _) ?_
  unfold Builtin.«sorted»
  refine wpAny_bind (m := checkCount "sorted" 1 1 _) (wpAny_pure ?_)
  obtain ⟨ob, g1, g2, g3⟩ := R.ob
  have hes : es.toList.map (·.2) = L.map fun q => Value.ref q.1 := by
    rw [R.rows, rowsOf, List.map_map]; rfl
  refine wpAny_bind (collect_set (A := X.A.in1) (I.ok.hd hc) ⟨ob, g1, g2.1, g3⟩ R.fits (by rw [R.size]; exact Nat.lt_of_lt_of_le few (by decide)) R.tab.ris R.led fun s1 out k1 k2 k3 k4 pm => ?_)
  rw [hes] at pm
  have lo : out.length = L.length := by rw [pm.length_eq, List.length_map]
  refine wpAny_bind (wpAny_newList ?_ (by rw [sizeLine_eq]; omega))
  have hl : (s1.heap.push (seqObj "list" out.toArray 0)).get? s1.heap.objs.size = some (seqObj "list" out.toArray 0) := Heap.get?_push_size _ rfl
  have up : ∀ b o, s.heap.get? b = some o → (s1.heap.push (seqObj "list" out.toArray 0)).get? b = some o := fun b o e => Heap.get?_push_of_some _ (k1 b o e)
  refine wpAny_bind (wpAny_holding (sortS (s := { s1 with heap := s1.heap.push (seqObj "list" out.toArray 0) }) (d := d) (B := B) hl (by omega) (fun u hu => ?_) fun arr pa => ?_))
  · obtain ⟨p, hp, rfl⟩ := List.mem_map.mp (pm.mem_iff.mp hu)
    exact ⟨p.2, tupInts_of (P := X.prog) (w := X.w) (isT_keep (R.tup p hp) up), (hL p hp).2⟩
  obtain ⟨c, hc'⟩ := sortedHeap_at (vs := out) (out := arr) hl
  have la : arr.toList.length = L.length := by rw [pa.length_eq, lo]
  have refs : ∀ u ∈ arr.toList, ∃ b, u = Value.ref b := fun u hu => by
    obtain ⟨p, _, rfl⟩ := List.mem_map.mp (pm.mem_iff.mp (pa.mem_iff.mp hu))
    exact ⟨_, rfl⟩
  have hn : H s1.heap.objs.size = none := I.hok.fresh k2
  have kall : ∀ b o, s.heap.get? b = some o → (sortedHeap (s1.heap.push (seqObj "list" out.toArray 0)) s1.heap.objs.size out arr).get? b = some o := fun b o e => by
    have lt := Heap.lt_size (k1 b o e)
    rw [sortedHeap_old (Nat.ne_of_lt lt) (by rw [size_push']; exact Nat.lt_succ_of_lt lt)]
    exact up b o e
  have hzl : (arr.toList.map backV).length ≤ sizeLine := by rw [List.length_map, sizeLine_eq]; omega
  have J : Inv X pins σ (upd H s1.heap.objs.size (.lst (arr.toList.map backV))) { s with heap := sortedHeap (s1.heap.push (seqObj "list" out.toArray 0)) s1.heap.objs.size out arr, gens := s1.gens, drawn := s1.drawn, toks := s1.toks } :=
    I.call (ch := []) (Un.laid kall k2 hn) (I.hok.laid kall k2 ⟨hzl, arr.toList, c, vals_back refs, hc'⟩) (by rw [k3]; exact I.bare) (fun _ z => nomatch z)
  have es1 : ({ s1 with heap := sortedHeap (s1.heap.push (seqObj "list" out.toArray 0)) s1.heap.objs.size out arr } : Shared) = { s with heap := sortedHeap (s1.heap.push (seqObj "list" out.toArray 0)) s1.heap.objs.size out arr, gens := s1.gens, drawn := s1.drawn, toks := s1.toks } := by
    cases s1
    cases s
    cases k4
    rfl
  refine wpAny_pure ⟨_, rfl, ?_⟩
  show EP X pins σ Q (.ref s1.heap.objs.size) ({ s1 with heap := sortedHeap (s1.heap.push (seqObj "list" out.toArray 0)) s1.heap.objs.size out arr } : Shared)
  rw [es1]
  exact ⟨.ref s1.heap.objs.size, _, J, rfl, q R.nd few _ _ (by rw [List.length_map]; exact la) hn⟩
end
end My
namespace My
open PySem L2 Mth
def topS (i : Nat) : Stmt := PySem.Challenge.pw_copyarms_k08_copies_that_carry.main.body.getD i (.Pass ⟨0, 0, 0, 0⟩)
end My
namespace My
open PySem L2 Mth
abbrev s_carried : Stmt := topS 37
theorem sc_carried : FnScope ["turn", "shift", "mirrored", "spot"] ["turn", "shift", "mirrored", "spot"] (defScope s_carried) := ⟨rfl, rfl, rfl, by decide +kernel, rfl, by decide +kernel, by decide +kernel⟩
abbrev s_common_divisor : Stmt := topS 26
theorem sc_common_divisor : FnScope ["one", "other"] ["one", "other"] (defScope s_common_divisor) := ⟨rfl, rfl, rfl, by decide +kernel, rfl, by decide +kernel, by decide +kernel⟩
abbrev s_faced : Stmt := topS 36
theorem sc_faced : FnScope ["number", "mirrored", "x", "y", "d"] ["number", "mirrored"] (defScope s_faced) := ⟨rfl, rfl, rfl, by decide +kernel, rfl, by decide +kernel, by decide +kernel⟩
abbrev s_inverse : Stmt := topS 35
theorem sc_inverse : FnScope ["number", "x", "y", "d"] ["number"] (defScope s_inverse) := ⟨rfl, rfl, rfl, by decide +kernel, rfl, by decide +kernel, by decide +kernel⟩
abbrev s_negative : Stmt := topS 32
theorem sc_negative : FnScope ["number", "x", "y", "d"] ["number"] (defScope s_negative) := ⟨rfl, rfl, rfl, by decide +kernel, rfl, by decide +kernel, by decide +kernel⟩
abbrev s_plus : Stmt := topS 31
theorem sc_plus : FnScope ["one", "other", "x", "y", "d", "u", "v", "e"] ["one", "other"] (defScope s_plus) := ⟨rfl, rfl, rfl, by decide +kernel, rfl, by decide +kernel, by decide +kernel⟩
abbrev s_product : Stmt := topS 34
theorem sc_product : FnScope ["one", "other", "x", "y", "d", "u", "v", "e"] ["one", "other"] (defScope s_product) := ⟨rfl, rfl, rfl, by decide +kernel, rfl, by decide +kernel, by decide +kernel⟩
abbrev s_spot_at : Stmt := topS 30
theorem sc_spot_at : FnScope ["x", "y", "d", "divisor"] ["x", "y", "d"] (defScope s_spot_at) := ⟨rfl, rfl, rfl, by decide +kernel, rfl, by decide +kernel, by decide +kernel⟩
section
variable {P : Program} {w : World} {K : PySem.W.Frag} {mg : Str → Option Value} {base : Heap}
/-- the greatest common divisor -/
def sp_gcd : Sp := fun vs H Q _ => ∃ a b : Int, vs = [.int a, .int b] ∧ Q (.int ((Int.gcd a b : Nat) : Int)) H
theorem ok_common_divisor {f : Addr} {fd : FuncData} (b_abs : mg "abs" = none) (F : Fun K "common_divisor" "common_divisor" s_common_divisor f fd) : FnOk P w K mg base CX0 1 f fd ["one", "other"] sp_gcd := by
  refine F.ok sc_common_divisor (fun vs H Q E h => ?_) (fun cdv A outer s H vs Q E hr h => ?_)
  · obtain ⟨a, b, rfl, _⟩ := h
    rfl
  obtain ⟨a, b, rfl, q⟩ := h
  refine ⟨_, (pss_cons (ps_while PassesOwn.never (pt_cmpR (op_ne) (pv 1) pe_int (nomark _)) (pss_one (ps_par (i := 0) (j := 1) (by rfl) sc_common_divisor.nd rfl rfl (by decide) rfl rfl (pa_cons (pv 1) (pa_cons (pe_op op_modN (pv 0) (pv 1)) pa_nil)) (by rfl))))
    (pss_one (ps_ret (pe_callB call_abs (by rfl) b_abs (by decide +kernel) (pa_cons (pv 0) pa_nil))))), ?_⟩
  refine while_by (fun σ H' => H' = H ∧ ∃ x y : Int, σ = [some (.int x), some (.int y)] ∧ Int.gcd x y = Int.gcd a b) (fun σ _ => match σ with | [_, some (.int y)] => y.natAbs | _ => 0) ⟨rfl, a, b, rfl, rfl⟩ ?_ ?_
  · rintro σ H' ⟨rfl, x, y, rfl, e⟩
    refine ⟨_, rfl, rfl, _, rfl, ?_⟩
    by_cases c : y = 0
    · subst c
      refine if_neg (by decide) |>.mpr ?_
      refine ⟨_, rfl, _, rfl, ?_⟩
      rw [← e, gcd_0] at q
      exact q
    · refine (if_pos (show (!decide (V.int y = V.int 0)) = true by rw [decide_eq_false (fun z => c (V.int.inj z))]; rfl)).mpr ?_
      refine ⟨_, rfl, _, rfl, _, rfl, _, _, rfl, rfl, c, _, _, rfl, ⟨rfl, _, _, rfl, ?_⟩, ?_⟩
      · rw [gcd_fmod]; exact e
      · exact fmod_small c
  · rintro σ H' Q1 Q2 hq ⟨v, h1, h2, k, h3, h4⟩
    exact ⟨v, h1, h2, k, h3, hq _ _ h4⟩
/-- (x, y, d) in lowest terms -/
def sp_low (K : PySem.W.Frag) : Sp := fun vs H Q _ => ∃ x y d : Int, vs = [.int x, .int y, .int d] ∧ d ≠ 0 ∧ d.natAbs < 2 ^ 8500 ∧ ∀ H' r, Same H H' → IsT K H' r (low x y d) → Q r H'
theorem g3_lt {x y d : Int} (hd : d ≠ 0) {n : Nat} (h : d.natAbs < 2 ^ n) : (sg x y d).natAbs < 2 ^ n := by
  obtain ⟨u, hu⟩ := @sg_dd x y d
  have hu0 : u ≠ 0 := fun z => by rw [z, Int.mul_zero] at hu; exact hd hu
  have e : (sg x y d).natAbs * u.natAbs = d.natAbs := by rw [← Int.natAbs_mul, ← hu]
  have : 1 ≤ u.natAbs := by omega
  have : (sg x y d).natAbs * 1 ≤ (sg x y d).natAbs * u.natAbs := Nat.mul_le_mul_left _ this
  omega
theorem ok_spot_at {f : Addr} {fd : FuncData} (d_common_divisor : D P w K mg base "common_divisor" 1 sp_gcd) (F : Fun K "spot_at" "spot_at" s_spot_at f fd) : FnOk P w K mg base CX0 2 f fd ["x", "y", "d"] (sp_low K) := by
  refine F.ok sc_spot_at (fun vs H Q E h => ?_) (fun cdv A outer s H vs Q E hr h => ?_)
  · obtain ⟨x, y, d, rfl, _⟩ := h
    rfl
  obtain ⟨x, y, d, rfl, hd, hB, q⟩ := h
  refine ⟨_, (pss_cons (ps_set (i := 3) sc_spot_at.nd rfl (by first | exact Or.inl rfl | exact Or.inr rfl) (pc d_common_divisor (hr.mono (by decide)) (pa_cons (pc d_common_divisor (hr.mono (by decide)) (pa_cons (pv 0) (pa_cons (pv 1) pa_nil))) (pa_cons (pv 2) pa_nil))))
    (pss_cons (ps_if (pt_cmpR (op_lt) (pv 2) pe_int (nomark _)) (pss_one (ps_set (i := 3) sc_spot_at.nd rfl (by first | exact Or.inl rfl | exact Or.inr rfl) (pe_un un_neg (pv 3)))) pss_nil)
    (pss_one (ps_ret (pe_tup (pa_cons (pe_op op_fdivX (pv 0) (pv 3)) (pa_cons (pe_op op_fdivX (pv 1) (pv 3)) (pa_cons (pe_op op_fdivX (pv 2) (pv 3)) pa_nil)))))))), ?_⟩
  refine ⟨_, rfl, _, rfl, _, _, rfl, _, rfl, _, _, rfl, ?_⟩
  refine ⟨_, rfl, _, _, rfl, rfl, _, rfl, ?_⟩
  have hc : CDivX x (sg x y d) ∧ CDivX y (sg x y d) ∧ CDivX d (sg x y d) := ⟨divX (sg_ne hd) (g3_lt hd hB) (by decide) (by decide), divX (sg_ne hd) (g3_lt hd hB) (by decide) (by decide), divX (sg_ne hd) (g3_lt hd hB) (by decide) (by decide)⟩
  refine ite2 (fun c => ?_) (fun c => ?_)
  · have es : sg x y d = -(g3 x y d) := if_pos (of_decide_eq_true c)
    refine ⟨_, rfl, _, rfl, ?_⟩
    rw [es] at hc
    refine ⟨_, rfl, _, rfl, _, _, rfl, rfl, hc.1, _, rfl, _, rfl, _, _, rfl, rfl, hc.2.1, _, rfl, _, rfl, _, _, rfl, rfl, hc.2.2, (by show 3 ≤ sizeLine; decide), fun p hp => ?_⟩
    refine q _ _ (same_new hp _) ?_
    unfold low
    rw [es]
    exact IsT.new
  · have es : sg x y d = g3 x y d := if_neg (of_decide_eq_false (Bool.eq_false_iff.mpr c))
    rw [es] at hc
    refine ⟨_, rfl, _, rfl, _, _, rfl, rfl, hc.1, _, rfl, _, rfl, _, _, rfl, rfl, hc.2.1, _, rfl, _, rfl, _, _, rfl, rfl, hc.2.2, (by show 3 ≤ sizeLine; decide), fun p hp => ?_⟩
    refine q _ _ (same_new hp _) ?_
    unfold low
    rw [es]
    exact IsT.new
/-- two parts of numbers of bounded size -/
def sp_two (K : PySem.W.Frag) (g : T3 → T3 → T3) : Sp := fun vs H Q _ => ∃ va vb a b, vs = [va, vb] ∧ IsT K H va a ∧ IsT K H vb b ∧ Ok a ∧ Ok b ∧ B 4000 a ∧ B 4000 b ∧ ∀ H' r, Same H H' → IsT K H' r (g a b) → Q r H'
theorem mulW {i j : Int} {a b : Nat} (ha : i.natAbs < 2 ^ (a + 1)) (hb : j.natAbs < 2 ^ (b + 1)) (h : a + b + 2 ≤ 1000000 := by decide) : CMulW i j := wide_mul ha hb (by omega) (by omega) (by omega)
theorem ok_plus {f : Addr} {fd : FuncData} (d_spot_at : D P w K mg base "spot_at" 2 (sp_low K)) (F : Fun K "plus" "plus" s_plus f fd) : FnOk P w K mg base CX0 3 f fd ["one", "other"] (sp_two K plus) := by
  refine F.ok sc_plus (fun vs H Q E h => ?_) (fun cdv A outer s H vs Q E hr h => ?_)
  · obtain ⟨va, vb, a, b, rfl, _⟩ := h
    rfl
  obtain ⟨va, vb, ⟨x, y, d⟩, ⟨u, v, e⟩, rfl, ⟨pa, rfl, ta⟩, ⟨pb, rfl, tb⟩, oa, ob, ⟨a1, a2, a3⟩, ⟨b1, b2, b3⟩, q⟩ := h
  refine ⟨_, (pss_cons (ps_asg (pv 0) (pg_tup rfl (pgs_cons (pg_name (i := 2) sc_plus.nd rfl (by first | exact Or.inl rfl | exact Or.inr rfl)) (pgs_cons (pg_name (i := 3) sc_plus.nd rfl (by first | exact Or.inl rfl | exact Or.inr rfl)) (pgs_cons (pg_name (i := 4) sc_plus.nd rfl (by first | exact Or.inl rfl | exact Or.inr rfl)) pgs_nil)))))
    (pss_cons (ps_asg (pv 1) (pg_tup rfl (pgs_cons (pg_name (i := 5) sc_plus.nd rfl (by first | exact Or.inl rfl | exact Or.inr rfl)) (pgs_cons (pg_name (i := 6) sc_plus.nd rfl (by first | exact Or.inl rfl | exact Or.inr rfl)) (pgs_cons (pg_name (i := 7) sc_plus.nd rfl (by first | exact Or.inl rfl | exact Or.inr rfl)) pgs_nil)))))
    (pss_one (ps_ret (pc d_spot_at (hr.mono (by decide)) (pa_cons (pe_op op_add (pe_op op_mulW (pv 2) (pv 7)) (pe_op op_mulW (pv 5) (pv 4))) (pa_cons (pe_op op_add (pe_op op_mulW (pv 3) (pv 7)) (pe_op op_mulW (pv 6) (pv 4))) (pa_cons (pe_op op_mulW (pv 4) (pv 7)) pa_nil)))))))), ?_⟩
  refine ⟨_, rfl, _, _, rfl, ta, rfl, _, _, rfl, _, _, rfl, _, _, rfl, rfl, ?_⟩
  refine ⟨_, rfl, _, _, rfl, tb, rfl, _, _, rfl, _, _, rfl, _, _, rfl, rfl, ?_⟩
  refine ⟨_, rfl, _, rfl, _, _, rfl, rfl, mulW a1 b3, _, rfl, _, rfl, _, _, rfl, rfl, mulW b1 a3, _, _, rfl, rfl, ?_⟩
  refine ⟨_, rfl, _, rfl, _, _, rfl, rfl, mulW a2 b3, _, rfl, _, rfl, _, _, rfl, rfl, mulW b2 a3, _, _, rfl, rfl, ?_⟩
  refine ⟨_, rfl, _, rfl, _, _, rfl, rfl, mulW a3 b3, ?_⟩
  exact ⟨_, _, _, rfl, mul_ne oa.ne ob.ne, up_lt (by decide) (mul_lt a3 b3), q⟩
theorem ok_product {f : Addr} {fd : FuncData} (d_spot_at : D P w K mg base "spot_at" 2 (sp_low K)) (F : Fun K "product" "product" s_product f fd) : FnOk P w K mg base CX0 3 f fd ["one", "other"] (sp_two K times) := by
  refine F.ok sc_product (fun vs H Q E h => ?_) (fun cdv A outer s H vs Q E hr h => ?_)
  · obtain ⟨va, vb, a, b, rfl, _⟩ := h
    rfl
  obtain ⟨va, vb, ⟨x, y, d⟩, ⟨u, v, e⟩, rfl, ⟨pa, rfl, ta⟩, ⟨pb, rfl, tb⟩, oa, ob, ⟨a1, a2, a3⟩, ⟨b1, b2, b3⟩, q⟩ := h
  refine ⟨_, (pss_cons (ps_asg (pv 0) (pg_tup rfl (pgs_cons (pg_name (i := 2) sc_product.nd rfl (by first | exact Or.inl rfl | exact Or.inr rfl)) (pgs_cons (pg_name (i := 3) sc_product.nd rfl (by first | exact Or.inl rfl | exact Or.inr rfl)) (pgs_cons (pg_name (i := 4) sc_product.nd rfl (by first | exact Or.inl rfl | exact Or.inr rfl)) pgs_nil)))))
    (pss_cons (ps_asg (pv 1) (pg_tup rfl (pgs_cons (pg_name (i := 5) sc_product.nd rfl (by first | exact Or.inl rfl | exact Or.inr rfl)) (pgs_cons (pg_name (i := 6) sc_product.nd rfl (by first | exact Or.inl rfl | exact Or.inr rfl)) (pgs_cons (pg_name (i := 7) sc_product.nd rfl (by first | exact Or.inl rfl | exact Or.inr rfl)) pgs_nil)))))
    (pss_one (ps_ret (pc d_spot_at (hr.mono (by decide)) (pa_cons (pe_op op_sub (pe_op op_mulW (pv 2) (pv 5)) (pe_op op_mulW (pv 3) (pv 6))) (pa_cons (pe_op op_add (pe_op op_mulW (pv 2) (pv 6)) (pe_op op_mulW (pv 3) (pv 5))) (pa_cons (pe_op op_mulW (pv 4) (pv 7)) pa_nil)))))))), ?_⟩
  refine ⟨_, rfl, _, _, rfl, ta, rfl, _, _, rfl, _, _, rfl, _, _, rfl, rfl, ?_⟩
  refine ⟨_, rfl, _, _, rfl, tb, rfl, _, _, rfl, _, _, rfl, _, _, rfl, rfl, ?_⟩
  refine ⟨_, rfl, _, rfl, _, _, rfl, rfl, mulW a1 b1, _, rfl, _, rfl, _, _, rfl, rfl, mulW a2 b2, _, _, rfl, rfl, ?_⟩
  refine ⟨_, rfl, _, rfl, _, _, rfl, rfl, mulW a1 b2, _, rfl, _, rfl, _, _, rfl, rfl, mulW a2 b1, _, _, rfl, rfl, ?_⟩
  refine ⟨_, rfl, _, rfl, _, _, rfl, rfl, mulW a3 b3, ?_⟩
  exact ⟨_, _, _, rfl, mul_ne oa.ne ob.ne, up_lt (by decide) (mul_lt a3 b3), q⟩
def sp_one (K : PySem.W.Frag) (g : T3 → T3) : Sp := fun vs H Q _ => ∃ va a, vs = [va] ∧ IsT K H va a ∧ ∀ H' r, Same H H' → IsT K H' r (g a) → Q r H'
theorem ok_negative {f : Addr} {fd : FuncData} (F : Fun K "negative" "negative" s_negative f fd) : FnOk P w K mg base CX0 1 f fd ["number"] (sp_one K neg) := by
  refine F.ok sc_negative (fun vs H Q E h => ?_) (fun cdv A outer s H vs Q E hr h => ?_)
  · obtain ⟨va, a, rfl, _⟩ := h
    rfl
  obtain ⟨va, ⟨x, y, d⟩, rfl, ⟨pa, rfl, ta⟩, q⟩ := h
  refine ⟨_, (pss_cons (ps_asg (pv 0) (pg_tup rfl (pgs_cons (pg_name (i := 1) sc_negative.nd rfl (by first | exact Or.inl rfl | exact Or.inr rfl)) (pgs_cons (pg_name (i := 2) sc_negative.nd rfl (by first | exact Or.inl rfl | exact Or.inr rfl)) (pgs_cons (pg_name (i := 3) sc_negative.nd rfl (by first | exact Or.inl rfl | exact Or.inr rfl)) pgs_nil)))))
    (pss_one (ps_ret (pe_tup (pa_cons (pe_un un_neg (pv 1)) (pa_cons (pe_un un_neg (pv 2)) (pa_cons (pv 3) pa_nil))))))), ?_⟩
  refine ⟨_, rfl, _, _, rfl, ta, rfl, _, _, rfl, _, _, rfl, _, _, rfl, rfl, ?_⟩
  exact ⟨_, rfl, _, rfl, _, rfl, _, rfl, _, rfl, (by show 3 ≤ sizeLine; decide), fun p hp => q _ _ (same_new hp _) IsT.new⟩
def sp_inv (K : PySem.W.Frag) : Sp := fun vs H Q _ => ∃ va a, vs = [va] ∧ IsT K H va a ∧ Nz a ∧ B 4000 a ∧ ∀ H' r, Same H H' → IsT K H' r (inv a) → Q r H'
theorem ok_inverse {f : Addr} {fd : FuncData} (d_spot_at : D P w K mg base "spot_at" 2 (sp_low K)) (F : Fun K "inverse" "inverse" s_inverse f fd) : FnOk P w K mg base CX0 3 f fd ["number"] (sp_inv K) := by
  refine F.ok sc_inverse (fun vs H Q E h => ?_) (fun cdv A outer s H vs Q E hr h => ?_)
  · obtain ⟨va, a, rfl, _⟩ := h
    rfl
  obtain ⟨va, ⟨x, y, d⟩, rfl, ⟨pa, rfl, ta⟩, na, ⟨a1, a2, a3⟩, q⟩ := h
  refine ⟨_, (pss_cons (ps_asg (pv 0) (pg_tup rfl (pgs_cons (pg_name (i := 1) sc_inverse.nd rfl (by first | exact Or.inl rfl | exact Or.inr rfl)) (pgs_cons (pg_name (i := 2) sc_inverse.nd rfl (by first | exact Or.inl rfl | exact Or.inr rfl)) (pgs_cons (pg_name (i := 3) sc_inverse.nd rfl (by first | exact Or.inl rfl | exact Or.inr rfl)) pgs_nil)))))
    (pss_one (ps_ret (pc d_spot_at (hr.mono (by decide)) (pa_cons (pe_op op_mulW (pv 1) (pv 3)) (pa_cons (pe_op op_mulW (pe_un un_neg (pv 2)) (pv 3)) (pa_cons (pe_op op_add (pe_op op_mulW (pv 1) (pv 1)) (pe_op op_mulW (pv 2) (pv 2))) pa_nil))))))), ?_⟩
  refine ⟨_, rfl, _, _, rfl, ta, rfl, _, _, rfl, _, _, rfl, _, _, rfl, rfl, ?_⟩
  refine ⟨_, rfl, _, rfl, _, _, rfl, rfl, mulW a1 a3, _, rfl, _, rfl, _, rfl, _, _, rfl, rfl, mulW (neg_lt a2) a3, ?_⟩
  refine ⟨_, rfl, _, rfl, _, _, rfl, rfl, mulW a1 a1, _, rfl, _, rfl, _, _, rfl, rfl, mulW a2 a2, _, _, rfl, rfl, ?_⟩
  exact ⟨_, _, _, rfl, sq_ne na, up_lt (by decide) (add_lt (mul_lt a1 a1) (mul_lt a2 a2)), q⟩
def sp_face (K : PySem.W.Frag) : Sp := fun vs H Q _ => ∃ va a m, vs = [va, .bl m] ∧ IsT K H va a ∧ ∀ H' r, Same H H' → IsT K H' r (face a m) → Q r H'
theorem ok_faced {f : Addr} {fd : FuncData} (F : Fun K "faced" "faced" s_faced f fd) : FnOk P w K mg base CX0 1 f fd ["number", "mirrored"] (sp_face K) := by
  refine F.ok sc_faced (fun vs H Q E h => ?_) (fun cdv A outer s H vs Q E hr h => ?_)
  · obtain ⟨va, a, m, rfl, _⟩ := h
    rfl
  obtain ⟨va, ⟨x, y, d⟩, m, rfl, ⟨pa, rfl, ta⟩, q⟩ := h
  refine ⟨_, (pss_cons (ps_asg (pv 0) (pg_tup rfl (pgs_cons (pg_name (i := 2) sc_faced.nd rfl (by first | exact Or.inl rfl | exact Or.inr rfl)) (pgs_cons (pg_name (i := 3) sc_faced.nd rfl (by first | exact Or.inl rfl | exact Or.inr rfl)) (pgs_cons (pg_name (i := 4) sc_faced.nd rfl (by first | exact Or.inl rfl | exact Or.inr rfl)) pgs_nil)))))
    (pss_one (ps_ret (pe_ifExp (pt_val (pv 1)) (pe_tup (pa_cons (pv 2) (pa_cons (pe_un un_neg (pv 3)) (pa_cons (pv 4) pa_nil)))) (pv 0))))), ?_⟩
  refine ⟨_, rfl, _, _, rfl, ta, rfl, _, _, rfl, _, _, rfl, _, _, rfl, rfl, ?_⟩
  refine ⟨_, rfl, _, rfl, ?_⟩
  cases m with
  | true => exact iteT ⟨_, rfl, _, rfl, _, rfl, _, rfl, (by show 3 ≤ sizeLine; decide), fun p hp => q _ _ (same_new hp _) IsT.new⟩
  | false => exact iteF ⟨_, rfl, q _ _ (Same.refl _) ⟨pa, rfl, ta⟩⟩
/-- where a copy carries a spot -/
def sp_car (K : PySem.W.Frag) : Sp := fun vs H Q _ => ∃ vt vs' m vz t s z, vs = [vt, vs', .bl m, vz] ∧ IsT K H vt t ∧ IsT K H vs' s ∧ IsT K H vz z ∧ Ok t ∧ Ok s ∧ Ok z ∧ B 1900 t ∧ B 4000 s ∧ B 1900 z ∧ ∀ H' r, Same H H' → IsT K H' r (car t s m z) → Q r H'
theorem ok_carried {f : Addr} {fd : FuncData} (d_plus : D P w K mg base "plus" 3 (sp_two K plus)) (d_product : D P w K mg base "product" 3 (sp_two K times)) (d_faced : D P w K mg base "faced" 1 (sp_face K)) (F : Fun K "carried" "carried" s_carried f fd) : FnOk P w K mg base CX0 4 f fd ["turn", "shift", "mirrored", "spot"] (sp_car K) := by
  refine F.ok sc_carried (fun vs H Q E h => ?_) (fun cdv A outer s H vs Q E hr h => ?_)
  · obtain ⟨vt, vs', m, vz, t, s', z, rfl, _⟩ := h
    rfl
  obtain ⟨vt, vs', m, vz, t, s', z, rfl, it, is, iz, ot, os, oz, bt, bs, bz, q⟩ := h
  refine ⟨_, (pss_one (ps_ret (pc d_plus (hr.mono (by decide)) (pa_cons (pc d_product (hr.mono (by decide)) (pa_cons (pv 0) (pa_cons (pc d_faced (hr.mono (by decide)) (pa_cons (pv 3) (pa_cons (pv 2) pa_nil))) pa_nil))) (pa_cons (pv 1) pa_nil))))), ?_⟩
  refine ⟨_, rfl, _, rfl, _, rfl, _, _, _, rfl, iz, fun H1 r1 s1 i1 => ?_⟩
  refine ⟨_, _, _, _, rfl, it.same s1, i1, ot, face_ok oz m, bt.mono (by decide), (face_B bz m).mono (by decide), fun H2 r2 s2 i2 => ?_⟩
  refine ⟨_, rfl, _, _, _, _, rfl, i2, is.same (s1.trans s2), times_ok ot (face_ok oz m), os, (times_B ot (face_ok oz m) bt (face_B bz m)).mono (by decide), bs, fun H3 r3 s3 i3 => ?_⟩
  exact q _ _ (s1.trans (s2.trans s3)) i3
def sp_fr (K : PySem.W.Frag) : Sp := fun vs H Q _ => ∃ p q' : Int, vs = [.int p, .int q'] ∧ q' ≠ 0 ∧ q'.natAbs < 2 ^ 8500 ∧ ∀ H' a, Same H H' → SqT K H' a [.int (fr p q').1, .int (fr p q').2] → Q (.ref a) H'
theorem g3_0 (p q : Int) : g3 p 0 q = ((Int.gcd p q : Nat) : Int) := by
  unfold g3
  rw [Int.gcd_zero_right]
  unfold Int.gcd
  rw [Int.natAbs_natCast]
end
end My

namespace My
open PySem L2 Mth
abbrev s_check_spot : Stmt := topS 28
theorem sc_check_spot : FnScope ["value"] ["value"] (defScope s_check_spot) := ⟨rfl, rfl, rfl, by decide +kernel, rfl, by decide +kernel, by decide +kernel⟩
abbrev s_check_turn : Stmt := topS 29
theorem sc_check_turn : FnScope ["value"] ["value"] (defScope s_check_turn) := ⟨rfl, rfl, rfl, by decide +kernel, rfl, by decide +kernel, by decide +kernel⟩
abbrev s_is_spot : Stmt := topS 27
theorem sc_is_spot : FnScope ["value", "number", "x", "y", "d"] ["value"] (defScope s_is_spot) := ⟨rfl, rfl, rfl, by decide +kernel, rfl, by decide +kernel, by decide +kernel⟩
abbrev s_is_whole : Stmt := topS 25
theorem sc_is_whole : FnScope ["value"] ["value"] (defScope s_is_whole) := ⟨rfl, rfl, rfl, by decide +kernel, rfl, by decide +kernel, by decide +kernel⟩
section
variable {P : Program} {w : World} {K : PySem.W.Frag} {mg : Str → Option Value} {base : Heap}
theorem ty_T {K : PySem.W.Frag} {H : Hp} {a : Addr} {xs : List V} (h : SqT K H a xs) : TyX K H (.ref a) (.type "tuple") := by
  rcases h with (h | ⟨o, h⟩) | ⟨o, its, n, h, c, _⟩
  · exact .base (.tup h)
  · exact .fTuple h
  · exact .kTuple h c
def sp_whole : Sp := fun vs H Q _ => ∃ i : Int, vs = [.int i] ∧ Q (.bl true) H
theorem ok_is_whole {f : Addr} {fd : FuncData} (b_isinstance : mg "isinstance" = none) (b_int : mg "int" = none) (b_bool : mg "bool" = none) (F : Fun K "is_whole" "is_whole" s_is_whole f fd) : FnOk P w K mg base CX0 1 f fd ["value"] sp_whole := by
  refine F.ok sc_is_whole (fun vs H Q E h => ?_) (fun cdv A outer s H vs Q E hr h => ?_)
  · obtain ⟨i, rfl, _⟩ := h
    rfl
  obtain ⟨i, rfl, q⟩ := h
  refine ⟨_, (pss_one (ps_ret (pe_and (pe_callB (r := rIsi K) call_isi (by rfl) b_isinstance (by decide +kernel) (pa_cons (pv 0) (pa_cons (pe_bltn (v := .ty "int") (by rfl) b_int (by decide +kernel) rfl) pa_nil))) (pe_one (pe_not (pe_callB (r := rIsi K) call_isi (by rfl) b_isinstance (by decide +kernel) (pa_cons (pv 0) (pa_cons (pe_bltn (v := .ty "bool") (by rfl) b_bool (by decide +kernel) rfl) pa_nil)))))))), ?_⟩
  refine ⟨_, rfl, _, _, _, _, _, rfl, .ty _, .base (.int i), kit_ty (by decide +kernel), true, rfl, iteT ?_⟩
  exact ⟨_, rfl, _, _, _, _, _, rfl, .ty _, .base (.int i), kit_ty (by decide +kernel), false, rfl, q⟩
/-- what is a spot is one -/
def sp_isspot (K : PySem.W.Frag) : Sp := fun vs H Q _ => ∃ va a, vs = [va] ∧ IsT K H va a ∧ Ok a ∧ ∀ H', Same H H' → Q (.bl true) H'
theorem v3_at {a : T3} {i : Nat} {x : V} (h : (v3 a)[i]? = some x) : ∃ z : Int, x = .int z := by
  unfold v3 at h
  match i, h with
  | 0, h => exact ⟨_, (Option.some.inj h).symm⟩
  | 1, h => exact ⟨_, (Option.some.inj h).symm⟩
  | 2, h => exact ⟨_, (Option.some.inj h).symm⟩
  | (n + 3), h => simp at h
theorem ok_is_spot {f : Addr} {fd : FuncData} (b_isinstance : mg "isinstance" = none) (b_tuple : mg "tuple" = none) (b_len : mg "len" = none) (b_all : mg "all" = none) (d_common_divisor : D P w K mg base "common_divisor" 1 sp_gcd) (d_is_whole : D P w K mg base "is_whole" 1 sp_whole)
    (F : Fun K "is_spot" "is_spot" s_is_spot f fd) : FnOk P w K mg base CX0 2 f fd ["value"] (sp_isspot K) := by
  refine F.ok sc_is_spot (fun vs H Q E h => ?_) (fun cdv A outer s H vs Q E hr h => ?_)
  · obtain ⟨va, a, rfl, _⟩ := h
    rfl
  obtain ⟨va, a, rfl, ⟨p, rfl, ta⟩, oa, q⟩ := h
  refine ⟨_, (pss_cons (ps_if (PW.pt (pw_or (pt_not (pt_val (pe_callB (r := rIsi K) call_isi (by rfl) b_isinstance (by decide +kernel) (pa_cons (pv 0) (pa_cons (pe_bltn (v := .ty "tuple") (by rfl) b_tuple (by decide +kernel) rfl) pa_nil))))) (pw_or1 (pt_cmpR (op_ne) (pe_callB call_len_seq (by rfl) b_len PySem.boot_len (pa_cons (pv 0) pa_nil)) pe_int (nomark _))))) (pss_one (ps_ret pe_bl)) pss_nil)
    (pss_cons (ps_if (pt_not (pt_val (pe_callB (cr_all rfl) (by rfl) b_all (by decide +kernel) (pa_cons (pe_lc (own := [("number", 1)]) (g := gName 1) (tt := tYes) (by rfl) sc_is_spot.nd (pi_tup (pv 0)) (blkOk_by (own := [("number", 1)]) (N := ["value", "number", "x", "y", "d"]) (sc := defScope s_is_spot) (by decide +kernel)) (fun _ _ _ _ _ => (pg_name (i := 1) sc_is_spot.nd rfl (by first | exact Or.inl rfl | exact Or.inr rfl))) (fun _ _ _ _ _ => pts_nil) (fun _ _ _ _ _ => (pc d_is_whole (hr.mono (by decide)) (pa_cons (pv 1) pa_nil)))) pa_nil)))) (pss_one (ps_ret pe_bl)) pss_nil)
    (pss_cons (ps_asg (pv 0) (pg_tup rfl (pgs_cons (pg_name (i := 2) sc_is_spot.nd rfl (by first | exact Or.inl rfl | exact Or.inr rfl)) (pgs_cons (pg_name (i := 3) sc_is_spot.nd rfl (by first | exact Or.inl rfl | exact Or.inr rfl)) (pgs_cons (pg_name (i := 4) sc_is_spot.nd rfl (by first | exact Or.inl rfl | exact Or.inr rfl)) pgs_nil)))))
    (pss_one (ps_ret (pe_and (pe_cmpR (op_ge) (pv 4) pe_int (nomark _)) (pe_one (pe_cmpR (op_eq) (pc d_common_divisor (hr.mono (by decide)) (pa_cons (pc d_common_divisor (hr.mono (by decide)) (pa_cons (pv 2) (pa_cons (pv 3) pa_nil))) (pa_cons (pv 4) pa_nil))) pe_int (nomark _))))))))), ?_⟩
  refine ⟨_, rfl, _, _, _, _, _, rfl, .ty _, ty_T ta, kit_ty (by decide +kernel), true, rfl, ?_⟩
  refine iteF ?_
  refine ⟨_, rfl, _, _, rfl, .inr ta, rfl, _, rfl, iteF ?_⟩
  refine ⟨_, rfl, _, rfl, ⟨_, ta⟩, fun L hL => lc_tup (K := K) (a := p) (xs := v3 a) (fun i H' => ∃ acc : List V, H' = upd H L (.lst acc) ∧ acc = (List.replicate i true).map V.bl) ⟨[], rfl, rfl⟩ ?_ ?_ ?_⟩
  · rintro i H' hi ⟨acc, rfl, _⟩
    exact same_T (same_new hL _) ta
  · rintro i x H' hx ⟨acc, rfl, ea⟩
    obtain ⟨z, rfl⟩ := v3_at hx
    refine ⟨rfl, ?_⟩
    refine yes_of ?_
    refine ⟨_, rfl, z, rfl, acc, upd_same, ?_, ?_⟩
    · have := (List.getElem?_eq_some_iff.mp hx).1
      rw [ea, List.length_map, List.length_replicate]
      exact small1000 (by have : (v3 a).length = 3 := rfl; omega)
    · refine ⟨acc ++ [.bl true], upd_upd, ?_⟩
      rw [ea, List.replicate_succ', List.map_append]
      rfl
  · rintro H' ⟨acc, rfl, ea⟩
    refine ⟨_, [true, true, true], rfl, .inl (.inl ?_), ?_⟩
    · rw [ea]; exact upd_same
    refine ⟨_, rfl, iteF ?_⟩
    have s1 := same_new hL (.lst acc)
    refine ⟨_, rfl, _, _, rfl, same_T s1 ta, rfl, _, _, rfl, _, _, rfl, _, _, rfl, rfl, ?_⟩
    refine ⟨_, rfl, _, _, rfl, rfl, true, congrArg V.bl (decide_eq_true (show (1 : Int) ≤ a.2.2 from oa.1)), iteT ?_⟩
    refine ⟨_, rfl, _, rfl, _, _, rfl, _, rfl, _, _, rfl, rfl, ?_⟩
    have e : V.int ((Int.gcd ((Int.gcd a.1 a.2.1 : Nat) : Int) a.2.2 : Nat) : Int) = V.int 1 := congrArg V.int oa.2
    have z := q _ s1
    show Q (.bl (decide (V.int ((Int.gcd ((Int.gcd a.1 a.2.1 : Nat) : Int) a.2.2 : Nat) : Int) = V.int 1))) _
    rw [decide_eq_true e]
    exact z
def sp_check (K : PySem.W.Frag) : Sp := fun vs H Q _ => ∃ va a, vs = [va] ∧ IsT K H va a ∧ Ok a ∧ ∀ H', Same H H' → Q .non H'
theorem ok_check_spot {f : Addr} {fd : FuncData} (d_is_spot : D P w K mg base "is_spot" 2 (sp_isspot K)) (F : Fun K "check_spot" "check_spot" s_check_spot f fd) : FnOk P w K mg base CX0 3 f fd ["value"] (sp_check K) := by
  refine F.ok sc_check_spot (fun vs H Q E h => ?_) (fun cdv A outer s H vs Q E hr h => ?_)
  · obtain ⟨va, a, rfl, _⟩ := h
    rfl
  obtain ⟨va, a, rfl, ia, oa, q⟩ := h
  refine ⟨_, (pss_one (ps_if (pt_not (pt_val (pc d_is_spot (hr.mono (by decide)) (pa_cons (pv 0) pa_nil)))) (pss_one ps_never) pss_nil)), ?_⟩
  exact ⟨_, rfl, _, _, rfl, ia, oa, fun H1 s1 => ⟨_, rfl, iteF (q _ s1)⟩⟩
def d3 (s : T3) : PyData := .tuple [.int s.1, .int s.2.1, .int s.2.2]
theorem Dp3 {K : PySem.W.Frag} {H : Hp} {p : Addr} {s : T3} (h : SqT K H p (v3 s)) : Dp K H (.ref p) (d3 s) := .tup h (.cons (.int _) (.cons (.int _) (.cons (.int _) .nil)))
theorem shaped3 (s : T3) : SeqAt.shaped (d3 s) = true := rfl
theorem eqv3 (s t : T3) : PyData.eqv (d3 s) (d3 t) = decide (s = t) := by
  obtain ⟨a, b, c⟩ := s
  obtain ⟨u, v, w⟩ := t
  show ((a == u) && ((b == v) && ((c == w) && true))) = decide ((a, b, c) = (u, v, w))
  by_cases h1 : a = u
  · by_cases h2 : b = v
    · by_cases h3 : c = w
      · subst h1 h2 h3; simp
      · rw [decide_eq_false (fun z => h3 (by injection z with _ z; injection z))]; simp [h3]
    · rw [decide_eq_false (fun z => h2 (by injection z with _ z; injection z))]; simp [h2]
  · rw [decide_eq_false (fun z => h1 (by injection z))]; simp [h1]
def sp_checkT (K : PySem.W.Frag) : Sp := fun vs H Q _ => ∃ va a, vs = [va] ∧ IsT K H va a ∧ Ok a ∧ Nz a ∧ ∀ H', Same H H' → Q .non H'
theorem ok_check_turn {f aM : Addr} {fd : FuncData} (d_is_spot : D P w K mg base "is_spot" 2 (sp_isspot K)) (m_MIDDLE : mg "MIDDLE" = some (.ref aM)) (t_MIDDLE : ∀ H, SqT K H aM (v3 (0, 0, 1))) (F : Fun K "check_turn" "check_turn" s_check_turn f fd) : FnOk P w K mg base CX0 3 f fd ["value"] (sp_checkT K) := by
  refine F.ok sc_check_turn (fun vs H Q E h => ?_) (fun cdv A outer s H vs Q E hr h => ?_)
  · obtain ⟨va, a, rfl, _⟩ := h
    rfl
  obtain ⟨va, a, rfl, ⟨p, rfl, ta⟩, oa, na, q⟩ := h
  refine ⟨_, (pss_one (ps_if (PW.pt (pw_or (pt_not (pt_val (pc d_is_spot (hr.mono (by decide)) (pa_cons (pv 0) pa_nil)))) (pw_or1 (pt_cmpR (op_eqD hr.units) (pv 0) (pe_glob (v := .ref aM) (by rfl) m_MIDDLE rfl) (nomark _))))) (pss_one ps_never) pss_nil)), ?_⟩
  refine ⟨_, rfl, _, _, rfl, ⟨p, rfl, ta⟩, oa, fun H1 s1 => ⟨_, rfl, iteF ?_⟩⟩
  refine ⟨_, rfl, _, _, Dp3 (same_T s1 ta), Dp3 (t_MIDDLE H1), shaped3 _, shaped3 _, _, rfl, ?_⟩
  rw [eqv3, decide_eq_false (fun z => by rw [z] at na; rcases na with n | n <;> exact n rfl)]
  exact iteF (q _ s1)
end
end My

namespace My
open PySem L2 Mth
abbrev s_minus : Stmt := topS 33
theorem sc_minus : FnScope ["one", "other"] ["one", "other"] (defScope s_minus) := ⟨rfl, rfl, rfl, by decide +kernel, rfl, by decide +kernel, by decide +kernel⟩
section
variable {P : Program} {w : World} {K : PySem.W.Frag} {mg : Str → Option Value} {base : Heap}
theorem dI (a b : Int) : decide (V.int a = V.int b) = decide (a = b) := by
  by_cases h : a = b
  · rw [h]; simp
  · rw [decide_eq_false h, decide_eq_false (fun z => h (V.int.inj z))]
theorem ok_minus {f : Addr} {fd : FuncData} (d_plus : D P w K mg base "plus" 3 (sp_two K plus)) (d_negative : D P w K mg base "negative" 1 (sp_one K neg)) (F : Fun K "minus" "minus" s_minus f fd) : FnOk P w K mg base CX0 4 f fd ["one", "other"] (sp_two K minus) := by
  refine F.ok sc_minus (fun vs H Q E h => ?_) (fun cdv A outer s H vs Q E hr h => ?_)
  · obtain ⟨va, vb, a, b, rfl, _⟩ := h
    rfl
  obtain ⟨va, vb, a, b, rfl, ia, ib, oa, ob, ba, bb, q⟩ := h
  refine ⟨_, (pss_one (ps_ret (pc d_plus (hr.mono (by decide)) (pa_cons (pv 0) (pa_cons (pc d_negative (hr.mono (by decide)) (pa_cons (pv 1) pa_nil)) pa_nil))))), ?_⟩
  refine ⟨_, rfl, _, rfl, _, b, rfl, ib, fun H1 r1 s1 i1 => ?_⟩
  exact ⟨_, _, a, _, rfl, ia.same s1, i1, oa, neg_ok ob, ba, neg_B bb, fun H2 r2 s2 i2 => q _ _ (s1.trans s2) i2⟩
end
end My

namespace My
open PySem L2 Mth
abbrev s_Copy___init__ : Stmt := inClass (topS 39) 0
theorem sc_Copy___init__ : FnScope ["self", "turn", "shift", "mirrored"] ["self", "turn", "shift", "mirrored"] (defScope s_Copy___init__) := ⟨rfl, rfl, rfl, by decide +kernel, rfl, by decide +kernel, by decide +kernel⟩
section
variable {P : Program} {w : World} {K : PySem.W.Frag} {mg : Str → Option Value} {base : Heap}
/-- a def with keyword-only parameters, out of which nothing is raised -/
theorem ok0 {x qual : Str} {params : Arguments} {body : List Stmt} {scope : Scope} {dvs : List V} {kws : List (Str × V)} {f : Addr} {fd : FuncData} {N ps : List Str} {k : Nat} {sp : Sp} (F : FunD K x qual params body scope dvs kws f fd) (S : FnScope N ps scope) (len : ∀ vs H Q E, sp vs H Q E → vs.length = ps.length)
    (hbody : ∀ (cdv : Value) (A : Around) (outer : List Env) (s : Shared) (H : Hp) (vs : List V) (Q : VK) (E : XK), Room k (A.deeper (PyProof.Rows.envOfC qual scope s.heap.objs.size f cdv)) → sp vs H Q E →
      ∃ t, PSs (cxOf CX0 P w K mg base N qual scope f cdv A outer s H E).nox body t ∧ t { nx := fun _ H' => Q .non H', rt := Q } (start N vs) H) : FnOk P w K mg base CX0 (k + 1) f fd ps sp :=
  F.ok S len fun cdv A outer s H vs Q E hr hsp => by
    obtain ⟨t, h, q⟩ := hbody cdv A outer s H vs Q E hr hsp
    exact ⟨t, h.nox, q⟩
def cf (a b : Addr) (m : Bool) : List (Str × V) := [("factor", .ref a), ("offset", .ref b), ("flips", .bl m)]
theorem cf_put {a b : Addr} {m : Bool} : putF "flips" (.bl m) (putF "offset" (.ref b) (putF "factor" (.ref a) [])) = cf a b m := by
  have h1 : ¬ (("factor" : Str) = "offset") := by decide +kernel
  have h2 : ¬ (("factor" : Str) = "flips") := by decide +kernel
  have h3 : ¬ (("offset" : Str) = "flips") := by decide +kernel
  simp only [putF, if_neg h1, if_neg h2, if_neg h3]
  rfl
theorem cf_f {a b : Addr} {m : Bool} : (cf a b m).lookup ("factor" : Str) = some (.ref a) := by
  unfold cf
  simp only [List.lookup, beq_self_eq_true]
theorem cf_o {a b : Addr} {m : Bool} : (cf a b m).lookup ("offset" : Str) = some (.ref b) := by
  unfold cf
  simp only [List.lookup, beq_self_eq_true, show (("offset" : Str) == "factor") = false by decide +kernel]
theorem cf_m {a b : Addr} {m : Bool} : (cf a b m).lookup ("flips" : Str) = some (.bl m) := by
  unfold cf
  simp only [List.lookup, beq_self_eq_true, show (("flips" : Str) == "factor") = false by decide +kernel, show (("flips" : Str) == "offset") = false by decide +kernel]
structure CTxt (K : PySem.W.Frag) (C : Addr) : Prop where
  cl : Cls K C
  nF : NoAttr K C "factor"
  nO : NoAttr K C "offset"
  nL : NoAttr K C "flips"
  ha : PySem.W.findIn K (.ref C) "__class__" = some (some (.builtin "object.__class__"))
  hn : PySem.W.specialIn K (.builtin "object.__class__") "__get__" = some (some (.builtin "getset_descriptor.__get__"))
  htk : PySem.W.takesIn K (.builtin "object.__class__") = some true
  hm : PySem.W.mroIn K C (.type "object") = some true
/-- a copy as an object -/
def IsC (K : PySem.W.Frag) (C : Addr) (H : Hp) (v : V) (c : Cp) : Prop := ∃ p dx a b, v = .ref p ∧ H p = some (.ins C dx (cf a b c.m)) ∧ SqT K H a (v3 c.t) ∧ SqT K H b (v3 c.s)
theorem IsC.same {C : Addr} {H H' : Hp} {v : V} {c : Cp} (h : IsC K C H v c) (e : Same H H') : IsC K C H' v c := by
  obtain ⟨p, dx, a, b, rfl, h1, h2, h3⟩ := h
  exact ⟨p, dx, a, b, rfl, e _ _ h1, same_T e h2, same_T e h3⟩
def sp_init (K : PySem.W.Frag) (C : Addr) : Sp := fun vs H Q _ => ∃ (H0 : Hp) (p dx : Addr) (vt vs' : V) (m : Bool) (t s : T3), vs = [.ref p, vt, vs', .bl m] ∧ Same H0 H ∧ H0 p = none ∧ H p = some (.ins C dx []) ∧ IsT K H0 vt t ∧ IsT K H0 vs' s ∧ Ok t ∧ Nz t ∧ Ok s ∧
  ∀ H', Same H0 H' → IsC K C H' (.ref p) ⟨t, s, m⟩ → Q .non H'
theorem ok_init {f C : Addr} {fd : FuncData} {kws : List (Str × V)} (T : CTxt K C) (d_check_turn : D P w K mg base "check_turn" 3 (sp_checkT K)) (d_check_spot : D P w K mg base "check_spot" 3 (sp_check K))
    (F : FunD K "__init__" "Copy.__init__" (defArgs s_Copy___init__) (defBody s_Copy___init__) (defScope s_Copy___init__) [] kws f fd) : FnOk P w K mg base CX0 4 f fd ["self", "turn", "shift", "mirrored"] (sp_init K C) := by
  refine ok0 F sc_Copy___init__ (fun vs H Q E h => ?_) (fun cdv A outer s H vs Q E hr h => ?_)
  · obtain ⟨H0, p, dx, vt, vs', m, t, s, rfl, _⟩ := h
    rfl
  obtain ⟨H0, p, dx, vt, vs', m, t, s', rfl, s0, p0, hp, it, is, ot, nt, os, q⟩ := h
  refine ⟨_, (pss_cons (ps_expr (pc d_check_turn (hr.mono (by decide)) (pa_cons (pv 1) pa_nil)))
    (pss_cons (ps_expr (pc d_check_spot (hr.mono (by decide)) (pa_cons (pv 2) pa_nil)))
    (pss_cons (ps_fld (pv 0) (pv 1) rfl)
    (pss_cons (ps_fld (pv 0) (pv 2) rfl)
    (pss_one (ps_fld (pv 0) (pv 3) rfl)))))), ?_⟩
  refine ⟨_, rfl, _, _, rfl, it.same s0, ot, nt, fun H1 s1 => ?_⟩
  refine ⟨_, rfl, _, _, rfl, is.same (s0.trans s1), os, fun H2 s2 => ?_⟩
  obtain ⟨a, rfl, ta⟩ := it
  obtain ⟨b, rfl, tb⟩ := is
  have hp2 : H2 p = some (.ins C dx []) := s2 _ _ (s1 _ _ hp)
  refine ⟨_, rfl, _, rfl, p, C, dx, _, rfl, hp2, T.cl, T.nF, (by show 0 < 1000; decide), ?_⟩
  refine ⟨_, rfl, _, rfl, p, C, dx, _, rfl, upd_same, T.cl, T.nO, (by show 1 < 1000; decide), ?_⟩
  refine ⟨_, rfl, _, rfl, p, C, dx, _, rfl, upd_same, T.cl, T.nL, (by show _ < 1000; simp only [putF]; rw [if_neg (show ¬ (("factor" : Str) = "offset") by decide +kernel)]; exact (by decide : 2 < 1000)), ?_⟩
  have sm : Same H0 (upd (upd (upd H2 p (.ins C dx (putF "factor" (.ref a) []))) p (.ins C dx (putF "offset" (.ref b) (putF "factor" (.ref a) [])))) p (.ins C dx (putF "flips" (.bl m) (putF "offset" (.ref b) (putF "factor" (.ref a) []))))) := fun c o e => by
    have nc : c ≠ p := fun z => by rw [z, p0] at e; cases e
    rw [upd_ne nc, upd_ne nc, upd_ne nc]
    exact s2 _ _ (s1 _ _ (s0 _ _ e))
  exact q _ sm ⟨p, dx, a, b, rfl, by rw [upd_same, cf_put], same_T sm ta, same_T sm tb⟩
/-- the class as its users see it -/
structure CopyI (P : Program) (w : World) (K : PySem.W.Frag) (mg : Str → Option Value) (base : Heap) (C f : Addr) (fd : FuncData) (mv : List Value) (ds : List Value) : Prop where
  tx : CTxt K C
  mkC : Mk K C f
  ok : FnOk P w K mg base CX0 4 f fd ["self", "turn", "shift", "mirrored"] (sp_init K C)
  mgC : mg "Copy" = some (.ref C)
  bv : Vals [.bl false] ds
  bd : Binds K fd ["self", "turn", "shift", "mirrored"] ds
  kb : KBn K fd ["self", "turn", "shift", "mirrored"] 3 ["mirrored"] (fun us ws => us ++ ws) (fun vs zs => vs ++ zs)
theorem mk_of {C : Addr} {H : Hp} {Q : VK} {vt vs : V} {m : Bool} {t s : T3} (it : IsT K H vt t) (is : IsT K H vs s) (ot : Ok t) (nt : Nz t) (os : Ok s) (q : ∀ H' r, Same H H' → IsC K C H' r ⟨t, s, m⟩ → Q r H') :
    ∀ x dx, H x = none → H dx = none → dx ≠ x → sp_init K C [.ref x, vt, vs, .bl m] (upd (upd H dx (.own x)) x (.ins C dx [])) (fun v H2 => v = .non ∧ Q (.ref x) H2) E0 := by
  intro x dx hx hd _
  refine ⟨H, x, dx, vt, vs, m, t, s, rfl, fun c o e => ?_, hx, upd_same, it, is, ot, nt, os, fun H' s' i => ⟨rfl, q _ _ s' i⟩⟩
  rw [upd_ne (ne_of_none e hx), upd_ne (ne_of_none e hd)]
  exact e
theorem own2_of {C : Addr} {H : Hp} {Q : VK} {sp : Sp} {x y : V} {a b : Cp} (ix : IsC K C H x a) (iy : IsC K C H y b) (q : sp [x, y] H Q E0) : rOwn2 C sp x y H Q := by
  obtain ⟨p, dx, _, _, rfl, h1, _⟩ := ix
  obtain ⟨p', dx', _, _, rfl, h1', _⟩ := iy
  exact ⟨p, p', dx, _, dx', _, rfl, rfl, h1, h1', q⟩
theorem own1_of {C : Addr} {H : Hp} {Q : VK} {sp : Sp} {x : V} {a : Cp} (ix : IsC K C H x a) (q : sp [x] H Q E0) : rOwn1 C sp x H Q := by
  obtain ⟨p, dx, _, _, rfl, h1, _⟩ := ix
  exact ⟨p, dx, _, rfl, h1, q⟩
def BC (n : Nat) (c : Cp) : Prop := B n c.t ∧ B n c.s
/-! ### the properties -/
def sp_get (K : PySem.W.Frag) (C : Addr) (g : Cp → Hp → V → Prop) : Sp := fun vs H Q _ => ∃ vc c, vs = [vc] ∧ IsC K C H vc c ∧ ∀ r, g c H r → Q r H
def sp_growth (K : PySem.W.Frag) (C : Addr) : Sp := fun vs H Q _ => ∃ vc c, vs = [vc] ∧ IsC K C H vc c ∧ CpOk c ∧ B 4000 c.t ∧ ∀ H' a, Same H H' → SqT K H' a [.int (gr c.t).1, .int (gr c.t).2] → Q (.ref a) H'
def sp_ap (K : PySem.W.Frag) (C : Addr) : Sp := fun vs H Q _ => ∃ vc c vz z, vs = [vc, vz] ∧ IsC K C H vc c ∧ CpOk c ∧ BC 1900 c ∧ IsT K H vz z ∧ Ok z ∧ B 1900 z ∧ ∀ H' r, Same H H' → IsT K H' r (ap c z) → Q r H'
def sp_jn (K : PySem.W.Frag) (C : Addr) : Sp := fun vs H Q _ => ∃ va a vb b, vs = [va, vb] ∧ IsC K C H va a ∧ IsC K C H vb b ∧ CpOk a ∧ CpOk b ∧ BC 1900 a ∧ BC 1900 b ∧ ∀ H' r, Same H H' → IsC K C H' r (jn a b) → Q r H'
theorem neB (a b : Bool) : V.bl (!decide (V.bl a = V.bl b)) = V.bl (a != b) := by cases a <;> cases b <;> rfl
def sp_bk (K : PySem.W.Frag) (C : Addr) : Sp := fun vs H Q _ => ∃ va a, vs = [va] ∧ IsC K C H va a ∧ CpOk a ∧ BC 1900 a ∧ ∀ H' r, Same H H' → IsC K C H' r (bk a) → Q r H'
def ceq (a b : Cp) : Bool := decide (a.t = b.t) && (decide (a.s = b.s) && decide (a.m = b.m))
theorem ceq_iff {a b : Cp} : ceq a b = true ↔ a = b := by
  obtain ⟨a1, a2, a3⟩ := a
  obtain ⟨b1, b2, b3⟩ := b
  unfold ceq
  simp
def sp_ceq (K : PySem.W.Frag) (C : Addr) : Sp := fun vs H Q _ => ∃ va a vb b, vs = [va, vb] ∧ IsC K C H va a ∧ IsC K C H vb b ∧ Q (.bl (ceq a b)) H
end
end My

namespace My
open PySem L2 Mth
abbrev s_Copy_turn : Stmt := inClass (topS 39) 1
theorem sc_Copy_turn : FnScope ["self"] ["self"] (defScope s_Copy_turn) := ⟨rfl, rfl, rfl, by decide +kernel, rfl, by decide +kernel, by decide +kernel⟩
section
variable {P : Program} {w : World} {K : PySem.W.Frag} {mg : Str → Option Value} {base : Heap}
theorem ok_turn {f C : Addr} {fd : FuncData} (T : CTxt K C) (F : Fun K "turn" "Copy.turn" s_Copy_turn f fd) : FnOk P w K mg base CX0 1 f fd ["self"] (sp_get K C fun c H r => IsT K H r c.t) := by
  refine F.ok sc_Copy_turn (fun vs H Q E h => ?_) (fun cdv A outer s H vs Q E hr h => ?_)
  · obtain ⟨vc, c, rfl, _⟩ := h
    rfl
  obtain ⟨vc, c, rfl, ⟨p, dx, a, b, rfl, h1, h2, h3⟩, q⟩ := h
  refine ⟨_, (pss_one (ps_ret (pe_fld (pv 0) rfl))), ?_⟩
  exact ⟨_, rfl, p, C, dx, _, _, rfl, h1, T.cl, T.nF, cf_f, q _ ⟨_, rfl, h2⟩⟩
end
end My

namespace My
open PySem L2 Mth
abbrev s_Copy_shift : Stmt := inClass (topS 39) 2
theorem sc_Copy_shift : FnScope ["self"] ["self"] (defScope s_Copy_shift) := ⟨rfl, rfl, rfl, by decide +kernel, rfl, by decide +kernel, by decide +kernel⟩
section
variable {P : Program} {w : World} {K : PySem.W.Frag} {mg : Str → Option Value} {base : Heap}
theorem ok_shift {f C : Addr} {fd : FuncData} (T : CTxt K C) (F : Fun K "shift" "Copy.shift" s_Copy_shift f fd) : FnOk P w K mg base CX0 1 f fd ["self"] (sp_get K C fun c H r => IsT K H r c.s) := by
  refine F.ok sc_Copy_shift (fun vs H Q E h => ?_) (fun cdv A outer s H vs Q E hr h => ?_)
  · obtain ⟨vc, c, rfl, _⟩ := h
    rfl
  obtain ⟨vc, c, rfl, ⟨p, dx, a, b, rfl, h1, h2, h3⟩, q⟩ := h
  refine ⟨_, (pss_one (ps_ret (pe_fld (pv 0) rfl))), ?_⟩
  exact ⟨_, rfl, p, C, dx, _, _, rfl, h1, T.cl, T.nO, cf_o, q _ ⟨_, rfl, h3⟩⟩
end
end My

namespace My
open PySem L2 Mth
abbrev s_Copy_mirrored : Stmt := inClass (topS 39) 3
theorem sc_Copy_mirrored : FnScope ["self"] ["self"] (defScope s_Copy_mirrored) := ⟨rfl, rfl, rfl, by decide +kernel, rfl, by decide +kernel, by decide +kernel⟩
section
variable {P : Program} {w : World} {K : PySem.W.Frag} {mg : Str → Option Value} {base : Heap}
theorem ok_mirrored {f C : Addr} {fd : FuncData} (T : CTxt K C) (F : Fun K "mirrored" "Copy.mirrored" s_Copy_mirrored f fd) : FnOk P w K mg base CX0 1 f fd ["self"] (sp_get K C fun c H r => r = .bl c.m) := by
  refine F.ok sc_Copy_mirrored (fun vs H Q E h => ?_) (fun cdv A outer s H vs Q E hr h => ?_)
  · obtain ⟨vc, c, rfl, _⟩ := h
    rfl
  obtain ⟨vc, c, rfl, ⟨p, dx, a, b, rfl, h1, h2, h3⟩, q⟩ := h
  refine ⟨_, (pss_one (ps_ret (pe_fld (pv 0) rfl))), ?_⟩
  exact ⟨_, rfl, p, C, dx, _, _, rfl, h1, T.cl, T.nL, cf_m, q _ rfl⟩
end
end My

namespace My
open PySem L2 Mth
abbrev s_law_below : Stmt := topS 44
theorem sc_law_below : FnScope ["_law_d", "_law_limit", "_law_result"] ["_law_d", "_law_limit"] (defScope s_law_below) := ⟨rfl, rfl, rfl, by decide +kernel, rfl, by decide +kernel, by decide +kernel⟩
abbrev s_law_random : Stmt := topS 43
theorem sc_law_random : FnScope ["_law_script", "_law_salt", "_law_seed", "_law_cell"] ["_law_script", "_law_salt"] (defScope s_law_random) := ⟨rfl, rfl, rfl, by decide +kernel, rfl, by decide +kernel, by decide +kernel⟩
section
variable {P : Program} {w : World} {K : PySem.W.Frag} {mg : Str → Option Value} {base : Heap}
/-! ### the source of numbers -/
structure Src where
  seed : Int
  cur : Int
  rest : List Int
structure SrcOk (s : Src) : Prop where
  s0 : 0 ≤ s.seed
  s1 : s.seed < 2147483647
  c0 : 0 ≤ s.cur
  r0 : ∀ r ∈ s.rest, 0 ≤ r
  len : s.rest.length ≤ 63
def encD (s : Src) : List V := .int s.seed :: .int s.cur :: s.rest.map V.int
theorem natAbs_pow18 : ((10 : Int) ^ (18 : Int).toNat) = 1000000000000000000 := by decide
theorem getInt {ns : List Int} {i : Nat} {y : V} (h : (ns.map V.int)[i]? = some y) : ∃ u, y = V.int u ∧ ns[i]? = some u := by
  rw [List.getElem?_map] at h
  cases e : ns[i]? with
  | none => rw [e] at h; cases h
  | some u => rw [e] at h; exact ⟨u, (Option.some.inj h).symm, rfl⟩
theorem take_more {α : Type} {l : List α} {i : Nat} {x : α} (h : l[i]? = some x) : l.take (i + 1) = l.take i ++ [x] := by
  rw [List.take_succ, h]
  rfl
def sp_random (K : PySem.W.Frag) : Sp := fun vs H Q _ => ∃ (a : Addr) (ns : List Int) (salt : Int), vs = [.ref a, .int salt] ∧ SqL K H a (ns.map V.int) ∧ ns.length ≤ 63 ∧ 0 ≤ salt ∧ salt < 2147483647 ∧
  ∀ H' d st, Same H H' → H' d = some (.lst (encD st)) → SrcOk st → Q (.ref d) H'
theorem ok_law_random {f : Addr} {fd : FuncData} (b_abs : mg "abs" = none) (F : Fun K "_law_random" "_law_random" s_law_random f fd) : FnOk P w K mg base CX0 1 f fd ["_law_script", "_law_salt"] (sp_random K) := by
  refine F.ok sc_law_random (fun vs H Q E h => ?_) (fun cdv A outer s H vs Q E hr h => ?_)
  · obtain ⟨a, ns, salt, rfl, _⟩ := h
    rfl
  obtain ⟨a, ns, salt, rfl, hS, h63, h0, h1, q⟩ := h
  refine ⟨_, (pss_cons (ps_set (i := 2) sc_law_random.nd rfl (by first | exact Or.inl rfl | exact Or.inr rfl) (pv 1))
    (pss_cons (ps_for PassesOwn.never rfl (pi_list (pv 0)) (pg_name (i := 3) sc_law_random.nd rfl (by first | exact Or.inl rfl | exact Or.inr rfl)) (pss_one (ps_set (i := 2) sc_law_random.nd rfl (by first | exact Or.inl rfl | exact Or.inr rfl) (pe_op op_modN (pe_op op_add (pe_op op_mulW (pv 2) pe_int) (pe_callB call_abs (by rfl) b_abs (by decide +kernel) (pa_cons (pv 3) pa_nil))) pe_int))))
    (pss_one (ps_ret (pe_op op_cat (pe_lst (pa_cons (pv 2) (pa_cons pe_int pa_nil))) (pe_lc (own := [("_law_cell", 3)]) (g := gName 3) (by rfl) sc_law_random.nd (pi_list (pv 0)) (blkOk_by (own := [("_law_cell", 3)]) (N := ["_law_script", "_law_salt", "_law_seed", "_law_cell"]) (sc := defScope s_law_random) (by decide +kernel)) (fun _ _ _ _ _ => (pg_name (i := 3) sc_law_random.nd rfl (by first | exact Or.inl rfl | exact Or.inr rfl))) (fun _ _ _ _ _ => (pts_one (pt_cmpR (op_ge) (pv 3) (pe_op op_pow pe_int pe_int) (nomark _)))) (fun _ _ _ _ _ => (pv 3)))))))), ?_⟩
  refine ⟨_, rfl, ?_⟩
  refine ⟨_, rfl, _, rfl, ⟨_, hS⟩, for_list (K := K) (a := a) (xs := ns.map V.int) (fun i σ H' => H' = H ∧ ∃ (z : Int) (v : Option V), σ = [some (.ref a), some (.int salt), some (.int z), v] ∧ 0 ≤ z ∧ z < 2147483647) ⟨rfl, salt, none, rfl, h0, h1⟩ ?_ ?_ ?_⟩
  · rintro i σ H' _ ⟨rfl, _⟩
    exact hS
  · rintro i y σ H' hi ⟨rfl, z, v, rfl, z0, z1⟩
    obtain ⟨u, rfl, hu⟩ := getInt hi
    refine ⟨_, rfl, _, _, rfl, rfl, mulW (a := 31) (b := 31) (show z.natAbs < 2 ^ 32 by omega) (by decide), _, rfl, _, rfl, _, _, rfl, rfl, _, _, rfl, rfl, (show (2147483647 : Int) ≠ 0 by decide), ?_⟩
    exact ⟨rfl, _, _, rfl, Int.fmod_nonneg_of_pos _ (by decide), Int.fmod_lt_of_pos _ (by decide)⟩
  · rintro σ H' ⟨rfl, z, v, rfl, z0, z1⟩
    refine ⟨_, rfl, (by show 2 ≤ sizeLine; decide), fun p hp => ?_⟩
    have g1 := same_new hp (.lst [.int z, .int 0])
    refine ⟨_, rfl, a, rfl, ⟨_, g1.seq hS⟩, fun L hL => lc_list (K := K) (a := a) (xs := ns.map V.int) (fun i H1 => ∃ acc : List Int, H1 = upd (upd H' p (.lst [.int z, .int 0])) L (.lst (acc.map V.int)) ∧ acc.length ≤ i ∧ ∀ r ∈ acc, 0 ≤ r) ⟨[], rfl, Nat.le_refl _, fun r hr => by cases hr⟩ ?_ ?_ ?_⟩
    · rintro i H1 hi ⟨acc, rfl, _⟩
      exact (same_new hL _).seq (g1.seq hS)
    · rintro i y H1 hi ⟨acc, rfl, hl, ha⟩
      obtain ⟨u, rfl, hu⟩ := getInt hi
      have hi63 : i < ns.length := (List.getElem?_eq_some_iff.mp hu).1
      refine ⟨rfl, ?_⟩
      refine ⟨_, rfl, _, _, rfl, rfl, ⟨by decide, by decide, by decide⟩, _, _, rfl, rfl, _, rfl, ?_⟩
      refine ite2 (fun c => ?_) (fun c => ?_)
      · refine ⟨_, rfl, acc.map V.int, upd_same, ?_, acc ++ [u], ?_, ?_, ?_⟩
        · rw [List.length_map]; exact small1000 (by omega)
        · rw [upd_upd, List.map_append]; rfl
        · rw [List.length_append, List.length_singleton]; omega
        · intro r hr
          rcases List.mem_append.mp hr with h | h
          · exact ha r h
          · have c' : (10 : Int) ^ (18 : Int).toNat ≤ u := of_decide_eq_true c
            rw [natAbs_pow18] at c'
            have := List.mem_singleton.mp h
            omega
      · exact ⟨acc, rfl, by omega, ha⟩
    · rintro H1 ⟨acc, rfl, hl, ha⟩
      rw [List.length_map] at hl
      have npL : p ≠ L := fun z => by rw [← z, upd_same] at hL; cases hL
      refine ⟨p, L, _, _, rfl, rfl, by rw [upd_ne npL]; exact upd_same, upd_same, ?_, fun r hr => ?_⟩
      · rw [List.length_map]; exact small (by show 2 + _ ≤ 1000; omega)
      · have g2 := same_new hL (.lst (acc.map V.int))
        exact q _ _ ⟨z, 0, acc⟩ (g1.trans (g2.trans (same_new hr _))) upd_same ⟨z0, z1, Int.le_refl 0, ha, by show acc.length ≤ 63; omega⟩
/-- the next number -/
def sp_below : Sp := fun vs H Q _ => ∃ (d : Addr) (n : Int) (st : Src), vs = [.ref d, .int n] ∧ 0 < n ∧ n < 1000000 ∧ H d = some (.lst (encD st)) ∧ SrcOk st ∧
  ∀ st' r, SrcOk st' → 0 ≤ r → r < n → Q (.int r) (upd H d (.lst (encD st')))
theorem div_nn {a b : Int} (ha : 0 ≤ a) (hb : 0 < b) : 0 ≤ a.fdiv b := by
  rw [Int.fdiv_eq_ediv_of_nonneg a (by omega)]
  exact Int.ediv_nonneg ha (by omega)
theorem dX {i j : Int} (h : 0 < j) (h9 : j < 1000000) : CDivX i j := divX (b := 20) (by omega) (by omega) (by decide) (by decide)
theorem at0 {a b : V} {r : List V} : atI (a :: b :: r) 0 = some a := atI_nat (j := 0) rfl
theorem at1 {a b : V} {r : List V} : atI (a :: b :: r) 1 = some b := atI_nat (j := 1) rfl
theorem ix0 {a b : V} {r : List V} : ixN (a :: b :: r).length 0 = some 0 := by
  unfold ixN
  rw [if_pos (by decide), if_pos (by simp only [List.length_cons]; omega)]
  rfl
theorem ix1 {a b : V} {r : List V} : ixN (a :: b :: r).length 1 = some 1 := by
  unfold ixN
  rw [if_pos (by decide), if_pos (by simp only [List.length_cons]; omega)]
  rfl
theorem ok_law_below {f : Addr} {fd : FuncData} (b_len : mg "len" = none) (F : Fun K "_law_below" "_law_below" s_law_below f fd) : FnOk P w K mg base CX0 1 f fd ["_law_d", "_law_limit"] sp_below := by
  refine F.ok sc_law_below (fun vs H Q E h => ?_) (fun cdv A outer s H vs Q E hr h => ?_)
  · obtain ⟨d, n, st, rfl, _⟩ := h
    rfl
  obtain ⟨d, n, ⟨seed, cur, rest⟩, rfl, n0, n1, hd, ⟨s0, s1, c0, r0, hl⟩, q⟩ := h
  dsimp only at s0 s1 c0 r0 hl
  refine ⟨_, (pss_cons (ps_if (PW.pt (pw_and (pt_cmpR (op_eq) (pe_ix ix_list (pv 0) pe_int (fun _ _ => rfl)) pe_int (nomark _)) (pw_and1 (pt_cmpR (op_gt) (pe_callB call_len_seq (by rfl) b_len PySem.boot_len (pa_cons (pv 0) pa_nil)) pe_int (nomark _))))) (pss_one (ps_asg (pe_bm PySem.F.plainAttrs_list PySem.F.slot_list_pop PySem.F.type_list_pop mt_popAt (pv 0) (pa_cons pe_int pa_nil)) (pg_sub (pv 0) pe_int set_list))) pss_nil)
    (pss_cons (ps_if (pt_cmpR (op_gt) (pe_ix ix_list (pv 0) pe_int (fun _ _ => rfl)) pe_int (nomark _)) (pss_cons (ps_set (i := 2) sc_law_below.nd rfl (by first | exact Or.inl rfl | exact Or.inr rfl) (pe_op op_modN (pe_ix ix_list (pv 0) pe_int (fun _ _ => rfl)) (pv 1)))
    (pss_cons (ps_asg (pe_op op_fdivX (pe_ix ix_list (pv 0) pe_int (fun _ _ => rfl)) (pv 1)) (pg_sub (pv 0) pe_int set_list))
    (pss_one (ps_ret (pv 2))))) pss_nil)
    (pss_cons (ps_asg (pe_op op_modN (pe_op op_add (pe_op op_mulW (pe_ix ix_list (pv 0) pe_int (fun _ _ => rfl)) pe_int) pe_int) pe_int) (pg_sub (pv 0) pe_int set_list))
    (pss_one (ps_ret (pe_op op_modN (pe_op op_fdivX (pe_ix ix_list (pv 0) pe_int (fun _ _ => rfl)) pe_int) (pv 1))))))), ?_⟩
  have tail : ∀ (cur : Int) (rest : List Int) (H1 : Hp), 0 ≤ cur → (∀ r ∈ rest, 0 ≤ r) → rest.length ≤ 63 → (∀ o, upd H1 d o = upd H d o) → H1 d = some (.lst (encD ⟨seed, cur, rest⟩)) →
      (tSeq (tIfS (tTest (tOp (rI0 fun i j => .bl (decide (j < i))) (tOp (rIxL K) (tVar 0) (tC (.int 1))) (tC (.int 0))))
        (tSeq (tAsg (tOp (rI (fun _ j => j ≠ 0) fun i j => .int (i.fmod j)) (tOp (rIxL K) (tVar 0) (tC (.int 1))) (tVar 1)) (gName 2))
          (tSeq (tAsg (tOp (rI CDivX fun i j => .int (i.fdiv j)) (tOp (rIxL K) (tVar 0) (tC (.int 1))) (tVar 1)) (gSub (tVar 0) (tC (.int 1)) rSetL)) (tRet (tVar 2)))) tNext)
        (tSeq (tAsg (tOp (rI (fun _ j => j ≠ 0) fun i j => .int (i.fmod j)) (tOp (rI0 fun i j => .int (i + j)) (tOp (rI CMulW fun i j => .int (i * j)) (tOp (rIxL K) (tVar 0) (tC (.int 0))) (tC (.int 48271))) (tC (.int 11))) (tC (.int 2147483647))) (gSub (tVar 0) (tC (.int 0)) rSetL))
          (tRet (tOp (rI (fun _ j => j ≠ 0) fun i j => .int (i.fmod j)) (tOp (rI CDivX fun i j => .int (i.fdiv j)) (tOp (rIxL K) (tVar 0) (tC (.int 0))) (tC (.int 64))) (tVar 1))))) { nx := fun _ H' => Q .non H', rt := Q } [some (.ref d), some (.int n), none] H1 := by
    intro cur rest H1 c0 r0 hl hu h1
    refine ⟨_, rfl, _, _, _, _, rfl, rfl, .inl (.inl h1), at1, _, _, rfl, rfl, _, rfl, ?_⟩
    refine ite2 (fun c => ?_) (fun c => ?_)
    · refine ⟨_, rfl, _, _, _, _, rfl, rfl, .inl (.inl h1), at1, _, rfl, _, _, rfl, rfl, (show n ≠ 0 by omega), ?_⟩
      refine ⟨_, rfl, _, _, _, _, rfl, rfl, .inl (.inl h1), at1, _, rfl, _, _, rfl, rfl, dX n0 n1, ?_⟩
      refine ⟨_, rfl, _, _, _, _, rfl, rfl, h1, ix1, ?_⟩
      refine ⟨_, rfl, ?_⟩
      have z := q ⟨seed, cur.fdiv n, rest⟩ (cur.fmod n) ⟨s0, s1, div_nn c0 n0, r0, hl⟩ (Int.fmod_nonneg_of_pos _ n0) (Int.fmod_lt_of_pos _ n0)
      rw [← hu] at z
      exact z
    · refine ⟨_, rfl, _, _, _, _, rfl, rfl, .inl (.inl h1), at0, _, _, rfl, rfl, mulW (a := 31) (b := 31) (show seed.natAbs < 2 ^ 32 by omega) (by decide), _, _, rfl, rfl, _, _, rfl, rfl, (show (2147483647 : Int) ≠ 0 by decide), ?_⟩
      refine ⟨_, rfl, _, _, _, _, rfl, rfl, h1, ix0, ?_⟩
      have m0 := Int.fmod_nonneg_of_pos (a := seed * 48271 + 11) (b := 2147483647) (by decide)
      have m1 := Int.fmod_lt_of_pos (a := seed * 48271 + 11) (b := 2147483647) (by decide)
      have z := q ⟨(seed * 48271 + 11).fmod 2147483647, cur, rest⟩ ((((seed * 48271 + 11).fmod 2147483647).fdiv 64).fmod n) ⟨m0, m1, c0, r0, hl⟩ (Int.fmod_nonneg_of_pos _ n0) (Int.fmod_lt_of_pos _ n0)
      rw [← hu] at z
      refine ⟨_, rfl, _, _, _, _, rfl, rfl, .inl (.inl upd_same), at0, _, _, rfl, rfl, dX (by decide) (by decide), _, rfl, _, _, rfl, rfl, (show n ≠ 0 by omega), ?_⟩
      exact z
  refine ⟨_, rfl, _, _, _, _, rfl, rfl, .inl (.inl hd), at1, rfl, _, rfl, ?_⟩
  refine ite2 (fun c => ?_) (fun c => ?_)
  · refine ⟨_, rfl, _, _, rfl, .inl (.inl (.inl hd)), _, _, rfl, rfl, _, rfl, ?_⟩
    refine ite2 (fun c2 => ?_) (fun c2 => ?_)
    · cases rest with
      | nil =>
        exfalso
        have := of_decide_eq_true c2
        simp [encD] at this
      | cons r rs =>
        refine ⟨_, rfl, .inl ⟨rfl, _, .inl (.inl hd)⟩, _, _, _, 2, _, rfl, rfl, hd, by decide, by decide, ?_, rfl, ?_⟩
        · show seqIndex? 2 (encD ⟨seed, cur, r :: rs⟩).length = some 2
          refine (ixN_seq (n := (encD ⟨seed, cur, r :: rs⟩).length) (i := 2) (j := 2) ?_).1
          unfold ixN
          rw [if_pos (by decide), if_pos (by simp [encD]; omega)]
          rfl
        refine ⟨_, rfl, _, _, _, _, rfl, rfl, upd_same, ix1, ?_⟩
        refine tail r rs _ (r0 r (List.mem_cons_self ..)) (fun x hx => r0 x (List.mem_cons_of_mem _ hx)) (by simp only [List.length_cons] at hl; omega) (fun o => ?_) ?_
        · rw [upd_upd, upd_upd]
        · rw [upd_same]
          rfl
    · exact tail cur rest H c0 r0 hl (fun o => rfl) hd
  · exact tail cur rest H c0 r0 hl (fun o => rfl) hd
end
end My

namespace My
open PySem L2 Mth
abbrev s_law_common : Stmt := topS 46
theorem sc_law_common : FnScope ["_law_one", "_law_other"] ["_law_one", "_law_other"] (defScope s_law_common) := ⟨rfl, rfl, rfl, by decide +kernel, rfl, by decide +kernel, by decide +kernel⟩
abbrev s_law_lowest : Stmt := topS 47
theorem sc_law_lowest : FnScope ["_law_x", "_law_y", "_law_q", "_law_common_now"] ["_law_x", "_law_y", "_law_q"] (defScope s_law_lowest) := ⟨rfl, rfl, rfl, by decide +kernel, rfl, by decide +kernel, by decide +kernel⟩
abbrev s_law_spot : Stmt := topS 48
theorem sc_law_spot : FnScope ["_law_d", "_law_below_here"] ["_law_d"] (defScope s_law_spot) := ⟨rfl, rfl, rfl, by decide +kernel, rfl, by decide +kernel, by decide +kernel⟩
abbrev s_law_turn : Stmt := topS 45
theorem sc_law_turn : FnScope ["_law_d", "_law_some"] ["_law_d"] (defScope s_law_turn) := ⟨rfl, rfl, rfl, by decide +kernel, rfl, by decide +kernel, by decide +kernel⟩
section
variable {P : Program} {w : World} {K : PySem.W.Frag} {mg : Str → Option Value} {base : Heap}
theorem ok_law_common {f : Addr} {fd : FuncData} (b_abs : mg "abs" = none) (F : Fun K "_law_common" "_law_common" s_law_common f fd) : FnOk P w K mg base CX0 1 f fd ["_law_one", "_law_other"] sp_gcd := by
  refine F.ok sc_law_common (fun vs H Q E h => ?_) (fun cdv A outer s H vs Q E hr h => ?_)
  · obtain ⟨a, b, rfl, _⟩ := h
    rfl
  obtain ⟨a, b, rfl, q⟩ := h
  refine ⟨_, (pss_cons (ps_par (i := 0) (j := 1) (by rfl) sc_law_common.nd rfl rfl (by decide) rfl rfl (pa_cons (pe_callB call_abs (by rfl) b_abs (by decide +kernel) (pa_cons (pv 0) pa_nil)) (pa_cons (pe_callB call_abs (by rfl) b_abs (by decide +kernel) (pa_cons (pv 1) pa_nil)) pa_nil)) (by rfl))
    (pss_cons (ps_while PassesOwn.never (pt_cmpR (op_gt) (pv 1) pe_int (nomark _)) (pss_one (ps_par (i := 0) (j := 1) (by rfl) sc_law_common.nd rfl rfl (by decide) rfl rfl (pa_cons (pv 1) (pa_cons (pe_op op_modN (pv 0) (pv 1)) pa_nil)) (by rfl))))
    (pss_one (ps_ret (pv 0))))), ?_⟩
  refine ⟨_, rfl, _, rfl, _, rfl, _, rfl, _, _, rfl, ?_⟩
  refine while_by (fun σ H' => H' = H ∧ ∃ x y : Int, σ = [some (.int x), some (.int y)] ∧ 0 ≤ x ∧ 0 ≤ y ∧ Int.gcd x y = Int.gcd a b) (fun σ _ => match σ with | [_, some (.int y)] => y.natAbs | _ => 0) ⟨rfl, _, _, rfl, ?_, ?_, ?_⟩ ?_ ?_
  · split <;> omega
  · split <;> omega
  · have e : ∀ z : Int, (if z < 0 then -z else z) = ((z.natAbs : Nat) : Int) := fun z => by split <;> omega
    rw [e, e]
    unfold Int.gcd
    rw [Int.natAbs_natCast, Int.natAbs_natCast]
  · rintro σ H' ⟨rfl, x, y, rfl, x0, y0, e⟩
    refine ⟨_, rfl, _, _, rfl, rfl, _, rfl, ?_⟩
    refine ite2 (fun c => ?_) (fun c => ?_)
    · have c' : 0 < y := of_decide_eq_true c
      refine ⟨_, rfl, _, rfl, _, rfl, _, _, rfl, rfl, (show y ≠ 0 by omega), _, _, rfl, ⟨rfl, _, _, rfl, y0, Int.fmod_nonneg_of_pos _ c', ?_⟩, ?_⟩
      · rw [gcd_fmod]; exact e
      · exact fmod_small (by omega)
    · have c' : ¬ 0 < y := of_decide_eq_false (Bool.eq_false_iff.mpr c)
      have y1 : y = 0 := by omega
      subst y1
      refine ⟨_, rfl, ?_⟩
      rw [← e, Int.gcd_zero_right] at q
      have ex : ((x.natAbs : Nat) : Int) = x := by omega
      rw [ex] at q
      exact q
  · rintro σ H' Q1 Q2 hq ⟨v, h1, i, j, h2, h3, k, h4, h5⟩
    exact ⟨v, h1, i, j, h2, h3, k, h4, hq _ _ h5⟩
theorem ok_law_lowest {f : Addr} {fd : FuncData} (d_law_common : D P w K mg base "_law_common" 1 sp_gcd) (F : Fun K "_law_lowest" "_law_lowest" s_law_lowest f fd) : FnOk P w K mg base CX0 2 f fd ["_law_x", "_law_y", "_law_q"] (sp_low K) := by
  refine F.ok sc_law_lowest (fun vs H Q E h => ?_) (fun cdv A outer s H vs Q E hr h => ?_)
  · obtain ⟨x, y, d, rfl, _⟩ := h
    rfl
  obtain ⟨x, y, d, rfl, hd, hB, q⟩ := h
  refine ⟨_, (pss_cons (ps_set (i := 3) sc_law_lowest.nd rfl (by first | exact Or.inl rfl | exact Or.inr rfl) (pc d_law_common (hr.mono (by decide)) (pa_cons (pc d_law_common (hr.mono (by decide)) (pa_cons (pv 0) (pa_cons (pv 1) pa_nil))) (pa_cons (pv 2) pa_nil))))
    (pss_cons (ps_set (i := 3) sc_law_lowest.nd rfl (by first | exact Or.inl rfl | exact Or.inr rfl) (pe_ifExp (pt_cmpR (op_gt) (pv 2) pe_int (nomark _)) (pv 3) (pe_op op_sub pe_int (pv 3))))
    (pss_one (ps_ret (pe_tup (pa_cons (pe_op op_fdivX (pv 0) (pv 3)) (pa_cons (pe_op op_fdivX (pv 1) (pv 3)) (pa_cons (pe_op op_fdivX (pv 2) (pv 3)) pa_nil)))))))), ?_⟩
  refine ⟨_, rfl, _, rfl, _, _, rfl, _, rfl, _, _, rfl, ?_⟩
  refine ⟨_, rfl, _, _, rfl, rfl, _, rfl, ?_⟩
  have hc : CDivX x (sg x y d) ∧ CDivX y (sg x y d) ∧ CDivX d (sg x y d) := ⟨divX (sg_ne hd) (g3_lt hd hB) (by decide) (by decide), divX (sg_ne hd) (g3_lt hd hB) (by decide) (by decide), divX (sg_ne hd) (g3_lt hd hB) (by decide) (by decide)⟩
  refine ite2 (fun c => ?_) (fun c => ?_)
  · have es : sg x y d = g3 x y d := if_neg (by have := of_decide_eq_true c; omega)
    rw [es] at hc
    refine ⟨_, rfl, ?_⟩
    refine ⟨_, rfl, _, rfl, _, _, rfl, rfl, hc.1, _, rfl, _, rfl, _, _, rfl, rfl, hc.2.1, _, rfl, _, rfl, _, _, rfl, rfl, hc.2.2, (by show 3 ≤ sizeLine; decide), fun p hp => ?_⟩
    refine q _ _ (same_new hp _) ?_
    unfold low
    rw [es]
    exact IsT.new
  · have es : sg x y d = 0 - g3 x y d := by
      rw [Int.zero_sub]
      exact if_pos (by have := of_decide_eq_false (Bool.eq_false_iff.mpr c); omega)
    rw [es] at hc
    refine ⟨_, rfl, _, _, rfl, rfl, ?_⟩
    refine ⟨_, rfl, _, rfl, _, _, rfl, rfl, hc.1, _, rfl, _, rfl, _, _, rfl, rfl, hc.2.1, _, rfl, _, rfl, _, _, rfl, rfl, hc.2.2, (by show 3 ≤ sizeLine; decide), fun p hp => ?_⟩
    refine q _ _ (same_new hp _) ?_
    unfold low
    rw [es]
    exact IsT.new
/-! ### draws -/
structure TurnIn (t : T3) : Prop where
  ok : Ok t
  nz : Nz t
  bd : B 3 t
  mem : t ∈ turns13
structure SpotIn (t : T3) : Prop where
  ok : Ok t
  bd : B 3 t
def sp_draw (g : Hp → V → Prop) : Sp := fun vs H Q _ => ∃ (d : Addr) (st : Src), vs = [.ref d] ∧ H d = some (.lst (encD st)) ∧ SrcOk st ∧
  ∀ H' st' r, Keep d H H' → H' d = some (.lst (encD st')) → SrcOk st' → g H' r → Q r H'
instance (t : T3) : Decidable (Ok t) := inferInstanceAs (Decidable (_ ∧ _))
instance (t : T3) : Decidable (Nz t) := inferInstanceAs (Decidable (_ ∨ _))
theorem turns_in : ∀ t ∈ turns13, TurnIn t := by
  have h : ∀ t ∈ turns13, Ok t ∧ Nz t ∧ B 3 t := by decide +kernel
  exact fun t ht => ⟨(h t ht).1, (h t ht).2.1, (h t ht).2.2, ht⟩
theorem paired_at {ps : List Addr} {ts : List T3} {R : Addr → T3 → Prop} (h : Paired R ps ts) : ∀ {i : Nat}, i < ts.length → ∃ p t, ps[i]? = some p ∧ t ∈ ts ∧ R p t := by
  induction h with
  | nil => intro i hi; cases hi
  | cons r _ ih =>
    intro i hi
    cases i with
    | zero => exact ⟨_, _, rfl, List.mem_cons_self .., r⟩
    | succ i =>
      obtain ⟨p, t, h1, h2, h3⟩ := ih (i := i) (by simpa using hi)
      exact ⟨p, t, by simpa using h1, List.mem_cons_of_mem _ h2, h3⟩
theorem paired_app {R : Addr → T3 → Prop} : ∀ {ps qs : List Addr} {ts us : List T3}, Paired R ps ts → Paired R qs us → Paired R (ps ++ qs) (ts ++ us)
  | _, _, _, _, .nil, k => k
  | _, _, _, _, .cons r t, k => .cons r (paired_app t k)
theorem paired_imp {R S : Addr → T3 → Prop} (h : ∀ p t, R p t → S p t) : ∀ {ps : List Addr} {ts : List T3}, Paired R ps ts → Paired S ps ts
  | _, _, .nil => .nil
  | _, _, .cons r t => .cons (h _ _ r) (paired_imp h t)
theorem at_map {ps : List Addr} {i : Nat} {p : Addr} {z : Int} (h : ps[i]? = some p) (hz : z = (i : Int)) : atI (ps.map V.ref) z = some (.ref p) := by
  rw [hz]
  exact atI_nat (by rw [List.getElem?_map, h]; rfl)
theorem ok_law_turn {f : Addr} {fd : FuncData} (d_law_below : D P w K mg base "_law_below" 1 sp_below) (F : Fun K "_law_turn" "_law_turn" s_law_turn f fd) : FnOk P w K mg base CX0 2 f fd ["_law_d"] (sp_draw fun H r => ∃ t, IsT K H r t ∧ TurnIn t) := by
  refine F.ok sc_law_turn (fun vs H Q E h => ?_) (fun cdv A outer s H vs Q E hr h => ?_)
  · obtain ⟨d, st, rfl, _⟩ := h
    rfl
  obtain ⟨d, st, rfl, hd, ok, q⟩ := h
  refine ⟨_, (pss_cons (ps_set (i := 1) sc_law_turn.nd rfl (by first | exact Or.inl rfl | exact Or.inr rfl) (pe_lst (paT (t := (1, 0, 1)) (pe_tup (pa_cons pe_int (pa_cons pe_int (pa_cons pe_int pa_nil)))) (fun σ H Q h => ⟨(by show 3 ≤ sizeLine; decide), fun p hp => h _ _ (same_new hp _) (.inl (.inl upd_same))⟩) (paT (t := (-1, 0, 1)) (pe_tup (pa_cons (pe_op op_sub pe_int pe_int) (pa_cons pe_int (pa_cons pe_int pa_nil)))) (fun σ H Q h => ⟨_, _, rfl, rfl, (by show 3 ≤ sizeLine; decide), fun p hp => h _ _ (same_new hp _) (.inl (.inl upd_same))⟩) (paT (t := (0, 1, 1)) (pe_tup (pa_cons pe_int (pa_cons pe_int (pa_cons pe_int pa_nil)))) (fun σ H Q h => ⟨(by show 3 ≤ sizeLine; decide), fun p hp => h _ _ (same_new hp _) (.inl (.inl upd_same))⟩) (paT (t := (0, -1, 1)) (pe_tup (pa_cons pe_int (pa_cons (pe_op op_sub pe_int pe_int) (pa_cons pe_int pa_nil)))) (fun σ H Q h => ⟨_, _, rfl, rfl, (by show 3 ≤ sizeLine; decide), fun p hp => h _ _ (same_new hp _) (.inl (.inl upd_same))⟩) (paT (t := (2, 0, 1)) (pe_tup (pa_cons pe_int (pa_cons pe_int (pa_cons pe_int pa_nil)))) (fun σ H Q h => ⟨(by show 3 ≤ sizeLine; decide), fun p hp => h _ _ (same_new hp _) (.inl (.inl upd_same))⟩) (paT (t := (1, 0, 2)) (pe_tup (pa_cons pe_int (pa_cons pe_int (pa_cons pe_int pa_nil)))) (fun σ H Q h => ⟨(by show 3 ≤ sizeLine; decide), fun p hp => h _ _ (same_new hp _) (.inl (.inl upd_same))⟩) (paT (t := (1, 1, 1)) (pe_tup (pa_cons pe_int (pa_cons pe_int (pa_cons pe_int pa_nil)))) (fun σ H Q h => ⟨(by show 3 ≤ sizeLine; decide), fun p hp => h _ _ (same_new hp _) (.inl (.inl upd_same))⟩) (paT (t := (3, 4, 5)) (pe_tup (pa_cons pe_int (pa_cons pe_int (pa_cons pe_int pa_nil)))) (fun σ H Q h => ⟨(by show 3 ≤ sizeLine; decide), fun p hp => h _ _ (same_new hp _) (.inl (.inl upd_same))⟩) paT0))))))))))
    (pss_cons (ps_set (i := 1) sc_law_turn.nd rfl (by first | exact Or.inl rfl | exact Or.inr rfl) (pe_op op_cat (pv 1) (pe_lst (paT (t := (0, 2, 1)) (pe_tup (pa_cons pe_int (pa_cons pe_int (pa_cons pe_int pa_nil)))) (fun σ H Q h => ⟨(by show 3 ≤ sizeLine; decide), fun p hp => h _ _ (same_new hp _) (.inl (.inl upd_same))⟩) (paT (t := (-1, 0, 3)) (pe_tup (pa_cons (pe_op op_sub pe_int pe_int) (pa_cons pe_int (pa_cons pe_int pa_nil)))) (fun σ H Q h => ⟨_, _, rfl, rfl, (by show 3 ≤ sizeLine; decide), fun p hp => h _ _ (same_new hp _) (.inl (.inl upd_same))⟩) (paT (t := (1, -1, 2)) (pe_tup (pa_cons pe_int (pa_cons (pe_op op_sub pe_int pe_int) (pa_cons pe_int pa_nil)))) (fun σ H Q h => ⟨_, _, rfl, rfl, (by show 3 ≤ sizeLine; decide), fun p hp => h _ _ (same_new hp _) (.inl (.inl upd_same))⟩) (paT (t := (2, 1, 1)) (pe_tup (pa_cons pe_int (pa_cons pe_int (pa_cons pe_int pa_nil)))) (fun σ H Q h => ⟨(by show 3 ≤ sizeLine; decide), fun p hp => h _ _ (same_new hp _) (.inl (.inl upd_same))⟩) (paT (t := (-4, 3, 5)) (pe_tup (pa_cons (pe_op op_sub pe_int pe_int) (pa_cons pe_int (pa_cons pe_int pa_nil)))) (fun σ H Q h => ⟨_, _, rfl, rfl, (by show 3 ≤ sizeLine; decide), fun p hp => h _ _ (same_new hp _) (.inl (.inl upd_same))⟩) paT0))))))))
    (pss_one (ps_ret (pe_ix ix_list (pv 1) (pc d_law_below (hr.mono (by decide)) (pa_cons (pv 0) (pa_cons pe_int pa_nil))) (fun _ _ => rfl)))))), ?_⟩
  intro H1 ps s1 h1
  have l1 : (ps.map V.ref).length = 8 := by rw [List.length_map, Paired.length h1]; rfl
  refine ⟨by rw [l1]; decide, fun a ha => ?_⟩
  refine ⟨_, rfl, ?_⟩
  intro H2 qs s2 h2
  have l2 : (qs.map V.ref).length = 5 := by rw [List.length_map, Paired.length h2]; rfl
  refine ⟨by rw [l2]; decide, fun b hb => ?_⟩
  have sa := same_new ha (.lst (ps.map V.ref))
  have sb := same_new hb (.lst (qs.map V.ref))
  refine ⟨a, b, _, _, rfl, rfl, sb _ _ (s2 _ _ upd_same), upd_same, by rw [l1, l2]; decide, fun c hc => ?_⟩
  have sc := same_new hc (.lst (ps.map V.ref ++ qs.map V.ref))
  have sAll := s1.trans (sa.trans (s2.trans (sb.trans sc)))
  refine ⟨_, rfl, _, rfl, d, _, st, rfl, by decide, by decide, sAll _ _ hd, ok, fun st' r ok' r0 r1 => ?_⟩
  have hcd : c ≠ d := fun z => by
    have := sb _ _ (s2 _ _ (sa _ _ (s1 _ _ hd)))
    rw [← z, hc] at this
    cases this
  have pr : Paired (fun p t => SqT K (upd (upd (upd H2 b (.lst (qs.map V.ref))) c (.lst (ps.map V.ref ++ qs.map V.ref))) d (.lst (encD st'))) p (v3 t)) (ps ++ qs) turns13 :=
    paired_app (paired_imp (fun p t z => keep_T (same_T (sa.trans (s2.trans (sb.trans sc))) z) (sAll _ _ hd) keep_upd) h1) (paired_imp (fun p t z => keep_T (same_T (sb.trans sc) z) (sAll _ _ hd) keep_upd) h2)
  obtain ⟨p, t, e1, e2, e3⟩ := paired_at pr (i := r.toNat) (by show r.toNat < 13; omega)
  refine ⟨c, _, _, _, rfl, rfl, .inl (.inl ?_), at_map (ps := ps ++ qs) e1 (by omega), ?_⟩
  · rw [upd_ne hcd, upd_same, List.map_append]
  · exact q _ st' _ ((Keep.of sAll).trans keep_upd) upd_same ok' ⟨t, ⟨p, rfl, e3⟩, turns_in t e2⟩
theorem ok_law_spot {f : Addr} {fd : FuncData} (d_law_below : D P w K mg base "_law_below" 1 sp_below) (d_law_lowest : D P w K mg base "_law_lowest" 2 (sp_low K)) (F : Fun K "_law_spot" "_law_spot" s_law_spot f fd) : FnOk P w K mg base CX0 3 f fd ["_law_d"] (sp_draw fun H r => ∃ t, IsT K H r t ∧ SpotIn t) := by
  refine F.ok sc_law_spot (fun vs H Q E h => ?_) (fun cdv A outer s H vs Q E hr h => ?_)
  · obtain ⟨d, st, rfl, _⟩ := h
    rfl
  obtain ⟨d, st, rfl, hd, ok, q⟩ := h
  refine ⟨_, (pss_cons (ps_set (i := 1) sc_law_spot.nd rfl (by first | exact Or.inl rfl | exact Or.inr rfl) (pe_ix ix_list (pe_lst (pa_cons pe_int (pa_cons pe_int (pa_cons pe_int (pa_cons pe_int (pa_cons pe_int (pa_cons pe_int pa_nil))))))) (pc d_law_below (hr.mono (by decide)) (pa_cons (pv 0) (pa_cons pe_int pa_nil))) (fun _ _ => rfl)))
    (pss_one (ps_ret (pc d_law_lowest (hr.mono (by decide)) (pa_cons (pe_op op_sub (pc d_law_below (hr.mono (by decide)) (pa_cons (pv 0) (pa_cons pe_int pa_nil))) pe_int) (pa_cons (pe_op op_sub (pc d_law_below (hr.mono (by decide)) (pa_cons (pv 0) (pa_cons pe_int pa_nil))) pe_int) (pa_cons (pv 1) pa_nil))))))), ?_⟩
  refine ⟨(by show 6 ≤ sizeLine; decide), fun a ha => ?_⟩
  have sa := same_new ha (.lst [.int 1, .int 1, .int 1, .int 2, .int 3, .int 4])
  refine ⟨_, rfl, d, _, st, rfl, by decide, by decide, sa _ _ hd, ok, fun st1 r ok1 r0 r1 => ?_⟩
  have had : a ≠ d := fun z => by rw [← z, ha] at hd; cases hd
  obtain ⟨c, hc, c1, c4⟩ : ∃ c : Int, atI [V.int 1, .int 1, .int 1, .int 2, .int 3, .int 4] r = some (.int c) ∧ 1 ≤ c ∧ c ≤ 4 := by
    have : r = 0 ∨ r = 1 ∨ r = 2 ∨ r = 3 ∨ r = 4 ∨ r = 5 := by omega
    rcases this with rfl | rfl | rfl | rfl | rfl | rfl
    · exact ⟨1, by rfl, by decide, by decide⟩
    · exact ⟨1, by rfl, by decide, by decide⟩
    · exact ⟨1, by rfl, by decide, by decide⟩
    · exact ⟨2, by rfl, by decide, by decide⟩
    · exact ⟨3, by rfl, by decide, by decide⟩
    · exact ⟨4, by rfl, by decide, by decide⟩
  refine ⟨a, _, _, _, rfl, rfl, .inl (.inl (by rw [upd_ne had]; exact upd_same)), hc, ?_⟩
  refine ⟨_, rfl, d, _, st1, rfl, by decide, by decide, upd_same, ok1, fun st2 x ok2 x0 x1 => ?_⟩
  refine ⟨_, _, rfl, rfl, _, rfl, d, _, st2, rfl, by decide, by decide, upd_same, ok2, fun st3 y ok3 y0 y1 => ?_⟩
  refine ⟨_, _, rfl, rfl, _, rfl, _, _, _, rfl, (by omega), (show c.natAbs < 2 ^ 8500 from Nat.lt_of_lt_of_le (show c.natAbs < 2 ^ 3 by omega) (pw (by decide))), fun H' r' s' i => ?_⟩
  refine q _ st3 _ ((Keep.of sa).trans (keep_upd.trans (keep_upd.trans (keep_upd.trans (Keep.of s'))))) (s' _ _ upd_same) ok3 ⟨_, i, low_ok (by omega), low_B (by omega) ?_ ?_ ?_⟩ <;> show _ < 8 <;> omega
end
end My

namespace My
open PySem L2 Mth

section
variable {P : Program} {w : World} {K : PySem.W.Frag} {mg : Str → Option Value} {base : Heap}
/-- a copy as it is told: (turn, shift, mirrored) -/
def IsD (K : PySem.W.Frag) (H : Hp) (v : V) (c : Cp) : Prop := ∃ p a b, v = .ref p ∧ SqT K H p [.ref a, .ref b, .bl c.m] ∧ SqT K H a (v3 c.t) ∧ SqT K H b (v3 c.s)
theorem IsD.same {H H' : Hp} {v : V} {c : Cp} (h : IsD K H v c) (e : Same H H') : IsD K H' v c := by
  obtain ⟨p, a, b, rfl, h1, h2, h3⟩ := h
  exact ⟨p, a, b, rfl, same_T e h1, same_T e h2, same_T e h3⟩
theorem IsD.keep {H H' : Hp} {v : V} {c : Cp} {d : Addr} {ys : List V} (h : IsD K H v c) (hd : H d = some (.lst ys)) (e : Keep d H H') : IsD K H' v c := by
  obtain ⟨p, a, b, rfl, h1, h2, h3⟩ := h
  exact ⟨p, a, b, rfl, keep_T h1 hd e, keep_T h2 hd e, keep_T h3 hd e⟩
theorem IsC.keep {C : Addr} {H H' : Hp} {v : V} {c : Cp} {d : Addr} {ys : List V} (h : IsC K C H v c) (hd : H d = some (.lst ys)) (e : Keep d H H') : IsC K C H' v c := by
  obtain ⟨p, dx, a, b, rfl, h1, h2, h3⟩ := h
  exact ⟨p, dx, a, b, rfl, e _ _ (ne_of h1 hd (by intro z; cases z)) h1, keep_T h2 hd e, keep_T h3 hd e⟩
structure CopyIn (c : Cp) : Prop where
  ok : CpOk c
  bd : BC 3 c
  mem : c.t ∈ turns13
def sp_copyOf (K : PySem.W.Frag) (C : Addr) : Sp := fun vs H Q _ => ∃ vc c, vs = [vc] ∧ IsD K H vc c ∧ CpOk c ∧ ∀ H' r, Same H H' → IsC K C H' r c → Q r H'
def sp_lcar (K : PySem.W.Frag) : Sp := fun vs H Q _ => ∃ vc c vz z, vs = [vc, vz] ∧ IsD K H vc c ∧ CpOk c ∧ BC 1900 c ∧ IsT K H vz z ∧ Ok z ∧ B 1900 z ∧ ∀ H' r, Same H H' → IsT K H' r (ap c z) → Q r H'
/-! ### equal at every level -/
theorem DpAll.get {H : Hp} : ∀ {xs : List V} {ds : List PyData}, DpAll K H xs ds → xs.length = ds.length ∧ ∀ (i : Nat) x, xs[i]? = some x → ∃ d, ds[i]? = some d ∧ Dp K H x d
  | _, _, .nil => ⟨rfl, fun i x h => by simp at h⟩
  | _, _, .cons h t => by
    obtain ⟨e, g⟩ := DpAll.get t
    refine ⟨by rw [List.length_cons, List.length_cons, e], fun i x hx => ?_⟩
    cases i with
    | zero => exact ⟨_, rfl, by simp at hx; rw [← hx]; exact h⟩
    | succ i => exact g i x (by simpa using hx)
mutual
theorem Dp.same {H H' : Hp} (s : Same H H') : ∀ {v : V} {d : PyData}, Dp K H v d → Dp K H' v d
  | _, _, .non => .non
  | _, _, .bl b => .bl b
  | _, _, .int i => .int i
  | _, _, .str x => .str x
  | _, _, .lst h t => .lst (s.seq h) (DpAll.same s t)
  | _, _, .tup h t => .tup (same_T s h) (DpAll.same s t)
theorem DpAll.same {H H' : Hp} (s : Same H H') : ∀ {vs : List V} {ds : List PyData}, DpAll K H vs ds → DpAll K H' vs ds
  | _, _, .nil => .nil
  | _, _, .cons h t => .cons (Dp.same s h) (DpAll.same s t)
end
/-- how deep -/
def Deep : Nat → PyData → Prop
  | 0, _ => False
  | n + 1, .list ds => ds.length ≤ 1000 ∧ ∀ d ∈ ds, Deep n d
  | n + 1, .tuple ds => ds.length ≤ 1000 ∧ ∀ d ∈ ds, Deep n d
  | _ + 1, .dict _ => False
  | _ + 1, _ => True
def sp_equal (K : PySem.W.Frag) (n : Nat) : Sp := fun vs H Q _ => ∃ va vb d, vs = [va, vb] ∧ Dp K H va d ∧ Dp K H vb d ∧ Deep n d ∧ ∀ H', Same H H' → Q (.bl true) H'
theorem ty_L {H : Hp} {a : Addr} {xs : List V} (h : SqL K H a xs) : TyX K H (.ref a) (.type "list") := by
  rcases h with (h | ⟨o, h⟩) | ⟨o, its, n, h, c, _⟩
  · exact .base (.lst h)
  · exact .base (.frz h)
  · exact .kList h c
end
end My

namespace My
open PySem L2 Mth
abbrev s_law_told : Stmt := topS 49
theorem sc_law_told : FnScope ["_law_d"] ["_law_d"] (defScope s_law_told) := ⟨rfl, rfl, rfl, by decide +kernel, rfl, by decide +kernel, by decide +kernel⟩
section
variable {P : Program} {w : World} {K : PySem.W.Frag} {mg : Str → Option Value} {base : Heap}
theorem ok_law_told {f : Addr} {fd : FuncData} (d_law_below : D P w K mg base "_law_below" 1 sp_below) (d_law_turn : D P w K mg base "_law_turn" 2 (sp_draw fun H r => ∃ t, IsT K H r t ∧ TurnIn t)) (d_law_spot : D P w K mg base "_law_spot" 3 (sp_draw fun H r => ∃ t, IsT K H r t ∧ SpotIn t))
    (F : Fun K "_law_told" "_law_told" s_law_told f fd) : FnOk P w K mg base CX0 4 f fd ["_law_d"] (sp_draw fun H r => ∃ c, IsD K H r c ∧ CopyIn c) := by
  refine F.ok sc_law_told (fun vs H Q E h => ?_) (fun cdv A outer s H vs Q E hr h => ?_)
  · obtain ⟨d, st, rfl, _⟩ := h
    rfl
  obtain ⟨d, st, rfl, hd, ok, q⟩ := h
  refine ⟨_, (pss_one (ps_ret (pe_tup (pa_cons (pc d_law_turn (hr.mono (by decide)) (pa_cons (pv 0) pa_nil)) (pa_cons (pc d_law_spot (hr.mono (by decide)) (pa_cons (pv 0) pa_nil)) (pa_cons (pe_cmpR (op_eq) (pc d_law_below (hr.mono (by decide)) (pa_cons (pv 0) (pa_cons pe_int pa_nil))) pe_int (nomark _)) pa_nil)))))), ?_⟩
  refine ⟨_, rfl, d, st, rfl, hd, ok, fun H1 st1 r1 k1 hd1 ok1 ⟨t, ⟨a, er, it⟩, ti⟩ => ?_⟩
  subst er
  refine ⟨_, rfl, d, st1, rfl, hd1, ok1, fun H2 st2 r2 k2 hd2 ok2 ⟨s', ⟨b, er, is⟩, si⟩ => ?_⟩
  subst er
  refine ⟨_, rfl, d, _, st2, rfl, by decide, by decide, hd2, ok2, fun st3 r ok3 r0 r1 => ?_⟩
  refine ⟨rfl, (by show 3 ≤ sizeLine; decide), fun p hp => ?_⟩
  have sp' := same_new hp (.tup [.ref a, .ref b, .bl (decide (V.int r = V.int 0))])
  refine q _ st3 _ (k1.trans (k2.trans (keep_upd.trans (Keep.of sp')))) (sp' _ _ upd_same) ok3 ⟨⟨t, s', decide (V.int r = V.int 0)⟩, ⟨p, a, b, rfl, .inl (.inl upd_same), ?_, ?_⟩, ⟨⟨ti.ok, ti.nz, si.ok⟩, ⟨ti.bd, si.bd⟩, ti.mem⟩⟩
  · exact same_T sp' (keep_T (keep_T it hd1 k2) hd2 keep_upd)
  · exact same_T sp' (keep_T is hd2 keep_upd)
end
end My

namespace My
open PySem L2 Mth
abbrev s_law_over : Stmt := topS 52
theorem sc_law_over : FnScope ["_law_one"] ["_law_one"] (defScope s_law_over) := ⟨rfl, rfl, rfl, by decide +kernel, rfl, by decide +kernel, by decide +kernel⟩
section
variable {P : Program} {w : World} {K : PySem.W.Frag} {mg : Str → Option Value} {base : Heap}
theorem ok_law_over {f : Addr} {fd : FuncData} (F : Fun K "_law_over" "_law_over" s_law_over f fd) : FnOk P w K mg base CX0 1 f fd ["_law_one"] (sp_one K over) := by
  refine F.ok sc_law_over (fun vs H Q E h => ?_) (fun cdv A outer s H vs Q E hr h => ?_)
  · obtain ⟨va, a, rfl, _⟩ := h
    rfl
  obtain ⟨va, ⟨x, y, d⟩, rfl, ⟨pa, rfl, ta⟩, q⟩ := h
  refine ⟨_, (pss_one (ps_ret (pe_tup (pa_cons (pe_ix (r := rIxT K) ix_tup (pv 0) pe_int (fun _ _ => rfl)) (pa_cons (pe_op op_sub pe_int (pe_ix (r := rIxT K) ix_tup (pv 0) pe_int (fun _ _ => rfl))) (pa_cons (pe_ix (r := rIxT K) ix_tup (pv 0) pe_int (fun _ _ => rfl)) pa_nil)))))), ?_⟩
  refine ⟨_, rfl, _, _, _, _, rfl, rfl, ta, by rfl, _, rfl, _, _, _, _, rfl, rfl, ta, by rfl, _, _, rfl, rfl, _, rfl, _, _, _, _, rfl, rfl, ta, by rfl, (by show 3 ≤ sizeLine; decide), fun p hp => ?_⟩
  refine q _ _ (same_new hp _) ?_
  unfold over
  dsimp only
  rw [← Int.zero_sub]
  exact IsT.new
end
end My

namespace My
open PySem L2 Mth
abbrev s_law_plus : Stmt := topS 50
theorem sc_law_plus : FnScope ["_law_one", "_law_other", "_law_x", "_law_y"] ["_law_one", "_law_other"] (defScope s_law_plus) := ⟨rfl, rfl, rfl, by decide +kernel, rfl, by decide +kernel, by decide +kernel⟩
section
variable {P : Program} {w : World} {K : PySem.W.Frag} {mg : Str → Option Value} {base : Heap}
theorem ok_law_plus {f : Addr} {fd : FuncData} (d_law_lowest : D P w K mg base "_law_lowest" 2 (sp_low K)) (F : Fun K "_law_plus" "_law_plus" s_law_plus f fd) : FnOk P w K mg base CX0 3 f fd ["_law_one", "_law_other"] (sp_two K plus) := by
  refine F.ok sc_law_plus (fun vs H Q E h => ?_) (fun cdv A outer s H vs Q E hr h => ?_)
  · obtain ⟨va, vb, a, b, rfl, _⟩ := h
    rfl
  obtain ⟨va, vb, ⟨x, y, d⟩, ⟨u, v, e⟩, rfl, ⟨pa, rfl, ta⟩, ⟨pb, rfl, tb⟩, oa, ob, ⟨a1, a2, a3⟩, ⟨b1, b2, b3⟩, q⟩ := h
  refine ⟨_, (pss_cons (ps_set (i := 2) sc_law_plus.nd rfl (by first | exact Or.inl rfl | exact Or.inr rfl) (pe_op op_add (pe_op op_mulW (pe_ix (r := rIxT K) ix_tup (pv 0) pe_int (fun _ _ => rfl)) (pe_ix (r := rIxT K) ix_tup (pv 1) pe_int (fun _ _ => rfl))) (pe_op op_mulW (pe_ix (r := rIxT K) ix_tup (pv 1) pe_int (fun _ _ => rfl)) (pe_ix (r := rIxT K) ix_tup (pv 0) pe_int (fun _ _ => rfl)))))
    (pss_cons (ps_set (i := 3) sc_law_plus.nd rfl (by first | exact Or.inl rfl | exact Or.inr rfl) (pe_op op_add (pe_op op_mulW (pe_ix (r := rIxT K) ix_tup (pv 0) pe_int (fun _ _ => rfl)) (pe_ix (r := rIxT K) ix_tup (pv 1) pe_int (fun _ _ => rfl))) (pe_op op_mulW (pe_ix (r := rIxT K) ix_tup (pv 1) pe_int (fun _ _ => rfl)) (pe_ix (r := rIxT K) ix_tup (pv 0) pe_int (fun _ _ => rfl)))))
    (pss_one (ps_ret (pc d_law_lowest (hr.mono (by decide)) (pa_cons (pv 2) (pa_cons (pv 3) (pa_cons (pe_op op_mulW (pe_ix (r := rIxT K) ix_tup (pv 0) pe_int (fun _ _ => rfl)) (pe_ix (r := rIxT K) ix_tup (pv 1) pe_int (fun _ _ => rfl))) pa_nil)))))))), ?_⟩
  refine ⟨_, rfl, _, _, _, _, rfl, rfl, ta, by rfl, _, rfl, _, _, _, _, rfl, rfl, tb, by rfl, _, _, rfl, rfl, mulW a1 b3, _, rfl, _, _, _, _, rfl, rfl, tb, by rfl, _, rfl, _, _, _, _, rfl, rfl, ta, by rfl, _, _, rfl, rfl, mulW b1 a3, _, _, rfl, rfl, ?_⟩
  refine ⟨_, rfl, _, _, _, _, rfl, rfl, ta, by rfl, _, rfl, _, _, _, _, rfl, rfl, tb, by rfl, _, _, rfl, rfl, mulW a2 b3, _, rfl, _, _, _, _, rfl, rfl, tb, by rfl, _, rfl, _, _, _, _, rfl, rfl, ta, by rfl, _, _, rfl, rfl, mulW b2 a3, _, _, rfl, rfl, ?_⟩
  refine ⟨_, rfl, _, rfl, _, rfl, _, _, _, _, rfl, rfl, ta, by rfl, _, rfl, _, _, _, _, rfl, rfl, tb, by rfl, _, _, rfl, rfl, mulW a3 b3, ?_⟩
  exact ⟨_, _, _, rfl, mul_ne oa.ne ob.ne, up_lt (by decide) (mul_lt a3 b3), q⟩
end
end My

namespace My
open PySem L2 Mth
abbrev s_law_times : Stmt := topS 51
theorem sc_law_times : FnScope ["_law_one", "_law_other", "_law_x", "_law_y"] ["_law_one", "_law_other"] (defScope s_law_times) := ⟨rfl, rfl, rfl, by decide +kernel, rfl, by decide +kernel, by decide +kernel⟩
section
variable {P : Program} {w : World} {K : PySem.W.Frag} {mg : Str → Option Value} {base : Heap}
theorem ok_law_times {f : Addr} {fd : FuncData} (d_law_lowest : D P w K mg base "_law_lowest" 2 (sp_low K)) (F : Fun K "_law_times" "_law_times" s_law_times f fd) : FnOk P w K mg base CX0 3 f fd ["_law_one", "_law_other"] (sp_two K times) := by
  refine F.ok sc_law_times (fun vs H Q E h => ?_) (fun cdv A outer s H vs Q E hr h => ?_)
  · obtain ⟨va, vb, a, b, rfl, _⟩ := h
    rfl
  obtain ⟨va, vb, ⟨x, y, d⟩, ⟨u, v, e⟩, rfl, ⟨pa, rfl, ta⟩, ⟨pb, rfl, tb⟩, oa, ob, ⟨a1, a2, a3⟩, ⟨b1, b2, b3⟩, q⟩ := h
  refine ⟨_, (pss_cons (ps_set (i := 2) sc_law_times.nd rfl (by first | exact Or.inl rfl | exact Or.inr rfl) (pe_op op_sub (pe_op op_mulW (pe_ix (r := rIxT K) ix_tup (pv 0) pe_int (fun _ _ => rfl)) (pe_ix (r := rIxT K) ix_tup (pv 1) pe_int (fun _ _ => rfl))) (pe_op op_mulW (pe_ix (r := rIxT K) ix_tup (pv 0) pe_int (fun _ _ => rfl)) (pe_ix (r := rIxT K) ix_tup (pv 1) pe_int (fun _ _ => rfl)))))
    (pss_cons (ps_set (i := 3) sc_law_times.nd rfl (by first | exact Or.inl rfl | exact Or.inr rfl) (pe_op op_add (pe_op op_mulW (pe_ix (r := rIxT K) ix_tup (pv 0) pe_int (fun _ _ => rfl)) (pe_ix (r := rIxT K) ix_tup (pv 1) pe_int (fun _ _ => rfl))) (pe_op op_mulW (pe_ix (r := rIxT K) ix_tup (pv 0) pe_int (fun _ _ => rfl)) (pe_ix (r := rIxT K) ix_tup (pv 1) pe_int (fun _ _ => rfl)))))
    (pss_one (ps_ret (pc d_law_lowest (hr.mono (by decide)) (pa_cons (pv 2) (pa_cons (pv 3) (pa_cons (pe_op op_mulW (pe_ix (r := rIxT K) ix_tup (pv 0) pe_int (fun _ _ => rfl)) (pe_ix (r := rIxT K) ix_tup (pv 1) pe_int (fun _ _ => rfl))) pa_nil)))))))), ?_⟩
  refine ⟨_, rfl, _, _, _, _, rfl, rfl, ta, by rfl, _, rfl, _, _, _, _, rfl, rfl, tb, by rfl, _, _, rfl, rfl, mulW a1 b1, _, rfl, _, _, _, _, rfl, rfl, ta, by rfl, _, rfl, _, _, _, _, rfl, rfl, tb, by rfl, _, _, rfl, rfl, mulW a2 b2, _, _, rfl, rfl, ?_⟩
  refine ⟨_, rfl, _, _, _, _, rfl, rfl, ta, by rfl, _, rfl, _, _, _, _, rfl, rfl, tb, by rfl, _, _, rfl, rfl, mulW a1 b2, _, rfl, _, _, _, _, rfl, rfl, ta, by rfl, _, rfl, _, _, _, _, rfl, rfl, tb, by rfl, _, _, rfl, rfl, mulW a2 b1, _, _, rfl, rfl, ?_⟩
  refine ⟨_, rfl, _, rfl, _, rfl, _, _, _, _, rfl, rfl, ta, by rfl, _, rfl, _, _, _, _, rfl, rfl, tb, by rfl, _, _, rfl, rfl, mulW a3 b3, ?_⟩
  exact ⟨_, _, _, rfl, mul_ne oa.ne ob.ne, up_lt (by decide) (mul_lt a3 b3), q⟩
end
end My

namespace My
open PySem L2 Mth
abbrev s_law_minus : Stmt := topS 57
theorem sc_law_minus : FnScope ["_law_one", "_law_other"] ["_law_one", "_law_other"] (defScope s_law_minus) := ⟨rfl, rfl, rfl, by decide +kernel, rfl, by decide +kernel, by decide +kernel⟩
section
variable {P : Program} {w : World} {K : PySem.W.Frag} {mg : Str → Option Value} {base : Heap}
theorem ok_law_minus {f : Addr} {fd : FuncData} (d_law_plus : D P w K mg base "_law_plus" 3 (sp_two K plus)) (F : Fun K "_law_minus" "_law_minus" s_law_minus f fd) : FnOk P w K mg base CX0 4 f fd ["_law_one", "_law_other"] (sp_two K minus) := by
  refine F.ok sc_law_minus (fun vs H Q E h => ?_) (fun cdv A outer s H vs Q E hr h => ?_)
  · obtain ⟨va, vb, a, b, rfl, _⟩ := h
    rfl
  obtain ⟨va, vb, a, ⟨u, v, e⟩, rfl, ia, ⟨pb, rfl, tb⟩, oa, ob, ba, bb, q⟩ := h
  refine ⟨_, (pss_one (ps_ret (pc d_law_plus (hr.mono (by decide)) (pa_cons (pv 0) (pa_cons (pe_tup (pa_cons (pe_op op_sub pe_int (pe_ix (r := rIxT K) ix_tup (pv 1) pe_int (fun _ _ => rfl))) (pa_cons (pe_op op_sub pe_int (pe_ix (r := rIxT K) ix_tup (pv 1) pe_int (fun _ _ => rfl))) (pa_cons (pe_ix (r := rIxT K) ix_tup (pv 1) pe_int (fun _ _ => rfl)) pa_nil)))) pa_nil))))), ?_⟩
  refine ⟨_, rfl, _, rfl, _, _, _, _, rfl, rfl, tb, by rfl, _, _, rfl, rfl, _, rfl, _, _, _, _, rfl, rfl, tb, by rfl, _, _, rfl, rfl, _, rfl, _, _, _, _, rfl, rfl, tb, by rfl, (by show 3 ≤ sizeLine; decide), fun p hp => ?_⟩
  have s1 := same_new hp (.tup [.int (0 - u), .int (0 - v), .int e])
  have i1 : IsT K (upd H p (.tup [.int (0 - u), .int (0 - v), .int e])) (.ref p) (neg (u, v, e)) := by
    unfold neg
    dsimp only
    rw [← Int.zero_sub u, ← Int.zero_sub v]
    exact IsT.new (H := H)
  exact ⟨_, _, a, neg (u, v, e), rfl, ia.same s1, i1, oa, neg_ok ob, ba, neg_B bb, fun H2 r2 s2 i2 => q _ _ (s1.trans s2) i2⟩
end
end My

namespace My
open PySem L2 Mth
abbrev s_law_carried : Stmt := topS 53
theorem sc_law_carried : FnScope ["_law_told_here", "_law_spot_here"] ["_law_told_here", "_law_spot_here"] (defScope s_law_carried) := ⟨rfl, rfl, rfl, by decide +kernel, rfl, by decide +kernel, by decide +kernel⟩
section
variable {P : Program} {w : World} {K : PySem.W.Frag} {mg : Str → Option Value} {base : Heap}
theorem ok_law_carried {f : Addr} {fd : FuncData} (d_law_plus : D P w K mg base "_law_plus" 3 (sp_two K plus)) (d_law_times : D P w K mg base "_law_times" 3 (sp_two K times)) (d_law_over : D P w K mg base "_law_over" 1 (sp_one K over)) (F : Fun K "_law_carried" "_law_carried" s_law_carried f fd) : FnOk P w K mg base CX0 4 f fd ["_law_told_here", "_law_spot_here"] (sp_lcar K) := by
  refine F.ok sc_law_carried (fun vs H Q E h => ?_) (fun cdv A outer s H vs Q E hr h => ?_)
  · obtain ⟨vc, c, vz, z, rfl, _⟩ := h
    rfl
  obtain ⟨vc, c, vz, z, rfl, ⟨p, a, b, rfl, h1, h2, h3⟩, ok, bc, iz, oz, bz, q⟩ := h
  refine ⟨_, (pss_one (ps_ret (pc d_law_plus (hr.mono (by decide)) (pa_cons (pc d_law_times (hr.mono (by decide)) (pa_cons (pe_ix (r := rIxT K) ix_tup (pv 0) pe_int (fun _ _ => rfl)) (pa_cons (pe_ifExp (pt_val (pe_ix (r := rIxT K) ix_tup (pv 0) pe_int (fun _ _ => rfl))) (pc d_law_over (hr.mono (by decide)) (pa_cons (pv 1) pa_nil)) (pv 1)) pa_nil))) (pa_cons (pe_ix (r := rIxT K) ix_tup (pv 0) pe_int (fun _ _ => rfl)) pa_nil))))), ?_⟩
  refine ⟨_, rfl, _, _, _, _, rfl, rfl, h1, by rfl, _, rfl, _, _, _, _, rfl, rfl, h1, by rfl, _, rfl, ?_⟩
  have fin : ∀ H1 r1, Same H H1 → IsT K H1 r1 (face z c.m) → sp_two K times [.ref a, r1] H1 (fun r2 H2 => ∃ v, [some (V.ref p), some vz][0]? = some (some v) ∧ ∃ p' xs i u, v = .ref p' ∧ V.int 1 = .int i ∧ SqT K H2 p' xs ∧ atI xs i = some u ∧ sp_two K plus [r2, u] H2 Q E0) E0 := fun H1 r1 s1 i1 => by
    refine ⟨_, _, _, _, rfl, ⟨_, rfl, same_T s1 h2⟩, i1, ok.t, face_ok oz _, bc.1.mono (by decide), (face_B bz _).mono (by decide), fun H2 r2 s2 i2 => ?_⟩
    refine ⟨_, rfl, _, _, _, _, rfl, rfl, same_T (s1.trans s2) h1, by rfl, ?_⟩
    exact ⟨_, _, _, _, rfl, i2, ⟨_, rfl, same_T (s1.trans s2) h3⟩, times_ok ok.t (face_ok oz _), ok.s, (times_B ok.t (face_ok oz _) bc.1 (face_B bz _)).mono (by decide), bc.2.mono (by decide), fun H3 r3 s3 i3 => q _ _ ((s1.trans s2).trans s3) i3⟩
  cases hm : c.m with
  | true =>
    rw [hm] at fin
    exact iteT ⟨_, rfl, _, _, rfl, iz, fun H1 r1 s1 i1 => fin H1 r1 s1 i1⟩
  | false =>
    rw [hm] at fin
    exact iteF ⟨_, rfl, fin H _ (Same.refl _) iz⟩
end
end My

namespace My
open PySem L2 Mth
open PyProof.Rows PySem.Spec
section
variable {P : Program} {w : World} {K : PySem.W.Frag} {mg : Str → Option Value} {base : Heap}
/-! ### the class's operations as its users see them -/
structure MRs (P : Program) (w : World) (K : PySem.W.Frag) (mg : Str → Option Value) (base : Heap) (C : Addr) : Prop where
  sf : PySem.W.selfFirst K C = true
  ex : ∃ f, FnR P w K mg base CX0 6 f (sp_jn K C) ∧ PySem.W.findIn K (.ref C) "__rshift__" = some (some (.ref f)) ∧ PySem.W.isFn K (.ref f) = true
structure MIv (P : Program) (w : World) (K : PySem.W.Frag) (mg : Str → Option Value) (base : Heap) (C : Addr) : Prop where
  ex : ∃ f, FnR P w K mg base CX0 6 f (sp_bk K C) ∧ PySem.W.findIn K (.ref C) "__invert__" = some (some (.ref f)) ∧ PySem.W.isFn K (.ref f) = true
structure MEq (P : Program) (w : World) (K : PySem.W.Frag) (mg : Str → Option Value) (base : Heap) (C : Addr) : Prop where
  ex : ∃ f, FnR P w K mg base CX0 1 f (sp_ceq K C) ∧ PySem.W.findIn K (.ref C) "__eq__" = some (some (.ref f)) ∧ PySem.W.isFn K (.ref f) = true
structure MCa (P : Program) (w : World) (K : PySem.W.Frag) (mg : Str → Option Value) (base : Heap) (C : Addr) : Prop where
  ex : ∃ f, FnR P w K mg base CX0 5 f (sp_ap K C) ∧ StX.CallO K C f
structure MPt (P : Program) (w : World) (K : PySem.W.Frag) (mg : Str → Option Value) (base : Heap) (C : Addr) : Prop where
  cl : Cls K C
  ex : ∃ f fd p, FnOk P w K mg base CX0 1 f fd ["self"] (sp_get K C fun c H r => IsT K H r c.t) ∧ Binds K fd ["self"] [] ∧ PropOf K C "turn" p f
structure MPs (P : Program) (w : World) (K : PySem.W.Frag) (mg : Str → Option Value) (base : Heap) (C : Addr) : Prop where
  cl : Cls K C
  ex : ∃ f fd p, FnOk P w K mg base CX0 1 f fd ["self"] (sp_get K C fun c H r => IsT K H r c.s) ∧ Binds K fd ["self"] [] ∧ PropOf K C "shift" p f
structure MPm (P : Program) (w : World) (K : PySem.W.Frag) (mg : Str → Option Value) (base : Heap) (C : Addr) : Prop where
  cl : Cls K C
  ex : ∃ f fd p, FnOk P w K mg base CX0 1 f fd ["self"] (sp_get K C fun c H r => r = .bl c.m) ∧ Binds K fd ["self"] [] ∧ PropOf K C "mirrored" p f
structure MPg (P : Program) (w : World) (K : PySem.W.Frag) (mg : Str → Option Value) (base : Heap) (C : Addr) : Prop where
  cl : Cls K C
  ex : ∃ f fd p, FnOk P w K mg base CX0 3 f fd ["self"] (sp_growth K C) ∧ Binds K fd ["self"] [] ∧ PropOf K C "growth" p f
section
variable {X : Cx} {C : Addr} {fe e : Expr} {es : List Expr} {te tf : TE} {t : TA} {pos : Pos}
theorem op_rsh (M : MRs X.prog X.w X.K X.mg X.base C) (hr : Room 6 X.A) : OpR X (binaryOp .RShift) (rOwn2 C (sp_jn X.K C)) := by
  obtain ⟨f, F, h1, h2⟩ := M.ex
  exact op_own (op := .RShift) F hr M.sf h1 h2
theorem un_inv' (M : MIv X.prog X.w X.K X.mg X.base C) (hr : Room 6 X.A) : UnR X (unaryOp .Invert) (rOwn1 C (sp_bk X.K C)) := by
  obtain ⟨f, F, h1, h2⟩ := M.ex
  exact un_own F hr h1 h2
theorem op_ceq (M : MEq X.prog X.w X.K X.mg X.base C) (hr : Room 1 X.A) : OpR X (compareOp .Eq) (rOwn2 C (sp_ceq X.K C)) := by
  obtain ⟨f, F, h1, h2⟩ := M.ex
  exact eq_own F hr h1 h2
def tAp (K : PySem.W.Frag) (C : Addr) (tf : TE) (t : TA) : TE := fun σ H Q => tf σ H fun y H1 => ∃ a, y = V.ref a ∧ t σ H1 fun vs H2 => (∃ dx fs, H2 a = some (.ins C dx fs)) ∧ sp_ap K C (V.ref a :: vs) H2 Q E0
theorem pe_ap (M : MCa X.prog X.w X.K X.mg X.base C) (hr : Room 5 X.A) (hf : PE X fe tf) (ha : PA X (e :: es) t)
    (ht : eval (.Call fe (e :: es) [] pos) X.env = (do callWith pos (← eval fe X.env) [] (backTo pos (starEach (e :: es) X.env)) (backToKw pos (keywordEach [] X.env))) := by rfl)
    (he : starEach (e :: es) X.env = (false, eval e X.env) :: starEach es X.env := by rfl) (hpl : (backTo pos (starEach es X.env)).any (·.1) = false := by rfl) : PE X (.Call fe (e :: es) [] pos) (tAp X.K C tf t) := by
  obtain ⟨g, F, c⟩ := M.ex
  refine ⟨fun pins s σ H Q I h => ?_⟩
  refine Call_ (thn (hf.run pins s σ H _ I h) fun u s1 ⟨y, H1, I1, ry, a, ey, q⟩ => ?_) ht
  subst ey
  obtain rfl : u = Value.ref a := ry
  refine StX.callO_with (thn (ha.run pos pins s1 σ H1 _ I1 q) fun us s2 ⟨vs, H2, I2, r, hi, q2⟩ => ?_) he hpl
  have hi' : StX.InsC X H2 a C := .inr hi
  obtain ⟨ox, od, J, hd⟩ := StX.insC_at I2 hi'
  exact ⟨⟨C, ox, od, J, hd⟩, StX.run_callO c F hr pass0 I2 hi' r q2⟩
theorem pe_turn (M : MPt X.prog X.w X.K X.mg X.base C) (hr : Room 2 X.A) (he : PE X e te) (hab : attributeBase e "turn" X.env (eval e X.env) = eval e X.env := by rfl) : PE X (.Attribute e "turn" pos) (tProp C (sp_get X.K C fun c H r => IsT X.K H r c.t) [] E0 te) := by
  obtain ⟨f, fd, p, F, b, hp⟩ := M.ex
  exact pe_prop he M.cl hp F hr b .nil pass0 hab
theorem pe_shift (M : MPs X.prog X.w X.K X.mg X.base C) (hr : Room 2 X.A) (he : PE X e te) (hab : attributeBase e "shift" X.env (eval e X.env) = eval e X.env := by rfl) : PE X (.Attribute e "shift" pos) (tProp C (sp_get X.K C fun c H r => IsT X.K H r c.s) [] E0 te) := by
  obtain ⟨f, fd, p, F, b, hp⟩ := M.ex
  exact pe_prop he M.cl hp F hr b .nil pass0 hab
theorem pe_mirr (M : MPm X.prog X.w X.K X.mg X.base C) (hr : Room 2 X.A) (he : PE X e te) (hab : attributeBase e "mirrored" X.env (eval e X.env) = eval e X.env := by rfl) : PE X (.Attribute e "mirrored" pos) (tProp C (sp_get X.K C fun c _ r => r = .bl c.m) [] E0 te) := by
  obtain ⟨f, fd, p, F, b, hp⟩ := M.ex
  exact pe_prop he M.cl hp F hr b .nil pass0 hab
theorem pe_grow (M : MPg X.prog X.w X.K X.mg X.base C) (hr : Room 4 X.A) (he : PE X e te) (hab : attributeBase e "growth" X.env (eval e X.env) = eval e X.env := by rfl) : PE X (.Attribute e "growth" pos) (tProp C (sp_growth X.K C) [] E0 te) := by
  obtain ⟨f, fd, p, F, b, hp⟩ := M.ex
  exact pe_prop he M.cl hp F hr b .nil pass0 hab
end
/-! ### readings of these, from what is known of the objects -/
theorem prop_of {C : Addr} {H : Hp} {Q : VK} {sp : Sp} {v : V} {c : Cp} (i : IsC K C H v c) (q : sp [v] H Q E0) : ∃ a dx fs, v = .ref a ∧ H a = some (.ins C dx fs) ∧ sp (.ref a :: []) H Q E0 := by
  obtain ⟨p, dx, a, b, rfl, h1, _⟩ := i
  exact ⟨p, dx, _, rfl, h1, q⟩
theorem ap_of {C : Addr} {H2 : Hp} {Q : VK} {vz : V} {a : Addr} {c : Cp} {z : T3} (i : IsC K C H2 (.ref a) c) (ok : CpOk c) (bc : BC 1900 c) (iz : IsT K H2 vz z) (oz : Ok z) (bz : B 1900 z) (q : ∀ H' r, Same H2 H' → IsT K H' r (ap c z) → Q r H') :
    (∃ dx fs, H2 a = some (.ins C dx fs)) ∧ sp_ap K C [.ref a, vz] H2 Q E0 := by
  have i' := i
  obtain ⟨p, dx, _, _, e, h1, _⟩ := i
  cases e
  exact ⟨⟨dx, _, h1⟩, _, c, _, z, rfl, i', ok, bc, iz, oz, bz, q⟩
theorem jn_of {C : Addr} {H : Hp} {Q : VK} {x y : V} {a b : Cp} (ix : IsC K C H x a) (iy : IsC K C H y b) (oa : CpOk a) (ob : CpOk b) (ba : BC 1900 a) (bb : BC 1900 b) (q : ∀ H' r, Same H H' → IsC K C H' r (jn a b) → Q r H') : rOwn2 C (sp_jn K C) x y H Q :=
  own2_of ix iy ⟨_, a, _, b, rfl, ix, iy, oa, ob, ba, bb, q⟩
theorem bk_of {C : Addr} {H : Hp} {Q : VK} {x : V} {a : Cp} (ix : IsC K C H x a) (oa : CpOk a) (ba : BC 1900 a) (q : ∀ H' r, Same H H' → IsC K C H' r (bk a) → Q r H') : rOwn1 C (sp_bk K C) x H Q :=
  own1_of ix ⟨_, a, rfl, ix, oa, ba, q⟩
theorem ceq_of {C : Addr} {H : Hp} {Q : VK} {x y : V} {a b : Cp} (ix : IsC K C H x a) (iy : IsC K C H y b) (e : a = b) (q : Q (.bl true) H) : rOwn2 C (sp_ceq K C) x y H Q :=
  own2_of ix iy ⟨_, a, _, b, rfl, ix, iy, by rw [ceq_iff.mpr e]; exact q⟩
theorem asg_of {te : TE} {g : TG} {u : TS} {D : Ends} {σ : L2.St} {H : Hp} (h : te σ H fun x H1 => g x σ H1 (u D)) : tSeq (tAsg te g) u D σ H := h
theorem gn_of {i : Nat} {v : V} {σ : L2.St} {H : Hp} {Q : L2.St → Hp → Prop} (h : Q (σ.set i (some v)) H) : gName i v σ H Q := h
theorem nil_of {σ : L2.St} {H : Hp} {Q : List V → Hp → Prop} (h : Q [] H) : tNil σ H Q := h
/-- a copy made, whatever is wanted of it -/
theorem mk_of2 {C : Addr} {H : Hp} {Qf : Addr → VK} {vt vs : V} {m : Bool} {t s : T3} (it : IsT K H vt t) (is : IsT K H vs s) (ot : Ok t) (nt : Nz t) (os : Ok s) (q : ∀ H' x, Same H H' → IsC K C H' (.ref x) ⟨t, s, m⟩ → Qf x .non H') :
    ∀ x dx, H x = none → H dx = none → dx ≠ x → sp_init K C [.ref x, vt, vs, .bl m] (upd (upd H dx (.own x)) x (.ins C dx [])) (Qf x) E0 := by
  intro x dx hx hd _
  refine ⟨H, x, dx, vt, vs, m, t, s, rfl, fun c o e => ?_, hx, upd_same, it, is, ot, nt, os, fun H' s' i => q _ _ s' i⟩
  rw [upd_ne (ne_of_none e hx), upd_ne (ne_of_none e hd)]
  exact e
theorem BC.mono {n m : Nat} {c : Cp} (b : BC n c) (h : n ≤ m) : BC m c := ⟨b.1.mono h, b.2.mono h⟩
theorem bk_BC {n : Nat} {c : Cp} (ok : CpOk c) (b : BC n c) : BC (3 * n + 2) (bk c) :=
  ⟨(face_B (inv_B ok.n b.1) _).mono (by omega), (face_B (neg_B (times_B (inv_ok ok.n) ok.s (inv_B ok.n b.1) b.2)) _).mono (by omega)⟩
theorem jn_BC {n m : Nat} {a b : Cp} (oa : CpOk a) (ob : CpOk b) (ba : BC n a) (bb : BC m b) : BC (n + 2 * m + 2) (jn a b) :=
  ⟨(times_B ob.t (face_ok oa.t _) bb.1 (face_B ba.1 _)).mono (by omega), (car_B ob.t ob.s oa.s bb.1 bb.2 ba.2).mono (by omega)⟩
theorem ap_B {n m : Nat} {c : Cp} {z : T3} (ok : CpOk c) (oz : Ok z) (b : BC n c) (bz : B m z) : B (2 * n + m + 2) (ap c z) := (car_B ok.t ok.s oz b.1 b.2 bz).mono (by omega)
theorem still_BC : BC 3 still := by unfold BC; exact ⟨by decide, by decide⟩
theorem t3_of {H : Hp} {Q : VK} {t : T3} (q : ∀ H' r, Same H H' → IsT K H' r t → Q r H') : ∀ p, H p = none → Q (.ref p) (upd H p (.tup (v3 t))) := fun p hp => q _ _ (same_new hp _) ⟨p, rfl, .inl (.inl upd_same)⟩
theorem eqv2 (a b : Int) : PyData.eqv (.tuple [.int a, .int b]) (.tuple [.int a, .int b]) = true := by
  show ((a == a) && ((b == b) && true)) = true
  simp
theorem Dp2 {H : Hp} {p : Addr} {a b : Int} (h : SqT K H p [.int a, .int b]) : Dp K H (.ref p) (.tuple [.int a, .int b]) := .tup h (.cons (.int _) (.cons (.int _) .nil))
theorem IsT.dp {H : Hp} {v : V} {t : T3} (h : IsT K H v t) : Dp K H v (d3 t) := by
  obtain ⟨p, rfl, q⟩ := h
  exact Dp3 q
theorem deep3 (n : Nat) (t : T3) : Deep (n + 2) (d3 t) := by
  refine ⟨(by show 3 ≤ 1000; decide), fun d hd => ?_⟩
  simp only [List.mem_cons, List.mem_nil_iff, or_false] at hd
  rcases hd with rfl | rfl | rfl <;> trivial
theorem deep2 (n : Nat) (a b : Int) : Deep (n + 2) (.tuple [.int a, .int b]) := by
  refine ⟨(by show 2 ≤ 1000; decide), fun d hd => ?_⟩
  simp only [List.mem_cons, List.mem_nil_iff, or_false] at hd
  rcases hd with rfl | rfl <;> trivial
theorem gr3_B {t : T3} (o : Ok t) (b : B 3 t) : B 4000 (gr3 t) :=
  B.mono (n := 7) (low_B (mul_ne o.ne o.ne) (add_lt (mul_lt b.1 b.1) (mul_lt b.2.1 b.2.1)) (by decide) (up_lt (by decide) (mul_lt b.2.2 b.2.2))) (by decide)
/-- equal at every level, of two spots -/
theorem eq3_of {H : Hp} {Q : VK} {va vb : V} {a b : T3} {n : Nat} (ia : IsT K H va a) (ib : IsT K H vb b) (e : a = b) (q : ∀ H', Same H H' → Q (.bl true) H') : sp_equal K (n + 2) [va, vb] H Q E0 := by
  subst e
  exact ⟨va, vb, d3 a, rfl, ia.dp, ib.dp, deep3 n a, q⟩
end
end My

namespace My
open PySem L2 Mth
section
variable {P : Program} {w : World} {K : PySem.W.Frag} {mg : Str → Option Value} {base : Heap}
theorem bind_init {f : Addr} {fd : FuncData} (F : FunD K "__init__" "Copy.__init__" (defArgs s_Copy___init__) (defBody s_Copy___init__) (defScope s_Copy___init__) [] [("mirrored", .bl false)] f fd) :
    (∃ ds, Vals [.bl false] ds ∧ Binds K fd ["self", "turn", "shift", "mirrored"] ds) ∧ ∃ mv : List Value, KBn K fd ["self", "turn", "shift", "mirrored"] 3 ["mirrored"] (fun us ws => us ++ ws) (fun vs zs => vs ++ zs) := by
  refine ⟨F.binds0 (ps := ["self", "turn", "shift", "mirrored"]) 3 (by intro z; cases z) rfl fun D doc pm an cdv ct us ks h1 h2 => ?_, ?_⟩
  · match us, ks, h1, h2 with
    | [x, y, z], [k], _, _ => exact ⟨_, _, _, _, _, _, rfl, rfl, rfl⟩
  · refine F.kbinds0 (ps := ["self", "turn", "shift", "mirrored"]) 3 ["mirrored"] [] (fun us _ ws => us ++ ws) (by intro z; cases z) (fun q hq => by cases hq) (fun r1 _ r3 => r1.append r3) fun D doc pm an cdv ct us mv ws h1 h2 h3 => ?_
    match us, mv, ws, h1, h2, h3 with
    | [x, y, z], [], [k], _, _, _ => rfl
end
end My

namespace My
open PySem L2 Mth
section
variable {K : PySem.W.Frag}
theorem pimp {α β : Type} {R S : α → β → Prop} (h : ∀ p t, R p t → S p t) : ∀ {ps : List α} {ts : List β}, Paired R ps ts → Paired S ps ts
  | _, _, .nil => .nil
  | _, _, .cons r t => .cons (h _ _ r) (pimp h t)
theorem papp {α β : Type} {R : α → β → Prop} : ∀ {ps qs : List α} {ts us : List β}, Paired R ps ts → Paired R qs us → Paired R (ps ++ qs) (ts ++ us)
  | _, _, _, _, .nil, k => k
  | _, _, _, _, .cons r t, k => .cons r (papp t k)
theorem pget {α β : Type} {R : α → β → Prop} : ∀ {ps : List α} {ts : List β}, Paired R ps ts → ∀ {i : Nat} {p : α}, ps[i]? = some p → ∃ t, ts[i]? = some t ∧ R p t
  | _, _, .nil, i, p, h => by simp at h
  | _, _, .cons r t, 0, p, h => ⟨_, rfl, by simp at h; rw [← h]; exact r⟩
  | _, _, .cons r t, i + 1, p, h => by
    obtain ⟨u, h1, h2⟩ := pget t (i := i) (p := p) (by simpa using h)
    exact ⟨u, by simpa using h1, h2⟩
/-- a list of told copies, and of copies -/
def AllD (K : PySem.W.Frag) (H : Hp) (vs : List V) (cs : List Cp) : Prop := Paired (fun v c => IsD K H v c) vs cs
def AllC (K : PySem.W.Frag) (C : Addr) (H : Hp) (vs : List V) (cs : List Cp) : Prop := Paired (fun v c => IsC K C H v c) vs cs
theorem AllD.same {H H' : Hp} {vs : List V} {cs : List Cp} (h : AllD K H vs cs) (s : Same H H') : AllD K H' vs cs := pimp (fun _ _ i => i.same s) h
theorem AllC.same {C : Addr} {H H' : Hp} {vs : List V} {cs : List Cp} (h : AllC K C H vs cs) (s : Same H H') : AllC K C H' vs cs := pimp (fun _ _ i => i.same s) h
theorem AllD.keep {H H' : Hp} {vs : List V} {cs : List Cp} {d : Addr} {ys : List V} (h : AllD K H vs cs) (hd : H d = some (.lst ys)) (k : Keep d H H') : AllD K H' vs cs := pimp (fun _ _ i => i.keep hd k) h
theorem AllC.keep {C : Addr} {H H' : Hp} {vs : List V} {cs : List Cp} {d : Addr} {ys : List V} (h : AllC K C H vs cs) (hd : H d = some (.lst ys)) (k : Keep d H H') : AllC K C H' vs cs := pimp (fun _ _ i => i.keep hd k) h
theorem keep_new {d p : Addr} {H : Hp} {o : HO} (h : H p = none) : Keep d H (upd H p o) := Keep.of (same_new h o)
/-- the tolds that a comprehension over range(n) draws: the heap behind it -/
structure Drawn (K : PySem.W.Frag) (d L : Addr) (H H' : Hp) (n : Nat) : Prop where
  ex : ∃ st vs cs, Keep d H H' ∧ H' d = some (.lst (encD st)) ∧ SrcOk st ∧ H' L = some (.lst vs) ∧ vs.length = n ∧ AllD K H' vs cs ∧ ∀ c ∈ cs, CopyIn c
theorem drawn_start {d L : Addr} {H : Hp} {st : Src} (hd : H d = some (.lst (encD st))) (ok : SrcOk st) (hL : H L = none) : Drawn K d L H (upd H L (.lst [])) 0 :=
  ⟨st, [], [], keep_new hL, (same_new hL _) _ _ hd, ok, upd_same, rfl, .nil, fun c hc => by cases hc⟩
theorem drawn_more {d L : Addr} {H H1 H2 : Hp} {n : Nat} {st st2 : Src} {v : V} {c : Cp} {vs : List V} {cs : List Cp} (hL : H L = none) (hdL : L ≠ d) (k1 : Keep d H H1) (hd1 : H1 d = some (.lst (encD st))) (h1 : H1 L = some (.lst vs)) (hn : vs.length = n) (a : AllD K H1 vs cs) (g : ∀ c ∈ cs, CopyIn c)
    (k2 : Keep d H1 H2) (hd2 : H2 d = some (.lst (encD st2))) (ok2 : SrcOk st2) (i : IsD K H2 v c) (ic : CopyIn c) : Drawn K d L H (upd H2 L (.lst (vs ++ [v]))) (n + 1) := by
  have h2 : H2 L = some (.lst vs) := k2 _ _ hdL h1
  have a2 : AllD K H2 vs cs := a.keep hd1 k2
  refine ⟨st2, vs ++ [v], cs ++ [c], fun b o nb e => ?_, ?_, ok2, upd_same, by rw [List.length_append, hn]; rfl, papp (a2.keep h2 keep_upd) (.cons (i.keep h2 keep_upd) .nil), fun x hx => ?_⟩
  · rw [upd_ne (ne_of_none e hL)]
    exact k2 _ _ nb (k1 _ _ nb e)
  · rw [upd_ne (Ne.symm hdL)]; exact hd2
  · rcases List.mem_append.mp hx with h | h
    · exact g x h
    · rw [List.mem_singleton.mp h]; exact ic
/-- the copies of tolds, by a comprehension: the heap behind it -/
structure Copied (K : PySem.W.Frag) (C L : Addr) (H H' : Hp) (cs : List Cp) : Prop where
  ex : ∃ ws, Same H H' ∧ H' L = some (.lst ws) ∧ AllC K C H' ws cs
theorem copied_start {C L : Addr} {H : Hp} (hL : H L = none) : Copied K C L H (upd H L (.lst [])) [] := ⟨[], same_new hL _, upd_same, .nil⟩
theorem copied_more {C L : Addr} {H H1 H2 : Hp} {cs : List Cp} {c : Cp} {w : V} {ws : List V} (hL : H L = none) (s1 : Same H H1) (h1 : H1 L = some (.lst ws)) (a : AllC K C H1 ws cs) (s2 : Same H1 H2) (i : IsC K C H2 w c) : Copied K C L H (upd H2 L (.lst (ws ++ [w]))) (cs ++ [c]) := by
  have h2 := s2 _ _ h1
  refine ⟨ws ++ [w], fun b o e => ?_, upd_same, papp ((a.same s2).keep h2 keep_upd) (.cons (i.keep h2 keep_upd) .nil)⟩
  rw [upd_ne (ne_of_none e hL)]
  exact s2 _ _ (s1 _ _ e)
end
end My

namespace My
open PySem L2 Mth
section
variable {K : PySem.W.Frag} {α : Type}
theorem tk_filter {β : Type} (p : β → Bool) {l : List β} {i : Nat} {x : β} (h : l[i]? = some x) : (l.take (i + 1)).filter p = (l.take i).filter p ++ (if p x = true then [x] else []) := by
  rw [take_more h, List.filter_append]
  congr 1
  by_cases c : p x = true
  · rw [if_pos c]; simp [c]
  · rw [if_neg c]; simp [c]
theorem tk_map {β γ : Type} (f : β → γ) {l : List β} {i : Nat} {x : β} (h : l[i]? = some x) : (l.take (i + 1)).map f = (l.take i).map f ++ [f x] := by
  rw [take_more h, List.map_append]; rfl
/-! ### what a comprehension draws, of any kind -/
def KeepsI (I : Hp → V → α → Prop) : Prop := ∀ (H H' : Hp) (v : V) (x : α) (e : Addr) (ys : List V), I H v x → H e = some (.lst ys) → Keep e H H' → I H' v x
def DrawnG (I : Hp → V → α → Prop) (G : α → Prop) (d L : Addr) (H H' : Hp) (n : Nat) : Prop := ∃ st vs xs, Keep d H H' ∧ H' d = some (.lst (encD st)) ∧ SrcOk st ∧ H' L = some (.lst vs) ∧ vs.length = n ∧ Paired (I H') vs xs ∧ ∀ x ∈ xs, G x
theorem drawnG_start {I : Hp → V → α → Prop} {G : α → Prop} {d L : Addr} {H : Hp} {st : Src} (hd : H d = some (.lst (encD st))) (ok : SrcOk st) (hL : H L = none) : DrawnG I G d L H (upd H L (.lst [])) 0 :=
  ⟨st, [], [], Keep.of (same_new hL _), (same_new hL _) _ _ hd, ok, upd_same, rfl, .nil, fun c hc => by cases hc⟩
theorem drawnG_more {I : Hp → V → α → Prop} {G : α → Prop} (kI : KeepsI I) {d L : Addr} {H H1 H2 : Hp} {n : Nat} {st st2 : Src} {v : V} {x : α} {vs : List V} {xs : List α} (hL : H L = none) (hdL : L ≠ d) (k1 : Keep d H H1) (hd1 : H1 d = some (.lst (encD st))) (h1 : H1 L = some (.lst vs)) (hn : vs.length = n) (a : Paired (I H1) vs xs) (g : ∀ x ∈ xs, G x)
    (k2 : Keep d H1 H2) (hd2 : H2 d = some (.lst (encD st2))) (ok2 : SrcOk st2) (i : I H2 v x) (ix : G x) : DrawnG I G d L H (upd H2 L (.lst (vs ++ [v]))) (n + 1) := by
  have h2 : H2 L = some (.lst vs) := k2 _ _ hdL h1
  refine ⟨st2, vs ++ [v], xs ++ [x], fun b o nb e => ?_, ?_, ok2, upd_same, by rw [List.length_append, hn]; rfl, papp (pimp (fun p t q => kI _ _ _ _ _ _ (kI _ _ _ _ _ _ q hd1 k2) h2 keep_upd) a) (.cons (kI _ _ _ _ _ _ i h2 keep_upd) .nil), fun y hy => ?_⟩
  · rw [upd_ne (ne_of_none e hL)]
    exact k2 _ _ nb (k1 _ _ nb e)
  · rw [upd_ne (Ne.symm hdL)]; exact hd2
  · rcases List.mem_append.mp hy with h | h
    · exact g y h
    · rw [List.mem_singleton.mp h]; exact ix
theorem keepsT : KeepsI (IsT K) := fun _ _ _ _ _ _ i hd k => i.keep hd k
theorem turn4' : ∀ t ∈ [((1, 0, 1) : T3), (-1, 0, 1), (0, 1, 1), (3, 4, 5)], TurnIn t := fun t ht => turns_in t (by
  have h : ∀ t ∈ [((1, 0, 1) : T3), (-1, 0, 1), (0, 1, 1), (3, 4, 5)], t ∈ turns13 := by decide +kernel
  exact h t ht)
end
end My

namespace My
open PySem L2 Mth
section
variable {K : PySem.W.Frag}
/-- a fraction -/
def IsF (K : PySem.W.Frag) (H : Hp) (v : V) (f : Int × Int) : Prop := ∃ p, v = .ref p ∧ SqT K H p [.int f.1, .int f.2]
theorem IsF.same {H H' : Hp} {v : V} {f : Int × Int} (h : IsF K H v f) (e : Same H H') : IsF K H' v f := by
  obtain ⟨p, rfl, q⟩ := h
  exact ⟨p, rfl, same_T e q⟩
theorem IsF.keep {H H' : Hp} {v : V} {f : Int × Int} {d : Addr} {ys : List V} (h : IsF K H v f) (hd : H d = some (.lst ys)) (k : Keep d H H') : IsF K H' v f := by
  obtain ⟨p, rfl, q⟩ := h
  exact ⟨p, rfl, keep_T q hd k⟩
theorem IsF.new {H : Hp} {p : Addr} {a b : Int} : IsF K (upd H p (.tup [.int a, .int b])) (.ref p) (a, b) := ⟨p, rfl, .inl (.inl upd_same)⟩
def dF (f : Int × Int) : PyData := .tuple [.int f.1, .int f.2]
theorem IsF.dp {H : Hp} {v : V} {f : Int × Int} (h : IsF K H v f) : Dp K H v (dF f) := by
  obtain ⟨p, rfl, q⟩ := h
  exact .tup q (.cons (.int _) (.cons (.int _) .nil))
theorem shapedF (f : Int × Int) : SeqAt.shaped (dF f) = true := rfl
theorem deepF (n : Nat) (f : Int × Int) : Deep (n + 2) (dF f) := by
  refine ⟨(by show 2 ≤ 1000; decide), fun d hd => ?_⟩
  simp only [List.mem_cons, List.mem_nil_iff, or_false] at hd
  rcases hd with rfl | rfl <;> trivial
end
end My

namespace My
open PySem L2 Mth
abbrev s_carriers : Stmt := topS 40
theorem sc_carriers : FnScope ["pairs", "pair", "spot", "others", "one", "found", "mirrored"] ["pairs"] (defScope s_carriers) := ⟨rfl, rfl, rfl, by decide +kernel, rfl, by decide +kernel, by decide +kernel⟩
abbrev s_carriers_by : Stmt := topS 41
theorem sc_carriers_by : FnScope ["pairs", "other", "mirrored", "source", "goal", "start", "turn", "shift", "one", "image"] ["pairs", "other", "mirrored"] (defScope s_carriers_by) := ⟨rfl, rfl, rfl, by decide +kernel, rfl, by decide +kernel, by decide +kernel⟩
section
variable {P : Program} {w : World} {K : PySem.W.Frag} {mg : Str → Option Value} {base : Heap}
/-! ### pairs of spots -/
def IsPr (K : PySem.W.Frag) (H : Hp) (v : V) (p : Pr) : Prop := ∃ t a b, v = .ref t ∧ SqT K H t [.ref a, .ref b] ∧ SqT K H a (v3 p.1) ∧ SqT K H b (v3 p.2)
theorem IsPr.same {H H' : Hp} {v : V} {p : Pr} (h : IsPr K H v p) (s : Same H H') : IsPr K H' v p := by
  obtain ⟨t, a, b, rfl, h1, h2, h3⟩ := h
  exact ⟨t, a, b, rfl, same_T s h1, same_T s h2, same_T s h3⟩
theorem IsPr.keep {H H' : Hp} {v : V} {p : Pr} {d : Addr} {ys : List V} (h : IsPr K H v p) (hd : H d = some (.lst ys)) (s : Keep d H H') : IsPr K H' v p := by
  obtain ⟨t, a, b, rfl, h1, h2, h3⟩ := h
  exact ⟨t, a, b, rfl, keep_T h1 hd s, keep_T h2 hd s, keep_T h3 hd s⟩
def AllPr (K : PySem.W.Frag) (H : Hp) (vs : List V) (ps : List Pr) : Prop := Paired (IsPr K H) vs ps
theorem AllPr.same {H H' : Hp} {vs : List V} {ps : List Pr} (h : AllPr K H vs ps) (s : Same H H') : AllPr K H' vs ps := pimp (fun _ _ i => i.same s) h
theorem AllPr.keep {H H' : Hp} {vs : List V} {ps : List Pr} {d : Addr} {ys : List V} (h : AllPr K H vs ps) (hd : H d = some (.lst ys)) (s : Keep d H H') : AllPr K H' vs ps := pimp (fun _ _ i => i.keep hd s) h
structure PrIn (p : Pr) : Prop where
  ok : PrOk p
  ba : B 20 p.1
  bb : B 20 p.2
theorem crC_BC {h o : Pr} {m : Bool} (ph : PrIn h) (po : PrIn o) (hn : o.1 ≠ h.1) : BC 167 (crC h.1 h.2 o m) := by
  have n1 := st_nz (m := m) ph.ok po.ok hn
  have bt : B 125 (crC h.1 h.2 o m).t := times_B (minus_ok po.ok.b ph.ok.b) (inv_ok n1) (minus_B po.ok.b ph.ok.b po.bb ph.bb) (inv_B n1 (face_B (minus_B po.ok.a ph.ok.a po.ba ph.ba) m))
  exact ⟨bt.mono (by decide), (minus_B ph.ok.b (times_ok (crC_t ph.ok po.ok hn) (face_ok ph.ok.a m)) ph.bb (times_B (crC_t ph.ok po.ok hn) (face_ok ph.ok.a m) bt (face_B ph.ba m))).mono (by decide)⟩
def sp_crb (K : PySem.W.Frag) (C : Addr) : Sp := fun vs H Q _ => ∃ t us vo m h ps o, vs = [.ref t, vo, .bl m] ∧ SqT K H t us ∧ AllPr K H us (h :: ps) ∧ IsPr K H vo o ∧ (∀ p ∈ h :: ps, PrIn p) ∧ PrIn o ∧ o.1 ≠ h.1 ∧ (h :: ps).length ≤ 20 ∧
  ∀ H' L ws, Same H H' → H L = none → H' L = some (.lst ws) → AllC K C H' ws (crb (h :: ps) h o m) → Q (.ref L) H'
theorem ok_carriers_by {f C fI aM : Addr} {fd fdI : FuncData} {mv ds : List Value} (TC : CopyI P w K mg base C fI fdI mv ds) (b_any : mg "any" = none) (m_MIDDLE : mg "MIDDLE" = some (.ref aM)) (t_MIDDLE : ∀ H, SqT K H aM (v3 (0, 0, 1)))
    (d_minus : D P w K mg base "minus" 4 (sp_two K minus)) (d_product : D P w K mg base "product" 3 (sp_two K times)) (d_inverse : D P w K mg base "inverse" 3 (sp_inv K)) (d_faced : D P w K mg base "faced" 1 (sp_face K)) (d_carried : D P w K mg base "carried" 4 (sp_car K))
    (F : Fun K "carriers_by" "carriers_by" s_carriers_by f fd) : FnOk P w K mg base CX0 6 f fd ["pairs", "other", "mirrored"] (sp_crb K C) := by
  refine F.ok sc_carriers_by (fun vs H Q E h => ?_) (fun cdv A outer s H vs Q E hr h => ?_)
  · obtain ⟨t, us, vo, m, h, ps, o, rfl, _⟩ := h
    rfl
  obtain ⟨t, us, vo, m, h, ps, o, rfl, hT, hA, ⟨to', oa, ob, rfl, o1, o2, o3⟩, hin, po, hn, hl, q⟩ := h
  refine ⟨_, (pss_cons (ps_asg (pe_ix (r := rIxT K) ix_tup (pv 0) pe_int (fun _ _ => rfl)) (pg_tup rfl (pgs_cons (pg_name (i := 3) sc_carriers_by.nd rfl (by first | exact Or.inl rfl | exact Or.inr rfl)) (pgs_cons (pg_name (i := 4) sc_carriers_by.nd rfl (by first | exact Or.inl rfl | exact Or.inr rfl)) pgs_nil))))
    (pss_cons (ps_set (i := 5) sc_carriers_by.nd rfl (by first | exact Or.inl rfl | exact Or.inr rfl) (pc d_faced (hr.mono (by decide)) (pa_cons (pc d_minus (hr.mono (by decide)) (pa_cons (pe_ix (r := rIxT K) ix_tup (pv 1) pe_int (fun _ _ => rfl)) (pa_cons (pv 3) pa_nil))) (pa_cons (pv 2) pa_nil))))
    (pss_cons (ps_set (i := 6) sc_carriers_by.nd rfl (by first | exact Or.inl rfl | exact Or.inr rfl) (pc d_product (hr.mono (by decide)) (pa_cons (pc d_minus (hr.mono (by decide)) (pa_cons (pe_ix (r := rIxT K) ix_tup (pv 1) pe_int (fun _ _ => rfl)) (pa_cons (pv 4) pa_nil))) (pa_cons (pc d_inverse (hr.mono (by decide)) (pa_cons (pv 5) pa_nil)) pa_nil))))
    (pss_cons (ps_if (pt_cmpR (r := rEqD K) (op_eqD hr.units) (pv 6) (pe_glob (v := .ref aM) (by rfl) m_MIDDLE rfl) (nomark _)) (pss_one (ps_ret (pe_lst pa_nil))) pss_nil)
    (pss_cons (ps_set (i := 7) sc_carriers_by.nd rfl (by first | exact Or.inl rfl | exact Or.inr rfl) (pc d_minus (hr.mono (by decide)) (pa_cons (pv 4) (pa_cons (pc d_product (hr.mono (by decide)) (pa_cons (pv 6) (pa_cons (pc d_faced (hr.mono (by decide)) (pa_cons (pv 3) (pa_cons (pv 2) pa_nil))) pa_nil))) pa_nil))))
    (pss_cons (ps_if (pt_val (pe_callB (cr_any rfl) (by rfl) b_any (by decide +kernel) (pa_cons (pe_lc (own := [("one", 8), ("image", 9)]) (g := gTup K 2 (gCons (gName 8) (gCons (gName 9) gNil))) (tt := tYes) (by rfl) sc_carriers_by.nd (pi_tup (pv 0)) (blkOk_by (own := [("one", 8), ("image", 9)]) (N := ["pairs", "other", "mirrored", "source", "goal", "start", "turn", "shift", "one", "image"]) (sc := defScope s_carriers_by) (by decide +kernel)) (fun _ _ _ _ _ => (pg_tup rfl (pgs_cons (pg_name (i := 8) sc_carriers_by.nd rfl (by first | exact Or.inl rfl | exact Or.inr rfl)) (pgs_cons (pg_name (i := 9) sc_carriers_by.nd rfl (by first | exact Or.inl rfl | exact Or.inr rfl)) pgs_nil)))) (fun _ _ _ _ _ => pts_nil) (fun _ _ _ _ _ => (pe_cmpR (r := rNeD K) (op_neD hr.units) (pc d_carried (hr.mono (by decide)) (pa_cons (pv 6) (pa_cons (pv 7) (pa_cons (pv 2) (pa_cons (pv 8) pa_nil))))) (pv 9) (nomark _)))) pa_nil))) (pss_one (ps_ret (pe_lst pa_nil))) pss_nil)
    (pss_one (ps_ret (pe_lst (pa_cons (pe_makeK TC.mkC TC.ok (hr.mono (by decide)) (by rfl) TC.mgC TC.kb pass0 (pa_cons (pv 6) (pa_cons (pv 7) pa_nil)) (pk_cons (pv 2) pk_nil)) pa_nil)))))))))), ?_⟩
  have ph := hin h (List.mem_cons_self ..)
  have hlen := Paired.length hA
  have hA0 := hA
  obtain ⟨u0, ur, rfl, ⟨t0, a0, b0, rfl, s1, s2, s3⟩⟩ : ∃ u ur, us = u :: ur ∧ IsPr K H u h := by
    cases hA with
    | cons r _ => exact ⟨_, _, rfl, r⟩
  refine ⟨_, rfl, t, _, _, _, rfl, rfl, hT, atI_nat (j := 0) rfl, t0, _, rfl, s1, rfl, _, _, rfl, _, _, rfl, rfl, ?_⟩
  have n1 := st_nz (m := m) ph.ok po.ok hn
  have om := minus_ok po.ok.a ph.ok.a
  have bm := minus_B po.ok.a ph.ok.a po.ba ph.ba
  refine ⟨_, rfl, to', _, _, _, rfl, rfl, o1, by rfl, _, rfl, _, _, _, _, rfl, ⟨_, rfl, o2⟩, ⟨_, rfl, s2⟩, po.ok.a, ph.ok.a, po.ba.mono (by decide), ph.ba.mono (by decide), fun H1 r1 k1 i1 => ?_⟩
  refine ⟨_, rfl, _, _, _, rfl, i1, fun H2 r2 k2 i2 => ?_⟩
  have k12 := k1.trans k2
  refine ⟨_, rfl, to', _, _, _, rfl, rfl, same_T k12 o1, by rfl, _, rfl, _, _, _, _, rfl, ⟨_, rfl, same_T k12 o3⟩, ⟨_, rfl, same_T k12 s3⟩, po.ok.b, ph.ok.b, po.bb.mono (by decide), ph.bb.mono (by decide), fun H3 r3 k3 i3 => ?_⟩
  refine ⟨_, rfl, _, _, rfl, i2.same k3, n1, (face_B bm m).mono (by decide), fun H4 r4 k4 i4 => ?_⟩
  refine ⟨_, _, _, _, rfl, i3.same k4, i4, minus_ok po.ok.b ph.ok.b, inv_ok n1, (minus_B po.ok.b ph.ok.b po.bb ph.bb).mono (by decide), (inv_B n1 (face_B bm m)).mono (by decide), fun H5 r5 k5 i5 => ?_⟩
  have k15 := k12.trans (k3.trans (k4.trans k5))
  have i5 : IsT K H5 r5 (crC h.1 h.2 o m).t := i5
  obtain ⟨p5, e5, t5⟩ := id i5
  subst e5
  refine ⟨_, rfl, _, _, Dp3 t5, Dp3 (t_MIDDLE H5), shaped3 _, shaped3 _, _, rfl, ?_⟩
  rw [eqv3]
  unfold crb at q
  by_cases z : (crC h.1 h.2 o m).t = (0, 0, 1)
  · rw [decide_eq_true z]
    rw [if_pos z] at q
    refine iteT ⟨(by show 0 ≤ sizeLine; decide), fun L hL => ?_⟩
    exact q _ L [] (k15.trans (same_new hL _)) (k15.free hL) upd_same .nil
  rw [decide_eq_false z]
  rw [if_neg z] at q
  refine iteF ?_
  have oc := crC_ok ph.ok po.ok hn z
  have bc := crC_BC (m := m) ph po hn
  refine ⟨_, rfl, _, rfl, _, rfl, _, rfl, _, _, _, rfl, ⟨_, rfl, same_T k15 s2⟩, fun H6 r6 k6 i6 => ?_⟩
  refine ⟨_, _, _, _, rfl, i5.same k6, i6, oc.t, face_ok ph.ok.a m, bc.1.mono (by decide), (face_B ph.ba m).mono (by decide), fun H7 r7 k7 i7 => ?_⟩
  have k17 := k15.trans (k6.trans k7)
  refine ⟨_, _, _, _, rfl, ⟨_, rfl, same_T k17 s3⟩, i7, ph.ok.b, times_ok oc.t (face_ok ph.ok.a m), ph.bb.mono (by decide), (times_B oc.t (face_ok ph.ok.a m) bc.1 (face_B ph.ba m)).mono (by decide), fun H8 r8 k8 i8 => ?_⟩
  have k18 := k17.trans k8
  have i8 : IsT K H8 r8 (crC h.1 h.2 o m).s := i8
  have i58 := i5.same (k6.trans (k7.trans k8))
  have oa8 := hA0.same k18
  have hT8 := same_T k18 hT
  have mC : (crC h.1 h.2 o m).m = m := rfl
  generalize hC : crC h.1 h.2 o m = c at *
  refine ⟨_, rfl, t, rfl, ⟨_, hT8⟩, fun A9 hA9 => lc_tup (K := K) (a := t) (xs := .ref t0 :: ur) (fun i H' => ∃ bs : List Bool, Same H8 H' ∧ H' A9 = some (.lst (bs.map V.bl)) ∧ bs = ((h :: ps).take i).map fun p => !decide (ap c p.1 = p.2)) ⟨[], same_new hA9 _, upd_same, rfl⟩ ?_ ?_ ?_⟩
  · rintro i H' _ ⟨bs, s', _⟩
    exact same_T s' hT8
  · rintro i x H' hx ⟨bs, s', hb, eb⟩
    obtain ⟨p, e1, e2⟩ := pget oa8 hx
    have np := hin p (List.mem_of_getElem? e1)
    obtain ⟨tp, pa, pb, rfl, g1, g2, g3⟩ := e2.same s'
    have li := (List.getElem?_eq_some_iff.mp e1).1
    refine ⟨tp, _, rfl, g1, rfl, _, _, rfl, _, _, rfl, rfl, rfl, ?_⟩
    refine yes_of ?_
    refine ⟨_, rfl, _, rfl, _, rfl, _, rfl, ?_⟩
    refine ⟨_, _, m, _, c.t, c.s, p.1, rfl, i58.same s', i8.same s', ⟨_, rfl, g2⟩, oc.t, oc.s, np.ok.a, bc.1.mono (by decide), bc.2.mono (by decide), np.ba.mono (by decide), fun H9 r9 k9 i9 => ?_⟩
    obtain ⟨p9, e9, t9⟩ := i9
    subst e9
    refine ⟨_, rfl, _, _, Dp3 t9, Dp3 (same_T k9 g3), shaped3 _, shaped3 _, ?_⟩
    rw [eqv3]
    have eap : car c.t c.s m p.1 = ap c p.1 := by unfold ap; rw [mC]
    rw [eap]
    have hb9 := k9 _ _ hb
    refine ⟨_, hb9, ?_, bs ++ [!decide (ap c p.1 = p.2)], fun b o' e => ?_, ?_, ?_⟩
    · rw [List.length_map, eb, List.length_map, List.length_take]; exact small1000 (by omega)
    · rw [upd_ne (ne_of_none e hA9)]; exact k9 _ _ (s' _ _ e)
    · rw [upd_same, List.map_append]; rfl
    · rw [take_more e1, List.map_append, eb]; rfl
  rintro H9 ⟨bs, s9, hb, eb⟩
  have eb : bs = (h :: ps).map fun p => !decide (ap c p.1 = p.2) := by
    rw [eb, hlen, List.take_length]
  refine ⟨A9, bs, rfl, .inl (.inl hb), ?_⟩
  have ea : bs.any id = (h :: ps).any fun p => !decide (ap c p.1 = p.2) := by rw [eb, List.any_map]; rfl
  refine ⟨_, rfl, ?_⟩
  rw [ea]
  have k19 := k18.trans s9
  by_cases hb : ((h :: ps).any fun p => !decide (ap c p.1 = p.2)) = true
  · rw [hb]
    rw [if_pos hb] at q
    refine iteT ⟨(by show 0 ≤ sizeLine; decide), fun L hL => ?_⟩
    exact q _ L [] (k19.trans (same_new hL _)) (k19.free hL) upd_same .nil
  · rw [Bool.eq_false_iff.mpr hb]
    rw [if_neg hb] at q
    refine iteF ?_
    refine ⟨_, rfl, _, rfl, _, rfl, rfl, rfl, ?_⟩
    refine mk_of2 (m := m) (t := c.t) (s := c.s) (i58.same s9) (i8.same s9) oc.t oc.n oc.s fun H10 x k10 i10 => ⟨rfl, ?_⟩
    refine ⟨(by show 1 ≤ sizeLine; decide), fun L hL => ?_⟩
    have kL := same_new hL (.lst [.ref x])
    have i10 : IsC K C H10 (.ref x) c := by rw [← hC]; rw [← hC] at i10; exact i10
    exact q _ L [.ref x] (k19.trans (k10.trans kL)) ((k19.trans k10).free hL) upd_same (.cons (i10.same kL) .nil)
def sp_carr (K : PySem.W.Frag) (C : Addr) : Sp := fun vs H Q _ => ∃ t us h ps o os, vs = [.ref t] ∧ SqT K H t us ∧ AllPr K H us (h :: ps) ∧ (∀ p ∈ h :: ps, PrIn p) ∧ oth (h :: ps) h = o :: os ∧ (h :: ps).length ≤ 20 ∧
  ∀ H' L ws, Same H H' → H L = none → H' L = some (.lst ws) → AllC K C H' ws (crs (h :: ps) h o) → Q (.ref L) H'
theorem oth_take {l : List Pr} {i : Nat} {p h : Pr} (e : l[i]? = some p) : oth (l.take (i + 1)) h = oth (l.take i) h ++ (if (!decide (p.1 = h.1)) = true then [p] else []) := tk_filter (fun p : Pr => !decide (p.1 = h.1)) e
theorem ok_carriers {f C : Addr} {fd : FuncData} (d_check_spot : D P w K mg base "check_spot" 3 (sp_check K)) (d_carriers_by : D P w K mg base "carriers_by" 6 (sp_crb K C))
    (F : Fun K "carriers" "carriers" s_carriers f fd) : FnOk P w K mg base CX0 7 f fd ["pairs"] (sp_carr K C) := by
  refine F.ok sc_carriers (fun vs H Q E h => ?_) (fun cdv A outer s H vs Q E hr h => ?_)
  · obtain ⟨t, us, h, ps, o, os, rfl, _⟩ := h
    rfl
  obtain ⟨t, us, h, ps, o, os, rfl, hT, hA, hin, ho, hl, q⟩ := h
  refine ⟨_, (pss_cons (ps_for PassesOwn.never rfl (pi_tup (pv 0)) (pg_name (i := 1) sc_carriers.nd rfl (by first | exact Or.inl rfl | exact Or.inr rfl)) (pss_one (ps_for PassesOwn.never rfl (pi_tup (pv 1)) (pg_name (i := 2) sc_carriers.nd rfl (by first | exact Or.inl rfl | exact Or.inr rfl)) (pss_one (ps_expr (pc d_check_spot (hr.mono (by decide)) (pa_cons (pv 2) pa_nil)))))))
    (pss_cons (ps_setLc (i := 3) (own := [("one", 4)]) (g := gName 4) (by rfl) sc_carriers.nd rfl rfl (sw_true rfl rfl rfl (by decide +kernel)) (pi_tup (pv 0)) (blkOk_by (own := [("one", 4)]) (N := ["pairs", "pair", "spot", "others", "one", "found", "mirrored"]) (sc := defScope s_carriers) (by decide +kernel)) (fun _ _ _ _ _ => (pg_name (i := 4) sc_carriers.nd rfl (by first | exact Or.inl rfl | exact Or.inr rfl))) (fun _ _ _ _ _ => (pts_one (pt_cmpR (r := rNeD K) (op_neD hr.units) (pe_ix (r := rIxT K) ix_tup (pv 4) pe_int (fun _ _ => rfl)) (pe_ix (r := rIxT K) ix_tup (pe_ix (r := rIxT K) ix_tup (pv 0) pe_int (fun _ _ => rfl)) pe_int (fun _ _ => rfl)) (nomark _)))) (fun _ _ _ _ _ => (pv 4)))
    (pss_cons (ps_if (pt_not (pt_truth (pv 3) (by intro _; rfl))) (pss_one ps_never) pss_nil)
    (pss_cons (ps_set (i := 5) sc_carriers.nd rfl (by first | exact Or.inl rfl | exact Or.inr rfl) (pe_lst pa_nil))
    (pss_cons (ps_for PassesOwn.never rfl (pi_tup (pe_tup (pa_cons pe_bl (pa_cons pe_bl pa_nil)))) (pg_name (i := 6) sc_carriers.nd rfl (by first | exact Or.inl rfl | exact Or.inr rfl)) (pss_one (ps_expr (pe_bm PySem.F.plainAttrs_list PySem.F.slot_list_extend PySem.F.type_list_extend mt_extend (pv 5) (pa_cons (pc d_carriers_by (hr.mono (by decide)) (pa_cons (pv 0) (pa_cons (pe_ix (r := rIxL K) ix_list (pv 3) pe_int (fun _ _ => rfl)) (pa_cons (pv 6) pa_nil)))) pa_nil)))))
    (pss_one (ps_ret (pv 5)))))))), ?_⟩
  have hlen := Paired.length hA
  have ph := hin h (List.mem_cons_self ..)
  have mo : o ∈ h :: ps ∧ o.1 ≠ h.1 := by
    have : o ∈ oth (h :: ps) h := by rw [ho]; exact List.mem_cons_self ..
    obtain ⟨a, b⟩ := List.mem_filter.mp this
    exact ⟨a, by simpa using b⟩
  have po := hin o mo.1
  refine ⟨_, rfl, t, rfl, ⟨_, hT⟩, for_tup (K := K) (a := t) (xs := us) (fun i σ H' => (∃ x y, σ = [some (.ref t), x, y, none, none, none, none]) ∧ Same H H') ⟨⟨_, _, rfl⟩, Same.refl _⟩ ?_ ?_ ?_⟩
  · rintro i σ H' _ ⟨_, s'⟩
    exact same_T s' hT
  · rintro i x σ H' hx ⟨⟨y, z, rfl⟩, s'⟩
    obtain ⟨p, e1, e2⟩ := pget hA hx
    have np := hin p (List.mem_of_getElem? e1)
    obtain ⟨tp, pa, pb, rfl, g1, g2, g3⟩ := e2.same s'
    refine ⟨_, rfl, tp, rfl, ⟨_, g1⟩, for_tup (K := K) (a := tp) (xs := [.ref pa, .ref pb]) (fun j σ H2 => (∃ y, σ = [some (.ref t), some (.ref tp), y, none, none, none, none]) ∧ Same H' H2) ⟨⟨_, rfl⟩, Same.refl _⟩ ?_ ?_ ?_⟩
    · rintro j σ H2 _ ⟨_, s2⟩
      exact same_T s2 g1
    · rintro j x σ H2 hx ⟨⟨y, rfl⟩, s2⟩
      match j, hx with
      | 0, hx =>
        cases hx
        exact ⟨_, rfl, _, _, rfl, ⟨_, rfl, same_T s2 g2⟩, np.ok.a, fun H3 s3 => ⟨⟨_, rfl⟩, s2.trans s3⟩⟩
      | 1, hx =>
        cases hx
        exact ⟨_, rfl, _, _, rfl, ⟨_, rfl, same_T s2 g3⟩, np.ok.b, fun H3 s3 => ⟨⟨_, rfl⟩, s2.trans s3⟩⟩
      | (n + 2), hx => simp at hx
    · rintro σ H2 ⟨⟨y, rfl⟩, s2⟩
      exact ⟨⟨_, _, rfl⟩, s'.trans s2⟩
  rintro σ H1 ⟨⟨x1, x2, rfl⟩, s1⟩
  have hT1 := same_T s1 hT
  have hA1 := hA.same s1
  have hA1' := hA1
  obtain ⟨u0, ur, eu, ⟨t0, a0, b0, eu0, c1, c2, c3⟩⟩ : ∃ u ur, us = u :: ur ∧ IsPr K H1 u h := by
    cases hA1' with
    | cons r _ => exact ⟨_, _, rfl, r⟩
  refine ⟨_, rfl, t, rfl, ⟨_, hT1⟩, fun A2 hA2 => lc_tup (K := K) (a := t) (xs := us) (fun i H' => ∃ ws, H' = upd H1 A2 (.lst ws) ∧ AllPr K H1 ws (oth ((h :: ps).take i) h)) ⟨[], rfl, .nil⟩ ?_ ?_ ?_⟩
  · rintro i H' _ ⟨ws, rfl, _⟩
    exact same_T (same_new hA2 _) hT1
  · rintro i x H' hx ⟨ws, rfl, aw⟩
    obtain ⟨p, e1, e2⟩ := pget hA1 hx
    have g0 := e2
    have sn := same_new hA2 (.lst ws)
    obtain ⟨tp, pa, pb, rfl, g1, g2, g3⟩ := e2
    refine ⟨rfl, ?_⟩
    refine ⟨_, rfl, tp, _, _, _, rfl, rfl, same_T sn g1, by rfl, _, rfl, t, _, _, _, rfl, rfl, same_T sn hT1, (by rw [eu]; exact atI_nat (j := 0) rfl), ?_⟩
    subst eu0
    refine ⟨t0, _, _, _, rfl, rfl, same_T sn c1, by rfl, _, _, Dp3 (same_T sn g2), Dp3 (same_T sn c2), shaped3 _, shaped3 _, _, rfl, ?_⟩
    rw [eqv3]
    have et := oth_take (h := h) e1
    by_cases c : p.1 = h.1
    · rw [decide_eq_true c]
      refine iteF ?_
      rw [et, if_neg (by rw [decide_eq_true c]; decide), List.append_nil]
      exact ⟨ws, rfl, aw⟩
    · rw [decide_eq_false c]
      refine iteT ?_
      have lw := Paired.length aw
      have lf := List.length_filter_le (fun p : Pr => !decide (p.1 = h.1)) ((h :: ps).take i)
      rw [List.length_take] at lf
      have lw2 : ws.length ≤ 20 := by have : (oth ((h :: ps).take i) h).length = (((h :: ps).take i).filter fun p => !decide (p.1 = h.1)).length := rfl; omega
      refine ⟨_, rfl, ws, upd_same, small1000 (by omega), ws ++ [.ref tp], upd_upd, ?_⟩
      rw [et, if_pos (by rw [decide_eq_false c]; rfl)]
      exact papp aw (.cons g0 .nil)
  rintro H2 ⟨ws, rfl, aw⟩
  have et : oth ((h :: ps).take us.length) h = o :: os := by rw [hlen, List.take_length]; exact ho
  rw [et] at aw
  have s2 := same_new hA2 (.lst ws)
  have hw2 : upd H1 A2 (.lst ws) A2 = some (.lst ws) := upd_same
  have aw0 := aw
  obtain ⟨vo, wr, ew, io⟩ : ∃ v wr, ws = v :: wr ∧ IsPr K H1 v o := by
    cases aw0 with
    | cons r _ => exact ⟨_, _, rfl, r⟩
  have s12 := s1.trans s2
  have hT2 := same_T s2 hT1
  have hA2' := hA1.same s2
  have io2 := io.same s2
  generalize upd H1 A2 (.lst ws) = H2 at *
  refine ⟨_, rfl, !ws.isEmpty, .inl ⟨_, .inl (.inl hw2), rfl⟩, ?_⟩
  rw [ew]
  refine iteF ?_
  refine ⟨(by show 0 ≤ sizeLine; decide), fun L hL => ?_⟩
  have sL := same_new hL (.lst [])
  refine ⟨(by show 2 ≤ sizeLine; decide), fun p3 hp3 => ?_⟩
  have s3 := same_new hp3 (.tup [.bl false, .bl true])
  have s23 := sL.trans s3
  have hp3' : upd (upd H2 L (.lst [])) p3 (.tup [.bl false, .bl true]) p3 = some (.tup [.bl false, .bl true]) := upd_same
  have hL3 := s3 _ _ (upd_same (H := H2) (a := L) (o := .lst []))
  have nLp : p3 ≠ L := ne_of hp3' hL3 (by intro z; cases z)
  generalize upd (upd H2 L (.lst [])) p3 (.tup [.bl false, .bl true]) = H3 at *
  refine ⟨p3, rfl, ⟨_, .inl (.inl hp3')⟩, for_tup (K := K) (a := p3) (xs := [.bl false, .bl true]) (fun i σ H' => ∃ y zs, σ = [some (.ref t), x1, x2, some (.ref A2), none, some (.ref L), y] ∧ Keep L H3 H' ∧ H' L = some (.lst zs) ∧ zs.length ≤ i ∧ AllC K C H' zs (([crb (h :: ps) h o false, crb (h :: ps) h o true].take i).flatten)) ⟨none, [], rfl, Keep.of (Same.refl _), hL3, by decide, .nil⟩ ?_ ?_ ?_⟩
  · rintro i σ H' _ ⟨y, zs, rfl, k', _⟩
    exact .inl (.inl (k' _ _ nLp hp3'))
  · rintro i x σ H' hx ⟨y, zs, rfl, k', hz, lz, az⟩
    have n2 : ∀ b o', H2 b = some o' → H' b = some o' := fun b o' e => k' _ _ (ne_of_none e hL) (s23 _ _ e)
    have oneM : ∃ m : Bool, x = .bl m ∧ ([crb (h :: ps) h o false, crb (h :: ps) h o true].take (i + 1)).flatten = ([crb (h :: ps) h o false, crb (h :: ps) h o true].take i).flatten ++ crb (h :: ps) h o m := by
      match i, hx with
      | 0, hx => exact ⟨false, (Option.some.inj hx).symm, by simp⟩
      | 1, hx => exact ⟨true, (Option.some.inj hx).symm, by simp⟩
      | n + 2, hx => simp at hx
    obtain ⟨m, rfl, em⟩ := oneM
    have s2' : Same H2 H' := n2
    refine ⟨_, rfl, .inl ⟨rfl, _, .inl (.inl hz)⟩, ?_⟩
    refine ⟨_, rfl, _, rfl, A2, _, _, _, rfl, rfl, .inl (.inl (n2 _ _ hw2)), (by rw [ew]; exact atI_nat (j := 0) rfl), _, rfl, ?_⟩
    refine ⟨t, us, vo, m, h, ps, o, rfl, same_T s2' hT2, hA2'.same s2', io2.same s2', hin, po, mo.2, hl, fun H4 L4 w4 s4 n4 h4 a4 => ?_⟩
    have lc := Paired.length a4
    have lc1 := crb_len (m := m) ph.ok po.ok mo.2 (prs := h :: ps)
    have hz4 := s4 _ _ hz
    have li : i < 2 := (List.getElem?_eq_some_iff.mp hx).1
    refine ⟨L, L4, zs, w4, rfl, rfl, hz4, h4, small (by omega), ?_⟩
    have kk := keep_upd (d := L) (H := H4) (o := .lst (zs ++ w4))
    refine ⟨_, _, rfl, k'.trans ((Keep.of s4).trans kk), upd_same, by rw [List.length_append]; omega, ?_⟩
    rw [em]
    exact papp ((az.same s4).keep hz4 kk) (a4.keep hz4 kk)
  · rintro σ H' ⟨y, zs, rfl, k', hz, lz, az⟩
    refine ⟨_, rfl, q _ L zs (fun b o' e => ?_) (s12.free hL) hz ?_⟩
    · have e2 := s12 _ _ e
      exact k' _ _ (ne_of_none e2 hL) (s23 _ _ e2)
    · have : ([crb (h :: ps) h o false, crb (h :: ps) h o true].take 2).flatten = crs (h :: ps) h o := by unfold crs; simp
      rw [← this]
      exact az
end
end My

namespace My
open PySem L2 Mth LamX
section
variable {P : Program} {w : World} {K : PySem.W.Frag} {mg : Str → Option Value} {base : Heap}
def NotW (v : V) : Prop := v = .non ∨ (∃ b, v = .bl b) ∨ ∃ s, v = .str s
/-- is_whole of an int, a bool, None, a text -/
def sp_wholeA : Sp := fun vs H Q _ => ∃ v, vs = [v] ∧ ((∃ i, v = .int i ∧ Q (.bl true) H) ∨ (NotW v ∧ Q (.bl false) H))
theorem ok_is_wholeA {f : Addr} {fd : FuncData} (b_isinstance : mg "isinstance" = none) (b_int : mg "int" = none) (b_bool : mg "bool" = none) (F : Fun K "is_whole" "is_whole" s_is_whole f fd) : FnOk P w K mg base CX0 1 f fd ["value"] sp_wholeA := by
  refine F.ok sc_is_whole (fun vs H Q E h => ?_) (fun cdv A outer s H vs Q E hr h => ?_)
  · obtain ⟨v, rfl, _⟩ := h
    rfl
  obtain ⟨v, rfl, h⟩ := h
  refine ⟨_, (pss_one (ps_ret (pe_and (pe_callB (r := rIsi K) call_isi (by rfl) b_isinstance (by decide +kernel) (pa_cons (pv 0) (pa_cons (pe_bltn (v := .ty "int") (by rfl) b_int (by decide +kernel) rfl) pa_nil))) (pe_one (pe_not (pe_callB (r := rIsi K) call_isi (by rfl) b_isinstance (by decide +kernel) (pa_cons (pv 0) (pa_cons (pe_bltn (v := .ty "bool") (by rfl) b_bool (by decide +kernel) rfl) pa_nil)))))))), ?_⟩
  rcases h with ⟨i, rfl, q⟩ | ⟨rfl | ⟨b, rfl⟩ | ⟨x, rfl⟩, q⟩
  · refine ⟨_, rfl, _, _, _, _, _, rfl, .ty _, .base (.int i), kit_ty (by decide +kernel), true, rfl, iteT ?_⟩
    exact ⟨_, rfl, _, _, _, _, _, rfl, .ty _, .base (.int i), kit_ty (by decide +kernel), false, rfl, q⟩
  · exact ⟨_, rfl, _, _, _, _, _, rfl, .ty _, .base .non, kit_ty (by decide +kernel), false, rfl, iteF q⟩
  · refine ⟨_, rfl, _, _, _, _, _, rfl, .ty _, .base (.bl b), kit_ty (by decide +kernel), true, rfl, iteT ?_⟩
    exact ⟨_, rfl, _, _, _, _, _, rfl, .ty _, .base (.bl b), kit_ty (by decide +kernel), true, rfl, q⟩
  · exact ⟨_, rfl, _, _, _, _, _, rfl, .ty _, .base (.str x), kit_ty (by decide +kernel), false, rfl, iteF q⟩
/-- an own class over ValueError, to be raised -/
structure ExX (K : PySem.W.Frag) (mg : Str → Option Value) (x : Str) (C : Addr) : Prop where
  q : PySem.W.excIn K C [.type "ValueError", .type "Exception", .type "BaseException", .type "object"] "ValueError.__new__" = true
  k : PySem.W.keepIn K (.ref C) = true
  b : PySem.W.subIn K (.ref C) (.type "BaseException") = some true
  t : PySem.W.typeIn K (.ref C) = some (.type "type")
  g : mg x = some (.ref C)
end
end My

namespace My
open PySem L2 Mth LamX

section
variable {P : Program} {w : World} {K : PySem.W.Frag} {mg : Str → Option Value} {base : Heap}
/-! ### what is no spot -/
theorem D.or {x : Str} {k : Nat} {sp1 sp2 : Sp} (d1 : D P w K mg base x k sp1) (d2 : D P w K mg base x k sp2) : D P w K mg base x k (fun vs H Q E => sp1 vs H Q E ∨ sp2 vs H Q E) := by
  obtain ⟨f, F1, hk, hm⟩ := d1.ex
  obtain ⟨g, F2, _, hm'⟩ := d2.ex
  rw [hm] at hm'
  cases hm'
  exact ⟨f, fun A outer s H us vs Q E hr e0 r h => h.elim (F1 A outer s H us vs Q E hr e0 r) (F2 A outer s H us vs Q E hr e0 r), hk, hm⟩
inductive BadS : List V → Prop
  | len {xs : List V} (h : xs.length ≠ 3) (hl : xs.length ≤ 100) : BadS xs
  | num {x y d : Int} (h : ¬ (1 ≤ d ∧ g3 x y d = 1)) : BadS [.int x, .int y, .int d]
  | kind {a b c : V} (h : ∀ x ∈ [a, b, c], (∃ i, x = .int i) ∨ NotW x) (e : ∃ x ∈ [a, b, c], NotW x) : BadS [a, b, c]
def sp_isspotX (K : PySem.W.Frag) : Sp := fun vs H Q _ => ∃ p xs, vs = [.ref p] ∧ SqT K H p xs ∧ BadS xs ∧ ∀ H', Same H H' → Q (.bl false) H'
def wh (x : V) : Bool := match x with
  | .int _ => true
  | _ => false
theorem ok_is_spotX {f : Addr} {fd : FuncData} (b_isinstance : mg "isinstance" = none) (b_tuple : mg "tuple" = none) (b_len : mg "len" = none) (b_all : mg "all" = none) (d_common_divisor : D P w K mg base "common_divisor" 1 sp_gcd) (d_is_whole : D P w K mg base "is_whole" 1 sp_wholeA)
    (F : Fun K "is_spot" "is_spot" s_is_spot f fd) : FnOk P w K mg base CX0 2 f fd ["value"] (sp_isspotX K) := by
  refine F.ok sc_is_spot (fun vs H Q E h => ?_) (fun cdv A outer s H vs Q E hr h => ?_)
  · obtain ⟨p, xs, rfl, _⟩ := h
    rfl
  obtain ⟨p, xs, rfl, ta, bad, q⟩ := h
  refine ⟨_, (pss_cons (ps_if (PW.pt (pw_or (pt_not (pt_val (pe_callB (r := rIsi K) call_isi (by rfl) b_isinstance (by decide +kernel) (pa_cons (pv 0) (pa_cons (pe_bltn (v := .ty "tuple") (by rfl) b_tuple (by decide +kernel) rfl) pa_nil))))) (pw_or1 (pt_cmpR (op_ne) (pe_callB call_len_seq (by rfl) b_len PySem.boot_len (pa_cons (pv 0) pa_nil)) pe_int (nomark _))))) (pss_one (ps_ret pe_bl)) pss_nil)
    (pss_cons (ps_if (pt_not (pt_val (pe_callB (cr_all rfl) (by rfl) b_all (by decide +kernel) (pa_cons (pe_lc (own := [("number", 1)]) (g := gName 1) (tt := tYes) (by rfl) sc_is_spot.nd (pi_tup (pv 0)) (blkOk_by (own := [("number", 1)]) (N := ["value", "number", "x", "y", "d"]) (sc := defScope s_is_spot) (by decide +kernel)) (fun _ _ _ _ _ => (pg_name (i := 1) sc_is_spot.nd rfl (by first | exact Or.inl rfl | exact Or.inr rfl))) (fun _ _ _ _ _ => pts_nil) (fun _ _ _ _ _ => (pc d_is_whole (hr.mono (by decide)) (pa_cons (pv 1) pa_nil)))) pa_nil)))) (pss_one (ps_ret pe_bl)) pss_nil)
    (pss_cons (ps_asg (pv 0) (pg_tup rfl (pgs_cons (pg_name (i := 2) sc_is_spot.nd rfl (by first | exact Or.inl rfl | exact Or.inr rfl)) (pgs_cons (pg_name (i := 3) sc_is_spot.nd rfl (by first | exact Or.inl rfl | exact Or.inr rfl)) (pgs_cons (pg_name (i := 4) sc_is_spot.nd rfl (by first | exact Or.inl rfl | exact Or.inr rfl)) pgs_nil)))))
    (pss_one (ps_ret (pe_and (pe_cmpR (op_ge) (pv 4) pe_int (nomark _)) (pe_one (pe_cmpR (op_eq) (pc d_common_divisor (hr.mono (by decide)) (pa_cons (pc d_common_divisor (hr.mono (by decide)) (pa_cons (pv 2) (pa_cons (pv 3) pa_nil))) (pa_cons (pv 4) pa_nil))) pe_int (nomark _))))))))), ?_⟩
  refine ⟨_, rfl, _, _, _, _, _, rfl, .ty _, ty_T ta, kit_ty (by decide +kernel), true, rfl, ?_⟩
  refine iteF ?_
  refine ⟨_, rfl, _, _, rfl, .inr ta, rfl, _, rfl, ?_⟩
  by_cases hl : ¬ xs.length = 3
  · rw [decide_eq_false (fun z => hl (by have := V.int.inj z; omega))]
    exact iteT (q _ (Same.refl _))
  have hl : xs.length = 3 := Decidable.not_not.mp hl
  rw [show V.int (xs.length : Int) = V.int 3 by rw [hl]; rfl, decide_eq_true rfl]
  refine iteF ?_
  have items : ∀ x ∈ xs, (∃ i, x = .int i) ∨ NotW x := fun x hx => by
    cases bad with
    | len h => exact absurd hl h
    | num h =>
      simp only [List.mem_cons, List.mem_nil_iff, or_false] at hx
      rcases hx with rfl | rfl | rfl <;> exact .inl ⟨_, rfl⟩
    | kind h e => exact h x hx
  refine ⟨_, rfl, _, rfl, ⟨_, ta⟩, fun L hL => lc_tup (K := K) (a := p) (xs := xs) (fun i H' => ∃ acc : List V, H' = upd H L (.lst acc) ∧ acc = ((xs.take i).map wh).map V.bl) ⟨[], rfl, rfl⟩ ?_ ?_ ?_⟩
  · rintro i H' hi ⟨acc, rfl, _⟩
    exact same_T (same_new hL _) ta
  · rintro i x H' hx ⟨acc, rfl, ea⟩
    refine ⟨rfl, ?_⟩
    refine yes_of ?_
    have fin : ∃ acc', upd H L (.lst acc) L = some (.lst acc') ∧ acc'.length < sizeLine ∧ ∃ acc'', upd (upd H L (.lst acc)) L (.lst (acc' ++ [.bl (wh x)])) = upd H L (.lst acc'') ∧ acc'' = ((xs.take (i + 1)).map wh).map V.bl := by
      refine ⟨acc, upd_same, ?_, acc ++ [.bl (wh x)], upd_upd, ?_⟩
      · rw [ea, List.length_map, List.length_map, List.length_take]; exact small1000 (by omega)
      · rw [tk_map wh hx, List.map_append, ea]; rfl
    rcases items x (List.mem_of_getElem? hx) with ⟨i', rfl⟩ | nw
    · exact ⟨_, rfl, _, rfl, .inl ⟨i', rfl, fin⟩⟩
    · have ew : wh x = false := by rcases nw with rfl | ⟨b, rfl⟩ | ⟨t, rfl⟩ <;> rfl
      rw [ew] at fin
      exact ⟨_, rfl, _, rfl, .inr ⟨nw, fin⟩⟩
  · rintro H' ⟨acc, rfl, ea⟩
    rw [List.take_length] at ea
    refine ⟨_, xs.map wh, rfl, .inl (.inl ?_), ?_⟩
    · rw [ea]; exact upd_same
    refine ⟨_, rfl, ?_⟩
    have s1 := same_new hL (.lst acc)
    cases bad with
    | len h => exact absurd hl h
    | kind h e =>
      obtain ⟨x, hx, nw⟩ := e
      have ew : wh x = false := by rcases nw with rfl | ⟨b, rfl⟩ | ⟨t, rfl⟩ <;> rfl
      rw [show (([_, _, _] : List V).map wh).all id = false from List.all_eq_false.mpr ⟨wh x, List.mem_map.mpr ⟨x, hx, rfl⟩, by rw [ew]; decide⟩]
      exact iteT (q _ s1)
    | @num x y d h =>
      refine iteF ?_
      refine ⟨_, rfl, _, _, rfl, same_T s1 ta, rfl, _, _, rfl, _, _, rfl, _, _, rfl, rfl, ?_⟩
      refine ⟨_, rfl, _, _, rfl, rfl, _, rfl, ?_⟩
      by_cases hd : (1 : Int) ≤ d
      · rw [decide_eq_true hd]
        refine iteT ?_
        refine ⟨_, rfl, _, rfl, _, _, rfl, _, rfl, _, _, rfl, rfl, ?_⟩
        have e : ¬ V.int ((Int.gcd ((Int.gcd x y : Nat) : Int) d : Nat) : Int) = V.int 1 := fun z => h ⟨hd, V.int.inj z⟩
        show Q (.bl (decide (V.int ((Int.gcd ((Int.gcd x y : Nat) : Int) d : Nat) : Int) = V.int 1))) _
        rw [decide_eq_false e]
        exact q _ s1
      · rw [decide_eq_false hd]
        exact iteF (q _ s1)
/-- a def that may raise -/
structure DX (P : Program) (w : World) (K : PySem.W.Frag) (mg : Str → Option Value) (base : Heap) (x : Str) (k : Nat) (sp : Sp) : Prop where
  ex : ∃ f, FnR P w K mg base (L2.CX P w) k f sp ∧ PySem.W.keepIn K (.ref f) = true ∧ mg x = some (.ref f)
def tClX (sp : Sp) (E : XK) (t : TA) : TE := fun σ H Q => t σ H fun vs H1 => sp vs H1 Q E
theorem pcX {X : Cx} {k : Nat} {sp : Sp} {x : Str} {e : Expr} {es : List Expr} {t : TA} {p pos : Pos} {E : XK} (d : DX X.prog X.w X.K X.mg X.base x k sp) (hr : Room k X.A) (hx : Passes (L2.CX X.prog X.w) X E) (ha : PA X (e :: es) t) (hg : Gl X x := by rfl) (hd : (x == ("__debug__" : Str)) = false := by decide)
    (he : starEach (e :: es) X.env = (false, eval e X.env) :: starEach es X.env := by rfl) (hpl : (backTo pos (starEach es X.env)).any (·.1) = false := by rfl) :
    PE X (.Call (.Name x p) (e :: es) [] pos) (tClX sp E t) := by
  obtain ⟨f, F, hk, hm⟩ := d.ex
  refine ⟨fun pins s σ H Q I h => ?_⟩
  refine wpAny_Call_Name_kw (ld_glob I hg hm ?_ hd)
  refine PySem.W.callWith_K (h₀ := X.base) I.ok.mod.kin hk (thn (ha.run pos pins s σ H _ I h) fun us s1 ⟨vs, H1, I1, r, q⟩ => ⟨I1.kIn, ?_⟩) he hpl
  exact wpAny_call (run_fnR F hr hx I1 r q)
theorem rOfX {k : Nat} {f : Addr} {fd : FuncData} {ps : List Str} {sp : Sp} (F : FnOk P w K mg base (L2.CX P w) k f fd ps sp) (b : Binds K fd ps []) : FnR P w K mg base (L2.CX P w) k f sp := rOf F b
def sp_isspotB (K : PySem.W.Frag) : Sp := fun vs H Q E => sp_isspot K vs H Q E ∨ sp_isspotX K vs H Q E
def sp_checkB (K : PySem.W.Frag) (CT : Addr) : Sp := fun vs H Q E => ∃ v, vs = [v] ∧ ((∃ a, IsT K H v a ∧ Ok a ∧ ∀ H', Same H H' → Q .non H') ∨ ∃ p xs, v = .ref p ∧ SqT K H p xs ∧ BadS xs ∧ ∀ H', Same H H' → E (.ref CT) none H')
theorem ok_check_spotB {f CT : Addr} {fd : FuncData} (XS : ExX K mg "InvalidSpot" CT) (d_is_spotB : D P w K mg base "is_spot" 2 (sp_isspotB K)) (F : Fun K "check_spot" "check_spot" s_check_spot f fd) : FnOk P w K mg base (L2.CX P w) 3 f fd ["value"] (sp_checkB K CT) := by
  refine F.okX sc_check_spot (fun vs H Q E h => ?_) (fun cdv A outer s H vs Q E hr h => ?_)
  · obtain ⟨v, rfl, _⟩ := h
    rfl
  obtain ⟨v, rfl, h⟩ := h
  refine ⟨_, (pss_one (ps_if (pt_not (pt_val (pc d_is_spotB (hr.mono (by decide)) (pa_cons (pv 0) pa_nil)))) (pss_one (ps_raise rfl (takes_of rfl rfl rfl rfl) (pmk_own PySem.F.excBase_ValueError XS.q XS.g XS.k (raises_own XS.b XS.t) (by rfl)))) pss_nil)), ?_⟩
  rcases h with ⟨a, ia, oa, q⟩ | ⟨p, xs, rfl, ta, bad, q⟩
  · exact ⟨_, rfl, .inl ⟨_, _, rfl, ia, oa, fun H1 s1 => ⟨_, rfl, iteF (q _ s1)⟩⟩⟩
  · exact ⟨_, rfl, .inr ⟨_, _, rfl, ta, bad, fun H1 s1 => ⟨_, rfl, iteT (q _ s1)⟩⟩⟩
end
end My

namespace My
open PySem L2 Mth LamX

section
variable {P : Program} {w : World} {K : PySem.W.Frag} {mg : Str → Option Value} {base : Heap}
/-- too few -/
def sp_carF (K : PySem.W.Frag) (CT : Addr) : Sp := fun vs H Q E => ∃ t us h ps, vs = [.ref t] ∧ SqT K H t us ∧ AllPr K H us (h :: ps) ∧ (∀ p ∈ h :: ps, PrIn p ∧ p.1 = h.1) ∧ (h :: ps).length ≤ 20 ∧ ∀ H', Same H H' → E (.ref CT) none H'
theorem ok_carriersF {f CT : Addr} {fd : FuncData} (XF : ExX K mg "TooFew" CT) (d_check_spot : D P w K mg base "check_spot" 3 (sp_check K))
    (F : Fun K "carriers" "carriers" s_carriers f fd) : FnOk P w K mg base (L2.CX P w) 7 f fd ["pairs"] (sp_carF K CT) := by
  refine F.okX sc_carriers (fun vs H Q E h => ?_) (fun cdv A outer s H vs Q E hr h => ?_)
  · obtain ⟨t, us, h, ps, rfl, _⟩ := h
    rfl
  obtain ⟨t, us, h, ps, rfl, hT, hA, hin, hl, q⟩ := h
  refine ⟨_, (pss_cons (ps_for (passes_of rfl) rfl (pi_tup (pv 0)) (pg_name (i := 1) sc_carriers.nd rfl (by first | exact Or.inl rfl | exact Or.inr rfl)) (pss_one (ps_for (passes_of rfl) rfl (pi_tup (pv 1)) (pg_name (i := 2) sc_carriers.nd rfl (by first | exact Or.inl rfl | exact Or.inr rfl)) (pss_one (ps_expr (pc d_check_spot (hr.mono (by decide)) (pa_cons (pv 2) pa_nil)))))))
    (pss_cons (ps_setLc (i := 3) (own := [("one", 4)]) (g := gName 4) (by rfl) sc_carriers.nd rfl rfl (sw_true rfl rfl rfl (by decide +kernel)) (pi_tup (pv 0)) (blkOk_by (own := [("one", 4)]) (N := ["pairs", "pair", "spot", "others", "one", "found", "mirrored"]) (sc := defScope s_carriers) (by decide +kernel)) (fun _ _ _ _ _ => (pg_name (i := 4) sc_carriers.nd rfl (by first | exact Or.inl rfl | exact Or.inr rfl))) (fun _ _ _ _ _ => (pts_one (pt_cmpR (r := rNeD K) (op_neD hr.units) (pe_ix (r := rIxT K) ix_tup (pv 4) pe_int (fun _ _ => rfl)) (pe_ix (r := rIxT K) ix_tup (pe_ix (r := rIxT K) ix_tup (pv 0) pe_int (fun _ _ => rfl)) pe_int (fun _ _ => rfl)) (nomark _)))) (fun _ _ _ _ _ => (pv 4)))
    (pss_cons (ps_if (pt_not (pt_truth (pv 3) (by intro _; rfl))) (pss_one (ps_raise rfl (takes_of rfl rfl rfl rfl) (pmk_own PySem.F.excBase_ValueError XF.q XF.g XF.k (raises_own XF.b XF.t) (by rfl)))) pss_nil)
    pss_never))), ?_⟩
  have hlen := Paired.length hA
  refine ⟨_, rfl, t, rfl, ⟨_, hT⟩, for_tup (K := K) (a := t) (xs := us) (fun i σ H' => (∃ x y, σ = [some (.ref t), x, y, none, none, none, none]) ∧ Same H H') ⟨⟨_, _, rfl⟩, Same.refl _⟩ ?_ ?_ ?_⟩
  · rintro i σ H' _ ⟨_, s'⟩
    exact same_T s' hT
  · rintro i x σ H' hx ⟨⟨y, z, rfl⟩, s'⟩
    obtain ⟨p, e1, e2⟩ := pget hA hx
    have np := (hin p (List.mem_of_getElem? e1)).1
    obtain ⟨tp, pa, pb, rfl, g1, g2, g3⟩ := e2.same s'
    refine ⟨_, rfl, tp, rfl, ⟨_, g1⟩, for_tup (K := K) (a := tp) (xs := [.ref pa, .ref pb]) (fun j σ H2 => (∃ y, σ = [some (.ref t), some (.ref tp), y, none, none, none, none]) ∧ Same H' H2) ⟨⟨_, rfl⟩, Same.refl _⟩ ?_ ?_ ?_⟩
    · rintro j σ H2 _ ⟨_, s2⟩
      exact same_T s2 g1
    · rintro j x σ H2 hx ⟨⟨y, rfl⟩, s2⟩
      match j, hx with
      | 0, hx =>
        cases hx
        exact ⟨_, rfl, _, _, rfl, ⟨_, rfl, same_T s2 g2⟩, np.ok.a, fun H3 s3 => ⟨⟨_, rfl⟩, s2.trans s3⟩⟩
      | 1, hx =>
        cases hx
        exact ⟨_, rfl, _, _, rfl, ⟨_, rfl, same_T s2 g3⟩, np.ok.b, fun H3 s3 => ⟨⟨_, rfl⟩, s2.trans s3⟩⟩
      | (n + 2), hx => simp at hx
    · rintro σ H2 ⟨⟨y, rfl⟩, s2⟩
      exact ⟨⟨_, _, rfl⟩, s'.trans s2⟩
  rintro σ H1 ⟨⟨x1, x2, rfl⟩, s1⟩
  have hT1 := same_T s1 hT
  have hA1 := hA.same s1
  have hA1' := hA1
  obtain ⟨u0, ur, eu, ⟨t0, a0, b0, eu0, c1, c2, c3⟩⟩ : ∃ u ur, us = u :: ur ∧ IsPr K H1 u h := by
    cases hA1' with
    | cons r _ => exact ⟨_, _, rfl, r⟩
  refine ⟨_, rfl, t, rfl, ⟨_, hT1⟩, fun A2 hA2 => lc_tup (K := K) (a := t) (xs := us) (fun i H' => H' = upd H1 A2 (.lst [])) rfl ?_ ?_ ?_⟩
  · rintro i H' _ rfl
    exact same_T (same_new hA2 _) hT1
  · rintro i x H' hx rfl
    obtain ⟨p, e1, e2⟩ := pget hA1 hx
    have sn := same_new hA2 (.lst [])
    obtain ⟨tp, pa, pb, rfl, g1, g2, g3⟩ := e2
    refine ⟨rfl, ?_⟩
    refine ⟨_, rfl, tp, _, _, _, rfl, rfl, same_T sn g1, by rfl, _, rfl, t, _, _, _, rfl, rfl, same_T sn hT1, (by rw [eu]; exact atI_nat (j := 0) rfl), ?_⟩
    subst eu0
    refine ⟨t0, _, _, _, rfl, rfl, same_T sn c1, by rfl, _, _, Dp3 (same_T sn g2), Dp3 (same_T sn c2), shaped3 _, shaped3 _, _, rfl, ?_⟩
    rw [eqv3, decide_eq_true (hin p (List.mem_of_getElem? e1)).2]
    exact iteF rfl
  rintro H2 rfl
  refine ⟨_, rfl, false, .inl ⟨[], .inl (.inl upd_same), rfl⟩, ?_⟩
  exact iteT (q _ (s1.trans (same_new hA2 _)))
end
end My

namespace My
open PySem L2 Mth LamX

section
variable {P : Program} {w : World} {K : PySem.W.Frag} {mg : Str → Option Value} {base : Heap}
/-- no spot in the second pair -/
def sp_carS (K : PySem.W.Frag) (CT : Addr) : Sp := fun vs H Q E => ∃ t v0 p0 tp pa po z xs, vs = [.ref t] ∧ SqT K H t [v0, .ref tp] ∧ IsPr K H v0 p0 ∧ PrOk p0 ∧ SqT K H tp [.ref pa, .ref po] ∧ SqT K H pa (v3 z) ∧ Ok z ∧ SqT K H po xs ∧ BadS xs ∧ ∀ H', Same H H' → E (.ref CT) none H'
theorem ok_carriersS {f CT : Addr} {fd : FuncData} (d_check_spotB : DX P w K mg base "check_spot" 3 (sp_checkB K CT))
    (F : Fun K "carriers" "carriers" s_carriers f fd) : FnOk P w K mg base (L2.CX P w) 7 f fd ["pairs"] (sp_carS K CT) := by
  refine F.okX sc_carriers (fun vs H Q E h => ?_) (fun cdv A outer s H vs Q E hr h => ?_)
  · obtain ⟨t, v0, p0, tp, pa, po, z, xs, rfl, _⟩ := h
    rfl
  obtain ⟨t, v0, p0, tp, pa, po, z, xs, rfl, hT, i0, ok0, h1, h2, oz, h3, bad, q⟩ := h
  refine ⟨_, (pss_cons (ps_for (passes_of rfl) rfl (pi_tup (pv 0)) (pg_name (i := 1) sc_carriers.nd rfl (by first | exact Or.inl rfl | exact Or.inr rfl)) (pss_one (ps_for (passes_of rfl) rfl (pi_tup (pv 1)) (pg_name (i := 2) sc_carriers.nd rfl (by first | exact Or.inl rfl | exact Or.inr rfl)) (pss_one (ps_expr (pcX d_check_spotB (hr.mono (by decide)) (passes_call (takes_of rfl rfl rfl rfl) (fun _ _ _ _ h => h)) (pa_cons (pv 2) pa_nil)))))))
    pss_never), ?_⟩
  refine ⟨_, rfl, t, rfl, ⟨_, hT⟩, for_tup (K := K) (a := t) (xs := [v0, .ref tp]) (fun i σ H' => i ≤ 1 ∧ (∃ x y, σ = [some (.ref t), x, y, none, none, none, none]) ∧ Same H H') ⟨by decide, ⟨_, _, rfl⟩, Same.refl _⟩ ?_ ?_ ?_⟩
  · rintro i σ H' _ ⟨_, _, s'⟩
    exact same_T s' hT
  · rintro i x σ H' hx ⟨_, ⟨y, w', rfl⟩, s'⟩
    match i, hx with
    | 0, hx =>
      cases hx
      obtain ⟨t0, qa, qb, rfl, g1, g2, g3⟩ := i0.same s'
      refine ⟨_, rfl, t0, rfl, ⟨_, g1⟩, for_tup (K := K) (a := t0) (xs := [.ref qa, .ref qb]) (fun j σ H2 => (∃ y, σ = [some (.ref t), some (.ref t0), y, none, none, none, none]) ∧ Same H' H2) ⟨⟨_, rfl⟩, Same.refl _⟩ ?_ ?_ ?_⟩
      · rintro j σ H2 _ ⟨_, s2⟩
        exact same_T s2 g1
      · rintro j x σ H2 hx ⟨⟨y, rfl⟩, s2⟩
        match j, hx with
        | 0, hx =>
          cases hx
          exact ⟨_, rfl, _, rfl, .inl ⟨_, ⟨_, rfl, same_T s2 g2⟩, ok0.a, fun H3 s3 => ⟨⟨_, rfl⟩, s2.trans s3⟩⟩⟩
        | 1, hx =>
          cases hx
          exact ⟨_, rfl, _, rfl, .inl ⟨_, ⟨_, rfl, same_T s2 g3⟩, ok0.b, fun H3 s3 => ⟨⟨_, rfl⟩, s2.trans s3⟩⟩⟩
        | (n + 2), hx => simp at hx
      · rintro σ H2 ⟨⟨y, rfl⟩, s2⟩
        exact ⟨by decide, ⟨_, _, rfl⟩, s'.trans s2⟩
    | 1, hx =>
      cases hx
      have g1 := same_T (K := K) s' h1
      refine ⟨_, rfl, tp, rfl, ⟨_, g1⟩, for_tup (K := K) (a := tp) (xs := [.ref pa, .ref po]) (fun j σ H2 => j ≤ 1 ∧ (∃ y, σ = [some (.ref t), some (.ref tp), y, none, none, none, none]) ∧ Same H' H2) ⟨by decide, ⟨_, rfl⟩, Same.refl _⟩ ?_ ?_ ?_⟩
      · rintro j σ H2 _ ⟨_, _, s2⟩
        exact same_T s2 g1
      · rintro j x σ H2 hx ⟨_, ⟨y, rfl⟩, s2⟩
        match j, hx with
        | 0, hx =>
          cases hx
          exact ⟨_, rfl, _, rfl, .inl ⟨_, ⟨_, rfl, same_T (s'.trans s2) h2⟩, oz, fun H3 s3 => ⟨by decide, ⟨_, rfl⟩, s2.trans s3⟩⟩⟩
        | 1, hx =>
          cases hx
          exact ⟨_, rfl, _, rfl, .inr ⟨_, _, rfl, same_T (s'.trans s2) h3, bad, fun H3 s3 => q _ (s'.trans (s2.trans s3))⟩⟩
        | (n + 2), hx => simp at hx
      · rintro σ H2 ⟨h, _⟩
        exact absurd h (by show ¬ 2 ≤ 1; decide)
    | (n + 2), hx => simp at hx
  · rintro σ H' ⟨h, _⟩
    exact absurd h (by show ¬ 2 ≤ 1; decide)
end
end My

namespace My
open PySem L2 Mth
abbrev s_law_shown : Stmt := topS 56
theorem sc_law_shown : FnScope ["_law_copy"] ["_law_copy"] (defScope s_law_shown) := ⟨rfl, rfl, rfl, by decide +kernel, rfl, by decide +kernel, by decide +kernel⟩
abbrev s_law_shuffled : Stmt := topS 54
theorem sc_law_shuffled : FnScope ["_law_d", "_law_items", "_law_pool", "_law_result"] ["_law_d", "_law_items"] (defScope s_law_shuffled) := ⟨rfl, rfl, rfl, by decide +kernel, rfl, by decide +kernel, by decide +kernel⟩
section
variable {P : Program} {w : World} {K : PySem.W.Frag} {mg : Str → Option Value} {base : Heap}
def sp_shown (K : PySem.W.Frag) (C : Addr) : Sp := fun vs H Q _ => ∃ v c, vs = [v] ∧ IsC K C H v c ∧ ∀ H' r, Same H H' → IsD K H' r c → Q r H'
theorem ok_law_shown {f C : Addr} {fd : FuncData} (m_pt : MPt P w K mg base C) (m_ps : MPs P w K mg base C) (m_pm : MPm P w K mg base C) (F : Fun K "_law_shown" "_law_shown" s_law_shown f fd) : FnOk P w K mg base CX0 3 f fd ["_law_copy"] (sp_shown K C) := by
  refine F.ok sc_law_shown (fun vs H Q E h => ?_) (fun cdv A outer s H vs Q E hr h => ?_)
  · obtain ⟨v, c, rfl, _⟩ := h
    rfl
  obtain ⟨v, c, rfl, ic, q⟩ := h
  refine ⟨_, (pss_one (ps_ret (pe_tup (pa_cons (pe_turn m_pt (hr.mono (by decide)) (pv 0)) (pa_cons (pe_shift m_ps (hr.mono (by decide)) (pv 0)) (pa_cons (pe_mirr m_pm (hr.mono (by decide)) (pv 0)) pa_nil)))))), ?_⟩
  refine ⟨_, rfl, prop_of ic ⟨_, _, rfl, ic, fun r1 i1 => ?_⟩⟩
  refine ⟨_, rfl, prop_of ic ⟨_, _, rfl, ic, fun r2 i2 => ?_⟩⟩
  refine ⟨_, rfl, prop_of ic ⟨_, _, rfl, ic, fun r3 i3 => ?_⟩⟩
  subst i3
  obtain ⟨p1, rfl, t1⟩ := i1
  obtain ⟨p2, rfl, t2⟩ := i2
  refine ⟨(by show 3 ≤ sizeLine; decide), fun p hp => ?_⟩
  have s1 := same_new hp (.tup [.ref p1, .ref p2, .bl c.m])
  exact q _ _ s1 ⟨p, p1, p2, rfl, .inl (.inl upd_same), same_T s1 t1, same_T s1 t2⟩
/-! ### shuffled pairs -/
def dPr (p : Pr) : PyData := .tuple [d3 p.1, d3 p.2]
theorem IsPr.dp {H : Hp} {v : V} {p : Pr} (h : IsPr K H v p) : Dp K H v (dPr p) := by
  obtain ⟨t, a, b, rfl, h1, h2, h3⟩ := h
  exact .tup h1 (.cons (Dp3 h2) (.cons (Dp3 h3) .nil))
theorem AllPr.dp {H : Hp} : ∀ {vs : List V} {ps : List Pr}, AllPr K H vs ps → DpAll K H vs (ps.map dPr)
  | _, _, .nil => .nil
  | _, _, .cons r t => .cons r.dp (AllPr.dp t)
theorem shapedPr (ps : List Pr) : SeqAt.shaped (.list (ps.map dPr)) = true := shapedL fun x hx => by
  obtain ⟨p, _, rfl⟩ := List.mem_map.mp hx
  exact ⟨rfl, by show 2 ≤ 60; decide⟩
def sp_shuf (K : PySem.W.Frag) : Sp := fun vs H Q _ => ∃ d L us ps st, vs = [.ref d, .ref L] ∧ SqL K H L us ∧ AllPr K H us ps ∧ us.length ≤ 20 ∧ H d = some (.lst (encD st)) ∧ SrcOk st ∧
  ∀ H' R ws st', Keep d H H' → H' d = some (.lst (encD st')) → SrcOk st' → H' R = some (.lst ws) → ws.Perm us → Q (.ref R) H'
theorem erase_perm {α : Type} : ∀ {l : List α} {k : Nat} (h : k < l.length), (l[k] :: l.eraseIdx k).Perm l
  | x :: l, 0, _ => List.Perm.refl _
  | x :: l, k + 1, h => by
    have h' : k < l.length := by simpa using h
    have z := erase_perm h'
    show (l[k] :: x :: l.eraseIdx k).Perm (x :: l)
    exact (List.Perm.swap _ _ _).trans (z.cons x)
theorem perm_step {us pl rl : List V} {k : Nat} {y : V} (e : pl[k]? = some y) (h : (pl ++ rl).Perm us) : (pl.eraseIdx k ++ (rl ++ [y])).Perm us := by
  refine List.Perm.trans ?_ h
  have h1 : (y :: pl.eraseIdx k).Perm pl := by
    obtain ⟨hk, ey⟩ := List.getElem?_eq_some_iff.mp e
    subst ey
    exact erase_perm hk
  have h2 : (pl.eraseIdx k ++ (rl ++ [y])).Perm (y :: (pl.eraseIdx k ++ rl)) := by
    rw [← List.append_assoc]
    exact List.perm_append_comm.trans (List.Perm.refl _)
  exact h2.trans (h1.append_right rl)
theorem ok_law_shuffled {f : Addr} {fd : FuncData} (b_list : mg "list" = none) (b_len : mg "len" = none) (d_law_below : D P w K mg base "_law_below" 1 sp_below) (F : Fun K "_law_shuffled" "_law_shuffled" s_law_shuffled f fd) : FnOk P w K mg base CX0 2 f fd ["_law_d", "_law_items"] (sp_shuf K) := by
  refine F.ok sc_law_shuffled (fun vs H Q E h => ?_) (fun cdv A outer s H vs Q E hr h => ?_)
  · obtain ⟨d, L, us, ps, st, rfl, _⟩ := h
    rfl
  obtain ⟨d, L, us, ps, st, rfl, hL, hA, hl, hd, ok, q⟩ := h
  refine ⟨_, (pss_cons (ps_set (i := 2) sc_law_shuffled.nd rfl (by first | exact Or.inl rfl | exact Or.inr rfl) (pe_callTy call_list_of (by rfl) b_list (by decide +kernel) (pa_cons (pv 1) pa_nil)))
    (pss_cons (ps_set (i := 3) sc_law_shuffled.nd rfl (by first | exact Or.inl rfl | exact Or.inr rfl) (pe_lst pa_nil))
    (pss_cons (ps_while PassesOwn.never (pt_cmpR (r := rNeD K) (op_neD hr.units) (pv 2) (pe_lst pa_nil) (nomark _)) (pss_one (ps_expr (pe_bm PySem.F.plainAttrs_list PySem.F.slot_list_append PySem.F.type_list_append mt_append (pv 3) (pa_cons (pe_bm PySem.F.plainAttrs_list PySem.F.slot_list_pop PySem.F.type_list_pop mt_popAt (pv 2) (pa_cons (pc d_law_below (hr.mono (by decide)) (pa_cons (pv 0) (pa_cons (pe_callB call_len_seq (by rfl) b_len PySem.boot_len (pa_cons (pv 2) pa_nil)) pa_nil))) pa_nil)) pa_nil)))))
    (pss_one (ps_ret (pv 3)))))), ?_⟩
  refine ⟨_, rfl, L, us, rfl, .inl hL, fun A1 hA1 => ?_⟩
  have s1 := same_new hA1 (.lst us)
  refine ⟨(by show 0 ≤ sizeLine; decide), fun R hR => ?_⟩
  have s2 := same_new hR (.lst [])
  have hd2 := (s1.trans s2) _ _ hd
  have n1 : A1 ≠ d := (ne_of_none hd hA1).symm
  have n2 : R ≠ d := (ne_of_none (s1 _ _ hd) hR).symm
  have n3 : A1 ≠ R := ne_of_none (upd_same (H := H) (a := A1) (o := .lst us)) hR
  refine while_by (fun σ H' => ∃ pl rl qs st', σ = [some (.ref d), some (.ref L), some (.ref A1), some (.ref R)] ∧ (∀ b o, H b = some o → b ≠ d → H' b = some o) ∧ H' A1 = some (.lst pl) ∧ H' R = some (.lst rl) ∧ H' d = some (.lst (encD st')) ∧ SrcOk st' ∧ (pl ++ rl).Perm us ∧ AllPr K H' pl qs) (fun σ H' => match H' A1 with | some (.lst pl) => pl.length | _ => 0)
    ⟨us, [], ps, st, rfl, fun b o e _ => (s1.trans s2) _ _ e, s2 _ _ upd_same, upd_same, hd2, ok, by rw [List.append_nil], hA.same (s1.trans s2)⟩ ?_ ?_
  · rintro σ H' ⟨pl, rl, qs, st', rfl, k', h1, h2, h3, ok', pm, aq⟩
    have lq := Paired.length aq
    have lp := pm.length_eq
    rw [List.length_append] at lp
    refine ⟨_, rfl, (by show 0 ≤ sizeLine; decide), fun p hp => ?_⟩
    have sp' := same_new hp (.lst [])
    refine ⟨.list (qs.map dPr), .list [], .lst (.inl (.inl (sp' _ _ h1))) (AllPr.same aq sp').dp, .lst (.inl (.inl upd_same)) .nil, shapedPr qs, rfl, _, rfl, ?_⟩
    rw [eqvL]
    cases qs with
    | nil =>
      cases aq
      refine iteF ⟨_, rfl, ?_⟩
      rw [List.nil_append] at pm
      exact q _ R rl st' (fun b o nb e => sp' _ _ (k' b o e nb)) (sp' _ _ h3) ok' (sp' _ _ h2) pm
    | cons q0 qs =>
      refine iteT ?_
      rw [List.length_cons] at lq
      refine ⟨_, rfl, .inl ⟨rfl, _, .inl (.inl (sp' _ _ h2))⟩, ?_⟩
      refine ⟨_, rfl, .inl ⟨rfl, _, .inl (.inl (sp' _ _ h1))⟩, ?_⟩
      refine ⟨_, rfl, _, rfl, _, _, rfl, .inl (.inl (.inl (sp' _ _ h1))), ?_⟩
      refine ⟨d, _, st', rfl, by omega, by omega, sp' _ _ h3, ok', fun st2 r ok2 r0 r1 => ?_⟩
      have h1' : upd (upd H' p (.lst [])) d (.lst (encD st2)) A1 = some (.lst pl) := by rw [upd_ne n1]; exact sp' _ _ h1
      have h2' : upd (upd H' p (.lst [])) d (.lst (encD st2)) R = some (.lst rl) := by rw [upd_ne n2]; exact sp' _ _ h2
      have kd := keep_upd (d := d) (H := upd H' p (.lst [])) (o := .lst (encD st2))
      have aq2 := (AllPr.same aq sp').keep (sp' _ _ h3) kd
      have hd4 := upd_same (H := upd H' p (.lst [])) (a := d) (o := .lst (encD st2))
      have kx : ∀ b o, H b = some o → b ≠ d → upd (upd H' p (.lst [])) d (.lst (encD st2)) b = some o := fun b o e nb => kd _ _ nb (sp' _ _ (k' b o e nb))
      generalize upd (upd H' p (.lst [])) d (.lst (encD st2)) = H4 at *
      have rk : r.toNat < pl.length := by omega
      have ei : seqIndex? r pl.length = some r.toNat := (ixN_seq (n := pl.length) (i := r) (j := r.toNat) (by unfold ixN; rw [if_pos r0, if_pos (by omega)])).1
      refine ⟨A1, pl, r, r.toNat, _, rfl, rfl, h1', by omega, by omega, ei, List.getElem?_eq_getElem rk, ?_⟩
      refine ⟨R, rl, _, rfl, rfl, by rw [upd_ne (Ne.symm n3)]; exact h2', small1000 (by omega), ?_⟩
      have hp1 : upd (upd H4 A1 (.lst (pl.eraseIdx r.toNat))) R (.lst (rl ++ [pl[r.toNat]])) A1 = some (.lst (pl.eraseIdx r.toNat)) := by rw [upd_ne n3]; exact upd_same
      obtain ⟨qs2, _, aq3⟩ := paired_perm (erase_perm rk) aq2
      obtain ⟨q1, qs3, eq3, aq4⟩ : ∃ q1 qs3, qs2 = q1 :: qs3 ∧ AllPr K H4 (pl.eraseIdx r.toNat) qs3 := by
        cases aq3 with
        | cons r t => exact ⟨_, _, rfl, t⟩
      refine ⟨⟨pl.eraseIdx r.toNat, rl ++ [pl[r.toNat]], qs3, st2, rfl, fun b o e nb => ?_, hp1, upd_same, ?_, ok2, perm_step (List.getElem?_eq_getElem rk) pm, (aq4.keep h1' keep_upd).keep (by rw [upd_ne (Ne.symm n3)]; exact h2') keep_upd⟩, ?_⟩
      · have nA : b ≠ A1 := ne_of_none e hA1
        have nR : b ≠ R := ne_of_none (s1 _ _ e) hR
        rw [upd_ne nR, upd_ne nA]
        exact kx b o e nb
      · rw [upd_ne (Ne.symm n2), upd_ne (Ne.symm n1)]; exact hd4
      · show (match upd (upd H4 A1 (.lst (pl.eraseIdx r.toNat))) R (.lst (rl ++ [pl[r.toNat]])) A1 with | some (.lst pl) => pl.length | _ => 0) < (match H' A1 with | some (.lst pl) => pl.length | _ => 0)
        rw [hp1, h1]
        show (pl.eraseIdx r.toNat).length < pl.length
        rw [List.length_eraseIdx, if_pos rk]
        omega
  · rintro σ H' Q1 Q2 hq ⟨v, h1, h2, h3⟩
    refine ⟨v, h1, h2, fun p hp => ?_⟩
    obtain ⟨d1, d2, e1, e2, e3, e4, k, e5, e6⟩ := h3 p hp
    exact ⟨d1, d2, e1, e2, e3, e4, k, e5, hq _ _ e6⟩
end
end My

namespace My
open PySem L2 Mth LamX
abbrev s_law_error_of : Stmt := topS 55
theorem sc_law_error_of : FnScope ["_law_call", "e", "_law_kinds", "_law_names", "_law_name"] ["_law_call"] (defScope s_law_error_of) := ⟨rfl, rfl, rfl, by decide +kernel, rfl, by decide +kernel, by decide +kernel⟩
def eCls : List Str := ["InvalidSpot", "InvalidTurn", "InvalidTimes", "TooFew", "InvalidStroke", "OpenStroke", "InvalidReach", "OutOfReach", "TooMany", "InvalidSize", "InvalidBox", "Contradiction", "BadText", "BadRow", "UnknownName", "InvalidName", "InvalidCode", "UnknownArm", "NotFree", "InvalidOperation"]
def eNms : List Str := ["spot", "turn", "times", "few", "stroke", "open", "reach", "out", "many", "size", "box", "contra", "text", "row", "unknown", "name", "code", "arm", "free", "operation"]
/-- the errors at the places Is of the list, none with a value of its own -/
structure Errs (K : PySem.W.Frag) (mg : Str → Option Value) (CB : Addr) (Cs : Nat → Addr) (Is : List Nat) : Prop where
  mg : ∀ j x, eCls[j]? = some x → mg x = some (.ref (Cs j))
  ec : ∀ n, n ∈ Is → ExcC K (Cs n)
  kit : ∀ n j, n ∈ Is → j < 20 → PySem.W.kitOne K (.ref (Cs n)) (.ref (Cs j)) = some (decide (j = n))
  val : ∀ n, n ∈ Is → PySem.W.kitOne K (.ref (Cs n)) (.type "ValueError") = some true
  exm : ∀ n, n ∈ Is → PySem.W.exmOne K (.ref (Cs n)) (.ref CB) = some true
  pln : ∀ n, n ∈ Is → n ∈ [0, 1, 2, 3, 5, 6, 8, 9, 10, 11, 14, 15, 17, 18]
abbrev errSuite : List Stmt := match defBody s_law_error_of with
  | .Try _ [.ExceptHandler _ _ b _] _ _ _ :: _ => b
  | _ => []
theorem kinds_step {a : Addr} {bs cs : List Bool} {l : Addr} {H : Hp} {D : Ends} {x0 x3 x4 : Option V} (h : H l = some (.lst (cs.map V.bl))) (hn : cs.length + bs.length ≤ 20)
    (k : ∀ H2 p, Same H H2 → H2 p = some (.lst ((cs ++ bs).map V.bl)) → D.nx [x0, some (.ref a), some (.ref p), x3, x4] H2) :
    tAsg (tOp rCat (tVar 2) (tLst (tIs a 1 bs))) (gName 2) D [x0, some (.ref a), some (.ref l), x3, x4] H := by
  refine ⟨_, rfl, rfl, ?_, fun l2 hl2 => ?_⟩
  · exact small (by rw [List.length_map]; omega)
  have s2 := same_new hl2 (.lst (bs.map V.bl))
  refine ⟨l, l2, _, _, rfl, rfl, s2 _ _ h, upd_same, small (by rw [List.length_map, List.length_map]; omega), fun p hp => ?_⟩
  refine k _ p (s2.trans (same_new hp _)) ?_
  rw [List.map_append]
  exact upd_same
def tw (n : Nat) : List Bool := (List.range 20).map fun j => decide (j = n)
theorem tw_flat (n : Nat) : ((tw n).map V.bl).all flatV = true := by
  rw [List.all_eq_true]
  intro x hx
  obtain ⟨b, _, rfl⟩ := List.mem_map.mp hx
  rfl
theorem tw_count : ∀ n, n ∈ [0, 1, 2, 3, 5, 6, 8, 9, 10, 11, 14, 15, 17, 18] → ((tw n).map V.bl).countP (fun z => eqV z (.bl true)) = 1 := by decide +kernel
theorem tw_at : ∀ n, n ∈ [0, 1, 2, 3, 5, 6, 8, 9, 10, 11, 14, 15, 17, 18] → ((tw n).map V.bl)[n]? = some (.bl true) := by
  decide +kernel
theorem nm_at : ∀ n, n ∈ [0, 1, 2, 3, 5, 6, 8, 9, 10, 11, 14, 15, 17, 18] → atI (eNms.map V.str) ((n : Nat) : Int) = some (.str (eNms.getD n Str.empty)) := by
  decide +kernel
theorem nm_ne : ∀ n, n ∈ [0, 1, 2, 3, 5, 6, 8, 9, 10, 11, 14, 15, 17, 18] → ∀ x : Str, x ∈ [("stroke" : Str), "out", "text", "row"] → ¬ decide (V.str (eNms.getD n Str.empty) = V.str x) = true := by
  decide +kernel
theorem nm_in : ∀ n, n ∈ [0, 1, 2, 3, 5, 6, 8, 9, 10, 11, 14, 15, 17, 18] → ¬ (if false = true then !inV (V.str (eNms.getD n Str.empty)) [V.str "code", V.str "operation"] else inV (V.str (eNms.getD n Str.empty)) [V.str "code", V.str "operation"]) = true := by
  decide +kernel
theorem tw_no {n m : Nat} {z : V} (h : m < n) (hz : ((tw n).map V.bl)[m]? = some z) : eqV z (.bl true) = false := by
  unfold tw at hz
  rw [List.map_map, List.getElem?_map] at hz
  obtain ⟨w', h1, h2⟩ := Option.map_eq_some_iff.mp hz
  have h3 : w' = m := by
    obtain ⟨h4, h5⟩ := List.getElem?_eq_some_iff.mp h1
    rw [List.getElem_range] at h5
    exact h5.symm
  subst h3
  rw [← h2]
  show (decide (w' = n) == true) = false
  rw [decide_eq_false (by omega)]
  rfl
section
variable {X : Cx} {CB : Addr} {Cs : Nat → Addr} {Is : List Nat}
abbrev ZC (X : Cx) (g : Addr) (cdg : Value) (s : Shared) (H : Hp) : Cx := (cxOf C8.CX0 X.prog X.w X.K X.mg X.base ["_law_call", "e", "_law_kinds", "_law_names", "_law_name"] "_law_error_of" (defScope s_law_error_of) g cdg X.A X.stack s H C8.E0).nox
theorem err_suite {a g : Addr} {cdg : Value} {s : Shared} {H0 : Hp} {oe : Obj} {pn : List (Addr × Obj)} {n : Nat} (b_isinstance : X.mg "isinstance" = none) (b_ValueError : X.mg "ValueError" = none) (ER : Errs X.K X.mg CB Cs Is) (hn : n ∈ Is) (hz : Zc (.ref (Cs n)) none oe) (hf : ∃ vs, oe.data = .fields vs) :
    ∃ t, PSs ((ZC X g cdg s H0).suite a ((a, oe) :: pn)) errSuite t ∧ ∀ (D : Ends) (σ : L2.St) (H : Hp), σ.length = 5 → σ[1]? = some (some (.ref a)) → (∀ H' p, Same H H' → H' p = some (.tup [.str (eNms.getD n Str.empty), .int 0]) → D.rt (.ref p) H') → t D σ H := by
  have EC := ER.ec n hn
  refine ⟨_, (pss_cons (ps_set (i := 2) sc_law_error_of.nd rfl (by first | exact Or.inl rfl | exact Or.inr rfl) (pe_lst (paIs (C := Cs 0) (n := "e") (i := 1) EC hz hf (ER.kit n 0 hn (by decide)) (ER.mg 0 "InvalidSpot" rfl) b_isinstance (by rfl) (by rfl) (by decide) (by rfl) (Or.inl (by rfl)) (by decide) (by decide) (paIs (C := Cs 1) (n := "e") (i := 1) EC hz hf (ER.kit n 1 hn (by decide)) (ER.mg 1 "InvalidTurn" rfl) b_isinstance (by rfl) (by rfl) (by decide) (by rfl) (Or.inl (by rfl)) (by decide) (by decide) (paIs (C := Cs 2) (n := "e") (i := 1) EC hz hf (ER.kit n 2 hn (by decide)) (ER.mg 2 "InvalidTimes" rfl) b_isinstance (by rfl) (by rfl) (by decide) (by rfl) (Or.inl (by rfl)) (by decide) (by decide) paIs0)))))
    (pss_cons (ps_set (i := 2) sc_law_error_of.nd rfl (by first | exact Or.inl rfl | exact Or.inr rfl) (pe_op op_cat (pv 2) (pe_lst (paIs (C := Cs 3) (n := "e") (i := 1) EC hz hf (ER.kit n 3 hn (by decide)) (ER.mg 3 "TooFew" rfl) b_isinstance (by rfl) (by rfl) (by decide) (by rfl) (Or.inl (by rfl)) (by decide) (by decide) (paIs (C := Cs 4) (n := "e") (i := 1) EC hz hf (ER.kit n 4 hn (by decide)) (ER.mg 4 "InvalidStroke" rfl) b_isinstance (by rfl) (by rfl) (by decide) (by rfl) (Or.inl (by rfl)) (by decide) (by decide) (paIs (C := Cs 5) (n := "e") (i := 1) EC hz hf (ER.kit n 5 hn (by decide)) (ER.mg 5 "OpenStroke" rfl) b_isinstance (by rfl) (by rfl) (by decide) (by rfl) (Or.inl (by rfl)) (by decide) (by decide) paIs0))))))
    (pss_cons (ps_set (i := 2) sc_law_error_of.nd rfl (by first | exact Or.inl rfl | exact Or.inr rfl) (pe_op op_cat (pv 2) (pe_lst (paIs (C := Cs 6) (n := "e") (i := 1) EC hz hf (ER.kit n 6 hn (by decide)) (ER.mg 6 "InvalidReach" rfl) b_isinstance (by rfl) (by rfl) (by decide) (by rfl) (Or.inl (by rfl)) (by decide) (by decide) (paIs (C := Cs 7) (n := "e") (i := 1) EC hz hf (ER.kit n 7 hn (by decide)) (ER.mg 7 "OutOfReach" rfl) b_isinstance (by rfl) (by rfl) (by decide) (by rfl) (Or.inl (by rfl)) (by decide) (by decide) (paIs (C := Cs 8) (n := "e") (i := 1) EC hz hf (ER.kit n 8 hn (by decide)) (ER.mg 8 "TooMany" rfl) b_isinstance (by rfl) (by rfl) (by decide) (by rfl) (Or.inl (by rfl)) (by decide) (by decide) paIs0))))))
    (pss_cons (ps_set (i := 2) sc_law_error_of.nd rfl (by first | exact Or.inl rfl | exact Or.inr rfl) (pe_op op_cat (pv 2) (pe_lst (paIs (C := Cs 9) (n := "e") (i := 1) EC hz hf (ER.kit n 9 hn (by decide)) (ER.mg 9 "InvalidSize" rfl) b_isinstance (by rfl) (by rfl) (by decide) (by rfl) (Or.inl (by rfl)) (by decide) (by decide) (paIs (C := Cs 10) (n := "e") (i := 1) EC hz hf (ER.kit n 10 hn (by decide)) (ER.mg 10 "InvalidBox" rfl) b_isinstance (by rfl) (by rfl) (by decide) (by rfl) (Or.inl (by rfl)) (by decide) (by decide) (paIs (C := Cs 11) (n := "e") (i := 1) EC hz hf (ER.kit n 11 hn (by decide)) (ER.mg 11 "Contradiction" rfl) b_isinstance (by rfl) (by rfl) (by decide) (by rfl) (Or.inl (by rfl)) (by decide) (by decide) paIs0))))))
    (pss_cons (ps_set (i := 2) sc_law_error_of.nd rfl (by first | exact Or.inl rfl | exact Or.inr rfl) (pe_op op_cat (pv 2) (pe_lst (paIs (C := Cs 12) (n := "e") (i := 1) EC hz hf (ER.kit n 12 hn (by decide)) (ER.mg 12 "BadText" rfl) b_isinstance (by rfl) (by rfl) (by decide) (by rfl) (Or.inl (by rfl)) (by decide) (by decide) (paIs (C := Cs 13) (n := "e") (i := 1) EC hz hf (ER.kit n 13 hn (by decide)) (ER.mg 13 "BadRow" rfl) b_isinstance (by rfl) (by rfl) (by decide) (by rfl) (Or.inl (by rfl)) (by decide) (by decide) (paIs (C := Cs 14) (n := "e") (i := 1) EC hz hf (ER.kit n 14 hn (by decide)) (ER.mg 14 "UnknownName" rfl) b_isinstance (by rfl) (by rfl) (by decide) (by rfl) (Or.inl (by rfl)) (by decide) (by decide) paIs0))))))
    (pss_cons (ps_set (i := 2) sc_law_error_of.nd rfl (by first | exact Or.inl rfl | exact Or.inr rfl) (pe_op op_cat (pv 2) (pe_lst (paIs (C := Cs 15) (n := "e") (i := 1) EC hz hf (ER.kit n 15 hn (by decide)) (ER.mg 15 "InvalidName" rfl) b_isinstance (by rfl) (by rfl) (by decide) (by rfl) (Or.inl (by rfl)) (by decide) (by decide) (paIs (C := Cs 16) (n := "e") (i := 1) EC hz hf (ER.kit n 16 hn (by decide)) (ER.mg 16 "InvalidCode" rfl) b_isinstance (by rfl) (by rfl) (by decide) (by rfl) (Or.inl (by rfl)) (by decide) (by decide) (paIs (C := Cs 17) (n := "e") (i := 1) EC hz hf (ER.kit n 17 hn (by decide)) (ER.mg 17 "UnknownArm" rfl) b_isinstance (by rfl) (by rfl) (by decide) (by rfl) (Or.inl (by rfl)) (by decide) (by decide) paIs0))))))
    (pss_cons (ps_set (i := 2) sc_law_error_of.nd rfl (by first | exact Or.inl rfl | exact Or.inr rfl) (pe_op op_cat (pv 2) (pe_lst (paIs (C := Cs 18) (n := "e") (i := 1) EC hz hf (ER.kit n 18 hn (by decide)) (ER.mg 18 "NotFree" rfl) b_isinstance (by rfl) (by rfl) (by decide) (by rfl) (Or.inl (by rfl)) (by decide) (by decide) (paIs (C := Cs 19) (n := "e") (i := 1) EC hz hf (ER.kit n 19 hn (by decide)) (ER.mg 19 "InvalidOperation" rfl) b_isinstance (by rfl) (by rfl) (by decide) (by rfl) (Or.inl (by rfl)) (by decide) (by decide) paIs0)))))
    (pss_cons (ps_if (PW.pt (pw_or (pt_cmpR (op_ne) (pe_bm PySem.F.plainAttrs_list PySem.F.slot_list_count PySem.F.type_list_count mt_count (pv 2) (pa_cons pe_bl pa_nil)) pe_int (nomark _)) (pw_or1 (pt_not (pt_val (pe_callB (call_isE (X := ZC X g cdg s H0) EC hz hf) (by rfl) b_isinstance (by decide +kernel) (pa_cons (pv 1) (pa_cons (pe_bltn (v := .ty "ValueError") (by rfl) b_ValueError (by decide +kernel) rfl) pa_nil)))))))) (pss_one (ps_ret (pe_tup (pa_cons pe_str (pa_cons pe_int pa_nil))))) pss_nil)
    (pss_cons (ps_set (i := 3) sc_law_error_of.nd rfl (by first | exact Or.inl rfl | exact Or.inr rfl) (pe_lst (pa_cons pe_str (pa_cons pe_str (pa_cons pe_str (pa_cons pe_str (pa_cons pe_str (pa_cons pe_str (pa_cons pe_str (pa_cons pe_str (pa_cons pe_str (pa_cons pe_str (pa_cons pe_str (pa_cons pe_str pa_nil))))))))))))))
    (pss_cons (ps_set (i := 3) sc_law_error_of.nd rfl (by first | exact Or.inl rfl | exact Or.inr rfl) (pe_op op_cat (pv 3) (pe_lst (pa_cons pe_str (pa_cons pe_str (pa_cons pe_str (pa_cons pe_str (pa_cons pe_str (pa_cons pe_str (pa_cons pe_str (pa_cons pe_str pa_nil)))))))))))
    (pss_cons (ps_set (i := 4) sc_law_error_of.nd rfl (by first | exact Or.inl rfl | exact Or.inr rfl) (pe_ix (r := rIxL X.K) ix_list (pv 3) (pe_bm PySem.F.plainAttrs_list PySem.F.slot_list_index PySem.F.type_list_index mt_index (pv 2) (pa_cons pe_bl pa_nil)) (fun _ _ => rfl)))
    (pss_cons (ps_if (pt_cmpR (op_eq) (pv 4) pe_str (nomark _)) (pss_one (ps_never)) pss_nil)
    (pss_cons (ps_if (pt_cmpR (op_eq) (pv 4) pe_str (nomark _)) (pss_one (ps_never)) pss_nil)
    (pss_cons (ps_if (pt_cmpR (op_eq) (pv 4) pe_str (nomark _)) (pss_one (ps_never)) pss_nil)
    (pss_cons (ps_if (pt_cmpR (op_eq) (pv 4) pe_str (nomark _)) (pss_one (ps_never)) pss_nil)
    (pss_one (ps_ret (pe_tup (pa_cons (pv 4) (pa_cons (pe_ifExp (pt_cmpR (op_in_seq) (pv 4) (pe_lst (pa_cons pe_str (pa_cons pe_str pa_nil))) (by rfl)) (pe_nev) pe_int) pa_nil)))))))))))))))))))), ?_⟩
  intro D σ H hl h1 q
  obtain ⟨x0, x2, x3, x4, rfl⟩ : ∃ x0 x2 x3 x4, σ = [x0, some (.ref a), x2, x3, x4] := by
    match σ, hl, h1 with
    | [y0, y1, y2, y3, y4], _, h => exact ⟨y0, y2, y3, y4, by rw [show y1 = some (.ref a) from Option.some.inj h]⟩
  have pl := ER.pln n hn
  refine ⟨rfl, (by show 3 ≤ sizeLine; decide), fun l1 hl1 => gn_of ?_⟩
  have s1 := same_new hl1 (.lst ([decide (0 = n), decide (1 = n), decide (2 = n)].map V.bl))
  refine kinds_step upd_same (by show 6 ≤ 20; decide) fun H2 p2 s2 k2 => ?_
  refine kinds_step k2 (by show 9 ≤ 20; decide) fun H3 p3 s3 k3 => ?_
  refine kinds_step k3 (by show 12 ≤ 20; decide) fun H4 p4 s4 k4 => ?_
  refine kinds_step k4 (by show 15 ≤ 20; decide) fun H5 p5 s5 k5 => ?_
  refine kinds_step k5 (by show 18 ≤ 20; decide) fun H6 p6 s6 k6 => ?_
  refine kinds_step k6 (by show 20 ≤ 20; decide) fun H7 p7 s7 k7 => ?_
  have sx := s1.trans (s2.trans (s3.trans (s4.trans (s5.trans (s6.trans s7)))))
  have k8 : H7 p7 = some (.lst ((tw n).map V.bl)) := k7
  clear k7 k6 k5 k4 k3 k2
  have sq : SqL X.K H7 p7 ((tw n).map V.bl) := .inl (.inl k8)
  refine ⟨_, rfl, .inl ⟨rfl, _, sq⟩, p7, _, _, rfl, rfl, sq, rfl, tw_flat n, ?_⟩
  rw [tw_count n pl]
  refine ⟨rfl, _, rfl, ?_⟩
  refine (if_neg (by decide)).mpr ?_
  refine ⟨_, rfl, .ty "ValueError", .type "ValueError", true, rfl, fun u r => r, ER.val n hn, true, rfl, ?_⟩
  refine iteF ?_
  refine ⟨(by show 12 ≤ sizeLine; decide), fun l9 hl9 => gn_of ?_⟩
  have s9 := same_new hl9 (.lst ((eNms.take 12).map V.str))
  refine ⟨_, rfl, (by show 8 ≤ sizeLine; decide), fun l10 hl10 => ?_⟩
  have s10 := same_new hl10 (.lst ((eNms.drop 12).map V.str))
  refine ⟨l9, l10, _, _, rfl, rfl, s10 _ _ upd_same, upd_same, (by show 20 ≤ sizeLine; decide), fun l11 hl11 => gn_of ?_⟩
  have s11 := same_new hl11 (.lst (eNms.map V.str))
  have k11 := s11 _ _ (s10 _ _ (s9 _ _ k8))
  have s7x := s9.trans (s10.trans s11)
  have kn : upd (upd (upd H7 l9 (.lst ((eNms.take 12).map V.str))) l10 (.lst ((eNms.drop 12).map V.str))) l11 (.lst (eNms.map V.str)) l11 = some (.lst (eNms.map V.str)) := upd_same
  refine ⟨_, rfl, _, rfl, .inl ⟨rfl, _, .inl (.inl k11)⟩, p7, _, _, n, .bl true, rfl, rfl, .inl (.inl k11), rfl, tw_flat n, tw_at n pl, rfl, fun m z hm hz => tw_no hm hz, l11, _, _, _, rfl, rfl, .inl (.inl upd_same), nm_at n pl, gn_of ?_⟩
  refine ⟨_, rfl, rfl, _, rfl, (if_neg (nm_ne n pl _ (.head _))).mpr ?_⟩
  refine ⟨_, rfl, rfl, _, rfl, (if_neg (nm_ne n pl _ (.tail _ (.head _)))).mpr ?_⟩
  refine ⟨_, rfl, rfl, _, rfl, (if_neg (nm_ne n pl _ (.tail _ (.tail _ (.head _))))).mpr ?_⟩
  refine ⟨_, rfl, rfl, _, rfl, (if_neg (nm_ne n pl _ (.tail _ (.tail _ (.tail _ (.head _)))))).mpr ?_⟩
  refine ⟨_, rfl, _, rfl, (by show 2 ≤ sizeLine; decide), fun l12 hl12 => ?_⟩
  have s12 := same_new hl12 (.lst [V.str "code", V.str "operation"])
  refine ⟨l12, _, rfl, .inl (.inl (.inl upd_same)), rfl, rfl, _, rfl, (if_neg (nm_in n pl)).mpr ?_⟩
  refine ⟨(by show 2 ≤ sizeLine; decide), fun p13 hp13 => ?_⟩
  exact q _ _ (sx.trans (s7x.trans (s12.trans (same_new hp13 _)))) upd_same
/-- what is made of the lambda's reading: nothing for a call that ends, the error's name otherwise -/
def TErr (Cs : Nat → Addr) (Is : List Nat) : (XK → Hp → VK → Prop) → Hp → VK → Prop := fun tl H Q =>
  tl (fun cls d H' => ∃ n, n ∈ Is ∧ cls = .ref (Cs n) ∧ d = none ∧ ∀ H'' p, Same H' H'' → H'' p = some (.tup [.str (eNms.getD n Str.empty), .int 0]) → Q (.ref p) H'') H (fun _ H' => Q .non H')
theorem err_gives {g : Addr} {cdg : Value} {q : Str} (b_isinstance : X.mg "isinstance" = none) (b_ValueError : X.mg "ValueError" = none) (m_B : X.mg "CopyError" = some (.ref CB)) (ER : Errs X.K X.mg CB Cs Is) :
    GivesTo X ["_law_call", "e", "_law_kinds", "_law_names", "_law_name"] "_law_error_of" (defScope s_law_error_of) g cdg (defBody s_law_error_of) "_law_call" q (TErr Cs Is) := by
  intro f c' s H Q tl act hc h
  refine ⟨_, pss_cons (ps_try_as (X := ZC X g cdg s H) (n := "e") (i := 1) (c := .ref CB)
      (tb := fun W D σ H => ∃ Ech : XK, (∀ cls d σ' H', Ech cls d H' → W cls d σ' H') ∧ σ[0]? = some (some (.ref f)) ∧ H c' = some (CodeO c' q) ∧ tl Ech H (fun _ H1 => D.nx σ H1))
      (ts := fun a cls d D σ H => σ.length = 5 → ∃ n, n ∈ Is ∧ cls = .ref (Cs n) ∧ d = none ∧ σ[1]? = some (some (.ref a)) ∧ ∀ H'' p, Same H H'' → H'' p = some (.tup [.str (eNms.getD n Str.empty), .int 0]) → D.rt (.ref p) H'')
      rfl rfl sc_law_error_of.nd (by rfl) (by rfl) ⟨by rfl, by decide, .inl m_B⟩ LamX.takes0 (fun W pn xe tk _ => ?_) (fun a oe cls d pn hz hf => ?_)) (pss_one (ps_ret pe_non)), ?_⟩
  · refine ⟨fun pins s' σ H' D I h' => ?_⟩
    obtain ⟨Ech, hW, h1, h2, h3⟩ := h'
    exact PSs.run (pss_one (ps_expr (act W pn xe Ech _ _ tk hW) (by rfl))) pins s' σ H' D I ⟨h1, h2, h3⟩
  · refine ⟨fun pins s' σ H' D I h' => ?_⟩
    obtain ⟨n, hn, rfl, rfl, h1, h2⟩ := h' I.len
    obtain ⟨t, ht, hq⟩ := err_suite (X := X) (g := g) (cdg := cdg) (s := s) (H0 := H) (a := a) (pn := pn) b_isinstance b_ValueError ER hn hz hf
    exact ht.run pins s' σ H' D I (hq D σ H' I.len h1 h2)
  · refine ⟨_, ?_, rfl, hc, h⟩
    rintro cls d σ' H' ⟨n, hn, rfl, rfl, h2⟩
    refine ⟨true, ER.exm n hn, fun _ a _ hl => ⟨n, hn, rfl, rfl, ?_, h2⟩, fun z => by cases z⟩
    rw [List.length_set] at hl
    rw [List.getElem?_set_self (by omega)]
end
end My

namespace My
open PySem L2 Mth LamX
abbrev s_law : Stmt := topS 58
theorem sc_law : FnScope ["_law_script", "_law_d", "_law_told_here", "_law_many", "_law_firsts", "_law_k", "_law_pairs", "_law_spot_here", "_law_pair", "_law_found", "_law_copy", "_law_one", "_law_steps", "_law_way", "_law_step", "_law_flat", "_law_odd"] ["_law_script"] (defScope s_law) := ⟨rfl, rfl, rfl, by decide +kernel, rfl, by decide +kernel, by decide +kernel⟩
section
variable {P : Program} {w : World} {K : PySem.W.Frag} {mg : Str → Option Value} {base : Heap}
def spLaw (K : PySem.W.Frag) (PL : Addr) : Sp := fun vs H Q _ => ∃ (a : Addr) (ns : List Int), vs = [.ref a] ∧ SqL K H a (ns.map V.int) ∧ ns.length ≤ 63 ∧ H PL = some (.tbl #[]) ∧ ∀ H', Q (.bl true) H'
structure S8 (K : PySem.W.Frag) (PL d : Addr) (v2 : V) (c : Cp) (L4 : Addr) (us : List V) (zs : List T3) (t : Addr) (pv : List V) (h : Pr) (pt : List Pr) (H : Hp) : Prop where
  hd : ∃ st, H d = some (.lst (encD st)) ∧ SrcOk st
  tb : H PL = some (.tbl #[])
  it : IsD K H v2 c
  hl : H L4 = some (.lst us)
  az : Paired (IsT K H) us zs
  ht : SqT K H t pv
  ap : AllPr K H pv (h :: pt)
theorem S8.same {PL d : Addr} {v2 : V} {c : Cp} {L4 : Addr} {us : List V} {zs : List T3} {t : Addr} {pv : List V} {h : Pr} {pt : List Pr} {H H' : Hp} (S : S8 K PL d v2 c L4 us zs t pv h pt H) (s : Same H H') : S8 K PL d v2 c L4 us zs t pv h pt H' := by
  obtain ⟨⟨st, h1, h2⟩, tb, it, hl, az, ht, ap⟩ := S
  exact ⟨⟨st, s _ _ h1, h2⟩, s _ _ tb, it.same s, s _ _ hl, pimp (fun _ _ i => i.same s) az, same_T s ht, ap.same s⟩
theorem o1k (k : Int) : Ok (k, 0, 1) := ⟨(by show (0 : Int) < 1; decide), by unfold g3; dsimp only; rw [Int.gcd_one_right]; rfl⟩
def l3 (z : T3) : List Int := [z.1, z.2.1, z.2.2]
theorem l3_v (z : T3) : (l3 z).map V.int = v3 z := rfl
theorem l3_inj {a b : T3} (h : l3 a = l3 b) : a = b := by
  obtain ⟨x, y, d⟩ := a
  obtain ⟨u, v, e⟩ := b
  simp only [l3, List.cons.injEq, and_true] at h
  obtain ⟨rfl, rfl, rfl⟩ := h
  rfl
/-- the first spots of pairs, by their addresses -/
theorem firsts_ks {H : Hp} {x : V} {p : Pr} (h : IsPr K H x p) : ∃ t pa pb, x = .ref t ∧ SqT K H t [.ref pa, .ref pb] ∧ SqT K H pa (v3 p.1) ∧ SqT K H pb (v3 p.2) := h
theorem few_all {prs : List Pr} {h : Pr} {L : List (List Int)} (hh : h ∈ prs) (all : ∀ p ∈ prs, l3 p.1 ∈ L) (few : L.length < 2) : ∀ p ∈ prs, p.1 = h.1 := fun p hp => by
  have h1 := all p hp
  have h2 := all h hh
  match L, few with
  | [], _ => cases h1
  | [x], _ => exact l3_inj ((List.mem_singleton.mp h1).trans (List.mem_singleton.mp h2).symm)
  | _ :: _ :: _, few => exact absurd few (by simp only [List.length_cons]; omega)
theorem many_oth {prs : List Pr} {h : Pr} {L : List (List Int)} (sub : ∀ l ∈ L, ∃ p ∈ prs, l = l3 p.1) (nd : L.Nodup) (many : ¬ L.length < 2) : ∃ o os, oth prs h = o :: os := by
  cases e : oth prs h with
  | cons o os => exact ⟨o, os, rfl⟩
  | nil =>
    exfalso
    have al : ∀ p ∈ prs, p.1 = h.1 := fun p hp => Classical.byContradiction fun n => by
      have : p ∈ oth prs h := List.mem_filter.mpr ⟨hp, by simpa using n⟩
      rw [e] at this
      cases this
    match L, nd, many, sub with
    | [], _, m, _ => exact m (by decide)
    | [x], _, m, _ => exact m (by show 1 < 2; decide)
    | x :: y :: r, nd, _, sub =>
      obtain ⟨p, hp, e1⟩ := sub x (List.mem_cons_self ..)
      obtain ⟨q, hq, e2⟩ := sub y (List.mem_cons_of_mem _ (List.mem_cons_self ..))
      have : x = y := by rw [e1, e2, al p hp, al q hq]
      rw [this] at nd
      exact (List.nodup_cons.mp nd).1 (List.mem_cons_self ..)
theorem extN_T {H H' : Hp} {p : Addr} {xs : List V} (h : SqT K H p xs) (e : ExtN H H') : SqT K H' p xs := by
  rcases h with (h | ⟨o, h⟩) | h
  · exact .inl (.inl (e _ _ h (fun ps z => by cases z)))
  · exact .inl (.inr ⟨o, e _ _ h (fun ps z => by cases z)⟩)
  · exact .inr h
theorem IsPr.extN {H H' : Hp} {v : V} {p : Pr} (h : IsPr K H v p) (e : ExtN H H') : IsPr K H' v p := by
  obtain ⟨t, a, b, rfl, h1, h2, h3⟩ := h
  exact ⟨t, a, b, rfl, extN_T h1 e, extN_T h2 e, extN_T h3 e⟩
def dErr (n : Str) : PyData := .tuple [.str n, .int 0]
theorem shapedE {n : Str} (h : PyData.strOk n = true) : SeqAt.shaped (dErr n) = true := by
  show ((PyData.strOk n && (true && true)) && decide (_ ≤ 64)) = true
  rw [h]
  rfl
theorem eqvE (n : Str) : PyData.eqv (dErr n) (dErr n) = true := by simp [dErr, PyData.eqv, PyData.eqvAll]
theorem d3_can (z : T3) : (d3 z).canLay0 = true ∧ (d3 z).depth ≤ 60 := ⟨rfl, by show 1 ≤ 60; decide⟩
def dC (c : Cp) : PyData := .tuple [d3 c.t, d3 c.s, .bool c.m]
theorem DpC {H : Hp} {p a b : Addr} {c : Cp} (h1 : SqT K H p [.ref a, .ref b, .bl c.m]) (h2 : SqT K H a (v3 c.t)) (h3 : SqT K H b (v3 c.s)) : Dp K H (.ref p) (dC c) := .tup h1 (.cons (Dp3 h2) (.cons (Dp3 h3) (.cons (.bl _) .nil)))
theorem shapedC (c : Cp) : SeqAt.shaped (dC c) = true := rfl
theorem eqvC (a b : Cp) : PyData.eqv (dC a) (dC b) = ceq a b := by
  show (PyData.eqv (d3 a.t) (d3 b.t) && (PyData.eqv (d3 a.s) (d3 b.s) && ((a.m == b.m) && true))) = _
  rw [eqv3, eqv3]
  unfold ceq
  congr 1
  congr 1
  cases a.m <;> cases b.m <;> rfl
theorem step_zero {p h : Pr} (pp : PrOk p) (ph : PrOk h) : minus p.1 h.1 = (0, 0, 1) ↔ p.1 = h.1 := by
  constructor
  · intro e
    refine Classical.byContradiction fun n => ?_
    have := minus_ne pp.a ph.a n
    rw [e] at this
    rcases this with c | c <;> exact c rfl
  · intro e
    rw [e]
    refine ext (minus_ok ph.a ph.a) ok_0 ?_ ?_
    · rw [re_minus ph.a ph.a, re_0]; grind
    · rw [im_minus ph.a ph.a, im_0]; grind
theorem steps_way {prs : List Pr} {h : Pr} (ok : ∀ p ∈ prs, PrOk p) (ph : PrOk h) : (prs.map fun p => minus p.1 h.1).filter (fun z => !decide (z = (0, 0, 1))) = (oth prs h).map fun p => minus p.1 h.1 := by
  unfold oth
  rw [List.filter_map]
  congr 1
  refine List.filter_congr fun p hp => ?_
  show (!decide (minus p.1 h.1 = (0, 0, 1))) = !decide (p.1 = h.1)
  rw [decide_eq_decide.mpr (step_zero (ok p hp) ph)]
theorem ok_law {f C CB PL cL g : Addr} {Cs : Nat → Addr} {oc kV doc pm ct oc' kV' doc' pm' ct' cdv' : Value} {od an od' an' : Option Addr} {osl osl' : Array (Option Value)}
    (b_range : mg "range" = none) (b_isinstance : mg "isinstance" = none) (b_ValueError : mg "ValueError" = none) (b_len : mg "len" = none) (b_tuple : mg "tuple" = none) (b_set : mg "set" = none) (b_sorted : mg "sorted" = none)
    (m_B : mg "CopyError" = some (.ref CB)) (ER : Errs K mg CB Cs [0, 3]) (m_E : mg "_law_error_of" = some (.ref g)) (k_E : PySem.W.keepIn K (.ref g) = true)
    (l_E : K.lookup g = some ⟨oc', od', .func (PySem.W.fnOf "_law_error_of" "_law_error_of" (defArgs s_law_error_of) (defBody s_law_error_of) (defScope s_law_error_of) .none kV' doc' pm' an' cdv' ct'), osl'⟩) (c_E : PySem.W.codeIn K cdv' "_law_error_of" = true)
    (b_E : Binds K (PySem.W.fnOf "_law_error_of" "_law_error_of" (defArgs s_law_error_of) (defBody s_law_error_of) (defScope s_law_error_of) .none kV' doc' pm' an' cdv' ct') ["_law_call"] [])
    (d_law_random : D P w K mg base "_law_random" 1 (sp_random K)) (d_law_below : D P w K mg base "_law_below" 1 sp_below) (d_law_told : D P w K mg base "_law_told" 4 (sp_draw fun H r => ∃ c, IsD K H r c ∧ CopyIn c))
    (d_law_spot : D P w K mg base "_law_spot" 3 (sp_draw fun H r => ∃ t, IsT K H r t ∧ SpotIn t)) (d_law_carried : D P w K mg base "_law_carried" 4 (sp_lcar K)) (d_law_plus : D P w K mg base "_law_plus" 3 (sp_two K plus)) (d_law_times : D P w K mg base "_law_times" 3 (sp_two K times)) (d_law_minus : D P w K mg base "_law_minus" 4 (sp_two K minus))
    (d_law_shown : D P w K mg base "_law_shown" 3 (sp_shown K C)) (d_law_shuffled : D P w K mg base "_law_shuffled" 2 (sp_shuf K)) (d_carriers : D P w K mg base "carriers" 7 (sp_carr K C)) (dF : DX P w K mg base "carriers" 7 (sp_carF K (Cs 3))) (dS : DX P w K mg base "carriers" 7 (sp_carS K (Cs 0)))
    (TBL : TabB base mg cL PL) (lk : K.lookup f = some ⟨oc, od, .func (PySem.W.fnOf "law" "law" (defArgs s_law) (defBody s_law) (defScope s_law) .none kV doc pm an (.ref cL) ct), osl⟩) (hcd : PySem.W.codeIn K (.ref cL) "law" = true) :
    FnOk P w K mg base CX0 10 f (PySem.W.fnOf "law" "law" (defArgs s_law) (defBody s_law) (defScope s_law) .none kV doc pm an (.ref cL) ct) ["_law_script"] (spLaw K PL) := by
  refine fn_of lk hcd sc_law (fun vs H Q E h => ?_) (fun A outer s H vs Q E hr h => ?_)
  · obtain ⟨a, ns, rfl, _⟩ := h
    rfl
  obtain ⟨a, ns, rfl, hS, h63, hT, q⟩ := h
  refine (?_ : ∃ t, PSs (cxOf CX0 P w K mg base _ _ _ f (.ref cL) A outer s H E).nox _ t ∧ _).imp fun t h => ⟨h.1.nox, h.2⟩
  refine ⟨_, (pss_cons (ps_set (i := 1) sc_law.nd rfl (by first | exact Or.inl rfl | exact Or.inr rfl) (pc d_law_random (hr.mono (by decide)) (pa_cons (pv 0) (pa_cons pe_int pa_nil))))
    (pss_cons (ps_asg (pe_tup (pa_cons (pc d_law_told (hr.mono (by decide)) (pa_cons (pv 1) pa_nil)) (pa_cons (pe_op op_add pe_int (pc d_law_below (hr.mono (by decide)) (pa_cons (pv 1) (pa_cons pe_int pa_nil)))) pa_nil))) (pg_tup rfl (pgs_cons (pg_name (i := 2) sc_law.nd rfl (by first | exact Or.inl rfl | exact Or.inr rfl)) (pgs_cons (pg_name (i := 3) sc_law.nd rfl (by first | exact Or.inl rfl | exact Or.inr rfl)) pgs_nil))))
    (pss_cons (ps_set (i := 4) sc_law.nd rfl (by first | exact Or.inl rfl | exact Or.inr rfl) (pe_lc (own := [("_law_k", 5)]) (g := gName 5) (tt := tYes) (by rfl) sc_law.nd (pi_range1 (by rfl) b_range (pa_cons (pv 3) pa_nil)) (blkOk_by (own := [("_law_k", 5)]) (N := ["_law_script", "_law_d", "_law_told_here", "_law_many", "_law_firsts", "_law_k", "_law_pairs", "_law_spot_here", "_law_pair", "_law_found", "_law_copy", "_law_one", "_law_steps", "_law_way", "_law_step", "_law_flat", "_law_odd"]) (sc := defScope s_law) (by decide +kernel)) (fun _ _ _ _ _ => (pg_name (i := 5) sc_law.nd rfl (by first | exact Or.inl rfl | exact Or.inr rfl))) (fun _ _ _ _ _ => pts_nil) (fun _ _ _ _ _ => (pc d_law_spot (hr.mono (by decide)) (pa_cons (pv 1) pa_nil)))))
    (pss_cons (ps_if (pt_cmpR (op_eq) (pc d_law_below (hr.mono (by decide)) (pa_cons (pv 1) (pa_cons pe_int pa_nil))) pe_int (nomark _)) (pss_one (ps_set (i := 4) sc_law.nd rfl (by first | exact Or.inl rfl | exact Or.inr rfl) (pe_lc (own := [("_law_k", 5)]) (g := gName 5) (tt := tYes) (by rfl) sc_law.nd (pi_range1 (by rfl) b_range (pa_cons (pv 3) pa_nil)) (blkOk_by (own := [("_law_k", 5)]) (N := ["_law_script", "_law_d", "_law_told_here", "_law_many", "_law_firsts", "_law_k", "_law_pairs", "_law_spot_here", "_law_pair", "_law_found", "_law_copy", "_law_one", "_law_steps", "_law_way", "_law_step", "_law_flat", "_law_odd"]) (sc := defScope s_law) (by decide +kernel)) (fun _ _ _ _ _ => (pg_name (i := 5) sc_law.nd rfl (by first | exact Or.inl rfl | exact Or.inr rfl))) (fun _ _ _ _ _ => pts_nil) (fun _ _ _ _ _ => (pc d_law_plus (hr.mono (by decide)) (pa_cons (pe_ix (r := rIxL K) ix_list (pv 4) pe_int (fun _ _ => rfl)) (pa_cons (pc d_law_times (hr.mono (by decide)) (pa_cons (pe_tup (pa_cons (pv 5) (pa_cons pe_int (pa_cons pe_int pa_nil)))) (pa_cons (pe_tup (pa_cons pe_int (pa_cons pe_int (pa_cons pe_int pa_nil)))) pa_nil))) pa_nil))))))) pss_nil)
    (pss_cons (ps_set (i := 6) sc_law.nd rfl (by first | exact Or.inl rfl | exact Or.inr rfl) (pe_lc (own := [("_law_spot_here", 7)]) (g := gName 7) (tt := tYes) (by rfl) sc_law.nd (pi_list (pv 4)) (blkOk_by (own := [("_law_spot_here", 7)]) (N := ["_law_script", "_law_d", "_law_told_here", "_law_many", "_law_firsts", "_law_k", "_law_pairs", "_law_spot_here", "_law_pair", "_law_found", "_law_copy", "_law_one", "_law_steps", "_law_way", "_law_step", "_law_flat", "_law_odd"]) (sc := defScope s_law) (by decide +kernel)) (fun _ _ _ _ _ => (pg_name (i := 7) sc_law.nd rfl (by first | exact Or.inl rfl | exact Or.inr rfl))) (fun _ _ _ _ _ => pts_nil) (fun _ _ _ _ _ => (pe_tup (pa_cons (pv 7) (pa_cons (pc d_law_carried (hr.mono (by decide)) (pa_cons (pv 2) (pa_cons (pv 7) pa_nil))) pa_nil))))))
    (pss_cons (ps_if (pt_cmpR (op_eq) (pc d_law_below (hr.mono (by decide)) (pa_cons (pv 1) (pa_cons pe_int pa_nil))) pe_int (nomark _)) (pss_one (ps_expr (pe_bm PySem.F.plainAttrs_list PySem.F.slot_list_append PySem.F.type_list_append mt_append (pv 6) (pa_cons (pe_tup (pa_cons (pc d_law_spot (hr.mono (by decide)) (pa_cons (pv 1) pa_nil)) (pa_cons (pc d_law_spot (hr.mono (by decide)) (pa_cons (pv 1) pa_nil)) pa_nil))) pa_nil)))) pss_nil)
    (pss_cons (ps_set (i := 6) sc_law.nd rfl (by first | exact Or.inl rfl | exact Or.inr rfl) (pe_callTy call_tuple_of (by rfl) b_tuple (by decide +kernel) (pa_cons (pc d_law_shuffled (hr.mono (by decide)) (pa_cons (pv 1) (pa_cons (pv 6) pa_nil))) pa_nil)))
    (pss_cons (ps_if (pt_cmpR (op_lt) (pe_callB call_len_seq (by rfl) b_len PySem.boot_len (pa_cons (pe_callB (r := rSortedN K P w) (cr_sortedN rfl) (by rfl) b_sorted (by decide +kernel) (pa_cons (pe_callTy (r := rSetOfT K P w) (cr_setOfT rfl hr.units) (by rfl) b_set (by decide +kernel) (pa_cons (pe_lc (own := [("_law_pair", 8)]) (g := gName 8) (tt := tYes) (by rfl) sc_law.nd (pi_tup (pv 6)) (blkOk_by (own := [("_law_pair", 8)]) (N := ["_law_script", "_law_d", "_law_told_here", "_law_many", "_law_firsts", "_law_k", "_law_pairs", "_law_spot_here", "_law_pair", "_law_found", "_law_copy", "_law_one", "_law_steps", "_law_way", "_law_step", "_law_flat", "_law_odd"]) (sc := defScope s_law) (by decide +kernel)) (fun _ _ _ _ _ => (pg_name (i := 8) sc_law.nd rfl (by first | exact Or.inl rfl | exact Or.inr rfl))) (fun _ _ _ _ _ => pts_nil) (fun _ _ _ _ _ => (pe_ix (r := rIxT K) ix_tup (pv 8) pe_int (fun _ _ => rfl)))) pa_nil)) pa_nil)) pa_nil)) pe_int (nomark _)) (pss_one (ps_ret (pe_cmpR (r := rEqD K) (op_eqD hr.units) (pe_lamcall (T := [(PL, _)]) (TT := TErr Cs [0, 3]) (k := 7) (t := fun E => tClX (sp_carF K (Cs 3)) E (tCons (tVar 6) tNil)) (by rfl) m_E k_E l_E c_E b_E sc_law_error_of (by rfl) (Or.inl (by rfl)) (err_gives b_isinstance b_ValueError m_B ER) TBL (by rfl) (.head _) (fun p hp _ => by cases List.mem_singleton.mp hp; rfl) (hr.mono (by decide)) (show LamS (defScope s_law) _ from lamS_by (by decide +kernel)) (by rfl) (fun _ _ _ _ _ => by rfl) (fun A outer s H E f c' hr' => pcX dF hr' (passes_call (takes_of rfl rfl rfl rfl) (fun _ _ _ _ h => h)) (pa_cons (pv 6) pa_nil))) (pe_tup (pa_cons pe_str (pa_cons pe_int pa_nil))) (nomark _)))) pss_nil)
    (pss_cons (ps_setLc (i := 9) (own := [("_law_copy", 10)]) (g := gName 10) (tt := tYes) (by rfl) sc_law.nd rfl rfl (sw_true rfl rfl rfl (by decide +kernel)) (pi_list (pc d_carriers (hr.mono (by decide)) (pa_cons (pv 6) pa_nil))) (blkOk_by (own := [("_law_copy", 10)]) (N := ["_law_script", "_law_d", "_law_told_here", "_law_many", "_law_firsts", "_law_k", "_law_pairs", "_law_spot_here", "_law_pair", "_law_found", "_law_copy", "_law_one", "_law_steps", "_law_way", "_law_step", "_law_flat", "_law_odd"]) (sc := defScope s_law) (by decide +kernel)) (fun _ _ _ _ _ => (pg_name (i := 10) sc_law.nd rfl (by first | exact Or.inl rfl | exact Or.inr rfl))) (fun _ _ _ _ _ => pts_nil) (fun _ _ _ _ _ => (pc d_law_shown (hr.mono (by decide)) (pa_cons (pv 10) pa_nil))))
    (pss_cons (ps_for PassesOwn.never rfl (pi_list (pv 9)) (pg_name (i := 11) sc_law.nd rfl (by first | exact Or.inl rfl | exact Or.inr rfl)) (pss_one (ps_if (PW.pt (pw_or (pt_cmpR (r := rNeD K) (op_neD hr.units) (pe_lc (own := [("_law_pair", 8)]) (g := gName 8) (by rfl) sc_law.nd (pi_tup (pv 6)) (blkOk_by (own := [("_law_pair", 8)]) (N := ["_law_script", "_law_d", "_law_told_here", "_law_many", "_law_firsts", "_law_k", "_law_pairs", "_law_spot_here", "_law_pair", "_law_found", "_law_copy", "_law_one", "_law_steps", "_law_way", "_law_step", "_law_flat", "_law_odd"]) (sc := defScope s_law) (by decide +kernel)) (fun _ _ _ _ _ => (pg_name (i := 8) sc_law.nd rfl (by first | exact Or.inl rfl | exact Or.inr rfl))) (fun _ _ _ _ _ => (pts_one (pt_cmpR (r := rNeD K) (op_neD hr.units) (pc d_law_carried (hr.mono (by decide)) (pa_cons (pv 11) (pa_cons (pe_ix (r := rIxT K) ix_tup (pv 8) pe_int (fun _ _ => rfl)) pa_nil))) (pe_ix (r := rIxT K) ix_tup (pv 8) pe_int (fun _ _ => rfl)) (nomark _)))) (fun _ _ _ _ _ => (pv 8))) (pe_lst pa_nil) (nomark _)) (pw_or1 (pt_cmpR (r := rEqD K) (op_eqD hr.units) (pe_ix (r := rIxT K) ix_tup (pv 11) pe_int (fun _ _ => rfl)) (pe_tup (pa_cons pe_int (pa_cons pe_int (pa_cons pe_int pa_nil)))) (nomark _))))) (pss_one (ps_ret pe_bl)) pss_nil)))
    (pss_cons (ps_if (pt_cmpR (r := rNotInD K) (op_notInD (u65 hr)) (pe_lc (own := [("_law_one", 11)]) (g := gName 11) (tt := tYes) (by rfl) sc_law.nd (pi_list (pv 9)) (blkOk_by (own := [("_law_one", 11)]) (N := ["_law_script", "_law_d", "_law_told_here", "_law_many", "_law_firsts", "_law_k", "_law_pairs", "_law_spot_here", "_law_pair", "_law_found", "_law_copy", "_law_one", "_law_steps", "_law_way", "_law_step", "_law_flat", "_law_odd"]) (sc := defScope s_law) (by decide +kernel)) (fun _ _ _ _ _ => (pg_name (i := 11) sc_law.nd rfl (by first | exact Or.inl rfl | exact Or.inr rfl))) (fun _ _ _ _ _ => pts_nil) (fun _ _ _ _ _ => (pe_ix (r := rIxT K) ix_tup (pv 11) pe_int (fun _ _ => rfl)))) (pe_lst (pa_cons (pe_lst pa_nil) (pa_cons (pe_lst (pa_cons pe_bl pa_nil)) (pa_cons (pe_lst (pa_cons pe_bl pa_nil)) (pa_cons (pe_lst (pa_cons pe_bl (pa_cons pe_bl pa_nil))) pa_nil))))) (by rfl)) (pss_one (ps_ret pe_bl)) pss_nil)
    (pss_cons (ps_if (PW.pt (pw_and (pt_cmpR (r := rEqD K) (op_eqD hr.units) (pe_lc (own := [("_law_pair", 8)]) (g := gName 8) (by rfl) sc_law.nd (pi_tup (pv 6)) (blkOk_by (own := [("_law_pair", 8)]) (N := ["_law_script", "_law_d", "_law_told_here", "_law_many", "_law_firsts", "_law_k", "_law_pairs", "_law_spot_here", "_law_pair", "_law_found", "_law_copy", "_law_one", "_law_steps", "_law_way", "_law_step", "_law_flat", "_law_odd"]) (sc := defScope s_law) (by decide +kernel)) (fun _ _ _ _ _ => (pg_name (i := 8) sc_law.nd rfl (by first | exact Or.inl rfl | exact Or.inr rfl))) (fun _ _ _ _ _ => (pts_one (pt_cmpR (r := rNeD K) (op_neD hr.units) (pc d_law_carried (hr.mono (by decide)) (pa_cons (pv 2) (pa_cons (pe_ix (r := rIxT K) ix_tup (pv 8) pe_int (fun _ _ => rfl)) pa_nil))) (pe_ix (r := rIxT K) ix_tup (pv 8) pe_int (fun _ _ => rfl)) (nomark _)))) (fun _ _ _ _ _ => (pv 8))) (pe_lst pa_nil) (nomark _)) (pw_and1 (pt_cmpR (r := rNotInD K) (op_notInD (u65 hr)) (pv 2) (pv 9) (by rfl))))) (pss_one (ps_ret pe_bl)) pss_nil)
    (pss_cons (ps_setLc (i := 12) (own := [("_law_pair", 8)]) (g := gName 8) (tt := tYes) (by rfl) sc_law.nd rfl rfl (sw_true rfl rfl rfl (by decide +kernel)) (pi_tup (pv 6)) (blkOk_by (own := [("_law_pair", 8)]) (N := ["_law_script", "_law_d", "_law_told_here", "_law_many", "_law_firsts", "_law_k", "_law_pairs", "_law_spot_here", "_law_pair", "_law_found", "_law_copy", "_law_one", "_law_steps", "_law_way", "_law_step", "_law_flat", "_law_odd"]) (sc := defScope s_law) (by decide +kernel)) (fun _ _ _ _ _ => (pg_name (i := 8) sc_law.nd rfl (by first | exact Or.inl rfl | exact Or.inr rfl))) (fun _ _ _ _ _ => pts_nil) (fun _ _ _ _ _ => (pc d_law_minus (hr.mono (by decide)) (pa_cons (pe_ix (r := rIxT K) ix_tup (pv 8) pe_int (fun _ _ => rfl)) (pa_cons (pe_ix (r := rIxT K) ix_tup (pe_ix (r := rIxT K) ix_tup (pv 6) pe_int (fun _ _ => rfl)) pe_int (fun _ _ => rfl)) pa_nil)))))
    (pss_cons (ps_set (i := 13) sc_law.nd rfl (by first | exact Or.inl rfl | exact Or.inr rfl) (pe_ix (r := rIxL K) ix_list (pe_lc (own := [("_law_step", 14)]) (g := gName 14) (by rfl) sc_law.nd (pi_list (pv 12)) (blkOk_by (own := [("_law_step", 14)]) (N := ["_law_script", "_law_d", "_law_told_here", "_law_many", "_law_firsts", "_law_k", "_law_pairs", "_law_spot_here", "_law_pair", "_law_found", "_law_copy", "_law_one", "_law_steps", "_law_way", "_law_step", "_law_flat", "_law_odd"]) (sc := defScope s_law) (by decide +kernel)) (fun _ _ _ _ _ => (pg_name (i := 14) sc_law.nd rfl (by first | exact Or.inl rfl | exact Or.inr rfl))) (fun _ _ _ _ _ => (pts_one (pt_cmpR (r := rNeD K) (op_neD hr.units) (pv 14) (pe_tup (pa_cons pe_int (pa_cons pe_int (pa_cons pe_int pa_nil)))) (nomark _)))) (fun _ _ _ _ _ => (pv 14))) pe_int (fun _ _ => rfl)))
    (pss_cons (ps_set (i := 15) sc_law.nd rfl (by first | exact Or.inl rfl | exact Or.inr rfl) (pe_cmpR (r := rEqD K) (op_eqD hr.units) (pe_lc (own := [("_law_step", 14)]) (g := gName 14) (by rfl) sc_law.nd (pi_list (pv 12)) (blkOk_by (own := [("_law_step", 14)]) (N := ["_law_script", "_law_d", "_law_told_here", "_law_many", "_law_firsts", "_law_k", "_law_pairs", "_law_spot_here", "_law_pair", "_law_found", "_law_copy", "_law_one", "_law_steps", "_law_way", "_law_step", "_law_flat", "_law_odd"]) (sc := defScope s_law) (by decide +kernel)) (fun _ _ _ _ _ => (pg_name (i := 14) sc_law.nd rfl (by first | exact Or.inl rfl | exact Or.inr rfl))) (fun _ _ _ _ _ => (pts_one (pt_cmpR (op_ne) (pe_op op_mulW (pe_ix (r := rIxT K) ix_tup (pv 14) pe_int (fun _ _ => rfl)) (pe_ix (r := rIxT K) ix_tup (pv 13) pe_int (fun _ _ => rfl))) (pe_op op_mulW (pe_ix (r := rIxT K) ix_tup (pv 14) pe_int (fun _ _ => rfl)) (pe_ix (r := rIxT K) ix_tup (pv 13) pe_int (fun _ _ => rfl))) (nomark _)))) (fun _ _ _ _ _ => (pv 14))) (pe_lst pa_nil) (nomark _)))
    (pss_cons (ps_if (PW.pt (pw_or (PW.pt (pw_and (pt_val (pv 15)) (pw_and1 (pt_cmpR (op_eq) (pe_callB call_len_seq (by rfl) b_len PySem.boot_len (pa_cons (pv 9) pa_nil)) pe_int (nomark _))))) (pw_or1 (PW.pt (pw_and (pt_not (pt_val (pv 15))) (pw_and1 (pt_cmpR (op_eq) (pe_callB call_len_seq (by rfl) b_len PySem.boot_len (pa_cons (pv 9) pa_nil)) pe_int (nomark _)))))))) (pss_one (ps_ret pe_bl)) pss_nil)
    (pss_cons (ps_if (pt_cmpR (r := rNeD K) (op_neD hr.units) (pc d_carriers (hr.mono (by decide)) (pa_cons (pe_tup (pa_cons (pe_tup (pa_cons (pe_ix (r := rIxL K) ix_list (pv 4) pe_int (fun _ _ => rfl)) (pa_cons (pe_ix (r := rIxT K) ix_tup (pe_ix (r := rIxT K) ix_tup (pv 6) pe_int (fun _ _ => rfl)) pe_int (fun _ _ => rfl)) pa_nil))) (pa_cons (pe_tup (pa_cons (pc d_law_plus (hr.mono (by decide)) (pa_cons (pe_ix (r := rIxL K) ix_list (pv 4) pe_int (fun _ _ => rfl)) (pa_cons (pe_tup (pa_cons pe_int (pa_cons pe_int (pa_cons pe_int pa_nil)))) pa_nil))) (pa_cons (pe_ix (r := rIxT K) ix_tup (pe_ix (r := rIxT K) ix_tup (pv 6) pe_int (fun _ _ => rfl)) pe_int (fun _ _ => rfl)) pa_nil))) pa_nil))) pa_nil)) (pe_lst pa_nil) (nomark _)) (pss_one (ps_ret pe_bl)) pss_nil)
    (pss_cons (ps_set (i := 16) sc_law.nd rfl (by first | exact Or.inl rfl | exact Or.inr rfl) (pe_ix (r := rIxL K) ix_list (pe_lst (pa_cons (pe_tup (pa_cons pe_int (pa_cons pe_int (pa_cons pe_int pa_nil)))) (pa_cons (pe_tup (pa_cons pe_int (pa_cons pe_int (pa_cons pe_int pa_nil)))) (pa_cons (pe_tup (pa_cons pe_int (pa_cons pe_int pa_nil))) (pa_cons (pe_tup (pa_cons pe_int (pa_cons pe_bl (pa_cons pe_int pa_nil)))) pa_nil))))) (pc d_law_below (hr.mono (by decide)) (pa_cons (pv 1) (pa_cons pe_int pa_nil))) (fun _ _ => rfl)))
    (pss_one (ps_ret (pe_cmpR (r := rEqD K) (op_eqD hr.units) (pe_lamcall (T := [(PL, _)]) (TT := TErr Cs [0, 3]) (k := 7) (t := fun E => tClX (sp_carS K (Cs 0)) E (tCons (tTup (tCons (tOp (rIxT K) (tVar 6) (tC (.int 0))) (tCons (tTup (tCons (tTup (tCons (tC (.int 1)) (tCons (tC (.int 0)) (tCons (tC (.int 1)) tNil)))) (tCons (tVar 16) tNil))) tNil))) tNil)) (by rfl) m_E k_E l_E c_E b_E sc_law_error_of (by rfl) (Or.inl (by rfl)) (err_gives b_isinstance b_ValueError m_B ER) TBL (by rfl) (.head _) (fun p hp _ => by cases List.mem_singleton.mp hp; rfl) (hr.mono (by decide)) (show LamS (defScope s_law) _ from lamS_by (by decide +kernel)) (by rfl) (fun _ _ _ _ _ => by rfl) (fun A outer s H E f c' hr' => pcX dS hr' (passes_call (takes_of rfl rfl rfl rfl) (fun _ _ _ _ h => h)) (pa_cons (pe_tup (pa_cons (pe_ix (r := rIxT K) ix_tup (pv 6) pe_int (fun _ _ => rfl)) (pa_cons (pe_tup (pa_cons (pe_tup (pa_cons pe_int (pa_cons pe_int (pa_cons pe_int pa_nil)))) (pa_cons (pv 16) pa_nil))) pa_nil))) pa_nil))) (pe_tup (pa_cons pe_str (pa_cons pe_int pa_nil))) (nomark _)))))))))))))))))))))), ?_⟩
  refine ⟨_, rfl, a, ns, 8, rfl, hS, h63, by decide, by decide, fun H1 d st1 s1 hd1 ok1 => ?_⟩
  have hT1 := s1 _ _ hT
  refine ⟨_, rfl, d, st1, rfl, hd1, ok1, fun H2 st2 v2 k2 hd2 ok2 ⟨c, ic, nc⟩ => ?_⟩
  have hT2 := k2 _ _ (ne_of hT1 hd1 (by intro z; cases z)) hT1
  refine ⟨_, rfl, d, _, st2, rfl, by decide, by decide, hd2, ok2, fun st3 r ok3 r0 r4 => ?_⟩
  have kd := keep_upd (d := d) (H := H2) (o := .lst (encD st3))
  have ic3 := ic.keep hd2 kd
  have hT3 := kd _ _ (ne_of hT2 hd2 (by intro z; cases z)) hT2
  have hd3 := upd_same (H := H2) (a := d) (o := .lst (encD st3))
  generalize upd H2 d (.lst (encD st3)) = H3 at *
  refine ⟨_, _, rfl, rfl, ?_⟩
  refine ⟨(by show 2 ≤ sizeLine; decide), fun px hpx => ?_⟩
  have sx := same_new hpx (.tup [v2, .int (1 + r)])
  refine ⟨px, _, rfl, .inl (.inl upd_same), rfl, _, _, rfl, _, _, rfl, rfl, ?_⟩
  have ic3 := ic3.same sx
  have hT3 := sx _ _ hT3
  have hd3 := sx _ _ hd3
  generalize upd H3 px (.tup [v2, .int (1 + r)]) = H3 at *
  refine ⟨_, rfl, 1 + r, rfl, by omega, by omega, fun L hL => lc_range (lo := 0) (n := (1 + r).toNat) (fun i H' => DrawnG (IsT K) SpotIn d L H3 H' i) (drawnG_start hd3 ok3 hL) ?_ ?_⟩
  · rintro i H6 hi ⟨st, vs, xs, k6, hd6, ok6, hl6, hn, a6, g6⟩
    refine ⟨rfl, ?_⟩
    refine yes_of ?_
    refine ⟨_, rfl, d, st, rfl, hd6, ok6, fun H7 st7 r7 k7 hd7 ok7 ⟨z, iz, nz⟩ => ?_⟩
    have hld : L ≠ d := (ne_of_none hd3 hL).symm
    exact ⟨_, k7 _ _ hld hl6, by rw [hn]; exact small1000 (by omega), drawnG_more keepsT hL hld k6 hd6 hl6 hn a6 g6 k7 hd7 ok7 iz nz⟩
  rintro H4 ⟨st4, us4, zs4, k4, hd4, ok4, hl4, hn4, a4, g4⟩
  have hLd : L ≠ d := (ne_of_none hd3 hL).symm
  have ic4 := ic3.keep hd3 k4
  have hT4 := k4 _ _ (ne_of hT3 hd3 (by intro z; cases z)) hT3
  refine gn_of ?_
  dsimp only
  refine seq_join (fun σ' H' => ∃ x5 L' us zs st, σ' = [some (.ref a), some (.ref d), some v2, some (.int (1 + r)), some (.ref L'), x5, none, none, none, none, none, none, none, none, none, none, none] ∧ H' d = some (.lst (encD st)) ∧ SrcOk st ∧ H' PL = some (.tbl #[]) ∧ IsD K H' v2 c ∧ H' L' = some (.lst us) ∧ L' ≠ d ∧ Paired (IsT K H') us zs ∧ us.length = (1 + r).toNat ∧ ∀ z ∈ zs, Ok z ∧ B 11 z) ?_ ?_
  · rintro σ' H5 ⟨x5, L5, us, zs, st5, rfl, hd5, ok5, hT5, ic5, hl5, hL5d, az, lu, hz⟩
    have lz0 := Paired.length az
    refine ⟨_, rfl, L5, rfl, ⟨_, .inl (.inl hl5)⟩, fun Lp hLp => lc_list (K := K) (a := L5) (xs := us) (fun i H' => ∃ ws, Same H5 H' ∧ H' Lp = some (.lst ws) ∧ AllPr K H' ws ((zs.take i).map fun z => (z, ap c z))) ⟨[], same_new hLp _, upd_same, .nil⟩ ?_ ?_ ?_⟩
    · rintro i H' _ ⟨ws, s', _⟩
      exact .inl (.inl (s' _ _ hl5))
    · rintro i x H' hx ⟨ws, s', hw, aw⟩
      obtain ⟨z, e1, e2⟩ := pget az hx
      obtain ⟨oz, bz⟩ := hz z (List.mem_of_getElem? e1)
      obtain ⟨pz, rfl, tz⟩ := e2.same s'
      refine ⟨rfl, ?_⟩
      refine yes_of ?_
      refine ⟨_, rfl, _, rfl, _, rfl, _, c, _, z, rfl, ic5.same s', nc.ok, nc.bd.mono (by decide), ⟨_, rfl, tz⟩, oz, bz.mono (by decide), fun H6 r6 s6 i6 => ?_⟩
      obtain ⟨p6, rfl, t6⟩ := i6
      refine ⟨(by show 2 ≤ sizeLine; decide), fun p7 hp7 => ?_⟩
      have s7 := same_new hp7 (.tup [.ref pz, .ref p6])
      have s67 := s6.trans s7
      have hw7 := s67 _ _ hw
      have kk := keep_upd (d := Lp) (H := upd H6 p7 (.tup [.ref pz, .ref p6])) (o := .lst (ws ++ [.ref p7]))
      have lw := Paired.length aw
      rw [List.length_map, List.length_take] at lw
      refine ⟨ws, hw7, small1000 (by omega), ws ++ [.ref p7], fun b o e => ?_, upd_same, ?_⟩
      · rw [upd_ne (ne_of_none e hLp)]; exact s67 _ _ (s' _ _ e)
      · rw [tk_map (fun z => (z, ap c z)) e1]
        exact papp ((aw.same s67).keep hw7 kk) (.cons (IsPr.keep (H := upd H6 p7 (.tup [.ref pz, .ref p6])) ⟨p7, pz, p6, rfl, .inl (.inl upd_same), same_T s67 tz, same_T s7 t6⟩ hw7 kk) .nil)
    rintro H6 ⟨ws6, s6, hw6, aw6⟩
    have lz := Paired.length az
    rw [lz, List.take_length] at aw6
    have in6 : ∀ p ∈ zs.map (fun z => (z, ap c z)), PrIn p := fun p hp => by
      obtain ⟨z, hz1, rfl⟩ := List.mem_map.mp hp
      obtain ⟨oz, bz⟩ := hz z hz1
      exact ⟨⟨oz, ap_ok nc.ok oz⟩, bz.mono (by decide), (ap_B nc.ok oz nc.bd bz).mono (by decide)⟩
    have ll6 : ws6.length = (1 + r).toNat := by have := Paired.length aw6; rw [List.length_map] at this; omega
    have hLpd : Lp ≠ d := (ne_of_none hd5 hLp).symm
    have hLpL : L5 ≠ Lp := ne_of_none hl5 hLp
    generalize zs.map (fun z => (z, ap c z)) = ps6 at *
    refine gn_of ?_
    dsimp only
    refine seq_join (fun σ' H' => ∃ ws ps st, σ' = [some (.ref a), some (.ref d), some v2, some (.int (1 + r)), some (.ref L5), x5, some (.ref Lp), none, none, none, none, none, none, none, none, none, none] ∧ H' d = some (.lst (encD st)) ∧ SrcOk st ∧ H' PL = some (.tbl #[]) ∧ IsD K H' v2 c ∧ H' L5 = some (.lst us) ∧ Paired (IsT K H') us zs ∧ H' Lp = some (.lst ws) ∧ AllPr K H' ws ps ∧ (∀ p ∈ ps, PrIn p) ∧ 1 ≤ ws.length ∧ ws.length ≤ 6) ?_ ?_
    · rintro σ' H7 ⟨ws, ps, st7, rfl, hd7, ok7, hT7, ic7, hl7, az7, hw7, aw7, in7, l1, l6⟩
      refine ⟨_, rfl, _, rfl, d, Lp, ws, ps, st7, rfl, .inl (.inl hw7), aw7, by omega, hd7, ok7, fun H8 R ws8 st8 k8 hd8 ok8 hR pm => ?_⟩
      refine ⟨R, ws8, rfl, .inl ⟨.inl (.inl hR), fun t ht => ?_⟩⟩
      have s9 := same_new ht (.tup ws8)
      obtain ⟨ps8, pp, ap8⟩ := paired_perm pm (AllPr.keep aw7 hd7 k8)
      have ap8 : AllPr K H8 ws8 ps8 := ap8
      have in8 : ∀ p ∈ ps8, PrIn p := fun p hp => in7 p (pp.mem_iff.mp hp)
      have l8 := pm.length_eq
      obtain ⟨h, pt, ep⟩ : ∃ h pt, ps8 = h :: pt := by
        cases ap8 with
        | nil => rw [List.length_nil] at l8; omega
        | cons _ _ => exact ⟨_, _, rfl⟩
      subst ep
      have lpt : (h :: pt).length ≤ 20 := by have := Paired.length ap8; omega
      have S : S8 K PL d v2 c L5 us zs t ws8 h pt (upd H8 t (.tup ws8)) := ⟨⟨st8, s9 _ _ hd8, ok8⟩, s9 _ _ (k8 _ _ (ne_of hT7 hd7 (by intro z; cases z)) hT7), (ic7.keep hd7 k8).same s9, s9 _ _ (k8 _ _ hL5d hl7), pimp (fun _ _ i => (i.keep hd7 k8).same s9) az7, .inl (.inl upd_same), ap8.same s9⟩
      generalize upd H8 t (.tup ws8) = H9 at *
      have hh : h ∈ h :: pt := List.mem_cons_self ..
      refine gn_of ?_
      dsimp only
      refine ⟨_, rfl, t, rfl, ⟨_, S.ht⟩, fun A1 hA1 => lc_tup (K := K) (a := t) (xs := ws8) (fun i H' => ∃ ks : List (Addr × List Int), H' = upd H9 A1 (.lst (ks.map fun k => V.ref k.1)) ∧ ks.map (·.2) = ((h :: pt).take i).map (fun p => l3 p.1) ∧ ∀ k ∈ ks, SqT K H9 k.1 (k.2.map V.int)) ⟨[], rfl, rfl, fun k hk => by cases hk⟩ ?_ ?_ ?_⟩
      · rintro i H' _ ⟨ks, rfl, _⟩
        exact same_T (same_new hA1 _) S.ht
      · rintro i x H' hx ⟨ks, rfl, ek, hk⟩
        obtain ⟨p, e1, e2⟩ := pget S.ap hx
        obtain ⟨tp, pa, pb, rfl, g1, g2, g3⟩ := e2
        have sn := same_new hA1 (.lst (ks.map fun k => V.ref k.1))
        have li := (List.getElem?_eq_some_iff.mp e1).1
        have lk := congrArg List.length ek
        rw [List.length_map, List.length_map, List.length_take] at lk
        refine ⟨rfl, ?_⟩
        refine yes_of ?_
        refine ⟨_, rfl, tp, _, _, _, rfl, rfl, same_T sn g1, by rfl, _, upd_same, by rw [List.length_map]; exact small1000 (by omega), ks ++ [(pa, l3 p.1)], by rw [upd_upd, List.map_append]; rfl, ?_, fun k hk' => ?_⟩
        · rw [List.map_append, ek, tk_map (fun p : Pr => l3 p.1) e1]; rfl
        · rcases List.mem_append.mp hk' with z | z
          · exact hk k z
          · rw [List.mem_singleton.mp z]; exact g2
      rintro H10 ⟨ks, rfl, ek, hk⟩
      have lws := Paired.length S.ap
      rw [lws, List.take_length] at ek
      have lks := congrArg List.length ek
      rw [List.length_map, List.length_map] at lks
      have s10 := same_new hA1 (.lst (ks.map fun k => V.ref k.1))
      refine ⟨A1, ks, rfl, .inl (.inl upd_same), fun k hk' => same_T s10 (hk k hk'), by omega, fun sa Lk hsa sub all => ?_⟩
      have s11 := same_new hsa (SetTO P w sa Lk)
      have bd : ∀ k ∈ ks, k.2.length = 2 + 1 ∧ SdS (2 ^ 30) k.2 := fun k hk' => by
        have : k.2 ∈ (h :: pt).map (fun p => l3 p.1) := by rw [← ek]; exact List.mem_map.mpr ⟨k, hk', rfl⟩
        obtain ⟨p, hp, e⟩ := List.mem_map.mp this
        have b := (in8 p hp).ba
        have b1 : p.1.1.natAbs < 1048576 := b.1
        have b2 : p.1.2.1.natAbs < 1048576 := b.2.1
        have b3 : p.1.2.2.natAbs < 1048576 := b.2.2
        rw [← e]
        refine ⟨rfl, fun m hm => ?_⟩
        simp only [l3, List.mem_cons, List.mem_nil_iff, or_false] at hm
        have e30 : (2 : Int) ^ 30 = 1073741824 := by decide
        rw [e30]
        rcases hm with rfl | rfl | rfl <;> constructor <;> omega
      refine ⟨sa, Lk, 2, 2 ^ 30, rfl, upd_same, fun k hk' => ⟨same_T (s10.trans s11) (hk k (sub k hk')), bd k (sub k hk')⟩, fun nd few ns p12 ln hp12 => ?_⟩
      have s12 := same_new hp12 (.lst ns)
      have S := S.same (s10.trans (s11.trans s12))
      refine ⟨_, _, rfl, .inl (.inl (.inl upd_same)), ?_⟩
      generalize upd (upd (upd H9 A1 (.lst (ks.map fun k => V.ref k.1))) sa (SetTO P w sa Lk)) p12 (.lst ns) = H12 at *
      refine ⟨_, _, rfl, rfl, _, rfl, ?_⟩
      have alls : ∀ p ∈ h :: pt, l3 p.1 ∈ Lk.map (·.2) := fun p hp => by
        have : l3 p.1 ∈ ks.map (·.2) := by rw [ek]; exact List.mem_map.mpr ⟨p, hp, rfl⟩
        obtain ⟨k, hk1, hk2⟩ := List.mem_map.mp this
        rw [← hk2]
        exact all k hk1
      have subs : ∀ l ∈ Lk.map (·.2), ∃ p ∈ h :: pt, l = l3 p.1 := fun l hl => by
        obtain ⟨k, hk1, rfl⟩ := List.mem_map.mp hl
        have : k.2 ∈ (h :: pt).map (fun p => l3 p.1) := by rw [← ek]; exact List.mem_map.mpr ⟨k, sub k hk1, rfl⟩
        obtain ⟨p, hp, e⟩ := List.mem_map.mp this
        exact ⟨p, hp, e.symm⟩
      have lL : (Lk.map (·.2)).length = ns.length := by rw [List.length_map, ln]
      by_cases fw : (ns.length : Int) < 2
      · rw [decide_eq_true fw]
        refine iteT ?_
        have eqs := few_all hh alls (by omega)
        refine ⟨fun p hp => ?_, fun H13 eN tN => ?_⟩
        · cases List.mem_singleton.mp hp
          exact TabS.nil S.tb
        refine ⟨_, rfl, t, ws8, h, pt, rfl, extN_T S.ht eN, pimp (fun _ _ i => i.extN eN) S.ap, fun p hp => ⟨in8 p hp, eqs p hp⟩, lpt, fun H14 s14 => ⟨3, .tail _ (.head _), rfl, rfl, fun H15 p15 s15 h15 => ?_⟩⟩
        refine ⟨(by show 2 ≤ sizeLine; decide), fun p16 hp16 => ?_⟩
        have s16 := same_new hp16 (.tup [.str "few", .int 0])
        refine ⟨dErr "few", dErr "few", .tup (.inl (.inl (s16 _ _ h15))) (.cons (.str _) (.cons (.int _) .nil)), .tup (.inl (.inl upd_same)) (.cons (.str _) (.cons (.int _) .nil)), shapedE (by decide +kernel), shapedE (by decide +kernel), ?_⟩
        rw [eqvE]
        exact q _
      rw [decide_eq_false fw]
      refine iteF ?_
      obtain ⟨o, os, eo⟩ := many_oth (h := h) subs nd (by omega)
      have mo : o ∈ h :: pt ∧ o.1 ≠ h.1 := by
        have : o ∈ oth (h :: pt) h := by rw [eo]; exact List.mem_cons_self ..
        obtain ⟨a, b⟩ := List.mem_filter.mp this
        exact ⟨a, by simpa using b⟩
      have ph := in8 h hh
      have po := in8 o mo.1
      have okp : ∀ p ∈ h :: pt, PrOk p := fun p hp => (in8 p hp).ok
      refine ⟨_, rfl, t, ws8, h, pt, o, os, rfl, S.ht, S.ap, in8, eo, lpt, fun H13 Lc wc s13 _ hLc aC => ?_⟩
      have cin : ∀ e ∈ crs (h :: pt) h o, CpOk e ∧ BC 167 e := fun e he => by
        refine ⟨((crs_mem ph.ok po.ok mo.2 hh mo.1).mp he).1, ?_⟩
        have hb : ∀ m, e ∈ crb (h :: pt) h o m → BC 167 e := fun m hm => by
          unfold crb at hm
          split at hm
          · cases hm
          · split at hm
            · cases hm
            · rw [List.mem_singleton.mp hm]; exact crC_BC ph po mo.2
        rcases List.mem_append.mp he with z | z
        · exact hb _ z
        · exact hb _ z
      have cmem := fun e => crs_mem ph.ok po.ok mo.2 hh mo.1 (c := e)
      have cfl := crs_flags ph.ok po.ok mo.2 hh mo.1
      have cflat := crs_flat ph.ok po.ok mo.2 hh mo.1 okp
      have ctwo := crs_two ph.ok po.ok mo.2 hh mo.1 okp
      have clen : (crs (h :: pt) h o).length ≤ 2 := by
        unfold crs
        have l1 := crb_len (m := false) ph.ok po.ok mo.2 (prs := h :: pt)
        have l2 := crb_len (m := true) ph.ok po.ok mo.2 (prs := h :: pt)
        rw [List.length_append]; omega
      generalize crs (h :: pt) h o = cs at *
      have S := S.same s13
      refine ⟨Lc, rfl, ⟨_, .inl (.inl hLc)⟩, fun Lf hLf => lc_list (K := K) (a := Lc) (xs := wc) (fun i H' => ∃ fs, Same H13 H' ∧ H' Lf = some (.lst fs) ∧ AllD K H' fs (cs.take i)) ⟨[], same_new hLf _, upd_same, .nil⟩ ?_ ?_ ?_⟩
      · rintro i H' _ ⟨fs, s', _⟩
        exact .inl (.inl (s' _ _ hLc))
      · rintro i x H' hx ⟨fs, s', hf, af⟩
        obtain ⟨e, e1, e2⟩ := pget aC hx
        refine ⟨rfl, ?_⟩
        refine yes_of ?_
        refine ⟨_, rfl, _, e, rfl, e2.same s', fun H14 r14 s14 i14 => ?_⟩
        have hf14 := s14 _ _ hf
        have kk := keep_upd (d := Lf) (H := H14) (o := .lst (fs ++ [r14]))
        have lf := Paired.length af
        rw [List.length_take] at lf
        refine ⟨fs, hf14, small1000 (by omega), fs ++ [r14], fun b o e => ?_, upd_same, ?_⟩
        · rw [upd_ne (ne_of_none e hLf)]; exact s14 _ _ (s' _ _ e)
        · rw [take_more e1]
          exact papp ((af.same s14).keep hf14 kk) (.cons (i14.keep hf14 kk) .nil)
      rintro H14 ⟨fs, s14, hf, af⟩
      have lC := Paired.length aC
      rw [lC, List.take_length] at af
      have lF := Paired.length af
      have S := S.same s14
      clear hLc aC
      have F : ∃ v9, v9 = V.ref Lf := ⟨_, rfl⟩
      clear F
      refine gn_of ?_
      dsimp only
      refine seq_join (fun σ' H' => ∃ x11, σ' = [some (.ref a), some (.ref d), some v2, some (.int (1 + r)), some (.ref L5), x5, some (.ref t), none, none, some (.ref Lf), none, x11, none, none, none, none, none] ∧ Same H14 H') ?_ ?_
      · rintro σ' H15 ⟨x11, rfl, s15⟩
        have S := S.same s15
        have hf := s15 _ _ hf
        have af := af.same s15
        clear s15
        refine ⟨_, rfl, Lf, rfl, ⟨_, .inl (.inl hf)⟩, fun A2 hA2 => lc_list (K := K) (a := Lf) (xs := fs) (fun i H' => ∃ bs : List Bool, H' = upd H15 A2 (.lst (bs.map V.bl)) ∧ bs = (cs.take i).map (·.m)) ⟨[], rfl, rfl⟩ ?_ ?_ ?_⟩
        · rintro i H' _ ⟨bs, rfl, _⟩
          exact .inl (.inl ((same_new hA2 _) _ _ hf))
        · rintro i x H' hx ⟨bs, rfl, eb⟩
          obtain ⟨e, e1, e2⟩ := pget af hx
          obtain ⟨p, u, w', rfl, j1, j2, j3⟩ := e2
          have lb := congrArg List.length eb
          rw [List.length_map, List.length_take] at lb
          refine ⟨rfl, ?_⟩
          refine yes_of ?_
          refine ⟨_, rfl, p, _, _, _, rfl, rfl, same_T (same_new hA2 _) j1, by rfl, _, upd_same, by rw [List.length_map]; exact small1000 (by omega), bs ++ [e.m], by rw [upd_upd, List.map_append]; rfl, ?_⟩
          rw [eb, tk_map (fun c : Cp => c.m) e1]
        rintro H16 ⟨bs, rfl, eb⟩
        rw [lF, List.take_length] at eb
        have s16 := same_new hA2 (.lst (bs.map V.bl))
        refine ⟨(by show 0 ≤ sizeLine; decide), fun q1 hq1 => ?_⟩
        have z1 := same_new hq1 (.lst [])
        refine ⟨(by show 1 ≤ sizeLine; decide), fun q2 hq2 => ?_⟩
        have z2 := same_new hq2 (.lst [.bl false])
        refine ⟨(by show 1 ≤ sizeLine; decide), fun q3 hq3 => ?_⟩
        have z3 := same_new hq3 (.lst [.bl true])
        refine ⟨(by show 2 ≤ sizeLine; decide), fun q4 hq4 => ?_⟩
        have z4 := same_new hq4 (.lst [.bl false, .bl true])
        refine ⟨(by show 4 ≤ sizeLine; decide), fun q5 hq5 => ?_⟩
        have z5 := same_new hq5 (.lst [.ref q1, .ref q2, .ref q3, .ref q4])
        have dbs : ∀ (H' : Hp) (l : List Bool) (p : Addr), H' p = some (.lst (l.map V.bl)) → Dp K H' (.ref p) (.list (l.map PyData.bool)) := fun H' l p hp => .lst (.inl (.inl hp)) (by
          clear hp
          induction l with
          | nil => exact .nil
          | cons b l ih => exact .cons (.bl b) ih)
        refine ⟨.list (bs.map PyData.bool), [.list (([] : List Bool).map PyData.bool), .list ([false].map PyData.bool), .list ([true].map PyData.bool), .list ([false, true].map PyData.bool)], dbs _ bs A2 ((z1.trans (z2.trans (z3.trans (z4.trans z5)))) _ _ upd_same),
          .lst (.inl (.inl upd_same)) (.cons (dbs _ [] q1 ((z2.trans (z3.trans (z4.trans z5))) _ _ upd_same)) (.cons (dbs _ [false] q2 ((z3.trans (z4.trans z5)) _ _ upd_same)) (.cons (dbs _ [true] q3 ((z4.trans z5) _ _ upd_same)) (.cons (dbs _ [false, true] q4 (z5 _ _ upd_same)) .nil)))), ?_, rfl, _, rfl, ?_⟩
        · refine shapedL fun x hx => ?_
          obtain ⟨b, _, rfl⟩ := List.mem_map.mp hx
          exact ⟨rfl, Nat.zero_le _⟩
        have sz := s16.trans (z1.trans (z2.trans (z3.trans (z4.trans z5))))
        have S := S.same sz
        have hf := sz _ _ hf
        have af := af.same sz
        generalize upd (upd (upd (upd (upd (upd H15 A2 (.lst (bs.map V.bl))) q1 (.lst [])) q2 (.lst [.bl false])) q3 (.lst [.bl true])) q4 (.lst [.bl false, .bl true])) q5 (.lst [.ref q1, .ref q2, .ref q3, .ref q4]) = H16 at *
        have efl : ([PyData.list (([] : List Bool).map PyData.bool), .list ([false].map PyData.bool), .list ([true].map PyData.bool), .list ([false, true].map PyData.bool)].any fun z => PyData.eqv z (.list (bs.map PyData.bool))) = true := by
          rw [eb]
          generalize cs.map (·.m) = fl at cfl
          simp only [List.mem_cons, List.mem_nil_iff, or_false] at cfl
          rcases cfl with rfl | rfl | rfl | rfl <;> rfl
        rw [efl]
        refine iteF ?_
        dsimp only [tNext]
        refine seq_join (fun σ' H' => σ' = [some (.ref a), some (.ref d), some v2, some (.int (1 + r)), some (.ref L5), x5, some (.ref t), none, none, some (.ref Lf), none, x11, none, none, none, none, none] ∧ Same H16 H') ?_ ?_
        · rintro σ' H17 ⟨rfl, s17⟩
          have S := S.same s17
          have hf := s17 _ _ hf
          clear s17
          obtain ⟨u0, ur, eu, ⟨t0, a0, b0, eu0, c1, c2, c3⟩⟩ : ∃ u ur, ws8 = u :: ur ∧ IsPr K H17 u h := by
            have z := S.ap
            cases z with
            | cons r _ => exact ⟨_, _, rfl, r⟩
          subst eu0
          have at0 : atI ws8 0 = some (.ref t0) := by rw [eu]; exact atI_nat (j := 0) rfl
          refine ⟨_, rfl, t, rfl, ⟨_, S.ht⟩, fun Ls hLs => lc_tup (K := K) (a := t) (xs := ws8) (fun i H' => ∃ ss, Same H17 H' ∧ H' Ls = some (.lst ss) ∧ Paired (IsT K H') ss (((h :: pt).take i).map fun p => minus p.1 h.1)) ⟨[], same_new hLs _, upd_same, .nil⟩ ?_ ?_ ?_⟩
          · rintro i H' _ ⟨ss, s', _⟩
            exact same_T s' S.ht
          · rintro i x H' hx ⟨ss, s', hs', as'⟩
            obtain ⟨p, e1, e2⟩ := pget S.ap hx
            have np := in8 p (List.mem_of_getElem? e1)
            obtain ⟨tp, pa, pb, rfl, k1, k2, k3⟩ := e2.same s'
            have lb := Paired.length as'
            rw [List.length_map, List.length_take] at lb
            refine ⟨rfl, ?_⟩
            refine yes_of ?_
            refine ⟨_, rfl, tp, _, _, _, rfl, rfl, k1, by rfl, _, rfl, t, _, _, _, rfl, rfl, same_T s' S.ht, at0, t0, _, _, _, rfl, rfl, same_T s' c1, by rfl, _, _, _, _, rfl, ⟨_, rfl, k2⟩, ⟨_, rfl, same_T s' c2⟩, np.ok.a, ph.ok.a, np.ba.mono (by decide), ph.ba.mono (by decide), fun H2 r2 s2 i2 => ?_⟩
            have h2 := s2 _ _ hs'
            have kk := keep_upd (d := Ls) (H := H2) (o := .lst (ss ++ [r2]))
            refine ⟨ss, h2, small1000 (by omega), ss ++ [r2], fun b o e => ?_, upd_same, ?_⟩
            · rw [upd_ne (ne_of_none e hLs)]; exact s2 _ _ (s' _ _ e)
            · rw [tk_map (fun p : Pr => minus p.1 h.1) e1]
              exact papp (pimp (fun _ _ i => (i.same s2).keep h2 kk) as') (.cons (i2.keep h2 kk) .nil)
          rintro H18 ⟨ss, s18, hs, aS⟩
          rw [lws, List.take_length] at aS
          have S := S.same s18
          have hf := s18 _ _ hf
          have c1 := same_T (K := K) s18 c1
          have c3 := same_T (K := K) s18 c3
          have lss := Paired.length aS
          have inS : ∀ z ∈ (h :: pt).map (fun p => minus p.1 h.1), B 41 z := fun z hz' => by
            obtain ⟨p, hp, rfl⟩ := List.mem_map.mp hz'
            exact minus_B (in8 p hp).ok.a ph.ok.a (in8 p hp).ba ph.ba
          have ew := steps_way okp ph.ok (prs := h :: pt)
          rw [eo] at ew
          have efl : ((h :: pt).map (fun p => minus p.1 h.1)).filter (fun z => !decide (z.1 * (minus o.1 h.1).2.1 = z.2.1 * (minus o.1 h.1).1)) = [] ↔ ∀ p ∈ h :: pt, flatP h o p := by
            rw [List.filter_eq_nil_iff]
            constructor
            · intro e p hp
              have := e _ (List.mem_map.mpr ⟨p, hp, rfl⟩)
              simpa [flatP] using this
            · intro e z hz'
              obtain ⟨p, hp, rfl⟩ := List.mem_map.mp hz'
              have := e p hp
              simpa [flatP] using this
          have bw : B 41 (minus o.1 h.1) := minus_B po.ok.a ph.ok.a po.ba ph.ba
          rw [List.length_map] at lss
          generalize (h :: pt).map (fun p => minus p.1 h.1) = stps at *
          refine gn_of ?_
          dsimp only
          refine ⟨_, rfl, Ls, rfl, ⟨_, .inl (.inl hs)⟩, fun A4 hA4 => lc_list (K := K) (a := Ls) (xs := ss) (fun i H' => ∃ ws, Same H18 H' ∧ H' A4 = some (.lst ws) ∧ ws.length ≤ i ∧ Paired (IsT K H') ws ((stps.take i).filter fun z => !decide (z = (0, 0, 1)))) ⟨[], same_new hA4 _, upd_same, Nat.le_refl _, .nil⟩ ?_ ?_ ?_⟩
          · rintro i H' _ ⟨ws, s', _⟩
            exact .inl (.inl (s' _ _ hs))
          · rintro i x H' hx ⟨ws, s', hw, lw, aw⟩
            obtain ⟨z, e1, e2⟩ := pget aS hx
            have li := (List.getElem?_eq_some_iff.mp hx).1
            obtain ⟨pz, rfl, tz⟩ := e2.same s'
            refine ⟨rfl, ?_⟩
            refine ⟨_, rfl, (by show 3 ≤ sizeLine; decide), fun p2 hp2 => ?_⟩
            have s2 := same_new hp2 (.tup [.int 0, .int 0, .int 1])
            refine ⟨_, d3 (0, 0, 1), Dp3 (same_T s2 tz), Dp3 (.inl (.inl upd_same)), shaped3 _, shaped3 _, _, rfl, ?_⟩
            rw [eqv3]
            have ef := tk_filter (fun z : T3 => !decide (z = (0, 0, 1))) e1
            by_cases cz : z = (0, 0, 1)
            · rw [decide_eq_true cz]
              refine iteF ?_
              rw [ef, if_neg (by rw [decide_eq_true cz]; decide), List.append_nil]
              exact ⟨ws, s'.trans s2, s2 _ _ hw, by omega, pimp (fun _ _ i => i.same s2) aw⟩
            · rw [decide_eq_false cz]
              refine iteT ?_
              have h2 := s2 _ _ hw
              have kk := keep_upd (d := A4) (H := upd H' p2 (.tup [.int 0, .int 0, .int 1])) (o := .lst (ws ++ [.ref pz]))
              refine ⟨_, rfl, ws, h2, small1000 (by omega), ws ++ [.ref pz], fun b o e => ?_, upd_same, by rw [List.length_append]; show _ + 1 ≤ _; omega, ?_⟩
              · rw [upd_ne (ne_of_none e hA4)]; exact s2 _ _ (s' _ _ e)
              · rw [ef, if_pos (by rw [decide_eq_false cz]; rfl)]
                exact papp (pimp (fun _ _ i => (i.same s2).keep h2 kk) aw) (.cons (IsT.keep ⟨_, rfl, same_T s2 tz⟩ h2 kk) .nil)
          rintro H19 ⟨ws9, s19, hw9, lw9, aw9⟩
          have lsst := Paired.length aS
          rw [lsst, List.take_length, ew] at aw9
          obtain ⟨vw, wr9, ew9, iw⟩ : ∃ v wr, ws9 = v :: wr ∧ IsT K H19 v (minus o.1 h.1) := by
            cases aw9 with
            | cons r _ => exact ⟨_, _, rfl, r⟩
          obtain ⟨pw', rfl, tw'⟩ := iw
          refine ⟨A4, _, _, _, rfl, rfl, .inl (.inl hw9), (by rw [ew9]; exact atI_nat (j := 0) rfl), ?_⟩
          have S := S.same s19
          have hf := s19 _ _ hf
          have c1 := same_T (K := K) s19 c1
          have c3 := same_T (K := K) s19 c3
          have hs := s19 _ _ hs
          have aS : Paired (IsT K H19) ss stps := pimp (fun _ _ i => i.same s19) aS
          generalize minus o.1 h.1 = wy at *
          refine gn_of ?_
          dsimp only
          refine ⟨_, rfl, Ls, rfl, ⟨_, .inl (.inl hs)⟩, fun A5 hA5 => lc_list (K := K) (a := Ls) (xs := ss) (fun i H' => ∃ ws, H' = upd H19 A5 (.lst ws) ∧ ws.length ≤ i ∧ Paired (IsT K H19) ws ((stps.take i).filter fun z => !decide (z.1 * wy.2.1 = z.2.1 * wy.1))) ⟨[], rfl, Nat.le_refl _, .nil⟩ ?_ ?_ ?_⟩
          · rintro i H' _ ⟨ws, rfl, _⟩
            exact .inl (.inl ((same_new hA5 _) _ _ hs))
          · rintro i x H' hx ⟨ws, rfl, lw, aw⟩
            obtain ⟨z, e1, e2⟩ := pget aS hx
            have li := (List.getElem?_eq_some_iff.mp hx).1
            have bz := inS z (List.mem_of_getElem? e1)
            have e20 := e2
            obtain ⟨pz, rfl, tz⟩ := e2
            have sn := same_new hA5 (.lst ws)
            have tz := same_T sn tz
            have tw2 := same_T (K := K) sn tw'
            refine ⟨rfl, ?_⟩
            refine ⟨_, rfl, pz, _, _, _, rfl, rfl, tz, by rfl, _, rfl, pw', _, _, _, rfl, rfl, tw2, by rfl, _, _, rfl, rfl, mulW bz.1 bw.2.1, ?_⟩
            refine ⟨_, rfl, pz, _, _, _, rfl, rfl, tz, by rfl, _, rfl, pw', _, _, _, rfl, rfl, tw2, by rfl, _, _, rfl, rfl, mulW bz.2.1 bw.1, rfl, _, rfl, ?_⟩
            rw [dI]
            have ef := tk_filter (fun z : T3 => !decide (z.1 * wy.2.1 = z.2.1 * wy.1)) e1
            by_cases cz : z.1 * wy.2.1 = z.2.1 * wy.1
            · rw [decide_eq_true cz]
              refine iteF ?_
              rw [ef, if_neg (by rw [decide_eq_true cz]; decide), List.append_nil]
              exact ⟨ws, rfl, by omega, aw⟩
            · rw [decide_eq_false cz]
              refine iteT ?_
              refine ⟨_, rfl, ws, upd_same, small1000 (by omega), ws ++ [.ref pz], upd_upd, by rw [List.length_append]; show _ + 1 ≤ _; omega, ?_⟩
              rw [ef, if_pos (by rw [decide_eq_false cz]; rfl)]
              exact papp aw (.cons e20 .nil)
          rintro H20 ⟨ws20, rfl, lw20, aw20⟩
          rw [lsst, List.take_length] at aw20
          have s20 := same_new hA5 (.lst ws20)
          refine ⟨(by show 0 ≤ sizeLine; decide), fun p21 hp21 => ?_⟩
          have s21 := same_new hp21 (.lst [])
          have s2021 := s20.trans s21
          have dall : ∀ {vs : List V} {zs : List T3} {H' : Hp}, Paired (IsT K H') vs zs → DpAll K H' vs (zs.map d3) := fun {vs zs H'} hp => by
            induction hp with
            | nil => exact .nil
            | cons r _ ih => exact .cons r.dp ih
          refine ⟨.list ((stps.filter fun z => !decide (z.1 * wy.2.1 = z.2.1 * wy.1)).map d3), .list [], .lst (.inl (.inl (s21 _ _ upd_same))) (dall (pimp (fun _ _ i => i.same s2021) aw20)), .lst (.inl (.inl upd_same)) .nil, shapedL (fun x hx => by obtain ⟨z, _, rfl⟩ := List.mem_map.mp hx; exact d3_can z), rfl, ?_⟩
          rw [eqvL]
          have S := S.same s2021
          have hf := s2021 _ _ hf
          have c1 := same_T (K := K) s2021 c1
          have c3 := same_T (K := K) s2021 c3
          generalize upd (upd H19 A5 (.lst ws20)) p21 (.lst []) = H21 at *
          refine gn_of ?_
          dsimp only
          refine seq_join (fun σ' H' => σ' = [some (.ref a), some (.ref d), some v2, some (.int (1 + r)), some (.ref L5), x5, some (.ref t), none, none, some (.ref Lf), none, x11, some (.ref Ls), some (.ref pw'), none, some (.bl ((stps.filter fun z => !decide (z.1 * wy.2.1 = z.2.1 * wy.1)).map d3).isEmpty), none] ∧ H' = H21) ?_ ?_
          · rintro σ' H' ⟨rfl, rfl⟩
            obtain ⟨f0, zr, ez, uf, ufr, euf, iff⟩ : ∃ f0 zr, zs = f0 :: zr ∧ ∃ u ur, us = u :: ur ∧ IsT K H' u f0 := by
              have z := S.az
              cases z with
              | nil => rw [List.length_nil] at lu; omega
              | cons r _ => exact ⟨_, _, rfl, _, _, rfl, r⟩
            obtain ⟨of0, bf0⟩ := hz f0 (by rw [ez]; exact List.mem_cons_self ..)
            obtain ⟨pf0, rfl, tf0⟩ := iff
            have atu : atI us 0 = some (.ref pf0) := by rw [euf]; exact atI_nat (j := 0) rfl
            refine ⟨_, rfl, L5, _, _, _, rfl, rfl, .inl (.inl S.hl), atu, _, rfl, t, _, _, _, rfl, rfl, S.ht, at0, t0, _, _, _, rfl, rfl, c1, by rfl, ?_⟩
            refine ⟨(by show 2 ≤ sizeLine; decide), fun p22 hp22 => ?_⟩
            have s22 := same_new hp22 (.tup [.ref pf0, .ref b0])
            refine ⟨_, rfl, L5, _, _, _, rfl, rfl, .inl (.inl (s22 _ _ S.hl)), atu, ?_⟩
            refine ⟨(by show 3 ≤ sizeLine; decide), fun p23 hp23 => ?_⟩
            have s23 := same_new hp23 (.tup [.int 1, .int 1, .int 2])
            have o112 : Ok (1, 1, 2) := by decide
            have b112 : B 3 (1, 1, 2) := by decide
            have i23 : IsT K _ (.ref p23) (1, 1, 2) := IsT.new (H := upd H' p22 (.tup [.ref pf0, .ref b0]))
            refine ⟨_, _, f0, (1, 1, 2), rfl, ⟨_, rfl, same_T (s22.trans s23) tf0⟩, i23, of0, o112, bf0.mono (by decide), b112.mono (by decide), fun H24 r24 s24 i24 => ?_⟩
            obtain ⟨p24, rfl, t24⟩ := i24
            have s2224 := s22.trans (s23.trans s24)
            refine ⟨_, rfl, t, _, _, _, rfl, rfl, same_T s2224 S.ht, at0, t0, _, _, _, rfl, rfl, same_T s2224 c1, by rfl, ?_⟩
            refine ⟨(by show 2 ≤ sizeLine; decide), fun p25 hp25 => ?_⟩
            have s25 := same_new hp25 (.tup [.ref p24, .ref b0])
            refine ⟨(by show 2 ≤ sizeLine; decide), fun p26 hp26 => ?_⟩
            have s26 := same_new hp26 (.tup [.ref p22, .ref p25])
            have s2526 := s25.trans s26
            have sA := s2224.trans s2526
            have opf := plus_ok of0 o112
            have nf : plus f0 (1, 1, 2) ≠ f0 := fun z => by
              have z1 := congrArg re z
              rw [re_plus of0 o112] at z1
              have z2 : re (1, 1, 2) ≠ 0 := by unfold re; decide +kernel
              exact z2 (by grind)
            have ph2 : PrIn (f0, h.2) := ⟨⟨of0, ph.ok.b⟩, bf0.mono (by decide), ph.bb⟩
            have po2 : PrIn (plus f0 (1, 1, 2), h.2) := ⟨⟨opf, ph.ok.b⟩, (plus_B of0 o112 bf0 b112).mono (by decide), ph.bb⟩
            have eo2 : oth [(f0, h.2), (plus f0 (1, 1, 2), h.2)] (f0, h.2) = [(plus f0 (1, 1, 2), h.2)] := by
              unfold oth
              rw [List.filter_cons_of_neg (by simp), List.filter_cons_of_pos (by simpa using nf), List.filter_nil]
            have ecr : crs [(f0, h.2), (plus f0 (1, 1, 2), h.2)] (f0, h.2) (plus f0 (1, 1, 2), h.2) = [] := by
              unfold crs
              rw [crb_one ph2.ok po2.ok nf rfl, crb_one ph2.ok po2.ok nf rfl]
              rfl
            refine ⟨p26, [.ref p22, .ref p25], (f0, h.2), [(plus f0 (1, 1, 2), h.2)], (plus f0 (1, 1, 2), h.2), [], rfl, .inl (.inl upd_same), .cons ⟨p22, pf0, b0, rfl, same_T (s23.trans (s24.trans s2526)) (.inl (.inl upd_same)), same_T sA tf0, same_T sA c3⟩ (.cons ⟨p25, p24, b0, rfl, same_T s26 (.inl (.inl upd_same)), same_T s2526 t24, same_T sA c3⟩ .nil), fun p hp => ?_, eo2, (by show 2 ≤ 20; decide), fun H27 L27 w27 s27 _ h27 a27 => ?_⟩
            · simp only [List.mem_cons, List.mem_nil_iff, or_false] at hp
              rcases hp with rfl | rfl
              · exact ph2
              · exact po2
            rw [ecr] at a27
            cases a27
            refine ⟨(by show 0 ≤ sizeLine; decide), fun p28 hp28 => ?_⟩
            have s28 := same_new hp28 (.lst [])
            refine ⟨.list [], .list [], .lst (.inl (.inl (s28 _ _ h27))) .nil, .lst (.inl (.inl upd_same)) .nil, rfl, rfl, _, rfl, ?_⟩
            rw [eqvL]
            refine iteF ?_
            have sB := sA.trans (s27.trans s28)
            have S := S.same sB
            generalize upd H27 p28 (.lst []) = H28 at *
            refine ⟨(by show 3 ≤ sizeLine; decide), fun q1 hq1 => ?_⟩
            have z1 := same_new hq1 (.tup [.int 1, .int 0, .int 0])
            refine ⟨(by show 3 ≤ sizeLine; decide), fun q2 hq2 => ?_⟩
            have z2 := same_new hq2 (.tup [.int 2, .int 2, .int 2])
            refine ⟨(by show 2 ≤ sizeLine; decide), fun q3 hq3 => ?_⟩
            have z3 := same_new hq3 (.tup [.int 1, .int 0])
            refine ⟨(by show 3 ≤ sizeLine; decide), fun q4 hq4 => ?_⟩
            have z4 := same_new hq4 (.tup [.int 0, .bl true, .int 1])
            refine ⟨(by show 4 ≤ sizeLine; decide), fun q5 hq5 => ?_⟩
            have z5 := same_new hq5 (.lst [.ref q1, .ref q2, .ref q3, .ref q4])
            have zz := z1.trans (z2.trans (z3.trans (z4.trans z5)))
            have S := S.same zz
            obtain ⟨st29, hd29, ok29⟩ := S.hd
            have hq5d : q5 ≠ d := by
              obtain ⟨st28, hd28, _⟩ := id S.hd
              intro z
              rw [← z] at hd29
              rw [upd_same] at hd29
              have := congrArg (fun o : Option HO => match o with | some (.lst xs) => xs | _ => []) hd29
              dsimp only at this
              cases this
            have b1 : SqT K _ q1 [.int 1, .int 0, .int 0] := same_T (z2.trans (z3.trans (z4.trans z5))) (.inl (.inl (upd_same (H := H28))))
            have b2 : SqT K _ q2 [.int 2, .int 2, .int 2] := same_T (z3.trans (z4.trans z5)) (.inl (.inl upd_same))
            have b3 : SqT K _ q3 [.int 1, .int 0] := same_T (z4.trans z5) (.inl (.inl upd_same))
            have b4 : SqT K _ q4 [.int 0, .bl true, .int 1] := same_T z5 (.inl (.inl upd_same))
            have b5 := upd_same (H := upd (upd (upd (upd H28 q1 (.tup [.int 1, .int 0, .int 0])) q2 (.tup [.int 2, .int 2, .int 2])) q3 (.tup [.int 1, .int 0])) q4 (.tup [.int 0, .bl true, .int 1])) (a := q5) (o := .lst [.ref q1, .ref q2, .ref q3, .ref q4])
            generalize upd (upd (upd (upd (upd H28 q1 (.tup [.int 1, .int 0, .int 0])) q2 (.tup [.int 2, .int 2, .int 2])) q3 (.tup [.int 1, .int 0])) q4 (.tup [.int 0, .bl true, .int 1])) q5 (.lst [.ref q1, .ref q2, .ref q3, .ref q4]) = H29 at *
            refine ⟨_, rfl, d, _, st29, rfl, by decide, by decide, hd29, ok29, fun st30 r30 ok30 r300 r301 => ?_⟩
            have kd := keep_upd (d := d) (H := H29) (o := .lst (encD st30))
            obtain ⟨po', xs, eat, txs, bad⟩ : ∃ po' xs, atI [V.ref q1, .ref q2, .ref q3, .ref q4] r30 = some (.ref po') ∧ SqT K H29 po' xs ∧ BadS xs := by
              have : r30 = 0 ∨ r30 = 1 ∨ r30 = 2 ∨ r30 = 3 := by omega
              rcases this with rfl | rfl | rfl | rfl
              · exact ⟨q1, _, by rfl, b1, .num (by decide)⟩
              · exact ⟨q2, _, by rfl, b2, .num (by decide)⟩
              · exact ⟨q3, _, by rfl, b3, .len (by decide) (by decide)⟩
              · refine ⟨q4, _, by rfl, b4, .kind (fun x hx => ?_) ⟨.bl true, .tail _ (.head _), .inr (.inl ⟨_, rfl⟩)⟩⟩
                simp only [List.mem_cons, List.mem_nil_iff, or_false] at hx
                rcases hx with rfl | rfl | rfl
                · exact .inl ⟨_, rfl⟩
                · exact .inr (.inr (.inl ⟨_, rfl⟩))
                · exact .inl ⟨_, rfl⟩
            refine ⟨q5, _, _, _, rfl, rfl, .inl (.inl (kd _ _ hq5d b5)), eat, gn_of ?_⟩
            have txs := keep_T txs hd29 kd
            have ht30 := keep_T S.ht hd29 kd
            have ap30 := S.ap.keep hd29 kd
            have tb30 := kd _ _ (ne_of S.tb hd29 (by intro z; cases z)) S.tb
            generalize upd H29 d (.lst (encD st30)) = H30 at *
            refine ⟨fun p hp => ?_, fun H31 eN tN => ?_⟩
            · cases List.mem_singleton.mp hp
              exact TabS.nil tb30
            have i0 : IsPr K H31 (.ref t0) h := by
              rw [eu] at ap30
              cases ap30 with
              | cons r _ => exact r.extN eN
            refine ⟨_, rfl, t, _, _, _, rfl, rfl, extN_T ht30 eN, at0, ?_⟩
            refine ⟨(by show 3 ≤ sizeLine; decide), fun p32 hp32 => ?_⟩
            have s32 := same_new hp32 (.tup [.int 1, .int 0, .int 1])
            refine ⟨_, rfl, (by show 2 ≤ sizeLine; decide), fun p33 hp33 => ?_⟩
            have s33 := same_new hp33 (.tup [.ref p32, .ref po'])
            refine ⟨(by show 2 ≤ sizeLine; decide), fun p34 hp34 => ?_⟩
            have s34 := same_new hp34 (.tup [.ref t0, .ref p33])
            have s324 := s32.trans (s33.trans s34)
            refine ⟨p34, .ref t0, h, p33, p32, po', (1, 0, 1), xs, rfl, .inl (.inl upd_same), i0.same s324, ph.ok, same_T s34 (.inl (.inl upd_same)), same_T (s33.trans s34) (.inl (.inl upd_same)), ok_1, same_T s324 (extN_T txs eN), bad, fun H35 s35 => ⟨0, .head _, rfl, rfl, fun H36 p36 s36 h36 => ?_⟩⟩
            refine ⟨(by show 2 ≤ sizeLine; decide), fun p37 hp37 => ?_⟩
            have s37 := same_new hp37 (.tup [.str "spot", .int 0])
            refine ⟨dErr "spot", dErr "spot", .tup (.inl (.inl (s37 _ _ h36))) (.cons (.str _) (.cons (.int _) .nil)), .tup (.inl (.inl upd_same)) (.cons (.str _) (.cons (.int _) .nil)), shapedE (by decide +kernel), shapedE (by decide +kernel), ?_⟩
            rw [eqvE]
            exact q _
          · intro D2 hD2 kD2
            have kD2 := kD2 _ _ ⟨rfl, rfl⟩
            refine ⟨_, rfl, _, rfl, ?_⟩
            by_cases fl : ∀ p ∈ h :: pt, flatP h o p
            · have e0 := efl.mpr fl
              rw [e0] at kD2 ⊢
              refine iteT ?_
              refine ⟨_, rfl, _, _, rfl, .inl (.inl (.inl hf)), rfl, _, rfl, ?_⟩
              rw [decide_eq_false (fun z => cflat fl (by have := V.int.inj z; omega))]
              refine iteF ?_
              refine ⟨_, rfl, _, rfl, iteF kD2⟩
            · have e0 : ((stps.filter fun z => !decide (z.1 * wy.2.1 = z.2.1 * wy.1)).map d3).isEmpty = false := by
                cases e : stps.filter (fun z => !decide (z.1 * wy.2.1 = z.2.1 * wy.1)) with
                | nil => exact absurd (efl.mp e) fl
                | cons _ _ => rfl
              rw [e0] at kD2 ⊢
              refine iteF (iteF ?_)
              refine ⟨_, rfl, _, rfl, iteT ?_⟩
              refine ⟨_, rfl, _, _, rfl, .inl (.inl (.inl hf)), rfl, _, rfl, ?_⟩
              rw [decide_eq_false (fun z => ctwo fl (by have := V.int.inj z; omega))]
              exact iteF kD2
        · intro D2 hD2 kD2
          refine ⟨_, rfl, t, rfl, ⟨_, S.ht⟩, fun A3 hA3 => lc_tup (K := K) (a := t) (xs := ws8) (fun i H' => ∃ ws, Same H16 H' ∧ H' A3 = some (.lst ws) ∧ ws.length ≤ i ∧ AllPr K H' ws (((h :: pt).take i).filter fun p => !decide (ap c p.1 = p.2))) ⟨[], same_new hA3 _, upd_same, Nat.le_refl _, .nil⟩ ?_ ?_ ?_⟩
          · rintro i H' _ ⟨ws, s', _⟩
            exact same_T s' S.ht
          · rintro i x H' hx ⟨ws, s', hw, lw, aw⟩
            obtain ⟨pr, e1, e2⟩ := pget S.ap hx
            have li := (List.getElem?_eq_some_iff.mp hx).1
            have np := in8 pr (List.mem_of_getElem? e1)
            have e2 := e2.same s'
            have e20 := e2
            obtain ⟨tp, pa, pb, rfl, k1, k2, k3⟩ := e2
            refine ⟨rfl, ?_⟩
            refine ⟨_, rfl, _, rfl, tp, _, _, _, rfl, rfl, k1, by rfl, _, c, _, pr.1, rfl, S.it.same s', nc.ok, nc.bd.mono (by decide), ⟨_, rfl, k2⟩, np.ok.a, np.ba.mono (by decide), fun H3 r3 s3 i3 => ?_⟩
            obtain ⟨p3, rfl, t3⟩ := i3
            refine ⟨_, rfl, tp, _, _, _, rfl, rfl, same_T s3 k1, by rfl, _, _, Dp3 t3, Dp3 (same_T s3 k3), shaped3 _, shaped3 _, _, rfl, ?_⟩
            rw [eqv3]
            have ef := tk_filter (fun p : Pr => !decide (ap c p.1 = p.2)) e1
            by_cases cz : ap c pr.1 = pr.2
            · rw [decide_eq_true cz]
              refine iteF ?_
              rw [ef, if_neg (by rw [decide_eq_true cz]; decide), List.append_nil]
              exact ⟨ws, s'.trans s3, s3 _ _ hw, by omega, aw.same s3⟩
            · rw [decide_eq_false cz]
              refine iteT ?_
              have h3 := s3 _ _ hw
              have kk := keep_upd (d := A3) (H := H3) (o := .lst (ws ++ [.ref tp]))
              refine ⟨_, rfl, ws, h3, small1000 (by omega), ws ++ [.ref tp], fun b o e => ?_, upd_same, by rw [List.length_append]; show _ + 1 ≤ _; omega, ?_⟩
              · rw [upd_ne (ne_of_none e hA3)]; exact s3 _ _ (s' _ _ e)
              · rw [ef, if_pos (by rw [decide_eq_false cz]; rfl)]
                exact papp ((aw.same s3).keep h3 kk) (.cons ((e20.same s3).keep h3 kk) .nil)
          rintro H17 ⟨ws, s17, hw, lw, aw⟩
          rw [lws, List.take_length] at aw
          generalize e : (h :: pt).filter (fun p => !decide (ap c p.1 = p.2)) = qs at aw
          refine ⟨(by show 0 ≤ sizeLine; decide), fun p18 hp18 => ?_⟩
          have s18 := same_new hp18 (.lst [])
          refine ⟨.list (qs.map dPr), .list [], .lst (.inl (.inl (s18 _ _ hw))) (AllPr.same aw s18).dp, .lst (.inl (.inl upd_same)) .nil, shapedPr _, rfl, _, rfl, ?_⟩
          rw [eqvL]
          have s1618 := s17.trans s18
          cases qs with
          | cons _ _ => exact iteF (kD2 _ _ ⟨rfl, s1618⟩)
          | nil =>
            refine iteT ?_
            have mc : c ∈ cs := (cmem c).mpr ⟨nc.ok, fun p hp => by
              have := List.filter_eq_nil_iff.mp e p hp
              simpa using this⟩
            obtain ⟨pc, ua, ub, ev, j1, j2, j3⟩ := S.it.same s1618
            have dCs : ∀ {vs : List V} {es : List Cp} {H' : Hp}, AllD K H' vs es → DpAll K H' vs (es.map dC) := fun {vs es H'} hp => by
              induction hp with
              | nil => exact .nil
              | cons r _ ih =>
                obtain ⟨p, x, y, rfl, g1, g2, g3⟩ := r
                exact .cons (DpC g1 g2 g3) ih
            refine ⟨_, rfl, _, rfl, dC c, cs.map dC, (by rw [ev]; exact DpC j1 j2 j3), .lst (.inl (.inl (s1618 _ _ hf))) (dCs (af.same s1618)), shapedC c, shapedL (fun x hx => by obtain ⟨e, _, rfl⟩ := List.mem_map.mp hx; exact ⟨rfl, by show 2 ≤ 60; decide⟩), _, rfl, ?_⟩
            have ea : ((cs.map dC).any fun z => PyData.eqv z (dC c)) = true := List.any_eq_true.mpr ⟨dC c, List.mem_map.mpr ⟨c, mc, rfl⟩, by rw [eqvC]; exact ceq_iff.mpr rfl⟩
            rw [ea]
            exact iteF (kD2 _ _ ⟨rfl, s1618⟩)
      · intro D' hD kD
        refine ⟨_, rfl, Lf, rfl, ⟨_, .inl (.inl hf)⟩, for_list (K := K) (a := Lf) (xs := fs) (fun i σ H' => (∃ x11, σ = [some (.ref a), some (.ref d), some v2, some (.int (1 + r)), some (.ref L5), x5, some (.ref t), none, none, some (.ref Lf), none, x11, none, none, none, none, none]) ∧ Same H14 H') ⟨⟨_, rfl⟩, Same.refl _⟩ ?_ ?_ ?_⟩
        · rintro i σ H' _ ⟨_, s'⟩
          exact .inl (.inl (s' _ _ hf))
        · rintro i x σ H' hx ⟨⟨x11, rfl⟩, s'⟩
          obtain ⟨e, e1, e2⟩ := pget af hx
          have me := List.mem_of_getElem? e1
          obtain ⟨oe, be⟩ := cin e me
          have ce := ((cmem e).mp me).2
          have e2 := e2.same s'
          have S' := S.same s'
          obtain ⟨p, u, w', ex, j1, j2, j3⟩ := id e2
          subst ex
          refine ⟨_, rfl, t, rfl, ⟨_, S'.ht⟩, fun A3 hA3 => lc_tup (K := K) (a := t) (xs := ws8) (fun i H2 => Same H' H2 ∧ H2 A3 = some (.lst [])) ⟨same_new hA3 _, upd_same⟩ ?_ ?_ ?_⟩
          · rintro j H2 _ ⟨s2, _⟩
            exact same_T s2 S'.ht
          · rintro j y H2 hy ⟨s2, h2⟩
            obtain ⟨pr, g1, g2⟩ := pget S'.ap hy
            have mp := List.mem_of_getElem? g1
            have np := in8 pr mp
            obtain ⟨tp, pa, pb, rfl, k1, k2, k3⟩ := g2.same s2
            refine ⟨rfl, ?_⟩
            refine ⟨_, rfl, _, rfl, tp, _, _, _, rfl, rfl, k1, by rfl, _, e, _, pr.1, rfl, e2.same s2, oe, be.mono (by decide), ⟨_, rfl, k2⟩, np.ok.a, np.ba.mono (by decide), fun H3 r3 s3 i3 => ?_⟩
            obtain ⟨p3, rfl, t3⟩ := i3
            refine ⟨_, rfl, tp, _, _, _, rfl, rfl, same_T s3 k1, by rfl, _, _, Dp3 t3, Dp3 (same_T s3 k3), shaped3 _, shaped3 _, _, rfl, ?_⟩
            rw [eqv3, decide_eq_true (ce pr mp)]
            exact iteF ⟨s2.trans s3, s3 _ _ h2⟩
          rintro H2 ⟨s2, h2⟩
          refine ⟨(by show 0 ≤ sizeLine; decide), fun p3 hp3 => ?_⟩
          have s3 := same_new hp3 (.lst [])
          refine ⟨.list [], .list [], .lst (.inl (.inl (s3 _ _ h2))) .nil, .lst (.inl (.inl upd_same)) .nil, rfl, rfl, _, rfl, ?_⟩
          rw [eqvL]
          refine iteF ?_
          refine ⟨_, rfl, p, _, _, _, rfl, rfl, same_T (s2.trans s3) j1, by rfl, ?_⟩
          refine ⟨(by show 3 ≤ sizeLine; decide), fun p4 hp4 => ?_⟩
          have s4 := same_new hp4 (.tup [.int 0, .int 0, .int 1])
          refine ⟨_, d3 (0, 0, 1), Dp3 (same_T (s2.trans (s3.trans s4)) j2), Dp3 (.inl (.inl upd_same)), shaped3 _, shaped3 _, _, rfl, ?_⟩
          rw [eqv3, decide_eq_false (fun z => by have n := oe.n; rw [z] at n; rcases n with n | n <;> exact n rfl)]
          exact iteF ⟨⟨_, rfl⟩, s'.trans (s2.trans (s3.trans s4))⟩
        · rintro σ H' ⟨⟨x11, rfl⟩, s'⟩
          exact kD _ _ ⟨_, rfl, s'⟩
    · intro D' hD kD
      have hd6 := s6 _ _ hd5
      have hT6 := s6 _ _ hT5
      have ic6 := ic5.same s6
      have hl6 := s6 _ _ hl5
      have az6 : Paired (IsT K H6) us zs := pimp (fun _ _ i => i.same s6) az
      refine ⟨_, rfl, d, _, st5, rfl, by decide, by decide, hd6, ok5, fun st7 r7 ok7 r70 r71 => ?_⟩
      have kd7 := keep_upd (d := d) (H := H6) (o := .lst (encD st7))
      have aw7 := aw6.keep hd6 kd7
      have az7 : Paired (IsT K (upd H6 d (.lst (encD st7)))) us zs := pimp (fun _ _ i => i.keep hd6 kd7) az6
      have ic7 := ic6.keep hd6 kd7
      have hT7 := kd7 _ _ (ne_of hT6 hd6 (by intro z; cases z)) hT6
      have hl7 := kd7 _ _ hL5d hl6
      have hw7 := kd7 _ _ hLpd hw6
      have hd7 := upd_same (H := H6) (a := d) (o := .lst (encD st7))
      generalize upd H6 d (.lst (encD st7)) = H7 at *
      refine ⟨rfl, _, rfl, ?_⟩
      refine ite2 (fun _ => ?_) (fun _ => ?_)
      · refine ⟨_, rfl, .inl ⟨rfl, _, .inl (.inl hw7)⟩, ?_⟩
        refine ⟨_, rfl, d, st7, rfl, hd7, ok7, fun H8 st8 v8 k8 hd8 ok8 ⟨z8, i8, n8⟩ => ?_⟩
        refine ⟨_, rfl, d, st8, rfl, hd8, ok8, fun H9 st9 v9 k9 hd9 ok9 ⟨z9, i9, n9⟩ => ?_⟩
        obtain ⟨p8, rfl, t8⟩ := i8.keep hd8 k9
        obtain ⟨p9, rfl, t9⟩ := i9
        refine ⟨(by show 2 ≤ sizeLine; decide), fun p10 hp10 => ?_⟩
        have s10 := same_new hp10 (.tup [.ref p8, .ref p9])
        have k79 := k8.trans k9
        have hw9 := s10 _ _ (k79 _ _ hLpd hw7)
        refine ⟨Lp, ws6, _, rfl, rfl, hw9, small1000 (by omega), ?_⟩
        have kk := keep_upd (d := Lp) (H := upd H9 p10 (.tup [.ref p8, .ref p9])) (o := .lst (ws6 ++ [.ref p10]))
        refine kD _ _ ⟨ws6 ++ [.ref p10], ps6 ++ [(z8, z9)], st9, rfl, kk _ _ (Ne.symm hLpd) (s10 _ _ hd9), ok9, kk _ _ (ne_of (s10 _ _ (k79 _ _ (ne_of hT7 hd7 (by intro z; cases z)) hT7)) hw9 (by intro z; cases z)) (s10 _ _ (k79 _ _ (ne_of hT7 hd7 (by intro z; cases z)) hT7)), ((ic7.keep hd7 k79).same s10).keep hw9 kk, kk _ _ hLpL (s10 _ _ (k79 _ _ hL5d hl7)), pimp (fun _ _ i => ((i.keep hd7 k79).same s10).keep hw9 kk) az7, upd_same, papp (((aw7.keep hd7 k79).same s10).keep hw9 kk) (.cons (IsPr.keep (H := upd H9 p10 (.tup [.ref p8, .ref p9])) ⟨p10, p8, p9, rfl, .inl (.inl upd_same), same_T s10 t8, same_T s10 t9⟩ hw9 kk) .nil), fun p hp => ?_, by rw [List.length_append]; omega, by rw [List.length_append]; show _ + 1 ≤ 6; omega⟩
        rcases List.mem_append.mp hp with z | z
        · exact in6 p z
        · rw [List.mem_singleton.mp z]; exact ⟨⟨n8.ok, n9.ok⟩, n8.bd.mono (by decide), n9.bd.mono (by decide)⟩
      · exact kD _ _ ⟨ws6, ps6, st7, rfl, hd7, ok7, hT7, ic7, hl7, az7, hw7, aw7, in6, by omega, by omega⟩
  · intro D' hD kD
    refine ⟨_, rfl, d, _, st4, rfl, by decide, by decide, hd4, ok4, fun st5 r5 ok5 r50 r51 => ?_⟩
    have kd5 := keep_upd (d := d) (H := H4) (o := .lst (encD st5))
    have a5 : Paired (IsT K (upd H4 d (.lst (encD st5)))) us4 zs4 := pimp (fun _ _ i => i.keep hd4 kd5) a4
    have ic5 := ic4.keep hd4 kd5
    have hT5 := kd5 _ _ (ne_of hT4 hd4 (by intro z; cases z)) hT4
    have hl5 := kd5 _ _ hLd hl4
    have hd5 := upd_same (H := H4) (a := d) (o := .lst (encD st5))
    generalize upd H4 d (.lst (encD st5)) = H5 at *
    refine ⟨rfl, _, rfl, ?_⟩
    refine ite2 (fun _ => ?_) (fun _ => ?_)
    · have l4 := Paired.length a5
      obtain ⟨u0, ur, eu, ⟨z0, ez0, iz0⟩⟩ : ∃ u ur, us4 = u :: ur ∧ ∃ z, z ∈ zs4 ∧ IsT K H5 u z := by
        cases a5 with
        | nil => simp at hn4; omega
        | cons r _ => exact ⟨_, _, rfl, _, List.mem_cons_self .., r⟩
      have n0 := g4 z0 ez0
      obtain ⟨p0, rfl, t0⟩ := iz0
      refine ⟨_, rfl, 1 + r, rfl, by omega, by omega, fun L6 hL6 => lc_range (lo := 0) (n := (1 + r).toNat) (fun i H' => ∃ ws zs, Same H5 H' ∧ H' L6 = some (.lst ws) ∧ ws.length = i ∧ Paired (IsT K H') ws zs ∧ ∀ z ∈ zs, Ok z ∧ B 11 z) ⟨[], [], same_new hL6 _, upd_same, rfl, .nil, fun z hz => by cases hz⟩ ?_ ?_⟩
      · rintro i H6 hi ⟨ws, zs, s6, hw, lw, aw, hz⟩
        have hi5 : i < 5 := by omega
        refine ⟨rfl, ?_⟩
        refine yes_of ?_
        refine ⟨_, rfl, L, _, _, _, rfl, rfl, .inl (.inl (s6 _ _ hl5)), (by rw [eu]; exact atI_nat (j := 0) rfl), ?_⟩
        refine ⟨_, rfl, (by show 3 ≤ sizeLine; decide), fun p7 hp7 => ?_⟩
        have s7 := same_new hp7 (.tup [.int (0 + (i : Int)), .int 0, .int 1])
        have i7 : IsT K _ (.ref p7) (0 + (i : Int), 0, 1) := IsT.new (H := H6)
        refine ⟨(by show 3 ≤ sizeLine; decide), fun p8 hp8 => ?_⟩
        have s8 := same_new hp8 (.tup [.int 2, .int 1, .int 3])
        have i8 : IsT K _ (.ref p8) (2, 1, 3) := IsT.new (H := upd H6 p7 (.tup [.int (0 + (i : Int)), .int 0, .int 1]))
        have ok7 := o1k (0 + (i : Int))
        have bk7 : B 3 (0 + (i : Int), 0, 1) := ⟨by show (0 + (i : Int)).natAbs < 8; omega, by show (0 : Nat) < 8; decide, by show (1 : Nat) < 8; decide⟩
        have ok8 : Ok (2, 1, 3) := by decide
        have bk8 : B 3 (2, 1, 3) := by decide
        refine ⟨_, _, _, _, rfl, i7.same s8, i8, ok7, ok8, bk7.mono (by decide), bk8.mono (by decide), fun H9 r9 s9 i9 => ?_⟩
        refine ⟨_, _, z0, _, rfl, ⟨_, rfl, same_T (s6.trans (s7.trans (s8.trans s9))) t0⟩, i9, n0.ok, times_ok ok7 ok8, n0.bd.mono (by decide), (times_B ok7 ok8 bk7 bk8).mono (by decide), fun H10 r10 s10 i10 => ?_⟩
        have sA := s7.trans (s8.trans (s9.trans s10))
        have hw10 := sA _ _ hw
        have kk := keep_upd (d := L6) (H := H10) (o := .lst (ws ++ [r10]))
        refine ⟨ws, hw10, by rw [lw]; exact small1000 (by omega), ws ++ [r10], zs ++ [_], fun b o e => ?_, upd_same, by rw [List.length_append, lw]; rfl, papp (pimp (fun _ _ i => (i.same sA).keep hw10 kk) aw) (.cons (i10.keep hw10 kk) .nil), fun z hz' => ?_⟩
        · rw [upd_ne (ne_of_none e hL6)]; exact sA _ _ (s6 _ _ e)
        · rcases List.mem_append.mp hz' with h | h
          · exact hz z h
          · rw [List.mem_singleton.mp h]
            exact ⟨plus_ok n0.ok (times_ok ok7 ok8), plus_B n0.ok (times_ok ok7 ok8) n0.bd (times_B ok7 ok8 bk7 bk8)⟩
      · rintro H6 ⟨ws, zs, s6, hw, lw, aw, hz⟩
        exact kD _ _ ⟨_, L6, ws, zs, st5, rfl, s6 _ _ hd5, ok5, s6 _ _ hT5, ic5.same s6, hw, (ne_of_none hd5 hL6).symm, aw, lw, hz⟩
    · exact kD _ _ ⟨_, L, us4, zs4, st5, rfl, hd5, ok5, hT5, ic5, hl5, hLd, a5, hn4, fun z hz => ⟨(g4 z hz).ok, (g4 z hz).bd.mono (by decide)⟩⟩
end
end My

namespace My
open PySem L2 Mth LamX
theorem all_mk {l : PySem.W.OpenLaw} {w : World} {K : PySem.W.Frag} {h : Heap} {mg : Str → Option Value} {fa : Addr} (X : K.In h) (G : h.Ns mainGlobals mg) (hfa : mg "law" = some (.ref fa)) (own : OwnTab K fa h)
    {a_tMIDDLE : Addr} {dd_MIDDLE : Option Addr} {t1_MIDDLE t2_MIDDLE t3_MIDDLE : Tok} {n_MIDDLE : Nat} {sl_tMIDDLE : Array (Option Value)}
    {CB : Addr} {e0 e1 e2 e3 e4 e5 e6 e7 e8 e9 e10 e11 e12 e13 e14 e15 e16 e17 e18 e19 : Addr}
    {f_law_error_of : Addr} {od_law_error_of an_law_error_of : Option Addr} {sl_law_error_of : Array (Option Value)} {oc_law_error_of kV_law_error_of dc_law_error_of pm_law_error_of cd_law_error_of ct_law_error_of : Value}
    {f_common_divisor : Addr} {od_common_divisor an_common_divisor : Option Addr} {sl_common_divisor : Array (Option Value)} {oc_common_divisor kV_common_divisor dc_common_divisor pm_common_divisor cd_common_divisor ct_common_divisor : Value}
    {f_is_whole : Addr} {od_is_whole an_is_whole : Option Addr} {sl_is_whole : Array (Option Value)} {oc_is_whole kV_is_whole dc_is_whole pm_is_whole cd_is_whole ct_is_whole : Value}
    {f_is_spot : Addr} {od_is_spot an_is_spot : Option Addr} {sl_is_spot : Array (Option Value)} {oc_is_spot kV_is_spot dc_is_spot pm_is_spot cd_is_spot ct_is_spot : Value}
    {f_check_spot : Addr} {od_check_spot an_check_spot : Option Addr} {sl_check_spot : Array (Option Value)} {oc_check_spot kV_check_spot dc_check_spot pm_check_spot cd_check_spot ct_check_spot : Value}
    {f_check_turn : Addr} {od_check_turn an_check_turn : Option Addr} {sl_check_turn : Array (Option Value)} {oc_check_turn kV_check_turn dc_check_turn pm_check_turn cd_check_turn ct_check_turn : Value}
    {f_spot_at : Addr} {od_spot_at an_spot_at : Option Addr} {sl_spot_at : Array (Option Value)} {oc_spot_at kV_spot_at dc_spot_at pm_spot_at cd_spot_at ct_spot_at : Value}
    {f_plus : Addr} {od_plus an_plus : Option Addr} {sl_plus : Array (Option Value)} {oc_plus kV_plus dc_plus pm_plus cd_plus ct_plus : Value}
    {f_negative : Addr} {od_negative an_negative : Option Addr} {sl_negative : Array (Option Value)} {oc_negative kV_negative dc_negative pm_negative cd_negative ct_negative : Value}
    {f_minus : Addr} {od_minus an_minus : Option Addr} {sl_minus : Array (Option Value)} {oc_minus kV_minus dc_minus pm_minus cd_minus ct_minus : Value}
    {f_product : Addr} {od_product an_product : Option Addr} {sl_product : Array (Option Value)} {oc_product kV_product dc_product pm_product cd_product ct_product : Value}
    {f_inverse : Addr} {od_inverse an_inverse : Option Addr} {sl_inverse : Array (Option Value)} {oc_inverse kV_inverse dc_inverse pm_inverse cd_inverse ct_inverse : Value}
    {f_faced : Addr} {od_faced an_faced : Option Addr} {sl_faced : Array (Option Value)} {oc_faced kV_faced dc_faced pm_faced cd_faced ct_faced : Value}
    {f_carried : Addr} {od_carried an_carried : Option Addr} {sl_carried : Array (Option Value)} {oc_carried kV_carried dc_carried pm_carried cd_carried ct_carried : Value}
    {C : Addr}
    {kD_Copy___init__ : Addr}
    {f_Copy___init__ : Addr} {od_Copy___init__ an_Copy___init__ : Option Addr} {sl_Copy___init__ : Array (Option Value)} {oc_Copy___init__ dc_Copy___init__ pm_Copy___init__ cd_Copy___init__ ct_Copy___init__ : Value}
    {q_Copy_turn : Addr} {rs_Copy_turn : List Value}
    {f_Copy_turn : Addr} {od_Copy_turn an_Copy_turn : Option Addr} {sl_Copy_turn : Array (Option Value)} {oc_Copy_turn kV_Copy_turn dc_Copy_turn pm_Copy_turn cd_Copy_turn ct_Copy_turn : Value}
    {q_Copy_shift : Addr} {rs_Copy_shift : List Value}
    {f_Copy_shift : Addr} {od_Copy_shift an_Copy_shift : Option Addr} {sl_Copy_shift : Array (Option Value)} {oc_Copy_shift kV_Copy_shift dc_Copy_shift pm_Copy_shift cd_Copy_shift ct_Copy_shift : Value}
    {q_Copy_mirrored : Addr} {rs_Copy_mirrored : List Value}
    {f_Copy_mirrored : Addr} {od_Copy_mirrored an_Copy_mirrored : Option Addr} {sl_Copy_mirrored : Array (Option Value)} {oc_Copy_mirrored kV_Copy_mirrored dc_Copy_mirrored pm_Copy_mirrored cd_Copy_mirrored ct_Copy_mirrored : Value}
    {f_carriers_by : Addr} {od_carriers_by an_carriers_by : Option Addr} {sl_carriers_by : Array (Option Value)} {oc_carriers_by kV_carriers_by dc_carriers_by pm_carriers_by cd_carriers_by ct_carriers_by : Value}
    {f_carriers : Addr} {od_carriers an_carriers : Option Addr} {sl_carriers : Array (Option Value)} {oc_carriers kV_carriers dc_carriers pm_carriers cd_carriers ct_carriers : Value}
    {f_law_random : Addr} {od_law_random an_law_random : Option Addr} {sl_law_random : Array (Option Value)} {oc_law_random kV_law_random dc_law_random pm_law_random cd_law_random ct_law_random : Value}
    {f_law_below : Addr} {od_law_below an_law_below : Option Addr} {sl_law_below : Array (Option Value)} {oc_law_below kV_law_below dc_law_below pm_law_below cd_law_below ct_law_below : Value}
    {f_law_turn : Addr} {od_law_turn an_law_turn : Option Addr} {sl_law_turn : Array (Option Value)} {oc_law_turn kV_law_turn dc_law_turn pm_law_turn cd_law_turn ct_law_turn : Value}
    {f_law_common : Addr} {od_law_common an_law_common : Option Addr} {sl_law_common : Array (Option Value)} {oc_law_common kV_law_common dc_law_common pm_law_common cd_law_common ct_law_common : Value}
    {f_law_lowest : Addr} {od_law_lowest an_law_lowest : Option Addr} {sl_law_lowest : Array (Option Value)} {oc_law_lowest kV_law_lowest dc_law_lowest pm_law_lowest cd_law_lowest ct_law_lowest : Value}
    {f_law_spot : Addr} {od_law_spot an_law_spot : Option Addr} {sl_law_spot : Array (Option Value)} {oc_law_spot kV_law_spot dc_law_spot pm_law_spot cd_law_spot ct_law_spot : Value}
    {f_law_told : Addr} {od_law_told an_law_told : Option Addr} {sl_law_told : Array (Option Value)} {oc_law_told kV_law_told dc_law_told pm_law_told cd_law_told ct_law_told : Value}
    {f_law_over : Addr} {od_law_over an_law_over : Option Addr} {sl_law_over : Array (Option Value)} {oc_law_over kV_law_over dc_law_over pm_law_over cd_law_over ct_law_over : Value}
    {f_law_plus : Addr} {od_law_plus an_law_plus : Option Addr} {sl_law_plus : Array (Option Value)} {oc_law_plus kV_law_plus dc_law_plus pm_law_plus cd_law_plus ct_law_plus : Value}
    {f_law_minus : Addr} {od_law_minus an_law_minus : Option Addr} {sl_law_minus : Array (Option Value)} {oc_law_minus kV_law_minus dc_law_minus pm_law_minus cd_law_minus ct_law_minus : Value}
    {f_law_times : Addr} {od_law_times an_law_times : Option Addr} {sl_law_times : Array (Option Value)} {oc_law_times kV_law_times dc_law_times pm_law_times cd_law_times ct_law_times : Value}
    {f_law_carried : Addr} {od_law_carried an_law_carried : Option Addr} {sl_law_carried : Array (Option Value)} {oc_law_carried kV_law_carried dc_law_carried pm_law_carried cd_law_carried ct_law_carried : Value}
    {f_law_shown : Addr} {od_law_shown an_law_shown : Option Addr} {sl_law_shown : Array (Option Value)} {oc_law_shown kV_law_shown dc_law_shown pm_law_shown cd_law_shown ct_law_shown : Value}
    {f_law_shuffled : Addr} {od_law_shuffled an_law_shuffled : Option Addr} {sl_law_shuffled : Array (Option Value)} {oc_law_shuffled kV_law_shuffled dc_law_shuffled pm_law_shuffled cd_law_shuffled ct_law_shuffled : Value}
    {f_law cL PL : Addr} {od_law an_law : Option Addr} {sl_law : Array (Option Value)} {oc_law kV_law dc_law pm_law ct_law : Value} {oq_law : Value} {dq_law : Option Addr} {vq_law : Array Value} {sq_law : Array (Option Value)}
    (z_abs : PySem.W.nsIn K mainGlobals "abs" = some none)
    (z_len : PySem.W.nsIn K mainGlobals "len" = some none)
    (z_isinstance : PySem.W.nsIn K mainGlobals "isinstance" = some none)
    (z_int : PySem.W.nsIn K mainGlobals "int" = some none)
    (z_bool : PySem.W.nsIn K mainGlobals "bool" = some none)
    (z_str : PySem.W.nsIn K mainGlobals "str" = some none)
    (z_tuple : PySem.W.nsIn K mainGlobals "tuple" = some none)
    (z_list : PySem.W.nsIn K mainGlobals "list" = some none)
    (z_all : PySem.W.nsIn K mainGlobals "all" = some none)
    (z_any : PySem.W.nsIn K mainGlobals "any" = some none)
    (z_range : PySem.W.nsIn K mainGlobals "range" = some none)
    (z_ValueError : PySem.W.nsIn K mainGlobals "ValueError" = some none)
    (z_set : PySem.W.nsIn K mainGlobals "set" = some none)
    (z_sorted : PySem.W.nsIn K mainGlobals "sorted" = some none)
    (m_MIDDLE : PySem.W.nsIn K mainGlobals "MIDDLE" = some (some (.ref a_tMIDDLE)))
    (u_MIDDLE : K.lookup a_tMIDDLE = some ⟨.type "tuple", dd_MIDDLE, .seq #[.int 0 t1_MIDDLE, .int 0 t2_MIDDLE, .int 1 t3_MIDDLE] n_MIDDLE, sl_tMIDDLE⟩)
    (g_CB : PySem.W.nsIn K mainGlobals "CopyError" = some (some (.ref CB)))
    (ge_0 : PySem.W.nsIn K mainGlobals "InvalidSpot" = some (some (.ref e0)))
    (ge_1 : PySem.W.nsIn K mainGlobals "InvalidTurn" = some (some (.ref e1)))
    (ge_2 : PySem.W.nsIn K mainGlobals "InvalidTimes" = some (some (.ref e2)))
    (ge_3 : PySem.W.nsIn K mainGlobals "TooFew" = some (some (.ref e3)))
    (ge_4 : PySem.W.nsIn K mainGlobals "InvalidStroke" = some (some (.ref e4)))
    (ge_5 : PySem.W.nsIn K mainGlobals "OpenStroke" = some (some (.ref e5)))
    (ge_6 : PySem.W.nsIn K mainGlobals "InvalidReach" = some (some (.ref e6)))
    (ge_7 : PySem.W.nsIn K mainGlobals "OutOfReach" = some (some (.ref e7)))
    (ge_8 : PySem.W.nsIn K mainGlobals "TooMany" = some (some (.ref e8)))
    (ge_9 : PySem.W.nsIn K mainGlobals "InvalidSize" = some (some (.ref e9)))
    (ge_10 : PySem.W.nsIn K mainGlobals "InvalidBox" = some (some (.ref e10)))
    (ge_11 : PySem.W.nsIn K mainGlobals "Contradiction" = some (some (.ref e11)))
    (ge_12 : PySem.W.nsIn K mainGlobals "BadText" = some (some (.ref e12)))
    (ge_13 : PySem.W.nsIn K mainGlobals "BadRow" = some (some (.ref e13)))
    (ge_14 : PySem.W.nsIn K mainGlobals "UnknownName" = some (some (.ref e14)))
    (ge_15 : PySem.W.nsIn K mainGlobals "InvalidName" = some (some (.ref e15)))
    (ge_16 : PySem.W.nsIn K mainGlobals "InvalidCode" = some (some (.ref e16)))
    (ge_17 : PySem.W.nsIn K mainGlobals "UnknownArm" = some (some (.ref e17)))
    (ge_18 : PySem.W.nsIn K mainGlobals "NotFree" = some (some (.ref e18)))
    (ge_19 : PySem.W.nsIn K mainGlobals "InvalidOperation" = some (some (.ref e19)))
    (xc_n : PySem.W.specialIn K (.builtin "object.__class__") "__get__" = some (some (.builtin "getset_descriptor.__get__")))
    (xc_t : PySem.W.takesIn K (.builtin "object.__class__") = some true)
    (xg_0 : PySem.W.findIn K (.ref e0) "__getattribute__" = some (some (.builtin "BaseException.__getattribute__")))
    (xk_0 : PySem.W.findIn K (.ref e0) "__getattr__" = some none)
    (xs_0 : PySem.W.subIn K (.ref e0) (.type "BaseException") = some true)
    (xd_0 : PySem.W.hasDictIn K e0 = true)
    (xa_0 : PySem.W.findIn K (.ref e0) "__class__" = some (some (.builtin "object.__class__")))
    (xm_0 : PySem.W.mroIn K e0 (.type "object") = some true)
    (kt_0_0 : PySem.W.kitOne K (.ref e0) (.ref e0) = some true)
    (kt_0_1 : PySem.W.kitOne K (.ref e0) (.ref e1) = some false)
    (kt_0_2 : PySem.W.kitOne K (.ref e0) (.ref e2) = some false)
    (kt_0_3 : PySem.W.kitOne K (.ref e0) (.ref e3) = some false)
    (kt_0_4 : PySem.W.kitOne K (.ref e0) (.ref e4) = some false)
    (kt_0_5 : PySem.W.kitOne K (.ref e0) (.ref e5) = some false)
    (kt_0_6 : PySem.W.kitOne K (.ref e0) (.ref e6) = some false)
    (kt_0_7 : PySem.W.kitOne K (.ref e0) (.ref e7) = some false)
    (kt_0_8 : PySem.W.kitOne K (.ref e0) (.ref e8) = some false)
    (kt_0_9 : PySem.W.kitOne K (.ref e0) (.ref e9) = some false)
    (kt_0_10 : PySem.W.kitOne K (.ref e0) (.ref e10) = some false)
    (kt_0_11 : PySem.W.kitOne K (.ref e0) (.ref e11) = some false)
    (kt_0_12 : PySem.W.kitOne K (.ref e0) (.ref e12) = some false)
    (kt_0_13 : PySem.W.kitOne K (.ref e0) (.ref e13) = some false)
    (kt_0_14 : PySem.W.kitOne K (.ref e0) (.ref e14) = some false)
    (kt_0_15 : PySem.W.kitOne K (.ref e0) (.ref e15) = some false)
    (kt_0_16 : PySem.W.kitOne K (.ref e0) (.ref e16) = some false)
    (kt_0_17 : PySem.W.kitOne K (.ref e0) (.ref e17) = some false)
    (kt_0_18 : PySem.W.kitOne K (.ref e0) (.ref e18) = some false)
    (kt_0_19 : PySem.W.kitOne K (.ref e0) (.ref e19) = some false)
    (kv_0 : PySem.W.kitOne K (.ref e0) (.type "ValueError") = some true)
    (xx_0 : PySem.W.exmOne K (.ref e0) (.ref CB) = some true)
    (xq_0 : PySem.W.excIn K e0 [.type "ValueError", .type "Exception", .type "BaseException", .type "object"] "ValueError.__new__" = true)
    (xp_0 : PySem.W.keepIn K (.ref e0) = true)
    (xt_0 : PySem.W.typeIn K (.ref e0) = some (.type "type"))
    (xg_3 : PySem.W.findIn K (.ref e3) "__getattribute__" = some (some (.builtin "BaseException.__getattribute__")))
    (xk_3 : PySem.W.findIn K (.ref e3) "__getattr__" = some none)
    (xs_3 : PySem.W.subIn K (.ref e3) (.type "BaseException") = some true)
    (xd_3 : PySem.W.hasDictIn K e3 = true)
    (xa_3 : PySem.W.findIn K (.ref e3) "__class__" = some (some (.builtin "object.__class__")))
    (xm_3 : PySem.W.mroIn K e3 (.type "object") = some true)
    (kt_3_0 : PySem.W.kitOne K (.ref e3) (.ref e0) = some false)
    (kt_3_1 : PySem.W.kitOne K (.ref e3) (.ref e1) = some false)
    (kt_3_2 : PySem.W.kitOne K (.ref e3) (.ref e2) = some false)
    (kt_3_3 : PySem.W.kitOne K (.ref e3) (.ref e3) = some true)
    (kt_3_4 : PySem.W.kitOne K (.ref e3) (.ref e4) = some false)
    (kt_3_5 : PySem.W.kitOne K (.ref e3) (.ref e5) = some false)
    (kt_3_6 : PySem.W.kitOne K (.ref e3) (.ref e6) = some false)
    (kt_3_7 : PySem.W.kitOne K (.ref e3) (.ref e7) = some false)
    (kt_3_8 : PySem.W.kitOne K (.ref e3) (.ref e8) = some false)
    (kt_3_9 : PySem.W.kitOne K (.ref e3) (.ref e9) = some false)
    (kt_3_10 : PySem.W.kitOne K (.ref e3) (.ref e10) = some false)
    (kt_3_11 : PySem.W.kitOne K (.ref e3) (.ref e11) = some false)
    (kt_3_12 : PySem.W.kitOne K (.ref e3) (.ref e12) = some false)
    (kt_3_13 : PySem.W.kitOne K (.ref e3) (.ref e13) = some false)
    (kt_3_14 : PySem.W.kitOne K (.ref e3) (.ref e14) = some false)
    (kt_3_15 : PySem.W.kitOne K (.ref e3) (.ref e15) = some false)
    (kt_3_16 : PySem.W.kitOne K (.ref e3) (.ref e16) = some false)
    (kt_3_17 : PySem.W.kitOne K (.ref e3) (.ref e17) = some false)
    (kt_3_18 : PySem.W.kitOne K (.ref e3) (.ref e18) = some false)
    (kt_3_19 : PySem.W.kitOne K (.ref e3) (.ref e19) = some false)
    (kv_3 : PySem.W.kitOne K (.ref e3) (.type "ValueError") = some true)
    (xx_3 : PySem.W.exmOne K (.ref e3) (.ref CB) = some true)
    (xq_3 : PySem.W.excIn K e3 [.type "ValueError", .type "Exception", .type "BaseException", .type "object"] "ValueError.__new__" = true)
    (xp_3 : PySem.W.keepIn K (.ref e3) = true)
    (xt_3 : PySem.W.typeIn K (.ref e3) = some (.type "type"))
    (a_law_error_of : PySem.W.nsIn K mainGlobals "_law_error_of" = some (some (.ref f_law_error_of)))
    (l_law_error_of : K.lookup f_law_error_of = some ⟨oc_law_error_of, od_law_error_of, .func (PySem.W.fnOf "_law_error_of" "_law_error_of" (defArgs s_law_error_of) (defBody s_law_error_of) (defScope s_law_error_of) .none kV_law_error_of dc_law_error_of pm_law_error_of an_law_error_of cd_law_error_of ct_law_error_of), sl_law_error_of⟩)
    (c_law_error_of : PySem.W.codeIn K cd_law_error_of "_law_error_of" = true)
    (k_law_error_of : PySem.W.keepIn K (.ref f_law_error_of) = true)
    (a_common_divisor : PySem.W.nsIn K mainGlobals "common_divisor" = some (some (.ref f_common_divisor)))
    (l_common_divisor : K.lookup f_common_divisor = some ⟨oc_common_divisor, od_common_divisor, .func (PySem.W.fnOf "common_divisor" "common_divisor" (defArgs s_common_divisor) (defBody s_common_divisor) (defScope s_common_divisor) .none kV_common_divisor dc_common_divisor pm_common_divisor an_common_divisor cd_common_divisor ct_common_divisor), sl_common_divisor⟩)
    (c_common_divisor : PySem.W.codeIn K cd_common_divisor "common_divisor" = true)
    (k_common_divisor : PySem.W.keepIn K (.ref f_common_divisor) = true)
    (a_is_whole : PySem.W.nsIn K mainGlobals "is_whole" = some (some (.ref f_is_whole)))
    (l_is_whole : K.lookup f_is_whole = some ⟨oc_is_whole, od_is_whole, .func (PySem.W.fnOf "is_whole" "is_whole" (defArgs s_is_whole) (defBody s_is_whole) (defScope s_is_whole) .none kV_is_whole dc_is_whole pm_is_whole an_is_whole cd_is_whole ct_is_whole), sl_is_whole⟩)
    (c_is_whole : PySem.W.codeIn K cd_is_whole "is_whole" = true)
    (k_is_whole : PySem.W.keepIn K (.ref f_is_whole) = true)
    (a_is_spot : PySem.W.nsIn K mainGlobals "is_spot" = some (some (.ref f_is_spot)))
    (l_is_spot : K.lookup f_is_spot = some ⟨oc_is_spot, od_is_spot, .func (PySem.W.fnOf "is_spot" "is_spot" (defArgs s_is_spot) (defBody s_is_spot) (defScope s_is_spot) .none kV_is_spot dc_is_spot pm_is_spot an_is_spot cd_is_spot ct_is_spot), sl_is_spot⟩)
    (c_is_spot : PySem.W.codeIn K cd_is_spot "is_spot" = true)
    (k_is_spot : PySem.W.keepIn K (.ref f_is_spot) = true)
    (a_check_spot : PySem.W.nsIn K mainGlobals "check_spot" = some (some (.ref f_check_spot)))
    (l_check_spot : K.lookup f_check_spot = some ⟨oc_check_spot, od_check_spot, .func (PySem.W.fnOf "check_spot" "check_spot" (defArgs s_check_spot) (defBody s_check_spot) (defScope s_check_spot) .none kV_check_spot dc_check_spot pm_check_spot an_check_spot cd_check_spot ct_check_spot), sl_check_spot⟩)
    (c_check_spot : PySem.W.codeIn K cd_check_spot "check_spot" = true)
    (k_check_spot : PySem.W.keepIn K (.ref f_check_spot) = true)
    (a_check_turn : PySem.W.nsIn K mainGlobals "check_turn" = some (some (.ref f_check_turn)))
    (l_check_turn : K.lookup f_check_turn = some ⟨oc_check_turn, od_check_turn, .func (PySem.W.fnOf "check_turn" "check_turn" (defArgs s_check_turn) (defBody s_check_turn) (defScope s_check_turn) .none kV_check_turn dc_check_turn pm_check_turn an_check_turn cd_check_turn ct_check_turn), sl_check_turn⟩)
    (c_check_turn : PySem.W.codeIn K cd_check_turn "check_turn" = true)
    (k_check_turn : PySem.W.keepIn K (.ref f_check_turn) = true)
    (a_spot_at : PySem.W.nsIn K mainGlobals "spot_at" = some (some (.ref f_spot_at)))
    (l_spot_at : K.lookup f_spot_at = some ⟨oc_spot_at, od_spot_at, .func (PySem.W.fnOf "spot_at" "spot_at" (defArgs s_spot_at) (defBody s_spot_at) (defScope s_spot_at) .none kV_spot_at dc_spot_at pm_spot_at an_spot_at cd_spot_at ct_spot_at), sl_spot_at⟩)
    (c_spot_at : PySem.W.codeIn K cd_spot_at "spot_at" = true)
    (k_spot_at : PySem.W.keepIn K (.ref f_spot_at) = true)
    (a_plus : PySem.W.nsIn K mainGlobals "plus" = some (some (.ref f_plus)))
    (l_plus : K.lookup f_plus = some ⟨oc_plus, od_plus, .func (PySem.W.fnOf "plus" "plus" (defArgs s_plus) (defBody s_plus) (defScope s_plus) .none kV_plus dc_plus pm_plus an_plus cd_plus ct_plus), sl_plus⟩)
    (c_plus : PySem.W.codeIn K cd_plus "plus" = true)
    (k_plus : PySem.W.keepIn K (.ref f_plus) = true)
    (a_negative : PySem.W.nsIn K mainGlobals "negative" = some (some (.ref f_negative)))
    (l_negative : K.lookup f_negative = some ⟨oc_negative, od_negative, .func (PySem.W.fnOf "negative" "negative" (defArgs s_negative) (defBody s_negative) (defScope s_negative) .none kV_negative dc_negative pm_negative an_negative cd_negative ct_negative), sl_negative⟩)
    (c_negative : PySem.W.codeIn K cd_negative "negative" = true)
    (k_negative : PySem.W.keepIn K (.ref f_negative) = true)
    (a_minus : PySem.W.nsIn K mainGlobals "minus" = some (some (.ref f_minus)))
    (l_minus : K.lookup f_minus = some ⟨oc_minus, od_minus, .func (PySem.W.fnOf "minus" "minus" (defArgs s_minus) (defBody s_minus) (defScope s_minus) .none kV_minus dc_minus pm_minus an_minus cd_minus ct_minus), sl_minus⟩)
    (c_minus : PySem.W.codeIn K cd_minus "minus" = true)
    (k_minus : PySem.W.keepIn K (.ref f_minus) = true)
    (a_product : PySem.W.nsIn K mainGlobals "product" = some (some (.ref f_product)))
    (l_product : K.lookup f_product = some ⟨oc_product, od_product, .func (PySem.W.fnOf "product" "product" (defArgs s_product) (defBody s_product) (defScope s_product) .none kV_product dc_product pm_product an_product cd_product ct_product), sl_product⟩)
    (c_product : PySem.W.codeIn K cd_product "product" = true)
    (k_product : PySem.W.keepIn K (.ref f_product) = true)
    (a_inverse : PySem.W.nsIn K mainGlobals "inverse" = some (some (.ref f_inverse)))
    (l_inverse : K.lookup f_inverse = some ⟨oc_inverse, od_inverse, .func (PySem.W.fnOf "inverse" "inverse" (defArgs s_inverse) (defBody s_inverse) (defScope s_inverse) .none kV_inverse dc_inverse pm_inverse an_inverse cd_inverse ct_inverse), sl_inverse⟩)
    (c_inverse : PySem.W.codeIn K cd_inverse "inverse" = true)
    (k_inverse : PySem.W.keepIn K (.ref f_inverse) = true)
    (a_faced : PySem.W.nsIn K mainGlobals "faced" = some (some (.ref f_faced)))
    (l_faced : K.lookup f_faced = some ⟨oc_faced, od_faced, .func (PySem.W.fnOf "faced" "faced" (defArgs s_faced) (defBody s_faced) (defScope s_faced) .none kV_faced dc_faced pm_faced an_faced cd_faced ct_faced), sl_faced⟩)
    (c_faced : PySem.W.codeIn K cd_faced "faced" = true)
    (k_faced : PySem.W.keepIn K (.ref f_faced) = true)
    (a_carried : PySem.W.nsIn K mainGlobals "carried" = some (some (.ref f_carried)))
    (l_carried : K.lookup f_carried = some ⟨oc_carried, od_carried, .func (PySem.W.fnOf "carried" "carried" (defArgs s_carried) (defBody s_carried) (defScope s_carried) .none kV_carried dc_carried pm_carried an_carried cd_carried ct_carried), sl_carried⟩)
    (c_carried : PySem.W.codeIn K cd_carried "carried" = true)
    (k_carried : PySem.W.keepIn K (.ref f_carried) = true)
    (aC : PySem.W.nsIn K mainGlobals "Copy" = some (some (.ref C)))
    (inI : PySem.W.findIn K (.ref C) "__init__" = some (some (.ref f_Copy___init__)))
    (l_Copy___init__ : K.lookup f_Copy___init__ = some ⟨oc_Copy___init__, od_Copy___init__, .func (PySem.W.fnOf "__init__" "Copy.__init__" (defArgs s_Copy___init__) (defBody s_Copy___init__) (defScope s_Copy___init__) .none (.ref kD_Copy___init__) dc_Copy___init__ pm_Copy___init__ an_Copy___init__ cd_Copy___init__ ct_Copy___init__), sl_Copy___init__⟩)
    (c_Copy___init__ : PySem.W.codeIn K cd_Copy___init__ "Copy.__init__" = true)
    (k_Copy___init__ : PySem.W.keepIn K (.ref f_Copy___init__) = true)
    (kw_init : PySem.W.nsIn K kD_Copy___init__ "mirrored" = some (some (.bool false)))
    (pg : PySem.W.plainGet K C Str.empty = true)
    (hdC : PySem.W.hasDictIn K C = true)
    (po : PySem.W.plainOver K C = true)
    (sa : PySem.W.findIn K (.ref C) "__setattr__" = some (some (.builtin "object.__setattr__")))
    (mkC : PySem.W.makesIn K C = true)
    (kc : PySem.W.keepIn K (.ref C) = true)
    (isI : PySem.W.isFn K (.ref f_Copy___init__) = true)
    (nF : PySem.W.findIn K (.ref C) "factor" = some none)
    (nO : PySem.W.findIn K (.ref C) "offset" = some none)
    (nL : PySem.W.findIn K (.ref C) "flips" = some none)
    (ha : PySem.W.findIn K (.ref C) "__class__" = some (some (.builtin "object.__class__")))
    (hn : PySem.W.specialIn K (.builtin "object.__class__") "__get__" = some (some (.builtin "getset_descriptor.__get__")))
    (htk : PySem.W.takesIn K (.builtin "object.__class__") = some true)
    (hmo : PySem.W.mroIn K C (.type "object") = some true)
    (sf : PySem.W.selfFirst K C = true)
    (a_Copy_turn : PySem.W.findIn K (.ref C) "turn" = some (some (.ref q_Copy_turn)))
    (g_Copy_turn : PySem.W.specialIn K (.ref q_Copy_turn) "__get__" = some (some (.builtin "property.__get__")))
    (t_Copy_turn : PySem.W.takesIn K (.ref q_Copy_turn) = some true)
    (r_Copy_turn : PySem.W.recIn K q_Copy_turn "property" = some (.ref f_Copy_turn :: rs_Copy_turn))
    (l_Copy_turn : K.lookup f_Copy_turn = some ⟨oc_Copy_turn, od_Copy_turn, .func (PySem.W.fnOf "turn" "Copy.turn" (defArgs s_Copy_turn) (defBody s_Copy_turn) (defScope s_Copy_turn) .none kV_Copy_turn dc_Copy_turn pm_Copy_turn an_Copy_turn cd_Copy_turn ct_Copy_turn), sl_Copy_turn⟩)
    (c_Copy_turn : PySem.W.codeIn K cd_Copy_turn "Copy.turn" = true)
    (k_Copy_turn : PySem.W.keepIn K (.ref f_Copy_turn) = true)
    (a_Copy_shift : PySem.W.findIn K (.ref C) "shift" = some (some (.ref q_Copy_shift)))
    (g_Copy_shift : PySem.W.specialIn K (.ref q_Copy_shift) "__get__" = some (some (.builtin "property.__get__")))
    (t_Copy_shift : PySem.W.takesIn K (.ref q_Copy_shift) = some true)
    (r_Copy_shift : PySem.W.recIn K q_Copy_shift "property" = some (.ref f_Copy_shift :: rs_Copy_shift))
    (l_Copy_shift : K.lookup f_Copy_shift = some ⟨oc_Copy_shift, od_Copy_shift, .func (PySem.W.fnOf "shift" "Copy.shift" (defArgs s_Copy_shift) (defBody s_Copy_shift) (defScope s_Copy_shift) .none kV_Copy_shift dc_Copy_shift pm_Copy_shift an_Copy_shift cd_Copy_shift ct_Copy_shift), sl_Copy_shift⟩)
    (c_Copy_shift : PySem.W.codeIn K cd_Copy_shift "Copy.shift" = true)
    (k_Copy_shift : PySem.W.keepIn K (.ref f_Copy_shift) = true)
    (a_Copy_mirrored : PySem.W.findIn K (.ref C) "mirrored" = some (some (.ref q_Copy_mirrored)))
    (g_Copy_mirrored : PySem.W.specialIn K (.ref q_Copy_mirrored) "__get__" = some (some (.builtin "property.__get__")))
    (t_Copy_mirrored : PySem.W.takesIn K (.ref q_Copy_mirrored) = some true)
    (r_Copy_mirrored : PySem.W.recIn K q_Copy_mirrored "property" = some (.ref f_Copy_mirrored :: rs_Copy_mirrored))
    (l_Copy_mirrored : K.lookup f_Copy_mirrored = some ⟨oc_Copy_mirrored, od_Copy_mirrored, .func (PySem.W.fnOf "mirrored" "Copy.mirrored" (defArgs s_Copy_mirrored) (defBody s_Copy_mirrored) (defScope s_Copy_mirrored) .none kV_Copy_mirrored dc_Copy_mirrored pm_Copy_mirrored an_Copy_mirrored cd_Copy_mirrored ct_Copy_mirrored), sl_Copy_mirrored⟩)
    (c_Copy_mirrored : PySem.W.codeIn K cd_Copy_mirrored "Copy.mirrored" = true)
    (k_Copy_mirrored : PySem.W.keepIn K (.ref f_Copy_mirrored) = true)
    (a_carriers_by : PySem.W.nsIn K mainGlobals "carriers_by" = some (some (.ref f_carriers_by)))
    (l_carriers_by : K.lookup f_carriers_by = some ⟨oc_carriers_by, od_carriers_by, .func (PySem.W.fnOf "carriers_by" "carriers_by" (defArgs s_carriers_by) (defBody s_carriers_by) (defScope s_carriers_by) .none kV_carriers_by dc_carriers_by pm_carriers_by an_carriers_by cd_carriers_by ct_carriers_by), sl_carriers_by⟩)
    (c_carriers_by : PySem.W.codeIn K cd_carriers_by "carriers_by" = true)
    (k_carriers_by : PySem.W.keepIn K (.ref f_carriers_by) = true)
    (a_carriers : PySem.W.nsIn K mainGlobals "carriers" = some (some (.ref f_carriers)))
    (l_carriers : K.lookup f_carriers = some ⟨oc_carriers, od_carriers, .func (PySem.W.fnOf "carriers" "carriers" (defArgs s_carriers) (defBody s_carriers) (defScope s_carriers) .none kV_carriers dc_carriers pm_carriers an_carriers cd_carriers ct_carriers), sl_carriers⟩)
    (c_carriers : PySem.W.codeIn K cd_carriers "carriers" = true)
    (k_carriers : PySem.W.keepIn K (.ref f_carriers) = true)
    (a_law_random : PySem.W.nsIn K mainGlobals "_law_random" = some (some (.ref f_law_random)))
    (l_law_random : K.lookup f_law_random = some ⟨oc_law_random, od_law_random, .func (PySem.W.fnOf "_law_random" "_law_random" (defArgs s_law_random) (defBody s_law_random) (defScope s_law_random) .none kV_law_random dc_law_random pm_law_random an_law_random cd_law_random ct_law_random), sl_law_random⟩)
    (c_law_random : PySem.W.codeIn K cd_law_random "_law_random" = true)
    (k_law_random : PySem.W.keepIn K (.ref f_law_random) = true)
    (a_law_below : PySem.W.nsIn K mainGlobals "_law_below" = some (some (.ref f_law_below)))
    (l_law_below : K.lookup f_law_below = some ⟨oc_law_below, od_law_below, .func (PySem.W.fnOf "_law_below" "_law_below" (defArgs s_law_below) (defBody s_law_below) (defScope s_law_below) .none kV_law_below dc_law_below pm_law_below an_law_below cd_law_below ct_law_below), sl_law_below⟩)
    (c_law_below : PySem.W.codeIn K cd_law_below "_law_below" = true)
    (k_law_below : PySem.W.keepIn K (.ref f_law_below) = true)
    (a_law_turn : PySem.W.nsIn K mainGlobals "_law_turn" = some (some (.ref f_law_turn)))
    (l_law_turn : K.lookup f_law_turn = some ⟨oc_law_turn, od_law_turn, .func (PySem.W.fnOf "_law_turn" "_law_turn" (defArgs s_law_turn) (defBody s_law_turn) (defScope s_law_turn) .none kV_law_turn dc_law_turn pm_law_turn an_law_turn cd_law_turn ct_law_turn), sl_law_turn⟩)
    (c_law_turn : PySem.W.codeIn K cd_law_turn "_law_turn" = true)
    (k_law_turn : PySem.W.keepIn K (.ref f_law_turn) = true)
    (a_law_common : PySem.W.nsIn K mainGlobals "_law_common" = some (some (.ref f_law_common)))
    (l_law_common : K.lookup f_law_common = some ⟨oc_law_common, od_law_common, .func (PySem.W.fnOf "_law_common" "_law_common" (defArgs s_law_common) (defBody s_law_common) (defScope s_law_common) .none kV_law_common dc_law_common pm_law_common an_law_common cd_law_common ct_law_common), sl_law_common⟩)
    (c_law_common : PySem.W.codeIn K cd_law_common "_law_common" = true)
    (k_law_common : PySem.W.keepIn K (.ref f_law_common) = true)
    (a_law_lowest : PySem.W.nsIn K mainGlobals "_law_lowest" = some (some (.ref f_law_lowest)))
    (l_law_lowest : K.lookup f_law_lowest = some ⟨oc_law_lowest, od_law_lowest, .func (PySem.W.fnOf "_law_lowest" "_law_lowest" (defArgs s_law_lowest) (defBody s_law_lowest) (defScope s_law_lowest) .none kV_law_lowest dc_law_lowest pm_law_lowest an_law_lowest cd_law_lowest ct_law_lowest), sl_law_lowest⟩)
    (c_law_lowest : PySem.W.codeIn K cd_law_lowest "_law_lowest" = true)
    (k_law_lowest : PySem.W.keepIn K (.ref f_law_lowest) = true)
    (a_law_spot : PySem.W.nsIn K mainGlobals "_law_spot" = some (some (.ref f_law_spot)))
    (l_law_spot : K.lookup f_law_spot = some ⟨oc_law_spot, od_law_spot, .func (PySem.W.fnOf "_law_spot" "_law_spot" (defArgs s_law_spot) (defBody s_law_spot) (defScope s_law_spot) .none kV_law_spot dc_law_spot pm_law_spot an_law_spot cd_law_spot ct_law_spot), sl_law_spot⟩)
    (c_law_spot : PySem.W.codeIn K cd_law_spot "_law_spot" = true)
    (k_law_spot : PySem.W.keepIn K (.ref f_law_spot) = true)
    (a_law_told : PySem.W.nsIn K mainGlobals "_law_told" = some (some (.ref f_law_told)))
    (l_law_told : K.lookup f_law_told = some ⟨oc_law_told, od_law_told, .func (PySem.W.fnOf "_law_told" "_law_told" (defArgs s_law_told) (defBody s_law_told) (defScope s_law_told) .none kV_law_told dc_law_told pm_law_told an_law_told cd_law_told ct_law_told), sl_law_told⟩)
    (c_law_told : PySem.W.codeIn K cd_law_told "_law_told" = true)
    (k_law_told : PySem.W.keepIn K (.ref f_law_told) = true)
    (a_law_over : PySem.W.nsIn K mainGlobals "_law_over" = some (some (.ref f_law_over)))
    (l_law_over : K.lookup f_law_over = some ⟨oc_law_over, od_law_over, .func (PySem.W.fnOf "_law_over" "_law_over" (defArgs s_law_over) (defBody s_law_over) (defScope s_law_over) .none kV_law_over dc_law_over pm_law_over an_law_over cd_law_over ct_law_over), sl_law_over⟩)
    (c_law_over : PySem.W.codeIn K cd_law_over "_law_over" = true)
    (k_law_over : PySem.W.keepIn K (.ref f_law_over) = true)
    (a_law_plus : PySem.W.nsIn K mainGlobals "_law_plus" = some (some (.ref f_law_plus)))
    (l_law_plus : K.lookup f_law_plus = some ⟨oc_law_plus, od_law_plus, .func (PySem.W.fnOf "_law_plus" "_law_plus" (defArgs s_law_plus) (defBody s_law_plus) (defScope s_law_plus) .none kV_law_plus dc_law_plus pm_law_plus an_law_plus cd_law_plus ct_law_plus), sl_law_plus⟩)
    (c_law_plus : PySem.W.codeIn K cd_law_plus "_law_plus" = true)
    (k_law_plus : PySem.W.keepIn K (.ref f_law_plus) = true)
    (a_law_minus : PySem.W.nsIn K mainGlobals "_law_minus" = some (some (.ref f_law_minus)))
    (l_law_minus : K.lookup f_law_minus = some ⟨oc_law_minus, od_law_minus, .func (PySem.W.fnOf "_law_minus" "_law_minus" (defArgs s_law_minus) (defBody s_law_minus) (defScope s_law_minus) .none kV_law_minus dc_law_minus pm_law_minus an_law_minus cd_law_minus ct_law_minus), sl_law_minus⟩)
    (c_law_minus : PySem.W.codeIn K cd_law_minus "_law_minus" = true)
    (k_law_minus : PySem.W.keepIn K (.ref f_law_minus) = true)
    (a_law_times : PySem.W.nsIn K mainGlobals "_law_times" = some (some (.ref f_law_times)))
    (l_law_times : K.lookup f_law_times = some ⟨oc_law_times, od_law_times, .func (PySem.W.fnOf "_law_times" "_law_times" (defArgs s_law_times) (defBody s_law_times) (defScope s_law_times) .none kV_law_times dc_law_times pm_law_times an_law_times cd_law_times ct_law_times), sl_law_times⟩)
    (c_law_times : PySem.W.codeIn K cd_law_times "_law_times" = true)
    (k_law_times : PySem.W.keepIn K (.ref f_law_times) = true)
    (a_law_carried : PySem.W.nsIn K mainGlobals "_law_carried" = some (some (.ref f_law_carried)))
    (l_law_carried : K.lookup f_law_carried = some ⟨oc_law_carried, od_law_carried, .func (PySem.W.fnOf "_law_carried" "_law_carried" (defArgs s_law_carried) (defBody s_law_carried) (defScope s_law_carried) .none kV_law_carried dc_law_carried pm_law_carried an_law_carried cd_law_carried ct_law_carried), sl_law_carried⟩)
    (c_law_carried : PySem.W.codeIn K cd_law_carried "_law_carried" = true)
    (k_law_carried : PySem.W.keepIn K (.ref f_law_carried) = true)
    (a_law_shown : PySem.W.nsIn K mainGlobals "_law_shown" = some (some (.ref f_law_shown)))
    (l_law_shown : K.lookup f_law_shown = some ⟨oc_law_shown, od_law_shown, .func (PySem.W.fnOf "_law_shown" "_law_shown" (defArgs s_law_shown) (defBody s_law_shown) (defScope s_law_shown) .none kV_law_shown dc_law_shown pm_law_shown an_law_shown cd_law_shown ct_law_shown), sl_law_shown⟩)
    (c_law_shown : PySem.W.codeIn K cd_law_shown "_law_shown" = true)
    (k_law_shown : PySem.W.keepIn K (.ref f_law_shown) = true)
    (a_law_shuffled : PySem.W.nsIn K mainGlobals "_law_shuffled" = some (some (.ref f_law_shuffled)))
    (l_law_shuffled : K.lookup f_law_shuffled = some ⟨oc_law_shuffled, od_law_shuffled, .func (PySem.W.fnOf "_law_shuffled" "_law_shuffled" (defArgs s_law_shuffled) (defBody s_law_shuffled) (defScope s_law_shuffled) .none kV_law_shuffled dc_law_shuffled pm_law_shuffled an_law_shuffled cd_law_shuffled ct_law_shuffled), sl_law_shuffled⟩)
    (c_law_shuffled : PySem.W.codeIn K cd_law_shuffled "_law_shuffled" = true)
    (k_law_shuffled : PySem.W.keepIn K (.ref f_law_shuffled) = true)
    (a_law : PySem.W.nsIn K mainGlobals "law" = some (some (.ref f_law)))
    (l_law : K.lookup f_law = some ⟨oc_law, od_law, .func (PySem.W.fnOf "law" "law" (defArgs s_law) (defBody s_law) (defScope s_law) .none kV_law dc_law pm_law an_law (.ref cL) ct_law), sl_law⟩)
    (c_law : PySem.W.codeIn K (.ref cL) "law" = true)
    (q_law : K.lookup cL = some ⟨oq_law, dq_law, .fields vq_law, sq_law⟩)
    (v_law : vq_law[11]? = some (.ref PL))
    (n_law : K.lookup PL = none)
    (h_law : PySem.W.codeHdIn K cL PL = true)
    : LawAtS l w K CX0 10 63 "_law_script" mg fa h := by
  have e := hfa.symm.trans (PySem.W.mg_of X G a_law)
  cases e
  have b_abs := PySem.W.mg_none_of X G z_abs
  have b_len := PySem.W.mg_none_of X G z_len
  have b_isinstance := PySem.W.mg_none_of X G z_isinstance
  have b_int := PySem.W.mg_none_of X G z_int
  have b_bool := PySem.W.mg_none_of X G z_bool
  have b_str := PySem.W.mg_none_of X G z_str
  have b_tuple := PySem.W.mg_none_of X G z_tuple
  have b_list := PySem.W.mg_none_of X G z_list
  have b_all := PySem.W.mg_none_of X G z_all
  have b_any := PySem.W.mg_none_of X G z_any
  have b_range := PySem.W.mg_none_of X G z_range
  have b_ValueError := PySem.W.mg_none_of X G z_ValueError
  have b_set := PySem.W.mg_none_of X G z_set
  have b_sorted := PySem.W.mg_none_of X G z_sorted
  have m_MIDDLE := PySem.W.mg_of X G m_MIDDLE
  have t_MIDDLE : ∀ H, SqT K H a_tMIDDLE (v3 (0, 0, 1)) := fun H => .inr ⟨_, _, _, u_MIDDLE, rfl, rfl, (by show 3 ≤ sizeLine; decide), .cons ⟨_, rfl⟩ (.cons ⟨_, rfl⟩ (.cons ⟨_, rfl⟩ .nil))⟩
  have m_B := PySem.W.mg_of X G g_CB
  have ER : Errs K mg CB (fun j => [e0, e1, e2, e3, e4, e5, e6, e7, e8, e9, e10, e11, e12, e13, e14, e15, e16, e17, e18, e19].getD j 0) [0, 3] := ⟨fun j x h => match j, h with
    | 0, h => by cases h; exact PySem.W.mg_of X G ge_0
    | 1, h => by cases h; exact PySem.W.mg_of X G ge_1
    | 2, h => by cases h; exact PySem.W.mg_of X G ge_2
    | 3, h => by cases h; exact PySem.W.mg_of X G ge_3
    | 4, h => by cases h; exact PySem.W.mg_of X G ge_4
    | 5, h => by cases h; exact PySem.W.mg_of X G ge_5
    | 6, h => by cases h; exact PySem.W.mg_of X G ge_6
    | 7, h => by cases h; exact PySem.W.mg_of X G ge_7
    | 8, h => by cases h; exact PySem.W.mg_of X G ge_8
    | 9, h => by cases h; exact PySem.W.mg_of X G ge_9
    | 10, h => by cases h; exact PySem.W.mg_of X G ge_10
    | 11, h => by cases h; exact PySem.W.mg_of X G ge_11
    | 12, h => by cases h; exact PySem.W.mg_of X G ge_12
    | 13, h => by cases h; exact PySem.W.mg_of X G ge_13
    | 14, h => by cases h; exact PySem.W.mg_of X G ge_14
    | 15, h => by cases h; exact PySem.W.mg_of X G ge_15
    | 16, h => by cases h; exact PySem.W.mg_of X G ge_16
    | 17, h => by cases h; exact PySem.W.mg_of X G ge_17
    | 18, h => by cases h; exact PySem.W.mg_of X G ge_18
    | 19, h => by cases h; exact PySem.W.mg_of X G ge_19
    | (k + 20), h => by simp [eCls] at h,
  fun n hn => by
    simp only [List.mem_cons, List.mem_nil_iff, or_false] at hn
    rcases hn with rfl | rfl
    · exact ⟨xg_0, xk_0, xs_0, xd_0, xa_0, xc_n, xc_t, xm_0⟩
    · exact ⟨xg_3, xk_3, xs_3, xd_3, xa_3, xc_n, xc_t, xm_3⟩,
  fun n j hn hj => by
    simp only [List.mem_cons, List.mem_nil_iff, or_false] at hn
    rcases hn with rfl | rfl
    · exact match j, hj with
      | 0, _ => kt_0_0
      | 1, _ => kt_0_1
      | 2, _ => kt_0_2
      | 3, _ => kt_0_3
      | 4, _ => kt_0_4
      | 5, _ => kt_0_5
      | 6, _ => kt_0_6
      | 7, _ => kt_0_7
      | 8, _ => kt_0_8
      | 9, _ => kt_0_9
      | 10, _ => kt_0_10
      | 11, _ => kt_0_11
      | 12, _ => kt_0_12
      | 13, _ => kt_0_13
      | 14, _ => kt_0_14
      | 15, _ => kt_0_15
      | 16, _ => kt_0_16
      | 17, _ => kt_0_17
      | 18, _ => kt_0_18
      | 19, _ => kt_0_19
      | (k + 20), h => absurd h (by omega)
    · exact match j, hj with
      | 0, _ => kt_3_0
      | 1, _ => kt_3_1
      | 2, _ => kt_3_2
      | 3, _ => kt_3_3
      | 4, _ => kt_3_4
      | 5, _ => kt_3_5
      | 6, _ => kt_3_6
      | 7, _ => kt_3_7
      | 8, _ => kt_3_8
      | 9, _ => kt_3_9
      | 10, _ => kt_3_10
      | 11, _ => kt_3_11
      | 12, _ => kt_3_12
      | 13, _ => kt_3_13
      | 14, _ => kt_3_14
      | 15, _ => kt_3_15
      | 16, _ => kt_3_16
      | 17, _ => kt_3_17
      | 18, _ => kt_3_18
      | 19, _ => kt_3_19
      | (k + 20), h => absurd h (by omega),
  fun n hn => by
    simp only [List.mem_cons, List.mem_nil_iff, or_false] at hn
    rcases hn with rfl | rfl
    · exact kv_0
    · exact kv_3,
  fun n hn => by
    simp only [List.mem_cons, List.mem_nil_iff, or_false] at hn
    rcases hn with rfl | rfl
    · exact xx_0
    · exact xx_3,
  fun n hn => by
    simp only [List.mem_cons, List.mem_nil_iff, or_false] at hn
    rcases hn with rfl | rfl
    · decide
    · decide⟩
  have X_InvalidSpot : ExX K mg "InvalidSpot" e0 := ⟨xq_0, xp_0, xs_0, xt_0, PySem.W.mg_of X G ge_0⟩
  have X_TooFew : ExX K mg "TooFew" e3 := ⟨xq_3, xp_3, xs_3, xt_3, PySem.W.mg_of X G ge_3⟩
  have F_law_error_of := fun_mk (st := s_law_error_of) l_law_error_of c_law_error_of k_law_error_of
  have B_law_error_of := F_law_error_of.binds (ps := ["_law_call"]) fun _ _ _ _ _ _ us hl => match us, hl with | [_], _ => rfl
  have m_E := PySem.W.mg_of X G a_law_error_of
  have F_common_divisor := fun_mk (st := s_common_divisor) l_common_divisor c_common_divisor k_common_divisor
  have B_common_divisor := F_common_divisor.binds (ps := ["one", "other"]) fun _ _ _ _ _ _ us hl => match us, hl with | [_, _], _ => rfl
  have F_is_whole := fun_mk (st := s_is_whole) l_is_whole c_is_whole k_is_whole
  have B_is_whole := F_is_whole.binds (ps := ["value"]) fun _ _ _ _ _ _ us hl => match us, hl with | [_], _ => rfl
  have F_is_spot := fun_mk (st := s_is_spot) l_is_spot c_is_spot k_is_spot
  have B_is_spot := F_is_spot.binds (ps := ["value"]) fun _ _ _ _ _ _ us hl => match us, hl with | [_], _ => rfl
  have F_check_spot := fun_mk (st := s_check_spot) l_check_spot c_check_spot k_check_spot
  have B_check_spot := F_check_spot.binds (ps := ["value"]) fun _ _ _ _ _ _ us hl => match us, hl with | [_], _ => rfl
  have F_check_turn := fun_mk (st := s_check_turn) l_check_turn c_check_turn k_check_turn
  have B_check_turn := F_check_turn.binds (ps := ["value"]) fun _ _ _ _ _ _ us hl => match us, hl with | [_], _ => rfl
  have F_spot_at := fun_mk (st := s_spot_at) l_spot_at c_spot_at k_spot_at
  have B_spot_at := F_spot_at.binds (ps := ["x", "y", "d"]) fun _ _ _ _ _ _ us hl => match us, hl with | [_, _, _], _ => rfl
  have F_plus := fun_mk (st := s_plus) l_plus c_plus k_plus
  have B_plus := F_plus.binds (ps := ["one", "other"]) fun _ _ _ _ _ _ us hl => match us, hl with | [_, _], _ => rfl
  have F_negative := fun_mk (st := s_negative) l_negative c_negative k_negative
  have B_negative := F_negative.binds (ps := ["number"]) fun _ _ _ _ _ _ us hl => match us, hl with | [_], _ => rfl
  have F_minus := fun_mk (st := s_minus) l_minus c_minus k_minus
  have B_minus := F_minus.binds (ps := ["one", "other"]) fun _ _ _ _ _ _ us hl => match us, hl with | [_, _], _ => rfl
  have F_product := fun_mk (st := s_product) l_product c_product k_product
  have B_product := F_product.binds (ps := ["one", "other"]) fun _ _ _ _ _ _ us hl => match us, hl with | [_, _], _ => rfl
  have F_inverse := fun_mk (st := s_inverse) l_inverse c_inverse k_inverse
  have B_inverse := F_inverse.binds (ps := ["number"]) fun _ _ _ _ _ _ us hl => match us, hl with | [_], _ => rfl
  have F_faced := fun_mk (st := s_faced) l_faced c_faced k_faced
  have B_faced := F_faced.binds (ps := ["number", "mirrored"]) fun _ _ _ _ _ _ us hl => match us, hl with | [_, _], _ => rfl
  have F_carried := fun_mk (st := s_carried) l_carried c_carried k_carried
  have B_carried := F_carried.binds (ps := ["turn", "shift", "mirrored", "spot"]) fun _ _ _ _ _ _ us hl => match us, hl with | [_, _, _, _], _ => rfl
  have TX : CTxt K C := ⟨⟨pg, hdC, po, sa⟩, nF, nO, nL, ha, hn, htk, hmo⟩
  have mgC := PySem.W.mg_of X G aC
  have FI : FunD K "__init__" "Copy.__init__" (defArgs s_Copy___init__) (defBody s_Copy___init__) (defScope s_Copy___init__) [] [("mirrored", .bl false)] f_Copy___init__ _ := ⟨⟨_, _, _, _, _, _, _, _, _, _, rfl, l_Copy___init__, c_Copy___init__, .inl ⟨rfl, rfl⟩, .inr ⟨_, rfl, fun q hq => by cases List.mem_singleton.mp hq; exact ⟨_, kw_init, rfl⟩⟩⟩, k_Copy___init__⟩
  obtain ⟨⟨ds, bv, bd⟩, mv, kb⟩ := bind_init FI
  have F_Copy_turn := fun_mk (st := s_Copy_turn) l_Copy_turn c_Copy_turn k_Copy_turn
  have B_Copy_turn := F_Copy_turn.binds (ps := ["self"]) fun _ _ _ _ _ _ us hl => match us, hl with | [_], _ => rfl
  have F_Copy_shift := fun_mk (st := s_Copy_shift) l_Copy_shift c_Copy_shift k_Copy_shift
  have B_Copy_shift := F_Copy_shift.binds (ps := ["self"]) fun _ _ _ _ _ _ us hl => match us, hl with | [_], _ => rfl
  have F_Copy_mirrored := fun_mk (st := s_Copy_mirrored) l_Copy_mirrored c_Copy_mirrored k_Copy_mirrored
  have B_Copy_mirrored := F_Copy_mirrored.binds (ps := ["self"]) fun _ _ _ _ _ _ us hl => match us, hl with | [_], _ => rfl
  have F_carriers_by := fun_mk (st := s_carriers_by) l_carriers_by c_carriers_by k_carriers_by
  have B_carriers_by := F_carriers_by.binds (ps := ["pairs", "other", "mirrored"]) fun _ _ _ _ _ _ us hl => match us, hl with | [_, _, _], _ => rfl
  have F_carriers := fun_mk (st := s_carriers) l_carriers c_carriers k_carriers
  have B_carriers := F_carriers.binds (ps := ["pairs"]) fun _ _ _ _ _ _ us hl => match us, hl with | [_], _ => rfl
  have F_law_random := fun_mk (st := s_law_random) l_law_random c_law_random k_law_random
  have B_law_random := F_law_random.binds (ps := ["_law_script", "_law_salt"]) fun _ _ _ _ _ _ us hl => match us, hl with | [_, _], _ => rfl
  have F_law_below := fun_mk (st := s_law_below) l_law_below c_law_below k_law_below
  have B_law_below := F_law_below.binds (ps := ["_law_d", "_law_limit"]) fun _ _ _ _ _ _ us hl => match us, hl with | [_, _], _ => rfl
  have F_law_turn := fun_mk (st := s_law_turn) l_law_turn c_law_turn k_law_turn
  have B_law_turn := F_law_turn.binds (ps := ["_law_d"]) fun _ _ _ _ _ _ us hl => match us, hl with | [_], _ => rfl
  have F_law_common := fun_mk (st := s_law_common) l_law_common c_law_common k_law_common
  have B_law_common := F_law_common.binds (ps := ["_law_one", "_law_other"]) fun _ _ _ _ _ _ us hl => match us, hl with | [_, _], _ => rfl
  have F_law_lowest := fun_mk (st := s_law_lowest) l_law_lowest c_law_lowest k_law_lowest
  have B_law_lowest := F_law_lowest.binds (ps := ["_law_x", "_law_y", "_law_q"]) fun _ _ _ _ _ _ us hl => match us, hl with | [_, _, _], _ => rfl
  have F_law_spot := fun_mk (st := s_law_spot) l_law_spot c_law_spot k_law_spot
  have B_law_spot := F_law_spot.binds (ps := ["_law_d"]) fun _ _ _ _ _ _ us hl => match us, hl with | [_], _ => rfl
  have F_law_told := fun_mk (st := s_law_told) l_law_told c_law_told k_law_told
  have B_law_told := F_law_told.binds (ps := ["_law_d"]) fun _ _ _ _ _ _ us hl => match us, hl with | [_], _ => rfl
  have F_law_over := fun_mk (st := s_law_over) l_law_over c_law_over k_law_over
  have B_law_over := F_law_over.binds (ps := ["_law_one"]) fun _ _ _ _ _ _ us hl => match us, hl with | [_], _ => rfl
  have F_law_plus := fun_mk (st := s_law_plus) l_law_plus c_law_plus k_law_plus
  have B_law_plus := F_law_plus.binds (ps := ["_law_one", "_law_other"]) fun _ _ _ _ _ _ us hl => match us, hl with | [_, _], _ => rfl
  have F_law_minus := fun_mk (st := s_law_minus) l_law_minus c_law_minus k_law_minus
  have B_law_minus := F_law_minus.binds (ps := ["_law_one", "_law_other"]) fun _ _ _ _ _ _ us hl => match us, hl with | [_, _], _ => rfl
  have F_law_times := fun_mk (st := s_law_times) l_law_times c_law_times k_law_times
  have B_law_times := F_law_times.binds (ps := ["_law_one", "_law_other"]) fun _ _ _ _ _ _ us hl => match us, hl with | [_, _], _ => rfl
  have F_law_carried := fun_mk (st := s_law_carried) l_law_carried c_law_carried k_law_carried
  have B_law_carried := F_law_carried.binds (ps := ["_law_told_here", "_law_spot_here"]) fun _ _ _ _ _ _ us hl => match us, hl with | [_, _], _ => rfl
  have F_law_shown := fun_mk (st := s_law_shown) l_law_shown c_law_shown k_law_shown
  have B_law_shown := F_law_shown.binds (ps := ["_law_copy"]) fun _ _ _ _ _ _ us hl => match us, hl with | [_], _ => rfl
  have F_law_shuffled := fun_mk (st := s_law_shuffled) l_law_shuffled c_law_shuffled k_law_shuffled
  have B_law_shuffled := F_law_shuffled.binds (ps := ["_law_d", "_law_items"]) fun _ _ _ _ _ _ us hl => match us, hl with | [_, _], _ => rfl
  refine ⟨PySem.W.fnOf "law" "law" (defArgs s_law) (defBody s_law) (defScope s_law) .none kV_law dc_law pm_law an_law (.ref cL) ct_law, [(cL, PL)], spLaw K PL, fun p hp => ?_, fun p hp => ?_, fun p hp => ?_, fun s v => .of_eq rfl, fun H a ns hl _ hH hS => ⟨a, ns, rfl, hS, hl, hH _ (.head _), fun _ => rfl⟩, fun base _ _ TB => ?_⟩
  · cases List.mem_singleton.mp hp; exact own cL PL _ _ _ _ _ _ l_law rfl rfl q_law v_law
  · cases List.mem_singleton.mp hp; exact n_law
  · cases List.mem_singleton.mp hp; exact PySem.W.codeHd_of_K X h_law
  have d_common_divisor : D l.prog w K mg base "common_divisor" 1 sp_gcd := ⟨_, rOf (ok_common_divisor b_abs F_common_divisor) B_common_divisor, k_common_divisor, PySem.W.mg_of X G a_common_divisor⟩
  have d_is_whole : D l.prog w K mg base "is_whole" 1 sp_whole := ⟨_, rOf (ok_is_whole b_isinstance b_int b_bool F_is_whole) B_is_whole, k_is_whole, PySem.W.mg_of X G a_is_whole⟩
  have d_wholeA : D l.prog w K mg base "is_whole" 1 sp_wholeA := ⟨_, rOf (ok_is_wholeA b_isinstance b_int b_bool F_is_whole) B_is_whole, k_is_whole, PySem.W.mg_of X G a_is_whole⟩
  have d_is_spot : D l.prog w K mg base "is_spot" 2 (sp_isspot K) := ⟨_, rOf (ok_is_spot b_isinstance b_tuple b_len b_all d_common_divisor d_is_whole F_is_spot) B_is_spot, k_is_spot, PySem.W.mg_of X G a_is_spot⟩
  have d_is_spotX : D l.prog w K mg base "is_spot" 2 (sp_isspotX K) := ⟨_, rOf (ok_is_spotX b_isinstance b_tuple b_len b_all d_common_divisor d_wholeA F_is_spot) B_is_spot, k_is_spot, PySem.W.mg_of X G a_is_spot⟩
  have d_check_spot : D l.prog w K mg base "check_spot" 3 (sp_check K) := ⟨_, rOf (ok_check_spot d_is_spot F_check_spot) B_check_spot, k_check_spot, PySem.W.mg_of X G a_check_spot⟩
  have d_check_turn : D l.prog w K mg base "check_turn" 3 (sp_checkT K) := ⟨_, rOf (ok_check_turn d_is_spot m_MIDDLE t_MIDDLE F_check_turn) B_check_turn, k_check_turn, PySem.W.mg_of X G a_check_turn⟩
  have d_spot_at : D l.prog w K mg base "spot_at" 2 (sp_low K) := ⟨_, rOf (ok_spot_at d_common_divisor F_spot_at) B_spot_at, k_spot_at, PySem.W.mg_of X G a_spot_at⟩
  have d_plus : D l.prog w K mg base "plus" 3 (sp_two K plus) := ⟨_, rOf (ok_plus d_spot_at F_plus) B_plus, k_plus, PySem.W.mg_of X G a_plus⟩
  have d_negative : D l.prog w K mg base "negative" 1 (sp_one K neg) := ⟨_, rOf (ok_negative F_negative) B_negative, k_negative, PySem.W.mg_of X G a_negative⟩
  have d_minus : D l.prog w K mg base "minus" 4 (sp_two K minus) := ⟨_, rOf (ok_minus d_plus d_negative F_minus) B_minus, k_minus, PySem.W.mg_of X G a_minus⟩
  have d_product : D l.prog w K mg base "product" 3 (sp_two K times) := ⟨_, rOf (ok_product d_spot_at F_product) B_product, k_product, PySem.W.mg_of X G a_product⟩
  have d_inverse : D l.prog w K mg base "inverse" 3 (sp_inv K) := ⟨_, rOf (ok_inverse d_spot_at F_inverse) B_inverse, k_inverse, PySem.W.mg_of X G a_inverse⟩
  have d_faced : D l.prog w K mg base "faced" 1 (sp_face K) := ⟨_, rOf (ok_faced F_faced) B_faced, k_faced, PySem.W.mg_of X G a_faced⟩
  have d_carried : D l.prog w K mg base "carried" 4 (sp_car K) := ⟨_, rOf (ok_carried d_plus d_product d_faced F_carried) B_carried, k_carried, PySem.W.mg_of X G a_carried⟩
  have TC : CopyI l.prog w K mg base C f_Copy___init__ _ mv ds := ⟨TX, ⟨mkC, inI, isI, kc⟩, ok_init TX d_check_turn d_check_spot FI, mgC, bv, bd, kb⟩
  have m_pt : MPt l.prog w K mg base C := ⟨TX.cl, _, _, _, ok_turn TX F_Copy_turn, B_Copy_turn, ⟨a_Copy_turn, g_Copy_turn, t_Copy_turn, ⟨_, r_Copy_turn⟩⟩⟩
  have m_ps : MPs l.prog w K mg base C := ⟨TX.cl, _, _, _, ok_shift TX F_Copy_shift, B_Copy_shift, ⟨a_Copy_shift, g_Copy_shift, t_Copy_shift, ⟨_, r_Copy_shift⟩⟩⟩
  have m_pm : MPm l.prog w K mg base C := ⟨TX.cl, _, _, _, ok_mirrored TX F_Copy_mirrored, B_Copy_mirrored, ⟨a_Copy_mirrored, g_Copy_mirrored, t_Copy_mirrored, ⟨_, r_Copy_mirrored⟩⟩⟩
  have d_carriers_by : D l.prog w K mg base "carriers_by" 6 (sp_crb K C) := ⟨_, rOf (ok_carriers_by TC b_any m_MIDDLE t_MIDDLE d_minus d_product d_inverse d_faced d_carried F_carriers_by) B_carriers_by, k_carriers_by, PySem.W.mg_of X G a_carriers_by⟩
  have d_carriers : D l.prog w K mg base "carriers" 7 (sp_carr K C) := ⟨_, rOf (ok_carriers d_check_spot d_carriers_by F_carriers) B_carriers, k_carriers, PySem.W.mg_of X G a_carriers⟩
  have d_check_spotB : DX l.prog w K mg base "check_spot" 3 (sp_checkB K e0) := ⟨_, rOfX (ok_check_spotB X_InvalidSpot (D.or d_is_spot d_is_spotX) F_check_spot) B_check_spot, k_check_spot, PySem.W.mg_of X G a_check_spot⟩
  have d_carriersF : DX l.prog w K mg base "carriers" 7 (sp_carF K e3) := ⟨_, rOfX (ok_carriersF X_TooFew d_check_spot F_carriers) B_carriers, k_carriers, PySem.W.mg_of X G a_carriers⟩
  have d_carriersS : DX l.prog w K mg base "carriers" 7 (sp_carS K e0) := ⟨_, rOfX (ok_carriersS d_check_spotB F_carriers) B_carriers, k_carriers, PySem.W.mg_of X G a_carriers⟩
  have d_law_random : D l.prog w K mg base "_law_random" 1 (sp_random K) := ⟨_, rOf (ok_law_random b_abs F_law_random) B_law_random, k_law_random, PySem.W.mg_of X G a_law_random⟩
  have d_law_below : D l.prog w K mg base "_law_below" 1 sp_below := ⟨_, rOf (ok_law_below b_len F_law_below) B_law_below, k_law_below, PySem.W.mg_of X G a_law_below⟩
  have d_law_turn : D l.prog w K mg base "_law_turn" 2 (sp_draw fun H r => ∃ t, IsT K H r t ∧ TurnIn t) := ⟨_, rOf (ok_law_turn d_law_below F_law_turn) B_law_turn, k_law_turn, PySem.W.mg_of X G a_law_turn⟩
  have d_law_common : D l.prog w K mg base "_law_common" 1 sp_gcd := ⟨_, rOf (ok_law_common b_abs F_law_common) B_law_common, k_law_common, PySem.W.mg_of X G a_law_common⟩
  have d_law_lowest : D l.prog w K mg base "_law_lowest" 2 (sp_low K) := ⟨_, rOf (ok_law_lowest d_law_common F_law_lowest) B_law_lowest, k_law_lowest, PySem.W.mg_of X G a_law_lowest⟩
  have d_law_spot : D l.prog w K mg base "_law_spot" 3 (sp_draw fun H r => ∃ t, IsT K H r t ∧ SpotIn t) := ⟨_, rOf (ok_law_spot d_law_below d_law_lowest F_law_spot) B_law_spot, k_law_spot, PySem.W.mg_of X G a_law_spot⟩
  have d_law_told : D l.prog w K mg base "_law_told" 4 (sp_draw fun H r => ∃ c, IsD K H r c ∧ CopyIn c) := ⟨_, rOf (ok_law_told d_law_below d_law_turn d_law_spot F_law_told) B_law_told, k_law_told, PySem.W.mg_of X G a_law_told⟩
  have d_law_over : D l.prog w K mg base "_law_over" 1 (sp_one K over) := ⟨_, rOf (ok_law_over F_law_over) B_law_over, k_law_over, PySem.W.mg_of X G a_law_over⟩
  have d_law_plus : D l.prog w K mg base "_law_plus" 3 (sp_two K plus) := ⟨_, rOf (ok_law_plus d_law_lowest F_law_plus) B_law_plus, k_law_plus, PySem.W.mg_of X G a_law_plus⟩
  have d_law_minus : D l.prog w K mg base "_law_minus" 4 (sp_two K minus) := ⟨_, rOf (ok_law_minus d_law_plus F_law_minus) B_law_minus, k_law_minus, PySem.W.mg_of X G a_law_minus⟩
  have d_law_times : D l.prog w K mg base "_law_times" 3 (sp_two K times) := ⟨_, rOf (ok_law_times d_law_lowest F_law_times) B_law_times, k_law_times, PySem.W.mg_of X G a_law_times⟩
  have d_law_carried : D l.prog w K mg base "_law_carried" 4 (sp_lcar K) := ⟨_, rOf (ok_law_carried d_law_plus d_law_times d_law_over F_law_carried) B_law_carried, k_law_carried, PySem.W.mg_of X G a_law_carried⟩
  have d_law_shown : D l.prog w K mg base "_law_shown" 3 (sp_shown K C) := ⟨_, rOf (ok_law_shown m_pt m_ps m_pm F_law_shown) B_law_shown, k_law_shown, PySem.W.mg_of X G a_law_shown⟩
  have d_law_shuffled : D l.prog w K mg base "_law_shuffled" 2 (sp_shuf K) := ⟨_, rOf (ok_law_shuffled b_list b_len d_law_below F_law_shuffled) B_law_shuffled, k_law_shuffled, PySem.W.mg_of X G a_law_shuffled⟩
  exact ok_law (C := C) (Cs := fun j => [e0, e1, e2, e3, e4, e5, e6, e7, e8, e9, e10, e11, e12, e13, e14, e15, e16, e17, e18, e19].getD j 0) b_range b_isinstance b_ValueError b_len b_tuple b_set b_sorted m_B ER m_E k_law_error_of l_law_error_of c_law_error_of B_law_error_of d_law_random d_law_below d_law_told d_law_spot d_law_carried d_law_plus d_law_times d_law_minus d_law_shown d_law_shuffled d_carriers d_carriersF d_carriersS (TB _ (.head _)) l_law c_law
end My
open PySem PySem.W PyProof.Rows in
set_option maxRecDepth 100000 in
set_option maxHeartbeats 0 in
theorem PySem.Challenge.cw_copyarms_k08_copies_that_carry_holds : PySem.Challenge.rw_copyarms_k08_copies_that_carry.Holds := by
  w_on; o_law; k_head; (case hw => w_witness2)
  k_fill
  refine LamX.walk_ofOwn (l := PySem.Challenge.rw_copyarms_k08_copies_that_carry) (n := 63) (k := 10) (x := "_law_script") (CX := fun _ => L2.CX0) rfl (by decide) rfl ⟨rfl, by decide, by decide⟩ ?R (fun w h Y => by first | exact PySem.W.km_in_of Y | exact PySem.W.kIn_of Y) ?F (fun _ _ _ _ _ z => z)
  case R => first | rfl | decide +kernel
  case F =>
    intro w mg fa h Y KX G hmg own
    refine' My.all_mk KX G hmg own ?z_abs ?z_len ?z_isinstance ?z_int ?z_bool ?z_str ?z_tuple ?z_list ?z_all ?z_any ?z_range ?z_ValueError ?z_set ?z_sorted ?m_MIDDLE ?u_MIDDLE ?g_CB ?ge_0 ?ge_1 ?ge_2 ?ge_3 ?ge_4 ?ge_5 ?ge_6 ?ge_7 ?ge_8 ?ge_9 ?ge_10 ?ge_11 ?ge_12 ?ge_13 ?ge_14 ?ge_15 ?ge_16 ?ge_17 ?ge_18 ?ge_19 ?xc_n ?xc_t ?xg_0 ?xk_0 ?xs_0 ?xd_0 ?xa_0 ?xm_0 ?kt_0_0 ?kt_0_1 ?kt_0_2 ?kt_0_3 ?kt_0_4 ?kt_0_5 ?kt_0_6 ?kt_0_7 ?kt_0_8 ?kt_0_9 ?kt_0_10 ?kt_0_11 ?kt_0_12 ?kt_0_13 ?kt_0_14 ?kt_0_15 ?kt_0_16 ?kt_0_17 ?kt_0_18 ?kt_0_19 ?kv_0 ?xx_0 ?xq_0 ?xp_0 ?xt_0 ?xg_3 ?xk_3 ?xs_3 ?xd_3 ?xa_3 ?xm_3 ?kt_3_0 ?kt_3_1 ?kt_3_2 ?kt_3_3 ?kt_3_4 ?kt_3_5 ?kt_3_6 ?kt_3_7 ?kt_3_8 ?kt_3_9 ?kt_3_10 ?kt_3_11 ?kt_3_12 ?kt_3_13 ?kt_3_14 ?kt_3_15 ?kt_3_16 ?kt_3_17 ?kt_3_18 ?kt_3_19 ?kv_3 ?xx_3 ?xq_3 ?xp_3 ?xt_3 ?a_law_error_of ?l_law_error_of ?c_law_error_of ?k_law_error_of ?a_common_divisor ?l_common_divisor ?c_common_divisor ?k_common_divisor ?a_is_whole ?l_is_whole ?c_is_whole ?k_is_whole ?a_is_spot ?l_is_spot ?c_is_spot ?k_is_spot ?a_check_spot ?l_check_spot ?c_check_spot ?k_check_spot ?a_check_turn ?l_check_turn ?c_check_turn ?k_check_turn ?a_spot_at ?l_spot_at ?c_spot_at ?k_spot_at ?a_plus ?l_plus ?c_plus ?k_plus ?a_negative ?l_negative ?c_negative ?k_negative ?a_minus ?l_minus ?c_minus ?k_minus ?a_product ?l_product ?c_product ?k_product ?a_inverse ?l_inverse ?c_inverse ?k_inverse ?a_faced ?l_faced ?c_faced ?k_faced ?a_carried ?l_carried ?c_carried ?k_carried ?aC ?inI ?l_Copy___init__ ?c_Copy___init__ ?k_Copy___init__ ?kw_init ?pg ?hdC ?po ?sa ?mkC ?kc ?isI ?nF ?nO ?nL ?ha ?hn ?htk ?hmo ?sf ?a_Copy_turn ?g_Copy_turn ?t_Copy_turn ?r_Copy_turn ?l_Copy_turn ?c_Copy_turn ?k_Copy_turn ?a_Copy_shift ?g_Copy_shift ?t_Copy_shift ?r_Copy_shift ?l_Copy_shift ?c_Copy_shift ?k_Copy_shift ?a_Copy_mirrored ?g_Copy_mirrored ?t_Copy_mirrored ?r_Copy_mirrored ?l_Copy_mirrored ?c_Copy_mirrored ?k_Copy_mirrored ?a_carriers_by ?l_carriers_by ?c_carriers_by ?k_carriers_by ?a_carriers ?l_carriers ?c_carriers ?k_carriers ?a_law_random ?l_law_random ?c_law_random ?k_law_random ?a_law_below ?l_law_below ?c_law_below ?k_law_below ?a_law_turn ?l_law_turn ?c_law_turn ?k_law_turn ?a_law_common ?l_law_common ?c_law_common ?k_law_common ?a_law_lowest ?l_law_lowest ?c_law_lowest ?k_law_lowest ?a_law_spot ?l_law_spot ?c_law_spot ?k_law_spot ?a_law_told ?l_law_told ?c_law_told ?k_law_told ?a_law_over ?l_law_over ?c_law_over ?k_law_over ?a_law_plus ?l_law_plus ?c_law_plus ?k_law_plus ?a_law_minus ?l_law_minus ?c_law_minus ?k_law_minus ?a_law_times ?l_law_times ?c_law_times ?k_law_times ?a_law_carried ?l_law_carried ?c_law_carried ?k_law_carried ?a_law_shown ?l_law_shown ?c_law_shown ?k_law_shown ?a_law_shuffled ?l_law_shuffled ?c_law_shuffled ?k_law_shuffled ?a_law ?l_law ?c_law ?q_law ?v_law ?n_law ?h_law
    (case z_abs => k_is)
    (case z_len => k_is)
    (case z_isinstance => k_is)
    (case z_int => k_is)
    (case z_bool => k_is)
    (case z_str => k_is)
    (case z_tuple => k_is)
    (case z_list => k_is)
    (case z_all => k_is)
    (case z_any => k_is)
    (case z_range => k_is)
    (case z_ValueError => k_is)
    (case z_set => k_is)
    (case z_sorted => k_is)
    (case m_MIDDLE => k_is)
    (case u_MIDDLE => k_is)
    (case g_CB => k_is)
    (case ge_0 => k_is)
    (case ge_1 => k_is)
    (case ge_2 => k_is)
    (case ge_3 => k_is)
    (case ge_4 => k_is)
    (case ge_5 => k_is)
    (case ge_6 => k_is)
    (case ge_7 => k_is)
    (case ge_8 => k_is)
    (case ge_9 => k_is)
    (case ge_10 => k_is)
    (case ge_11 => k_is)
    (case ge_12 => k_is)
    (case ge_13 => k_is)
    (case ge_14 => k_is)
    (case ge_15 => k_is)
    (case ge_16 => k_is)
    (case ge_17 => k_is)
    (case ge_18 => k_is)
    (case ge_19 => k_is)
    (case xc_n => k_is)
    (case xc_t => k_is)
    (case xg_0 => k_is)
    (case xk_0 => k_is)
    (case xs_0 => k_is)
    (case xd_0 => k_is)
    (case xa_0 => k_is)
    (case xm_0 => k_is)
    (case kt_0_0 => first | kernel_rfl | rfl | decide +kernel)
    (case kt_0_1 => first | kernel_rfl | rfl | decide +kernel)
    (case kt_0_2 => first | kernel_rfl | rfl | decide +kernel)
    (case kt_0_3 => first | kernel_rfl | rfl | decide +kernel)
    (case kt_0_4 => first | kernel_rfl | rfl | decide +kernel)
    (case kt_0_5 => first | kernel_rfl | rfl | decide +kernel)
    (case kt_0_6 => first | kernel_rfl | rfl | decide +kernel)
    (case kt_0_7 => first | kernel_rfl | rfl | decide +kernel)
    (case kt_0_8 => first | kernel_rfl | rfl | decide +kernel)
    (case kt_0_9 => first | kernel_rfl | rfl | decide +kernel)
    (case kt_0_10 => first | kernel_rfl | rfl | decide +kernel)
    (case kt_0_11 => first | kernel_rfl | rfl | decide +kernel)
    (case kt_0_12 => first | kernel_rfl | rfl | decide +kernel)
    (case kt_0_13 => first | kernel_rfl | rfl | decide +kernel)
    (case kt_0_14 => first | kernel_rfl | rfl | decide +kernel)
    (case kt_0_15 => first | kernel_rfl | rfl | decide +kernel)
    (case kt_0_16 => first | kernel_rfl | rfl | decide +kernel)
    (case kt_0_17 => first | kernel_rfl | rfl | decide +kernel)
    (case kt_0_18 => first | kernel_rfl | rfl | decide +kernel)
    (case kt_0_19 => first | kernel_rfl | rfl | decide +kernel)
    (case kv_0 => first | kernel_rfl | rfl | decide +kernel)
    (case xx_0 => first | kernel_rfl | rfl | decide +kernel)
    (case xq_0 => k_exc)
    (case xp_0 => k_is)
    (case xt_0 => k_is)
    (case xg_3 => k_is)
    (case xk_3 => k_is)
    (case xs_3 => k_is)
    (case xd_3 => k_is)
    (case xa_3 => k_is)
    (case xm_3 => k_is)
    (case kt_3_0 => first | kernel_rfl | rfl | decide +kernel)
    (case kt_3_1 => first | kernel_rfl | rfl | decide +kernel)
    (case kt_3_2 => first | kernel_rfl | rfl | decide +kernel)
    (case kt_3_3 => first | kernel_rfl | rfl | decide +kernel)
    (case kt_3_4 => first | kernel_rfl | rfl | decide +kernel)
    (case kt_3_5 => first | kernel_rfl | rfl | decide +kernel)
    (case kt_3_6 => first | kernel_rfl | rfl | decide +kernel)
    (case kt_3_7 => first | kernel_rfl | rfl | decide +kernel)
    (case kt_3_8 => first | kernel_rfl | rfl | decide +kernel)
    (case kt_3_9 => first | kernel_rfl | rfl | decide +kernel)
    (case kt_3_10 => first | kernel_rfl | rfl | decide +kernel)
    (case kt_3_11 => first | kernel_rfl | rfl | decide +kernel)
    (case kt_3_12 => first | kernel_rfl | rfl | decide +kernel)
    (case kt_3_13 => first | kernel_rfl | rfl | decide +kernel)
    (case kt_3_14 => first | kernel_rfl | rfl | decide +kernel)
    (case kt_3_15 => first | kernel_rfl | rfl | decide +kernel)
    (case kt_3_16 => first | kernel_rfl | rfl | decide +kernel)
    (case kt_3_17 => first | kernel_rfl | rfl | decide +kernel)
    (case kt_3_18 => first | kernel_rfl | rfl | decide +kernel)
    (case kt_3_19 => first | kernel_rfl | rfl | decide +kernel)
    (case kv_3 => first | kernel_rfl | rfl | decide +kernel)
    (case xx_3 => first | kernel_rfl | rfl | decide +kernel)
    (case xq_3 => k_exc)
    (case xp_3 => k_is)
    (case xt_3 => k_is)
    (case a_law_error_of => k_is)
    (case l_law_error_of => k_is)
    (case c_law_error_of => k_is)
    (case k_law_error_of => k_is)
    (case a_common_divisor => k_is)
    (case l_common_divisor => k_is)
    (case c_common_divisor => k_is)
    (case k_common_divisor => k_is)
    (case a_is_whole => k_is)
    (case l_is_whole => k_is)
    (case c_is_whole => k_is)
    (case k_is_whole => k_is)
    (case a_is_spot => k_is)
    (case l_is_spot => k_is)
    (case c_is_spot => k_is)
    (case k_is_spot => k_is)
    (case a_check_spot => k_is)
    (case l_check_spot => k_is)
    (case c_check_spot => k_is)
    (case k_check_spot => k_is)
    (case a_check_turn => k_is)
    (case l_check_turn => k_is)
    (case c_check_turn => k_is)
    (case k_check_turn => k_is)
    (case a_spot_at => k_is)
    (case l_spot_at => k_is)
    (case c_spot_at => k_is)
    (case k_spot_at => k_is)
    (case a_plus => k_is)
    (case l_plus => k_is)
    (case c_plus => k_is)
    (case k_plus => k_is)
    (case a_negative => k_is)
    (case l_negative => k_is)
    (case c_negative => k_is)
    (case k_negative => k_is)
    (case a_minus => k_is)
    (case l_minus => k_is)
    (case c_minus => k_is)
    (case k_minus => k_is)
    (case a_product => k_is)
    (case l_product => k_is)
    (case c_product => k_is)
    (case k_product => k_is)
    (case a_inverse => k_is)
    (case l_inverse => k_is)
    (case c_inverse => k_is)
    (case k_inverse => k_is)
    (case a_faced => k_is)
    (case l_faced => k_is)
    (case c_faced => k_is)
    (case k_faced => k_is)
    (case a_carried => k_is)
    (case l_carried => k_is)
    (case c_carried => k_is)
    (case k_carried => k_is)
    (case aC => k_is)
    (case inI => k_is)
    (case l_Copy___init__ => k_is)
    (case c_Copy___init__ => k_is)
    (case k_Copy___init__ => k_is)
    (case kw_init => k_is)
    (case pg => k_is)
    (case hdC => k_is)
    (case po => k_is)
    (case sa => k_is)
    (case mkC => k_is)
    (case kc => k_is)
    (case isI => k_is)
    (case nF => k_is)
    (case nO => k_is)
    (case nL => k_is)
    (case ha => k_is)
    (case hn => k_is)
    (case htk => k_is)
    (case hmo => k_is)
    (case sf => k_is)
    (case a_Copy_turn => k_is)
    (case g_Copy_turn => k_is)
    (case t_Copy_turn => k_is)
    (case r_Copy_turn => k_is)
    (case l_Copy_turn => k_is)
    (case c_Copy_turn => k_is)
    (case k_Copy_turn => k_is)
    (case a_Copy_shift => k_is)
    (case g_Copy_shift => k_is)
    (case t_Copy_shift => k_is)
    (case r_Copy_shift => k_is)
    (case l_Copy_shift => k_is)
    (case c_Copy_shift => k_is)
    (case k_Copy_shift => k_is)
    (case a_Copy_mirrored => k_is)
    (case g_Copy_mirrored => k_is)
    (case t_Copy_mirrored => k_is)
    (case r_Copy_mirrored => k_is)
    (case l_Copy_mirrored => k_is)
    (case c_Copy_mirrored => k_is)
    (case k_Copy_mirrored => k_is)
    (case a_carriers_by => k_is)
    (case l_carriers_by => k_is)
    (case c_carriers_by => k_is)
    (case k_carriers_by => k_is)
    (case a_carriers => k_is)
    (case l_carriers => k_is)
    (case c_carriers => k_is)
    (case k_carriers => k_is)
    (case a_law_random => k_is)
    (case l_law_random => k_is)
    (case c_law_random => k_is)
    (case k_law_random => k_is)
    (case a_law_below => k_is)
    (case l_law_below => k_is)
    (case c_law_below => k_is)
    (case k_law_below => k_is)
    (case a_law_turn => k_is)
    (case l_law_turn => k_is)
    (case c_law_turn => k_is)
    (case k_law_turn => k_is)
    (case a_law_common => k_is)
    (case l_law_common => k_is)
    (case c_law_common => k_is)
    (case k_law_common => k_is)
    (case a_law_lowest => k_is)
    (case l_law_lowest => k_is)
    (case c_law_lowest => k_is)
    (case k_law_lowest => k_is)
    (case a_law_spot => k_is)
    (case l_law_spot => k_is)
    (case c_law_spot => k_is)
    (case k_law_spot => k_is)
    (case a_law_told => k_is)
    (case l_law_told => k_is)
    (case c_law_told => k_is)
    (case k_law_told => k_is)
    (case a_law_over => k_is)
    (case l_law_over => k_is)
    (case c_law_over => k_is)
    (case k_law_over => k_is)
    (case a_law_plus => k_is)
    (case l_law_plus => k_is)
    (case c_law_plus => k_is)
    (case k_law_plus => k_is)
    (case a_law_minus => k_is)
    (case l_law_minus => k_is)
    (case c_law_minus => k_is)
    (case k_law_minus => k_is)
    (case a_law_times => k_is)
    (case l_law_times => k_is)
    (case c_law_times => k_is)
    (case k_law_times => k_is)
    (case a_law_carried => k_is)
    (case l_law_carried => k_is)
    (case c_law_carried => k_is)
    (case k_law_carried => k_is)
    (case a_law_shown => k_is)
    (case l_law_shown => k_is)
    (case c_law_shown => k_is)
    (case k_law_shown => k_is)
    (case a_law_shuffled => k_is)
    (case l_law_shuffled => k_is)
    (case c_law_shuffled => k_is)
    (case k_law_shuffled => k_is)
    (case a_law => k_is)
    (case l_law => k_is)
    (case c_law => k_is)
    (case q_law => k_is)
    (case v_law => first | exact rfl | (with_unfolding_all exact rfl) | (simp; rfl))
    (case n_law => first | k_is | kernel_rfl | rfl)
    (case h_law => first | kernel_rfl | rfl | decide +kernel)
#print axioms PySem.Challenge.cw_copyarms_k08_copies_that_carry_holds
