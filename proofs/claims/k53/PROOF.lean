import PyProof.Rows.All
import Wide.All
import OpenK.AllK
import Wide.FinOn
import HandS.ForMost
import HandS.ForExc
import HandS.Flow
import HandS.Style
import HandS.Wide
import HandS.Property
import HandS.Star
import HandS.MakeKw
import HandS.MakeKwOnly
import HandS.OwnEq
import HandS.IsInst
import HandS.Defaults
import HandS.TryOnly
import HandS.NoneIn
import HandS.TupSets
import HandS.Deep
import KE.KRevSl
import HandS.TupAny
import KE.SortData
import PySem.Challenge.RW_copyarms_k53_whole_kept_spots_seen_from
set_option Elab.async false
set_option linter.all false
set_option maxRecDepth 100000
set_option maxHeartbeats 4000000
set_option exponentiation.threshold 100000
namespace Mth
/-! ### numbers of two parts, in lowest terms -/
abbrev T3 := Int × Int × Int
def g3 (x y d : Int) : Int := ((Int.gcd ((Int.gcd x y : Nat) : Int) d : Nat) : Int)
def sg (x y d : Int) : Int := if d < 0 then -(g3 x y d) else g3 x y d
def low (x y d : Int) : T3 := (x.fdiv (sg x y d), y.fdiv (sg x y d), d.fdiv (sg x y d))
def Ok (s : T3) : Prop := 0 < s.2.2 ∧ g3 s.1 s.2.1 s.2.2 = 1
def re (s : T3) : Rat := (s.1 : Rat) / (s.2.2 : Rat)
def im (s : T3) : Rat := (s.2.1 : Rat) / (s.2.2 : Rat)
theorem g3_pos {x y d : Int} (hd : d ≠ 0) : 0 < g3 x y d := by
  unfold g3
  have : 0 < Int.gcd ((Int.gcd x y : Nat) : Int) d := Int.gcd_pos_of_ne_zero_right _ hd
  omega
theorem g3_dx {x y d : Int} : g3 x y d ∣ x := Int.dvd_trans (Int.gcd_dvd_left _ _) (Int.gcd_dvd_left _ _)
theorem g3_dy {x y d : Int} : g3 x y d ∣ y := Int.dvd_trans (Int.gcd_dvd_left _ _) (Int.gcd_dvd_right _ _)
theorem g3_dd {x y d : Int} : g3 x y d ∣ d := Int.gcd_dvd_right _ _
theorem g3_great {x y d c : Int} (h1 : c ∣ x) (h2 : c ∣ y) (h3 : c ∣ d) : c ∣ g3 x y d := Int.dvd_coe_gcd (Int.dvd_coe_gcd h1 h2) h3
theorem sg_ne {x y d : Int} (hd : d ≠ 0) : sg x y d ≠ 0 := by
  have := g3_pos (x := x) (y := y) hd
  unfold sg; split <;> omega
theorem sg_of {x y d : Int} : sg x y d = g3 x y d ∨ sg x y d = -g3 x y d := by unfold sg; split <;> simp
theorem sg_dx {x y d : Int} : sg x y d ∣ x := by rcases @sg_of x y d with h | h <;> rw [h]; exact g3_dx; exact Int.neg_dvd.mpr g3_dx
theorem sg_dy {x y d : Int} : sg x y d ∣ y := by rcases @sg_of x y d with h | h <;> rw [h]; exact g3_dy; exact Int.neg_dvd.mpr g3_dy
theorem sg_dd {x y d : Int} : sg x y d ∣ d := by rcases @sg_of x y d with h | h <;> rw [h]; exact g3_dd; exact Int.neg_dvd.mpr g3_dd
/-- the three parts, times the divisor -/
theorem low_mul (x y d : Int) : x = sg x y d * (low x y d).1 ∧ y = sg x y d * (low x y d).2.1 ∧ d = sg x y d * (low x y d).2.2 := by
  unfold low
  refine ⟨?_, ?_, ?_⟩ <;> dsimp only
  · rw [Int.fdiv_eq_ediv_of_dvd sg_dx]; exact (Int.mul_ediv_cancel' sg_dx).symm
  · rw [Int.fdiv_eq_ediv_of_dvd sg_dy]; exact (Int.mul_ediv_cancel' sg_dy).symm
  · rw [Int.fdiv_eq_ediv_of_dvd sg_dd]; exact (Int.mul_ediv_cancel' sg_dd).symm
theorem low_pos {x y d : Int} (hd : d ≠ 0) : 0 < (low x y d).2.2 := by
  have h := (low_mul x y d).2.2
  have hg := g3_pos (x := x) (y := y) hd
  generalize (low x y d).2.2 = z at h ⊢
  unfold sg at h
  rcases Int.lt_trichotomy z 0 with hz | hz | hz
  · exfalso
    split at h
    · have : 0 < (g3 x y d) * (-z) := Int.mul_pos hg (by omega)
      have e : g3 x y d * -z = - g3 x y d * z := by grind
      omega
    · have : 0 < (g3 x y d) * (-z) := Int.mul_pos hg (by omega)
      have e : g3 x y d * -z = - (g3 x y d * z) := by grind
      omega
  · subst hz; simp at h; exact absurd h hd
  · exact hz
theorem low_ok {x y d : Int} (hd : d ≠ 0) : Ok (low x y d) := by
  refine ⟨low_pos hd, ?_⟩
  obtain ⟨h1, h2, h3⟩ := low_mul x y d
  have hs := sg_ne (x := x) (y := y) hd
  have hp := low_pos (x := x) (y := y) hd
  generalize (low x y d).1 = a at *
  generalize (low x y d).2.1 = b at *
  generalize (low x y d).2.2 = c at *
  have hg := g3_pos (x := a) (y := b) (d := c) (by omega)
  have k1 : sg x y d * g3 a b c ∣ x := by
    obtain ⟨u, hu⟩ := @g3_dx a b c
    exact ⟨u, by rw [Int.mul_assoc, ← hu, ← h1]⟩
  have k2 : sg x y d * g3 a b c ∣ y := by
    obtain ⟨u, hu⟩ := @g3_dy a b c
    exact ⟨u, by rw [Int.mul_assoc, ← hu, ← h2]⟩
  have k3 : sg x y d * g3 a b c ∣ d := by
    obtain ⟨u, hu⟩ := @g3_dd a b c
    exact ⟨u, by rw [Int.mul_assoc, ← hu, ← h3]⟩
  have k := g3_great k1 k2 k3
  have k' : sg x y d * g3 a b c ∣ sg x y d := by
    rcases @sg_of x y d with h | h
    · rw [h] at k ⊢; exact k
    · rw [h]; rw [h] at k; exact (Int.dvd_neg).mpr k
  obtain ⟨u, hu⟩ := k'
  have e : g3 a b c * u = 1 := by
    have : sg x y d * (g3 a b c * u) = sg x y d * 1 := by rw [← Int.mul_assoc, ← hu, Int.mul_one]
    exact Int.eq_of_mul_eq_mul_left hs this
  exact Int.eq_one_of_dvd_one (by omega) ⟨u, e.symm⟩
theorem cast_ne {d : Int} (h : d ≠ 0) : (d : Rat) ≠ 0 := by simpa using h
theorem low_re {x y d : Int} (hd : d ≠ 0) : re (low x y d) = (x : Rat) / (d : Rat) := by
  obtain ⟨h1, h2, h3⟩ := low_mul x y d
  have hs := cast_ne (sg_ne (x := x) (y := y) hd)
  have hp := cast_ne (show (low x y d).2.2 ≠ 0 by have := low_pos (x := x) (y := y) hd; omega)
  unfold re
  have e1 : (x : Rat) = (sg x y d : Rat) * ((low x y d).1 : Rat) := by rw [← Rat.intCast_mul, ← h1]
  have e3 : (d : Rat) = (sg x y d : Rat) * ((low x y d).2.2 : Rat) := by rw [← Rat.intCast_mul, ← h3]
  generalize (sg x y d : Rat) = s at *
  generalize ((low x y d).1 : Rat) = a at *
  generalize ((low x y d).2.2 : Rat) = c at *
  grind
theorem low_im {x y d : Int} (hd : d ≠ 0) : im (low x y d) = (y : Rat) / (d : Rat) := by
  obtain ⟨h1, h2, h3⟩ := low_mul x y d
  have hs := cast_ne (sg_ne (x := x) (y := y) hd)
  have hp := cast_ne (show (low x y d).2.2 ≠ 0 by have := low_pos (x := x) (y := y) hd; omega)
  unfold im
  have e1 : (y : Rat) = (sg x y d : Rat) * ((low x y d).2.1 : Rat) := by rw [← Rat.intCast_mul, ← h2]
  have e3 : (d : Rat) = (sg x y d : Rat) * ((low x y d).2.2 : Rat) := by rw [← Rat.intCast_mul, ← h3]
  generalize (sg x y d : Rat) = s at *
  generalize ((low x y d).2.1 : Rat) = a at *
  generalize ((low x y d).2.2 : Rat) = c at *
  grind
theorem div_eq {a b c d : Int} (hb : b ≠ 0) (hd : d ≠ 0) (h : (a : Rat) / (b : Rat) = (c : Rat) / (d : Rat)) : a * d = c * b := by
  have h1 := cast_ne hb
  have h2 := cast_ne hd
  have : (a : Rat) * (d : Rat) = (c : Rat) * (b : Rat) := by grind
  rw [← Rat.intCast_mul, ← Rat.intCast_mul] at this
  exact Rat.intCast_inj.mp this
theorem dvd_of {s t : T3} (hs : Ok s) (ht : Ok t) (h1 : s.1 * t.2.2 = t.1 * s.2.2) (h2 : s.2.1 * t.2.2 = t.2.1 * s.2.2) : s.2.2 ∣ t.2.2 := by
  have a : s.2.2 ∣ s.1 * t.2.2 := ⟨t.1, by rw [h1, Int.mul_comm]⟩
  have b : s.2.2 ∣ s.2.1 * t.2.2 := ⟨t.2.1, by rw [h2, Int.mul_comm]⟩
  have c := Int.dvd_coe_gcd a b
  rw [Int.gcd_mul_right] at c
  have d : s.2.2 ∣ s.2.2 * ((t.2.2.natAbs : Nat) : Int) := ⟨_, rfl⟩
  have c' : s.2.2 ∣ ((Int.gcd s.1 s.2.1 : Nat) : Int) * ((t.2.2.natAbs : Nat) : Int) := by rw [← Int.natCast_mul]; exact c
  have e := Int.dvd_coe_gcd c' d
  rw [Int.gcd_mul_right] at e
  have g := hs.2
  unfold g3 at g
  have g' : Int.gcd ((Int.gcd s.1 s.2.1 : Nat) : Int) s.2.2 = 1 := by omega
  rw [g'] at e
  have ht2 := ht.1
  have e2 : (((1 * ((t.2.2.natAbs : Nat) : Int).natAbs : Nat)) : Int) = t.2.2 := by omega
  rw [e2] at e
  exact e
theorem ext {s t : T3} (hs : Ok s) (ht : Ok t) (h1 : re s = re t) (h2 : im s = im t) : s = t := by
  have ps := hs.1
  have pt := ht.1
  have e1 := div_eq (by omega) (by omega) h1
  have e2 := div_eq (by omega) (by omega) h2
  have d1 := dvd_of hs ht e1 e2
  have d2 := dvd_of ht hs e1.symm e2.symm
  have e3 : s.2.2 = t.2.2 := Int.le_antisymm (Int.le_of_dvd pt d1) (Int.le_of_dvd ps d2)
  obtain ⟨a, b, c⟩ := s
  obtain ⟨u, v, w⟩ := t
  dsimp only at *
  subst e3
  have q1 := Int.eq_of_mul_eq_mul_right (by omega) e1
  have q2 := Int.eq_of_mul_eq_mul_right (by omega) e2
  rw [q1, q2]
/-! ### reckoning -/
def plus (a b : T3) : T3 := low (a.1 * b.2.2 + b.1 * a.2.2) (a.2.1 * b.2.2 + b.2.1 * a.2.2) (a.2.2 * b.2.2)
def times (a b : T3) : T3 := low (a.1 * b.1 - a.2.1 * b.2.1) (a.1 * b.2.1 + a.2.1 * b.1) (a.2.2 * b.2.2)
def over (a : T3) : T3 := (a.1, -a.2.1, a.2.2)
def neg (a : T3) : T3 := (-a.1, -a.2.1, a.2.2)
def inv (a : T3) : T3 := low (a.1 * a.2.2) (-a.2.1 * a.2.2) (a.1 * a.1 + a.2.1 * a.2.1)
def face (a : T3) (m : Bool) : T3 := if m = true then over a else a
def car (t s : T3) (m : Bool) (z : T3) : T3 := plus (times t (face z m)) s
theorem Ok.ne {a : T3} (h : Ok a) : a.2.2 ≠ 0 := by have := h.1; omega
theorem mul_ne {a b : Int} (ha : a ≠ 0) (hb : b ≠ 0) : a * b ≠ 0 := fun h => (Int.mul_eq_zero.mp h).elim ha hb
theorem plus_ok {a b : T3} (ha : Ok a) (hb : Ok b) : Ok (plus a b) := low_ok (mul_ne ha.ne hb.ne)
theorem times_ok {a b : T3} (ha : Ok a) (hb : Ok b) : Ok (times a b) := low_ok (mul_ne ha.ne hb.ne)
theorem over_ok {a : T3} (ha : Ok a) : Ok (over a) := by
  refine ⟨ha.1, ?_⟩
  have h := ha.2
  unfold g3 over at *
  dsimp only at *
  rw [Int.gcd_neg]; exact h
theorem neg_ok {a : T3} (ha : Ok a) : Ok (neg a) := by
  refine ⟨ha.1, ?_⟩
  have h := ha.2
  unfold g3 neg at *
  dsimp only at *
  rw [Int.gcd_neg, Int.neg_gcd]; exact h
theorem face_ok {a : T3} (ha : Ok a) (m : Bool) : Ok (face a m) := by
  unfold face; split
  · exact over_ok ha
  · exact ha
theorem car_ok {t s z : T3} {m : Bool} (ht : Ok t) (hs : Ok s) (hz : Ok z) : Ok (car t s m z) := plus_ok (times_ok ht (face_ok hz m)) hs
def Nz (a : T3) : Prop := a.1 ≠ 0 ∨ a.2.1 ≠ 0
theorem sq_ne {a : T3} (h : Nz a) : a.1 * a.1 + a.2.1 * a.2.1 ≠ 0 := by
  have h1 : 0 ≤ a.1 * a.1 := by rcases Int.le_total 0 a.1 with h | h; exact Int.mul_nonneg h h; exact Int.mul_nonneg_of_nonpos_of_nonpos h h
  have h2 : 0 ≤ a.2.1 * a.2.1 := by rcases Int.le_total 0 a.2.1 with h | h; exact Int.mul_nonneg h h; exact Int.mul_nonneg_of_nonpos_of_nonpos h h
  rcases h with h | h
  · have := mul_ne h h; omega
  · have := mul_ne h h; omega
theorem inv_ok {a : T3} (h : Nz a) : Ok (inv a) := low_ok (sq_ne h)
theorem re_plus {a b : T3} (ha : Ok a) (hb : Ok b) : re (plus a b) = re a + re b := by
  unfold plus
  rw [low_re (mul_ne ha.ne hb.ne)]
  have h1 := cast_ne ha.ne
  have h2 := cast_ne hb.ne
  unfold re
  simp only [Rat.intCast_add, Rat.intCast_mul]
  grind
theorem im_plus {a b : T3} (ha : Ok a) (hb : Ok b) : im (plus a b) = im a + im b := by
  unfold plus
  rw [low_im (mul_ne ha.ne hb.ne)]
  have h1 := cast_ne ha.ne
  have h2 := cast_ne hb.ne
  unfold im
  simp only [Rat.intCast_add, Rat.intCast_mul]
  grind
theorem re_times {a b : T3} (ha : Ok a) (hb : Ok b) : re (times a b) = re a * re b - im a * im b := by
  unfold times
  rw [low_re (mul_ne ha.ne hb.ne)]
  have h1 := cast_ne ha.ne
  have h2 := cast_ne hb.ne
  unfold re im
  simp only [Rat.intCast_sub, Rat.intCast_mul]
  grind
theorem im_times {a b : T3} (ha : Ok a) (hb : Ok b) : im (times a b) = re a * im b + im a * re b := by
  unfold times
  rw [low_im (mul_ne ha.ne hb.ne)]
  have h1 := cast_ne ha.ne
  have h2 := cast_ne hb.ne
  unfold re im
  simp only [Rat.intCast_add, Rat.intCast_mul]
  grind
theorem re_over (a : T3) : re (over a) = re a := rfl
theorem im_over (a : T3) : im (over a) = - im a := by
  unfold im over
  simp only [Rat.intCast_neg]
  grind
theorem re_neg (a : T3) : re (neg a) = - re a := by
  unfold re neg
  simp only [Rat.intCast_neg]
  grind
theorem im_neg (a : T3) : im (neg a) = - im a := by
  unfold im neg
  simp only [Rat.intCast_neg]
  grind
theorem re_face (a : T3) (m : Bool) : re (face a m) = re a := by
  unfold face; split <;> first | exact re_over a | rfl
theorem im_face (a : T3) (m : Bool) : im (face a m) = (if m = true then -1 else 1) * im a := by
  unfold face; split
  · rw [im_over]; grind
  · grind
/-- the square of the size -/
def nn (a : T3) : Rat := re a * re a + im a * im a
theorem nn_eq {a : T3} (ha : Ok a) : nn a * ((a.2.2 : Rat) * (a.2.2 : Rat)) = ((a.1 * a.1 + a.2.1 * a.2.1 : Int) : Rat) := by
  have h1 := cast_ne ha.ne
  unfold nn re im
  simp only [Rat.intCast_add, Rat.intCast_mul]
  grind
theorem nn_ne {a : T3} (ha : Ok a) (h : Nz a) : nn a ≠ 0 := by
  intro e
  have q := nn_eq ha
  rw [e] at q
  have : ((a.1 * a.1 + a.2.1 * a.2.1 : Int) : Rat) = 0 := by rw [← q]; grind
  exact cast_ne (sq_ne h) this
theorem re_inv {a : T3} (ha : Ok a) (h : Nz a) : re (inv a) = re a / nn a := by
  have q := nn_eq ha
  have n := nn_ne ha h
  have h1 := cast_ne ha.ne
  have h2 := cast_ne (sq_ne h)
  unfold inv
  rw [low_re (sq_ne h), ← q]
  unfold re
  simp only [Rat.intCast_mul]
  rw [← q] at h2
  generalize nn a = k at *
  grind
theorem im_inv {a : T3} (ha : Ok a) (h : Nz a) : im (inv a) = - im a / nn a := by
  have q := nn_eq ha
  have n := nn_ne ha h
  have h1 := cast_ne ha.ne
  have h2 := cast_ne (sq_ne h)
  unfold inv
  rw [low_im (sq_ne h), ← q]
  unfold im
  simp only [Rat.intCast_mul, Rat.intCast_neg]
  rw [← q] at h2
  generalize nn a = k at *
  grind
theorem nz_iff {a : T3} (ha : Ok a) : Nz a ↔ nn a ≠ 0 := by
  refine ⟨nn_ne ha, fun h => ?_⟩
  by_cases h1 : a.1 = 0
  · by_cases h2 : a.2.1 = 0
    · exfalso; apply h; unfold nn re im; rw [h1, h2]; grind
    · exact .inr h2
  · exact .inl h1
theorem nn_times {a b : T3} (ha : Ok a) (hb : Ok b) : nn (times a b) = nn a * nn b := by
  unfold nn; rw [re_times ha hb, im_times ha hb]; grind
theorem nn_face (a : T3) (m : Bool) : nn (face a m) = nn a := by
  unfold nn; rw [re_face, im_face]; split <;> grind
theorem nn_inv {a : T3} (ha : Ok a) (h : Nz a) : nn (inv a) = 1 / nn a := by
  have n := nn_ne ha h
  have e : nn (inv a) = (re a / nn a) * (re a / nn a) + (- im a / nn a) * (- im a / nn a) := by
    rw [← re_inv ha h, ← im_inv ha h]; rfl
  rw [e]
  have q : nn a = re a * re a + im a * im a := rfl
  generalize nn a = k at *
  grind
theorem times_nz {a b : T3} (ha : Ok a) (hb : Ok b) (na : Nz a) (nb : Nz b) : Nz (times a b) := (nz_iff (times_ok ha hb)).mpr (by
  rw [nn_times ha hb]
  have := nn_ne ha na
  have := nn_ne hb nb
  grind)
theorem face_nz {a : T3} (ha : Ok a) (na : Nz a) (m : Bool) : Nz (face a m) := (nz_iff (face_ok ha m)).mpr (by rw [nn_face]; exact nn_ne ha na)
theorem inv_nz {a : T3} (ha : Ok a) (na : Nz a) : Nz (inv a) := (nz_iff (inv_ok na)).mpr (by
  rw [nn_inv ha na]
  have := nn_ne ha na
  grind)
/-! ### copies -/
structure Cp where
  t : T3
  s : T3
  m : Bool
  deriving DecidableEq
structure CpOk (c : Cp) : Prop where
  t : Ok c.t
  n : Nz c.t
  s : Ok c.s
def ap (c : Cp) (z : T3) : T3 := car c.t c.s c.m z
def jn (a b : Cp) : Cp := ⟨times b.t (face a.t b.m), car b.t b.s b.m a.s, a.m != b.m⟩
def bk (c : Cp) : Cp := ⟨face (inv c.t) c.m, face (neg (times (inv c.t) c.s)) c.m, c.m⟩
def still : Cp := ⟨(1, 0, 1), (0, 0, 1), false⟩
theorem still_ok : CpOk still := ⟨⟨by decide, by decide⟩, .inl (by decide), ⟨by decide, by decide⟩⟩
theorem jn_ok {a b : Cp} (ha : CpOk a) (hb : CpOk b) : CpOk (jn a b) :=
  ⟨times_ok hb.t (face_ok ha.t _), times_nz hb.t (face_ok ha.t _) hb.n (face_nz ha.t ha.n _), car_ok hb.t hb.s ha.s⟩
theorem bk_ok {c : Cp} (h : CpOk c) : CpOk (bk c) :=
  ⟨face_ok (inv_ok h.n) _, face_nz (inv_ok h.n) (inv_nz h.t h.n) _, face_ok (neg_ok (times_ok (inv_ok h.n) h.s)) _⟩
theorem re_car {t s z : T3} {m : Bool} (ht : Ok t) (hs : Ok s) (hz : Ok z) : re (car t s m z) = re t * re z - im t * ((if m = true then -1 else 1) * im z) + re s := by
  unfold car
  rw [re_plus (times_ok ht (face_ok hz m)) hs, re_times ht (face_ok hz m), re_face, im_face]
theorem im_car {t s z : T3} {m : Bool} (ht : Ok t) (hs : Ok s) (hz : Ok z) : im (car t s m z) = re t * ((if m = true then -1 else 1) * im z) + im t * re z + im s := by
  unfold car
  rw [im_plus (times_ok ht (face_ok hz m)) hs, im_times ht (face_ok hz m), re_face, im_face]
theorem ap_ok {c : Cp} {z : T3} (h : CpOk c) (hz : Ok z) : Ok (ap c z) := car_ok h.t h.s hz
theorem jn_ap {a b : Cp} (ha : CpOk a) (hb : CpOk b) {z : T3} (hz : Ok z) : ap (jn a b) z = ap b (ap a z) := by
  have hj := jn_ok ha hb
  refine ext (ap_ok hj hz) (ap_ok hb (ap_ok ha hz)) ?_ ?_
  · unfold ap
    rw [re_car hj.t hj.s hz, re_car hb.t hb.s (car_ok ha.t ha.s hz), re_car ha.t ha.s hz, im_car ha.t ha.s hz]
    show re (times b.t (face a.t b.m)) * re z - im (times b.t (face a.t b.m)) * ((if (a.m != b.m) = true then -1 else 1) * im z) + re (car b.t b.s b.m a.s) = _
    rw [re_times hb.t (face_ok ha.t _), im_times hb.t (face_ok ha.t _), re_face, im_face, re_car hb.t hb.s ha.s]
    cases a.m <;> cases b.m <;> simp <;> grind
  · unfold ap
    rw [im_car hj.t hj.s hz, im_car hb.t hb.s (car_ok ha.t ha.s hz), re_car ha.t ha.s hz, im_car ha.t ha.s hz]
    show re (times b.t (face a.t b.m)) * ((if (a.m != b.m) = true then -1 else 1) * im z) + im (times b.t (face a.t b.m)) * re z + im (car b.t b.s b.m a.s) = _
    rw [re_times hb.t (face_ok ha.t _), im_times hb.t (face_ok ha.t _), re_face, im_face, im_car hb.t hb.s ha.s]
    cases a.m <;> cases b.m <;> simp <;> grind
theorem cp_ext {a b : Cp} (ha : CpOk a) (hb : CpOk b) (h1 : re a.t = re b.t) (h2 : im a.t = im b.t) (h3 : re a.s = re b.s) (h4 : im a.s = im b.s) (h5 : a.m = b.m) : a = b := by
  have e1 := ext ha.t hb.t h1 h2
  have e2 := ext ha.s hb.s h3 h4
  cases a; cases b
  dsimp only at e1 e2 h5
  rw [e1, e2, h5]
theorem re_jt {a b : Cp} (ha : CpOk a) (hb : CpOk b) : re (jn a b).t = re b.t * re a.t - im b.t * ((if b.m = true then -1 else 1) * im a.t) := by
  show re (times b.t (face a.t b.m)) = _
  rw [re_times hb.t (face_ok ha.t _), re_face, im_face]
theorem im_jt {a b : Cp} (ha : CpOk a) (hb : CpOk b) : im (jn a b).t = re b.t * ((if b.m = true then -1 else 1) * im a.t) + im b.t * re a.t := by
  show im (times b.t (face a.t b.m)) = _
  rw [im_times hb.t (face_ok ha.t _), re_face, im_face]
theorem re_js {a b : Cp} (ha : CpOk a) (hb : CpOk b) : re (jn a b).s = re b.t * re a.s - im b.t * ((if b.m = true then -1 else 1) * im a.s) + re b.s := re_car hb.t hb.s ha.s
theorem im_js {a b : Cp} (ha : CpOk a) (hb : CpOk b) : im (jn a b).s = re b.t * ((if b.m = true then -1 else 1) * im a.s) + im b.t * re a.s + im b.s := im_car hb.t hb.s ha.s
theorem jn_m (a b : Cp) : (jn a b).m = (a.m != b.m) := rfl
theorem jn_assoc {a b c : Cp} (ha : CpOk a) (hb : CpOk b) (hc : CpOk c) : jn (jn a b) c = jn a (jn b c) := by
  have h1 := jn_ok ha hb
  have h2 := jn_ok hb hc
  refine cp_ext (jn_ok h1 hc) (jn_ok ha h2) ?_ ?_ ?_ ?_ ?_
  · rw [re_jt h1 hc, re_jt ha h2, re_jt ha hb, im_jt ha hb, re_jt hb hc, im_jt hb hc, jn_m]
    cases b.m <;> cases c.m <;> simp <;> grind
  · rw [im_jt h1 hc, im_jt ha h2, re_jt ha hb, im_jt ha hb, re_jt hb hc, im_jt hb hc, jn_m]
    cases b.m <;> cases c.m <;> simp <;> grind
  · rw [re_js h1 hc, re_js ha h2, re_js ha hb, im_js ha hb, re_js hb hc, re_jt hb hc, im_jt hb hc, jn_m]
    cases b.m <;> cases c.m <;> simp <;> grind
  · rw [im_js h1 hc, im_js ha h2, re_js ha hb, im_js ha hb, im_js hb hc, re_jt hb hc, im_jt hb hc, jn_m]
    cases b.m <;> cases c.m <;> simp <;> grind
  · show ((a.m != b.m) != c.m) = (a.m != (b.m != c.m))
    cases a.m <;> cases b.m <;> cases c.m <;> rfl
theorem re_1 : re (1, 0, 1) = 1 := by unfold re; decide +kernel
theorem im_1 : im (1, 0, 1) = 0 := by unfold im; decide +kernel
theorem re_0 : re (0, 0, 1) = 0 := by unfold re; decide +kernel
theorem im_0 : im (0, 0, 1) = 0 := by unfold im; decide +kernel
theorem jn_still {a : Cp} (ha : CpOk a) : jn a still = a := by
  refine cp_ext (jn_ok ha still_ok) ha ?_ ?_ ?_ ?_ ?_
  · rw [re_jt ha still_ok]; simp only [still, re_1, im_1]; grind
  · rw [im_jt ha still_ok]; simp only [still, re_1, im_1]; grind
  · rw [re_js ha still_ok]; simp only [still, re_1, im_1, re_0, im_0]; grind
  · rw [im_js ha still_ok]; simp only [still, re_1, im_1, re_0, im_0]; grind
  · rw [jn_m]; simp [still]
theorem still_jn {a : Cp} (ha : CpOk a) : jn still a = a := by
  refine cp_ext (jn_ok still_ok ha) ha ?_ ?_ ?_ ?_ ?_
  · rw [re_jt still_ok ha]; simp only [still, re_1, im_1]; grind
  · rw [im_jt still_ok ha]; simp only [still, re_1, im_1]; grind
  · rw [re_js still_ok ha]; simp only [still, re_1, im_1, re_0, im_0]; grind
  · rw [im_js still_ok ha]; simp only [still, re_1, im_1, re_0, im_0]; grind
  · rw [jn_m]; simp [still]
theorem re_bt {a : Cp} (ha : CpOk a) : re (bk a).t = re a.t / nn a.t := by
  show re (face (inv a.t) a.m) = _
  rw [re_face, re_inv ha.t ha.n]
theorem im_bt {a : Cp} (ha : CpOk a) : im (bk a).t = (if a.m = true then -1 else 1) * (- im a.t / nn a.t) := by
  show im (face (inv a.t) a.m) = _
  rw [im_face, im_inv ha.t ha.n]
theorem re_bs {a : Cp} (ha : CpOk a) : re (bk a).s = -((re a.t / nn a.t) * re a.s - (- im a.t / nn a.t) * im a.s) := by
  show re (face (neg (times (inv a.t) a.s)) a.m) = _
  rw [re_face, re_neg, re_times (inv_ok ha.n) ha.s, re_inv ha.t ha.n, im_inv ha.t ha.n]
theorem im_bs {a : Cp} (ha : CpOk a) : im (bk a).s = (if a.m = true then -1 else 1) * -((re a.t / nn a.t) * im a.s + (- im a.t / nn a.t) * re a.s) := by
  show im (face (neg (times (inv a.t) a.s)) a.m) = _
  rw [im_face, im_neg, im_times (inv_ok ha.n) ha.s, re_inv ha.t ha.n, im_inv ha.t ha.n]
theorem jn_bk {a : Cp} (ha : CpOk a) : jn a (bk a) = still := by
  have hb := bk_ok ha
  have n := nn_ne ha.t ha.n
  have q : nn a.t = re a.t * re a.t + im a.t * im a.t := rfl
  have em : (bk a).m = a.m := rfl
  refine cp_ext (jn_ok ha hb) still_ok ?_ ?_ ?_ ?_ ?_
  · rw [re_jt ha hb, re_bt ha, im_bt ha, em]; simp only [still, re_1, im_1]
    generalize nn a.t = k at *
    cases a.m <;> simp <;> grind
  · rw [im_jt ha hb, re_bt ha, im_bt ha, em]; simp only [still, re_1, im_1]
    generalize nn a.t = k at *
    cases a.m <;> simp <;> grind
  · rw [re_js ha hb, re_bt ha, im_bt ha, re_bs ha, em]; simp only [still, re_0, im_0]
    generalize nn a.t = k at *
    cases a.m <;> simp <;> grind
  · rw [im_js ha hb, re_bt ha, im_bt ha, im_bs ha, em]; simp only [still, re_0, im_0]
    generalize nn a.t = k at *
    cases a.m <;> simp <;> grind
  · show (a.m != a.m) = false
    simp
theorem bk_jn {a : Cp} (ha : CpOk a) : jn (bk a) a = still := by
  have hb := bk_ok ha
  have n := nn_ne ha.t ha.n
  have q : nn a.t = re a.t * re a.t + im a.t * im a.t := rfl
  have em : (bk a).m = a.m := rfl
  refine cp_ext (jn_ok hb ha) still_ok ?_ ?_ ?_ ?_ ?_
  · rw [re_jt hb ha, re_bt ha, im_bt ha]; simp only [still, re_1, im_1]
    generalize nn a.t = k at *
    cases a.m <;> simp <;> grind
  · rw [im_jt hb ha, re_bt ha, im_bt ha]; simp only [still, re_1, im_1]
    generalize nn a.t = k at *
    cases a.m <;> simp <;> grind
  · rw [re_js hb ha, re_bs ha, im_bs ha]; simp only [still, re_0, im_0]
    generalize nn a.t = k at *
    cases a.m <;> simp <;> grind
  · rw [im_js hb ha, re_bs ha, im_bs ha]; simp only [still, re_0, im_0]
    generalize nn a.t = k at *
    cases a.m <;> simp <;> grind
  · show (a.m != a.m) = false
    simp
/-- what brings back is one -/
theorem bk_uniq {a b : Cp} (ha : CpOk a) (hb : CpOk b) (h : jn a b = still) : b = bk a := by
  have e : jn (jn (bk a) a) b = jn (bk a) (jn a b) := jn_assoc (bk_ok ha) ha hb
  rw [bk_jn ha, h, still_jn hb, jn_still (bk_ok ha)] at e
  exact e
theorem bk_bk {a : Cp} (ha : CpOk a) : bk (bk a) = a := (bk_uniq (bk_ok ha) ha (bk_jn ha)).symm
theorem bk_jn_eq {a b : Cp} (ha : CpOk a) (hb : CpOk b) : bk (jn a b) = jn (bk b) (bk a) := by
  refine (bk_uniq (jn_ok ha hb) (jn_ok (bk_ok hb) (bk_ok ha)) ?_).symm
  rw [jn_assoc ha hb (jn_ok (bk_ok hb) (bk_ok ha)), ← jn_assoc hb (bk_ok hb) (bk_ok ha), jn_bk hb, still_jn (bk_ok ha), jn_bk ha]
theorem bk_still : bk still = still := (bk_uniq still_ok still_ok (jn_still still_ok)).symm
theorem ap_still {z : T3} (hz : Ok z) : ap still z = z := by
  refine ext (ap_ok still_ok hz) hz ?_ ?_
  · unfold ap; rw [re_car still_ok.t still_ok.s hz]; simp only [still, re_1, im_1, re_0]; grind
  · unfold ap; rw [im_car still_ok.t still_ok.s hz]; simp only [still, re_1, im_1, im_0]; grind
theorem bk_ap {a : Cp} (ha : CpOk a) {z : T3} (hz : Ok z) : ap (bk a) (ap a z) = z := by
  rw [← jn_ap ha (bk_ok ha) hz, jn_bk ha, ap_still hz]
theorem ap_bk {a : Cp} (ha : CpOk a) {z : T3} (hz : Ok z) : ap a (ap (bk a) z) = z := by
  rw [← jn_ap (bk_ok ha) ha hz, bk_jn ha, ap_still hz]
/-! ### growth: the square of the size, a fraction -/
def fr (p q : Int) : Int × Int := ((low p 0 q).1, (low p 0 q).2.2)
def gr (t : T3) : Int × Int := fr (t.1 * t.1 + t.2.1 * t.2.1) (t.2.2 * t.2.2)
def gr3 (t : T3) : T3 := low (t.1 * t.1 + t.2.1 * t.2.1) 0 (t.2.2 * t.2.2)
theorem low_0 (p q : Int) : (low p 0 q).2.1 = 0 := by
  unfold low; dsimp only; exact Int.zero_fdiv _
theorem low_fr (p q : Int) : low p 0 q = ((fr p q).1, 0, (fr p q).2) := by
  have e := low_0 p q
  unfold fr
  generalize low p 0 q = z at *
  obtain ⟨a, b, c⟩ := z
  dsimp only at *
  rw [e]
theorem gr3_eq (t : T3) : gr3 t = ((gr t).1, 0, (gr t).2) := low_fr _ _
theorem gr3_ok {t : T3} (h : Ok t) : Ok (gr3 t) := low_ok (mul_ne h.ne h.ne)
theorem re_gr3 {t : T3} (h : Ok t) : re (gr3 t) = nn t := by
  have h1 := cast_ne h.ne
  have q := nn_eq h
  unfold gr3
  rw [low_re (mul_ne h.ne h.ne), ← q]
  simp only [Rat.intCast_mul]
  generalize nn t = k at *
  grind
theorem im_gr3 {t : T3} (h : Ok t) : im (gr3 t) = 0 := by
  unfold im gr3; rw [low_0]; grind
theorem gr_jn {a b : Cp} (ha : CpOk a) (hb : CpOk b) : times (gr3 a.t) (gr3 b.t) = gr3 (jn a b).t := by
  refine ext (times_ok (gr3_ok ha.t) (gr3_ok hb.t)) (gr3_ok (jn_ok ha hb).t) ?_ ?_
  · rw [re_times (gr3_ok ha.t) (gr3_ok hb.t), re_gr3 (jn_ok ha hb).t, re_gr3 ha.t, re_gr3 hb.t, im_gr3 ha.t]
    show _ = nn (times b.t (face a.t b.m))
    rw [nn_times hb.t (face_ok ha.t _), nn_face]
    grind
  · rw [im_times (gr3_ok ha.t) (gr3_ok hb.t), im_gr3 (jn_ok ha hb).t, im_gr3 ha.t, im_gr3 hb.t]
    grind
theorem gr_pos {t : T3} (h : Ok t) (n : Nz t) : 0 < (gr t).1 ∧ 0 < (gr t).2 := by
  have k := low_pos (x := t.1 * t.1 + t.2.1 * t.2.1) (y := 0) (d := t.2.2 * t.2.2) (mul_ne h.ne h.ne)
  refine ⟨?_, k⟩
  obtain ⟨h1, h2, h3⟩ := low_mul (t.1 * t.1 + t.2.1 * t.2.1) 0 (t.2.2 * t.2.2)
  have hsq := sq_ne n
  have q1 : 0 ≤ t.1 * t.1 := by rcases Int.le_total 0 t.1 with h | h; exact Int.mul_nonneg h h; exact Int.mul_nonneg_of_nonpos_of_nonpos h h
  have q2 : 0 ≤ t.2.1 * t.2.1 := by rcases Int.le_total 0 t.2.1 with h | h; exact Int.mul_nonneg h h; exact Int.mul_nonneg_of_nonpos_of_nonpos h h
  have q3 : 0 < t.2.2 * t.2.2 := Int.mul_pos h.1 h.1
  show 0 < (low (t.1 * t.1 + t.2.1 * t.2.1) 0 (t.2.2 * t.2.2)).1
  generalize (low (t.1 * t.1 + t.2.1 * t.2.1) 0 (t.2.2 * t.2.2)).1 = a at *
  generalize (low (t.1 * t.1 + t.2.1 * t.2.1) 0 (t.2.2 * t.2.2)).2.2 = c at *
  generalize hS : sg (t.1 * t.1 + t.2.1 * t.2.1) 0 (t.2.2 * t.2.2) = g at *
  have gp : 0 < g := by
    rcases Int.lt_trichotomy g 0 with z | z | z
    · have : g * c < 0 := Int.mul_neg_of_neg_of_pos z k
      omega
    · subst z; simp at h3; omega
    · exact z
  rcases Int.lt_trichotomy a 0 with z | z | z
  · have : g * a < 0 := Int.mul_neg_of_pos_of_neg gp z
    omega
  · subst z; simp at h1; omega
  · exact z
theorem gr_bk {a : Cp} (ha : CpOk a) : gr (bk a).t = ((gr a.t).2, (gr a.t).1) := by
  obtain ⟨p1, p2⟩ := gr_pos ha.t ha.n
  have o := gr3_ok ha.t
  rw [gr3_eq] at o
  have o2 : Ok ((gr a.t).2, 0, (gr a.t).1) := by
    refine ⟨p1, ?_⟩
    have z := o.2
    unfold g3 at z ⊢
    dsimp only at z ⊢
    rw [Int.gcd_zero_right] at z ⊢
    have e1 : (((gr a.t).1.natAbs : Nat) : Int) = (gr a.t).1 := by omega
    have e2 : (((gr a.t).2.natAbs : Nat) : Int) = (gr a.t).2 := by omega
    rw [e1] at z
    rw [e2, Int.gcd_comm]
    exact z
  have e : gr3 (bk a).t = ((gr a.t).2, 0, (gr a.t).1) := by
    have n := nn_ne ha.t ha.n
    refine ext (gr3_ok (bk_ok ha).t) o2 ?_ ?_
    · rw [re_gr3 (bk_ok ha).t]
      show nn (face (inv a.t) a.m) = _
      rw [nn_face, nn_inv ha.t ha.n, ← re_gr3 ha.t, gr3_eq]
      unfold re
      dsimp only
      have c1 := cast_ne (show (gr a.t).1 ≠ 0 by omega)
      have c2 := cast_ne (show (gr a.t).2 ≠ 0 by omega)
      grind
    · rw [im_gr3 (bk_ok ha).t]; unfold im; dsimp only; grind
  rw [gr3_eq] at e
  have x1 := congrArg (fun z : T3 => z.1) e
  have x2 := congrArg (fun z : T3 => z.2.2) e
  dsimp only at x1 x2
  exact Prod.ext x1 x2
/-! ### sizes -/
def B (n : Nat) (s : T3) : Prop := s.1.natAbs < 2 ^ n ∧ s.2.1.natAbs < 2 ^ n ∧ s.2.2.natAbs < 2 ^ n
theorem pw {n m : Nat} (h : n ≤ m) : 2 ^ n ≤ 2 ^ m := Nat.pow_le_pow_right (by decide) h
theorem B.mono {n m : Nat} {s : T3} (b : B n s) (h : n ≤ m) : B m s := ⟨Nat.lt_of_lt_of_le b.1 (pw h), Nat.lt_of_lt_of_le b.2.1 (pw h), Nat.lt_of_lt_of_le b.2.2 (pw h)⟩
theorem abs_le {g a : Int} (h : g ≠ 0) : a.natAbs ≤ (g * a).natAbs := by
  rw [Int.natAbs_mul]
  have : 1 ≤ g.natAbs := by omega
  calc a.natAbs = 1 * a.natAbs := by omega
    _ ≤ g.natAbs * a.natAbs := Nat.mul_le_mul_right _ this
theorem low_B {x y d : Int} {n : Nat} (hd : d ≠ 0) (h1 : x.natAbs < 2 ^ n) (h2 : y.natAbs < 2 ^ n) (h3 : d.natAbs < 2 ^ n) : B n (low x y d) := by
  obtain ⟨e1, e2, e3⟩ := low_mul x y d
  have hs := sg_ne (x := x) (y := y) hd
  refine ⟨?_, ?_, ?_⟩
  · have := abs_le (a := (low x y d).1) hs; rw [← e1] at this; omega
  · have := abs_le (a := (low x y d).2.1) hs; rw [← e2] at this; omega
  · have := abs_le (a := (low x y d).2.2) hs; rw [← e3] at this; omega
theorem mul_lt {a b : Int} {n m : Nat} (ha : a.natAbs < 2 ^ n) (hb : b.natAbs < 2 ^ m) : (a * b).natAbs < 2 ^ (n + m) := by
  rw [Int.natAbs_mul, Nat.pow_add]
  exact Nat.mul_lt_mul'' ha hb
theorem add_lt {a b : Int} {n : Nat} (ha : a.natAbs < 2 ^ n) (hb : b.natAbs < 2 ^ n) : (a + b).natAbs < 2 ^ (n + 1) := by
  rw [Nat.pow_succ]; omega
theorem sub_lt {a b : Int} {n : Nat} (ha : a.natAbs < 2 ^ n) (hb : b.natAbs < 2 ^ n) : (a - b).natAbs < 2 ^ (n + 1) := by
  rw [Nat.pow_succ]; omega
theorem up_lt {a : Int} {n m : Nat} (h : n ≤ m) (ha : a.natAbs < 2 ^ n) : a.natAbs < 2 ^ m := Nat.lt_of_lt_of_le ha (pw h)
theorem plus_B {a b : T3} {n m : Nat} (oa : Ok a) (ob : Ok b) (ha : B n a) (hb : B m b) : B (n + m + 1) (plus a b) := by
  refine low_B (mul_ne oa.ne ob.ne) (add_lt (mul_lt ha.1 hb.2.2) ?_) (add_lt (mul_lt ha.2.1 hb.2.2) ?_) (up_lt (Nat.le_succ _) (mul_lt ha.2.2 hb.2.2))
  · rw [Nat.add_comm]; exact mul_lt hb.1 ha.2.2
  · rw [Nat.add_comm]; exact mul_lt hb.2.1 ha.2.2
theorem times_B {a b : T3} {n m : Nat} (oa : Ok a) (ob : Ok b) (ha : B n a) (hb : B m b) : B (n + m + 1) (times a b) :=
  low_B (mul_ne oa.ne ob.ne) (sub_lt (mul_lt ha.1 hb.1) (mul_lt ha.2.1 hb.2.1)) (add_lt (mul_lt ha.1 hb.2.1) (mul_lt ha.2.1 hb.1)) (up_lt (Nat.le_succ _) (mul_lt ha.2.2 hb.2.2))
theorem over_B {a : T3} {n : Nat} (h : B n a) : B n (over a) := ⟨h.1, by show (-a.2.1).natAbs < _; rw [Int.natAbs_neg]; exact h.2.1, h.2.2⟩
theorem neg_B {a : T3} {n : Nat} (h : B n a) : B n (neg a) := ⟨by show (-a.1).natAbs < _; rw [Int.natAbs_neg]; exact h.1, by show (-a.2.1).natAbs < _; rw [Int.natAbs_neg]; exact h.2.1, h.2.2⟩
theorem face_B {a : T3} {n : Nat} (h : B n a) (m : Bool) : B n (face a m) := by unfold face; split; exact over_B h; exact h
theorem neg_lt {a : Int} {n : Nat} (h : a.natAbs < 2 ^ n) : (-a).natAbs < 2 ^ n := by rw [Int.natAbs_neg]; exact h
theorem inv_B {a : T3} {n : Nat} (z : Nz a) (h : B n a) : B (n + n + 1) (inv a) :=
  low_B (sq_ne z) (up_lt (Nat.le_succ _) (mul_lt h.1 h.2.2)) (up_lt (Nat.le_succ _) (mul_lt (neg_lt h.2.1) h.2.2)) (add_lt (mul_lt h.1 h.1) (mul_lt h.2.1 h.2.1))
theorem car_B {t s z : T3} {m : Bool} {i j k : Nat} (ot : Ok t) (os : Ok s) (oz : Ok z) (ht : B i t) (hs : B j s) (hz : B k z) : B (i + k + 1 + j + 1) (car t s m z) :=
  plus_B (times_ok ot (face_ok oz m)) os (times_B ot (face_ok oz m) ht (face_B hz m)) hs
/-! ### the divisor by remainders -/
theorem gcd_fmod (a b : Int) : Int.gcd b (a.fmod b) = Int.gcd a b := by
  rw [Int.fmod_def, Int.gcd_sub_mul_left_right, Int.gcd_comm]
theorem fmod_small {a b : Int} (h : b ≠ 0) : (a.fmod b).natAbs < b.natAbs := by
  rw [Int.fmod_eq_emod]
  have h1 := Int.emod_nonneg a h
  have h2 : a % b < (b.natAbs : Int) := Int.emod_lt a h
  split
  · omega
  · have h3 : a % b ≠ 0 := fun e => by
      have := Int.dvd_of_emod_eq_zero e
      simp_all
    omega
theorem gcd_0 (a : Int) : ((Int.gcd a 0 : Nat) : Int) = if a < 0 then -a else a := by
  rw [Int.gcd_zero_right]; split <;> omega
end Mth
namespace Mth
/-! ### copies done several times -/
def ag (c : Cp) : Nat → Cp
  | 0 => still
  | n + 1 => jn (ag c n) c
theorem ag_ok {c : Cp} (h : CpOk c) : ∀ n, CpOk (ag c n)
  | 0 => still_ok
  | n + 1 => jn_ok (ag_ok h n) h
theorem ag_add {c : Cp} (h : CpOk c) (n : Nat) : ∀ m, ag c (n + m) = jn (ag c n) (ag c m)
  | 0 => (jn_still (ag_ok h n)).symm
  | m + 1 => by
    show jn (ag c (n + m)) c = jn (ag c n) (jn (ag c m) c)
    rw [ag_add h n m, jn_assoc (ag_ok h n) (ag_ok h m) h]
theorem ag_one {c : Cp} (h : CpOk c) : ag c 1 = c := still_jn h
theorem ag_comm {c : Cp} (h : CpOk c) (n : Nat) : jn c (ag c n) = jn (ag c n) c := by
  have e1 := ag_add h 1 n
  rw [ag_one h, Nat.add_comm] at e1
  exact e1.symm
theorem ag_mul {c : Cp} (h : CpOk c) (n : Nat) : ∀ m, ag c (n * m) = ag (ag c n) m
  | 0 => rfl
  | m + 1 => by
    show ag c (n * m + n) = jn (ag (ag c n) m) (ag c n)
    rw [ag_add h, ag_mul h n m]
theorem bk_ag {c : Cp} (h : CpOk c) : ∀ n, bk (ag c n) = ag (bk c) n
  | 0 => bk_still
  | n + 1 => by
    show bk (jn (ag c n) c) = jn (ag (bk c) n) (bk c)
    rw [bk_jn_eq (ag_ok h n) h, bk_ag h n, ag_comm (bk_ok h)]
theorem jn_l {a b c : Cp} (ha : CpOk a) (hb : CpOk b) (hc : CpOk c) (e : jn a b = jn a c) : b = c := by
  have q := congrArg (jn (bk a)) e
  rw [← jn_assoc (bk_ok ha) ha hb, ← jn_assoc (bk_ok ha) ha hc, bk_jn ha, still_jn hb, still_jn hc] at q
  exact q
theorem bk_still_iff {a : Cp} (ha : CpOk a) : bk a = still ↔ a = still := ⟨fun e => by have q := congrArg bk e; rw [bk_bk ha, bk_still] at q; exact q, fun e => by rw [e, bk_still]⟩
/-- seen from elsewhere -/
def cj (o c : Cp) : Cp := jn (jn (bk o) c) o
theorem cj_ok {o c : Cp} (ho : CpOk o) (hc : CpOk c) : CpOk (cj o c) := jn_ok (jn_ok (bk_ok ho) hc) ho
theorem cj_jn {o a b : Cp} (ho : CpOk o) (ha : CpOk a) (hb : CpOk b) : jn (cj o a) (cj o b) = cj o (jn a b) := by
  have hbo := bk_ok ho
  unfold cj
  rw [jn_assoc (jn_ok hbo ha) ho (jn_ok (jn_ok hbo hb) ho), jn_assoc hbo hb ho, ← jn_assoc ho hbo (jn_ok hb ho), jn_bk ho, still_jn (jn_ok hb ho),
    jn_assoc hbo ha (jn_ok hb ho), ← jn_assoc ha hb ho, jn_assoc hbo (jn_ok ha hb) ho]
theorem cj_still {o : Cp} (ho : CpOk o) : cj o still = still := by
  unfold cj; rw [jn_still (bk_ok ho), bk_jn ho]
theorem cj_ag {o c : Cp} (ho : CpOk o) (hc : CpOk c) : ∀ n, ag (cj o c) n = cj o (ag c n)
  | 0 => (cj_still ho).symm
  | n + 1 => by
    show jn (ag (cj o c) n) (cj o c) = cj o (jn (ag c n) c)
    rw [cj_ag ho hc n, cj_jn ho (ag_ok hc n) hc]
theorem cj_iff {o c : Cp} (ho : CpOk o) (hc : CpOk c) : cj o c = still ↔ c = still := by
  refine ⟨fun e => ?_, fun e => by rw [e, cj_still ho]⟩
  have q := congrArg (fun z => jn (jn o z) (bk o)) e
  unfold cj at q
  have hbo := bk_ok ho
  rw [jn_assoc hbo hc ho, ← jn_assoc ho hbo (jn_ok hc ho), jn_bk ho, still_jn (jn_ok hc ho), jn_assoc hc ho hbo, jn_bk ho, jn_still hc, jn_still ho, jn_bk ho] at q
  exact q
/-- the times as the program has them -/
def stp (c : Cp) (n : Int) : Cp := if 0 ≤ n then c else bk c
def agz (c : Cp) (n : Int) : Cp := ag (stp c n) n.natAbs
theorem stp_ok {c : Cp} (h : CpOk c) (n : Int) : CpOk (stp c n) := by unfold stp; split; exact h; exact bk_ok h
theorem agz_ok {c : Cp} (h : CpOk c) (n : Int) : CpOk (agz c n) := ag_ok (stp_ok h n) _
/-! ### the first time at which all is as it was -/
def At (c : Cp) (n : Nat) : Prop := ag c n = still
/-- the turns alone -/
def tn (t : T3) (m : Bool) : Nat → T3
  | 0 => (1, 0, 1)
  | n + 1 => times t (face (tn t m n) m)
theorem ag_t (c : Cp) : ∀ n, (ag c n).t = tn c.t c.m n
  | 0 => rfl
  | n + 1 => by
    show times c.t (face (ag c n).t c.m) = times c.t (face (tn c.t c.m n) c.m)
    rw [ag_t c n]
theorem ag_m (c : Cp) : ∀ n, (ag c n).m = (c.m && (n % 2 == 1))
  | 0 => by show false = _; simp
  | n + 1 => by
    show ((ag c n).m != c.m) = _
    rw [ag_m c n]
    rcases Nat.mod_two_eq_zero_or_one n with h | h
    · have h' : (n + 1) % 2 = 1 := by omega
      rw [h, h']; cases c.m <;> rfl
    · have h' : (n + 1) % 2 = 0 := by omega
      rw [h, h']; cases c.m <;> rfl
/-- only a shift: k times it is still none but if the shift is none -/
theorem shift_only {c : Cp} (h : CpOk c) (ht : c.t = (1, 0, 1)) (hm : c.m = false) : ∀ n : Nat, re (ag c n).s = (n : Rat) * re c.s ∧ im (ag c n).s = (n : Rat) * im c.s
  | 0 => by
    refine ⟨?_, ?_⟩
    · show re (0, 0, 1) = _; rw [re_0]; simp
    · show im (0, 0, 1) = _; rw [im_0]; simp
  | n + 1 => by
    obtain ⟨h1, h2⟩ := shift_only h ht hm n
    have e1 : re (ag c (n + 1)).s = _ := re_js (ag_ok h n) h
    have e2 : im (ag c (n + 1)).s = _ := im_js (ag_ok h n) h
    rw [ht, hm, re_1, im_1, h1] at e1
    rw [ht, hm, re_1, im_1, h2] at e2
    have ec : ((n + 1 : Nat) : Rat) = (n : Rat) + 1 := by simp
    rw [e1, e2, ec]
    refine ⟨?_, ?_⟩
    · simp; grind
    · simp; grind
theorem shift_still {c : Cp} (h : CpOk c) (ht : c.t = (1, 0, 1)) (hm : c.m = false) {n : Nat} (hn : 0 < n) (e : ag c n = still) : c = still := by
  obtain ⟨h1, h2⟩ := shift_only h ht hm n
  rw [e] at h1 h2
  have n0 : (n : Rat) ≠ 0 := by
    have : ((n : Int) : Rat) ≠ 0 := cast_ne (by omega)
    simpa using this
  have z1 : re c.s = 0 := by
    have : re still.s = 0 := re_0
    rw [this] at h1
    grind
  have z2 : im c.s = 0 := by
    have : im still.s = 0 := im_0
    rw [this] at h2
    grind
  refine cp_ext h still_ok ?_ ?_ ?_ ?_ hm
  · rw [ht]; rfl
  · rw [ht]; rfl
  · rw [z1]; exact re_0.symm
  · rw [z2]; exact im_0.symm
theorem at_half {c : Cp} (h : CpOk c) (ht : c.t = (-1, 0, 1)) (hm : c.m = false) : ag c 2 = still := by
  have e : ag c 2 = jn c c := by
    show jn (jn still c) c = _
    rw [still_jn h]
  have r : re (-1, 0, 1) = -1 := by unfold re; decide +kernel
  have i : im (-1, 0, 1) = 0 := by unfold im; decide +kernel
  rw [e]
  refine cp_ext (jn_ok h h) still_ok ?_ ?_ ?_ ?_ ?_
  · rw [re_jt h h, ht, hm, r, i]; show _ = re (1, 0, 1); rw [re_1]; simp; grind
  · rw [im_jt h h, ht, hm, r, i]; show _ = im (1, 0, 1); rw [im_1]; simp; grind
  · rw [re_js h h, ht, hm, r, i]; show _ = re (0, 0, 1); rw [re_0]; simp; grind
  · rw [im_js h h, ht, hm, r, i]; show _ = im (0, 0, 1); rw [im_0]; simp; grind
  · rw [jn_m, hm]; rfl
def turns13 : List T3 := [(1, 0, 1), (-1, 0, 1), (0, 1, 1), (0, -1, 1), (2, 0, 1), (1, 0, 2), (1, 1, 1), (3, 4, 5), (0, 2, 1), (-1, 0, 3), (1, -1, 2), (2, 1, 1), (-4, 3, 5)]
theorem turns_cases : ∀ t ∈ turns13, ∀ m ∈ [false, true], (t = (1, 0, 1) ∧ m = false) ∨ (t = (-1, 0, 1) ∧ m = false) ∨ (tn t m 2 = (-1, 0, 1) ∧ m = false ∧ ∀ n ∈ [1, 2, 3], tn t m n ≠ (1, 0, 1)) ∨ (tn t m 2 = (1, 0, 1) ∧ m = true) ∨
    (∀ n ∈ [1, 2, 3, 4, 5, 6, 7, 8, 9, 10, 11, 12], tn t m n ≠ (1, 0, 1) ∨ (m = true ∧ n % 2 = 1)) := by decide +kernel
theorem first_of {c : Cp} (h : CpOk c) (ht : c.t ∈ turns13) {n : Nat} (n1 : 1 ≤ n) (n12 : n ≤ 12) (e : ag c n = still) : ag c 1 = still ∨ (2 ≤ n ∧ ag c 2 = still) ∨ (4 ≤ n ∧ ag c 4 = still) := by
  have et : tn c.t c.m n = (1, 0, 1) := by rw [← ag_t, e]; rfl
  have em : (c.m && (n % 2 == 1)) = false := by rw [← ag_m, e]; rfl
  rcases turns_cases c.t ht c.m (by cases c.m <;> simp) with ⟨h1, h2⟩ | ⟨h1, h2⟩ | ⟨h1, h2, h3⟩ | ⟨h1, h2⟩ | h1
  · left
    rw [ag_one h]
    exact shift_still h h1 h2 n1 e
  · right; left
    refine ⟨?_, at_half h h1 h2⟩
    rcases Nat.lt_or_ge n 2 with z | z
    · have : n = 1 := by omega
      subst this
      rw [ag_one h] at e
      rw [e] at h1
      exact absurd h1 (by decide)
    · exact z
  · right; right
    refine ⟨?_, ?_⟩
    · rcases Nat.lt_or_ge n 4 with z | z
      · exact absurd et (h3 n (by simp; omega))
      · exact z
    · show ag c (2 * 2) = still
      rw [ag_mul h]
      exact at_half (ag_ok h 2) (by rw [ag_t]; exact h1) (by rw [ag_m, h2]; rfl)
  · right; left
    rw [h2] at em
    have ev : n % 2 = 0 := by
      rcases Nat.mod_two_eq_zero_or_one n with z | z
      · exact z
      · rw [z] at em; simp at em
    refine ⟨by omega, ?_⟩
    obtain ⟨k, rfl⟩ : ∃ k, n = 2 * k := ⟨n / 2, by omega⟩
    rw [ag_mul h] at e
    refine shift_still (ag_ok h 2) (by rw [ag_t]; exact h1) (by rw [ag_m]; simp) (by omega) e
  · exfalso
    rcases h1 n (by simp; omega) with z | ⟨z1, z2⟩
    · exact z et
    · rw [z1, z2] at em; simp at em
/-! ### the order as the program finds it -/
def ord (c : Cp) : Option Nat := if ag c 1 = still then some 1 else if ag c 2 = still then some 2 else if ag c 4 = still then some 4 else none
theorem ord_congr {a b : Cp} (h : ∀ n, ag a n = still ↔ ag b n = still) : ord a = ord b := by
  unfold ord
  simp only [h]
theorem ord_bk {c : Cp} (h : CpOk c) : ord (bk c) = ord c := ord_congr fun n => by rw [← bk_ag h, bk_still_iff (ag_ok h n)]
theorem ord_cj {o c : Cp} (ho : CpOk o) (h : CpOk c) : ord (cj o c) = ord c := ord_congr fun n => by rw [cj_ag ho h, cj_iff ho (ag_ok h n)]
/-- the first one of 1 .. i -/
def due (c : Cp) : Nat → Option Nat
  | 0 => none
  | n + 1 => if due c n = none ∧ ag c (n + 1) = still then some (n + 1) else due c n
theorem due_eq {c : Cp} (h : CpOk c) (ht : c.t ∈ turns13) : due c 12 = ord c := by
  have P := fun n n1 n12 e => first_of (n := n) h ht n1 n12 e
  have s1 : due c 1 = if ag c 1 = still then some 1 else none := by simp [due]
  by_cases h1 : ag c 1 = still
  · have k : ∀ n, due c (n + 1) = some 1 := fun n => by
      induction n with
      | zero => rw [s1, if_pos h1]
      | succ n ih => simp [due] at ih ⊢; simp [ih]
    rw [k 11]
    unfold ord
    rw [if_pos h1]
  · have d1 : due c 1 = none := by rw [s1, if_neg h1]
    by_cases h2 : ag c 2 = still
    · have k : ∀ n, due c (n + 2) = some 2 := fun n => by
        induction n with
        | zero => show (if due c 1 = none ∧ ag c 2 = still then some 2 else due c 1) = _; rw [if_pos ⟨d1, h2⟩]
        | succ n ih => show (if due c (n + 2) = none ∧ ag c (n + 3) = still then some (n + 3) else due c (n + 2)) = _; rw [ih]; simp
      rw [k 10]
      unfold ord
      rw [if_neg h1, if_pos h2]
    · have d2 : due c 2 = none := by show (if due c 1 = none ∧ ag c 2 = still then some 2 else due c 1) = _; rw [if_neg (fun z => h2 z.2), d1]
      have n3 : ag c 3 ≠ still := fun e => by
        rcases P 3 (by decide) (by decide) e with z | ⟨_, z⟩ | ⟨z, _⟩
        · exact h1 z
        · exact h2 z
        · omega
      have d3 : due c 3 = none := by show (if due c 2 = none ∧ ag c 3 = still then some 3 else due c 2) = _; rw [if_neg (fun z => n3 z.2), d2]
      by_cases h4 : ag c 4 = still
      · have k : ∀ n, due c (n + 4) = some 4 := fun n => by
          induction n with
          | zero => show (if due c 3 = none ∧ ag c 4 = still then some 4 else due c 3) = _; rw [if_pos ⟨d3, h4⟩]
          | succ n ih => show (if due c (n + 4) = none ∧ ag c (n + 5) = still then some (n + 5) else due c (n + 4)) = _; rw [ih]; simp
        rw [k 8]
        unfold ord
        rw [if_neg h1, if_neg h2, if_pos h4]
      · have k : ∀ n, n ≤ 12 → due c n = none := fun n => by
          induction n with
          | zero => intro _; rfl
          | succ n ih =>
            intro hn
            have nn : ag c (n + 1) ≠ still := fun e => by
              rcases P (n + 1) (by omega) hn e with z | ⟨_, z⟩ | ⟨_, z⟩
              · exact h1 z
              · exact h2 z
              · exact h4 z
            show (if due c n = none ∧ ag c (n + 1) = still then some (n + 1) else due c n) = _
            rw [if_neg (fun z => nn z.2)]
            exact ih (by omega)
        rw [k 12 (by decide)]
        unfold ord
        rw [if_neg h1, if_neg h2, if_neg h4]
end Mth
namespace Mth
/-! ### lines a * x + b * y = c, and what satisfies rows of them -/
def sgl (a b c : Int) : Int := if a < 0 ∨ (a = 0 ∧ b < 0) then -(g3 a b c) else g3 a b c
def lf (r : T3) : T3 := (r.1.fdiv (sgl r.1 r.2.1 r.2.2), r.2.1.fdiv (sgl r.1 r.2.1 r.2.2), r.2.2.fdiv (sgl r.1 r.2.1 r.2.2))
def on (l z : T3) : Prop := l.1 * z.1 + l.2.1 * z.2.1 = l.2.2 * z.2.2
instance (l z : T3) : Decidable (on l z) := inferInstanceAs (Decidable (_ = _))
theorem g3_pos' {a b c : Int} (h : a ≠ 0 ∨ b ≠ 0) : 0 < g3 a b c := by
  unfold g3
  have h1 : 0 < Int.gcd a b := by
    rcases h with h | h
    · exact Int.gcd_pos_of_ne_zero_left _ h
    · exact Int.gcd_pos_of_ne_zero_right _ h
  have h2 : 0 < Int.gcd ((Int.gcd a b : Nat) : Int) c := Int.gcd_pos_of_ne_zero_left _ (by omega)
  omega
theorem sgl_of {a b c : Int} : sgl a b c = g3 a b c ∨ sgl a b c = -g3 a b c := by unfold sgl; split <;> simp
theorem sgl_ne {a b c : Int} (h : a ≠ 0 ∨ b ≠ 0) : sgl a b c ≠ 0 := by
  have := g3_pos' (c := c) h
  rcases @sgl_of a b c with e | e <;> omega
theorem sgl_d1 {a b c : Int} : sgl a b c ∣ a := by rcases @sgl_of a b c with h | h <;> rw [h]; exact g3_dx; exact Int.neg_dvd.mpr g3_dx
theorem sgl_d2 {a b c : Int} : sgl a b c ∣ b := by rcases @sgl_of a b c with h | h <;> rw [h]; exact g3_dy; exact Int.neg_dvd.mpr g3_dy
theorem sgl_d3 {a b c : Int} : sgl a b c ∣ c := by rcases @sgl_of a b c with h | h <;> rw [h]; exact g3_dd; exact Int.neg_dvd.mpr g3_dd
theorem lf_mul (r : T3) : r.1 = sgl r.1 r.2.1 r.2.2 * (lf r).1 ∧ r.2.1 = sgl r.1 r.2.1 r.2.2 * (lf r).2.1 ∧ r.2.2 = sgl r.1 r.2.1 r.2.2 * (lf r).2.2 := by
  unfold lf
  refine ⟨?_, ?_, ?_⟩ <;> dsimp only
  · rw [Int.fdiv_eq_ediv_of_dvd sgl_d1]; exact (Int.mul_ediv_cancel' sgl_d1).symm
  · rw [Int.fdiv_eq_ediv_of_dvd sgl_d2]; exact (Int.mul_ediv_cancel' sgl_d2).symm
  · rw [Int.fdiv_eq_ediv_of_dvd sgl_d3]; exact (Int.mul_ediv_cancel' sgl_d3).symm
/-- a line in its only form -/
structure Ln (l : T3) : Prop where
  g : g3 l.1 l.2.1 l.2.2 = 1
  s : 0 < l.1 ∨ (l.1 = 0 ∧ 0 < l.2.1)
theorem lf_ln {r : T3} (h : r.1 ≠ 0 ∨ r.2.1 ≠ 0) : Ln (lf r) := by
  obtain ⟨h1, h2, h3⟩ := lf_mul r
  have hs := sgl_ne (c := r.2.2) h
  have hg := g3_pos' (c := r.2.2) h
  have sdef : sgl r.1 r.2.1 r.2.2 = if r.1 < 0 ∨ (r.1 = 0 ∧ r.2.1 < 0) then -(g3 r.1 r.2.1 r.2.2) else g3 r.1 r.2.1 r.2.2 := rfl
  have so := @sgl_of r.1 r.2.1 r.2.2
  generalize hx : (lf r).1 = x at *
  generalize hy : (lf r).2.1 = y at *
  generalize hz : (lf r).2.2 = z at *
  generalize sgl r.1 r.2.1 r.2.2 = g at *
  generalize hG : g3 r.1 r.2.1 r.2.2 = G at *
  have sgn : ∀ u v : Int, u = g * v → 0 < G → (g = G → (0 < u → 0 < v) ∧ (u = 0 → v = 0)) ∧ (g = -G → (u < 0 → 0 < v) ∧ (u = 0 → v = 0)) := by
    intro u v e hG
    refine ⟨fun eg => ⟨fun hu => ?_, fun hu => ?_⟩, fun eg => ⟨fun hu => ?_, fun hu => ?_⟩⟩
    · rcases Int.lt_trichotomy v 0 with z | z | z
      · have : g * v < 0 := Int.mul_neg_of_pos_of_neg (by omega) z
        omega
      · subst z; simp at e; omega
      · exact z
    · rw [hu] at e; exact (Int.mul_eq_zero.mp e.symm).resolve_left hs
    · rcases Int.lt_trichotomy v 0 with z | z | z
      · have : 0 < g * v := Int.mul_pos_of_neg_of_neg (by omega) z
        omega
      · subst z; simp at e; omega
      · exact z
    · rw [hu] at e; exact (Int.mul_eq_zero.mp e.symm).resolve_left hs
  refine ⟨?_, ?_⟩
  · rw [hx, hy, hz]
    have k1 : g * g3 x y z ∣ r.1 := by
      obtain ⟨u, hu⟩ := @g3_dx x y z
      exact ⟨u, by rw [Int.mul_assoc, ← hu, ← h1]⟩
    have k2 : g * g3 x y z ∣ r.2.1 := by
      obtain ⟨u, hu⟩ := @g3_dy x y z
      exact ⟨u, by rw [Int.mul_assoc, ← hu, ← h2]⟩
    have k3 : g * g3 x y z ∣ r.2.2 := by
      obtain ⟨u, hu⟩ := @g3_dd x y z
      exact ⟨u, by rw [Int.mul_assoc, ← hu, ← h3]⟩
    have k := g3_great k1 k2 k3
    rw [hG] at k
    have k' : g * g3 x y z ∣ g := by
      rcases so with e | e
      · rw [e] at k ⊢; exact k
      · rw [e]; rw [e] at k; exact (Int.dvd_neg).mpr k
    obtain ⟨u, hu⟩ := k'
    have e : g3 x y z * u = 1 := by
      have : g * (g3 x y z * u) = g * 1 := by rw [← Int.mul_assoc, ← hu, Int.mul_one]
      exact Int.eq_of_mul_eq_mul_left hs this
    have nn : 0 ≤ g3 x y z := by unfold g3; omega
    exact Int.eq_one_of_dvd_one nn ⟨u, e.symm⟩
  · rw [hx, hy]
    by_cases c : r.1 < 0 ∨ (r.1 = 0 ∧ r.2.1 < 0)
    · rw [if_pos c] at sdef
      have a1 := (sgn r.1 x h1 hg).2 sdef
      have a2 := (sgn r.2.1 y h2 hg).2 sdef
      rcases c with c | ⟨c1, c2⟩
      · exact .inl (a1.1 c)
      · exact .inr ⟨a1.2 c1, a2.1 c2⟩
    · rw [if_neg c] at sdef
      have a1 := (sgn r.1 x h1 hg).1 sdef
      have a2 := (sgn r.2.1 y h2 hg).1 sdef
      rcases Int.lt_trichotomy r.1 0 with z1 | z1 | z1
      · exact absurd (.inl z1) c
      · rcases Int.lt_trichotomy r.2.1 0 with z2 | z2 | z2
        · exact absurd (.inr ⟨z1, z2⟩) c
        · omega
        · exact .inr ⟨a1.2 z1, a2.1 z2⟩
      · exact .inl (a1.1 z1)
theorem lf_on {r : T3} (h : r.1 ≠ 0 ∨ r.2.1 ≠ 0) (z : T3) : on (lf r) z ↔ on r z := by
  obtain ⟨h1, h2, h3⟩ := lf_mul r
  have hs := sgl_ne (c := r.2.2) h
  unfold on
  generalize sgl r.1 r.2.1 r.2.2 = g at *
  refine ⟨fun e => ?_, fun e => ?_⟩
  · rw [h1, h2, h3]
    have : g * ((lf r).1 * z.1 + (lf r).2.1 * z.2.1) = g * ((lf r).2.2 * z.2.2) := by rw [e]
    grind
  · have : g * ((lf r).1 * z.1 + (lf r).2.1 * z.2.1) = g * ((lf r).2.2 * z.2.2) := by
      rw [h1, h2, h3] at e
      grind
    exact Int.eq_of_mul_eq_mul_left hs this
theorem on_iff {l z : T3} (hz : Ok z) : on l z ↔ (l.1 : Rat) * re z + (l.2.1 : Rat) * im z = (l.2.2 : Rat) := by
  have d := cast_ne hz.ne
  unfold on re im
  rw [← Rat.intCast_inj]
  simp only [Rat.intCast_add, Rat.intCast_mul]
  refine ⟨fun e => ?_, fun e => ?_⟩ <;> grind
theorem dvd3 {k m x y z : Int} (h1 : k ∣ x * m) (h2 : k ∣ y * m) (h3 : k ∣ z * m) (g : g3 x y z = 1) : k ∣ m := by
  have c := Int.dvd_coe_gcd h1 h2
  rw [Int.gcd_mul_right] at c
  have c' : k ∣ ((Int.gcd x y : Nat) : Int) * ((m.natAbs : Nat) : Int) := by rw [← Int.natCast_mul]; exact c
  have d : k ∣ z * ((m.natAbs : Nat) : Int) := by
    rcases Int.natAbs_eq m with e | e
    · rw [← e]; exact h3
    · have : ((m.natAbs : Nat) : Int) = -m := by omega
      rw [this, Int.mul_neg]; exact (Int.dvd_neg).mpr h3
  have e := Int.dvd_coe_gcd c' d
  rw [Int.gcd_mul_right] at e
  unfold g3 at g
  have g' : Int.gcd ((Int.gcd x y : Nat) : Int) z = 1 := by omega
  rw [g', Nat.one_mul, Int.natAbs_natCast] at e
  exact Int.dvd_natAbs.mp e
theorem ln_same {l m z : T3} (hl : Ln l) (hm : Ln m) (hz : Ok z) (p : l.1 * m.2.1 = m.1 * l.2.1) (h1 : on l z) (h2 : on m z) : l = m := by
  have dz := hz.ne
  unfold on at h1 h2
  obtain ⟨a, b, c⟩ := l
  obtain ⟨u, v, w⟩ := m
  obtain ⟨x, y, d⟩ := z
  have sl := hl.s
  have sm := hm.s
  have gl := hl.g
  have gm := hm.g
  dsimp only at *
  have e1 : a * w = u * c := by
    have : d * (a * w) = d * (u * c) := by grind
    exact Int.eq_of_mul_eq_mul_left dz this
  have e2 : b * w = v * c := by
    have : d * (b * w) = d * (v * c) := by grind
    exact Int.eq_of_mul_eq_mul_left dz this
  by_cases a0 : a = 0
  · subst a0
    have b0 : 0 < b := by omega
    have u0 : u = 0 := by
      have : u * b = 0 := by rw [← p]; simp
      exact (Int.mul_eq_zero.mp this).resolve_right (by omega)
    subst u0
    have v0 : 0 < v := by omega
    have d1 : b ∣ v := dvd3 (x := 0) (y := b) (z := c) (by simp) ⟨v, rfl⟩ ⟨w, by grind⟩ gl
    have d2 : v ∣ b := dvd3 (x := 0) (y := v) (z := w) (by simp) ⟨b, rfl⟩ ⟨c, by grind⟩ gm
    have eb : b = v := Int.le_antisymm (Int.le_of_dvd v0 d1) (Int.le_of_dvd b0 d2)
    subst eb
    have : w = c := Int.eq_of_mul_eq_mul_left (by omega) e2
    rw [this]
  · have a1 : 0 < a := by omega
    have u1 : 0 < u := by
      rcases sm with h | ⟨h, _⟩
      · exact h
      · exfalso
        subst h
        have : a * v = 0 := by rw [p]; simp
        have v0 := (Int.mul_eq_zero.mp this).resolve_left a0
        omega
    have d1 : a ∣ u := dvd3 (x := a) (y := b) (z := c) ⟨u, rfl⟩ ⟨v, by grind⟩ ⟨w, by grind⟩ gl
    have d2 : u ∣ a := dvd3 (x := u) (y := v) (z := w) ⟨a, rfl⟩ ⟨b, by grind⟩ ⟨c, by grind⟩ gm
    have ea : a = u := Int.le_antisymm (Int.le_of_dvd u1 d1) (Int.le_of_dvd a1 d2)
    subst ea
    have : v = b := Int.eq_of_mul_eq_mul_left a0 (by grind)
    have : w = c := Int.eq_of_mul_eq_mul_left a0 (by grind)
    simp_all
def cross (l m : T3) : T3 := low (l.2.2 * m.2.1 - m.2.2 * l.2.1) (l.1 * m.2.2 - m.1 * l.2.2) (l.1 * m.2.1 - m.1 * l.2.1)
theorem cross_iff {l m z : T3} (hz : Ok z) (d : l.1 * m.2.1 ≠ m.1 * l.2.1) : (on l z ∧ on m z) ↔ z = cross l m := by
  have dn : l.1 * m.2.1 - m.1 * l.2.1 ≠ 0 := by omega
  have oc : Ok (cross l m) := low_ok dn
  have r : re (cross l m) = ((l.2.2 * m.2.1 - m.2.2 * l.2.1 : Int) : Rat) / ((l.1 * m.2.1 - m.1 * l.2.1 : Int) : Rat) := low_re dn
  have i : im (cross l m) = ((l.1 * m.2.2 - m.1 * l.2.2 : Int) : Rat) / ((l.1 * m.2.1 - m.1 * l.2.1 : Int) : Rat) := low_im dn
  have dq := cast_ne dn
  simp only [Rat.intCast_sub, Rat.intCast_mul] at r i dq
  refine ⟨fun ⟨h1, h2⟩ => ?_, fun e => ?_⟩
  · rw [on_iff hz] at h1 h2
    refine ext hz oc ?_ ?_
    · rw [r]; grind
    · rw [i]; grind
  · rw [e, on_iff oc, on_iff oc, r, i]
    refine ⟨?_, ?_⟩ <;> grind
/-! ### what satisfies all rows -/
inductive KS where
  | all | none | spot (s : T3) | line (l : T3)
def Mem : KS → T3 → Prop
  | .all, _ => True
  | .none, _ => False
  | .spot s, z => z = s
  | .line l, z => on l z
def bad (r : T3) : Bool := decide (r.1 = 0) && (decide (r.2.1 = 0) && !decide (r.2.2 = 0))
def nz2 (r : T3) : Bool := !decide (r.1 = 0) || !decide (r.2.1 = 0)
def solL : List T3 → KS
  | [] => .all
  | f :: ls => match (f :: ls).filter (fun l => !decide (l = f)) with
    | [] => .line f
    | o :: _ => if f.1 * o.2.1 = o.1 * f.2.1 then .none else if (f :: ls).all (fun l => decide (on l (cross f o))) = true then .spot (cross f o) else .none
def sol (rows : List T3) : KS := if rows.any bad = true then .none else solL ((rows.filter nz2).map lf)
theorem sol_mem (rows : List T3) {z : T3} (hz : Ok z) : Mem (sol rows) z ↔ ∀ r ∈ rows, on r z := by
  unfold sol
  by_cases hb : rows.any bad = true
  · rw [if_pos hb]
    refine ⟨fun h => h.elim, fun h => ?_⟩
    obtain ⟨r, hr, b⟩ := List.any_eq_true.mp hb
    have o := h r hr
    unfold bad at b
    simp at b
    unfold on at o
    rw [b.1, b.2.1] at o
    have o' : r.2.2 * z.2.2 = 0 := by rw [← o]; simp
    rcases Int.mul_eq_zero.mp o' with o | o
    · exact absurd o b.2.2
    · exact absurd o hz.ne
  · rw [if_neg hb]
    have key : (∀ r ∈ rows, on r z) ↔ ∀ l ∈ (rows.filter nz2).map lf, on l z := by
      refine ⟨fun h l hl => ?_, fun h r hr => ?_⟩
      · obtain ⟨r, hr, rfl⟩ := List.mem_map.mp hl
        obtain ⟨hr1, hr2⟩ := List.mem_filter.mp hr
        have n : r.1 ≠ 0 ∨ r.2.1 ≠ 0 := by unfold nz2 at hr2; simpa using hr2
        exact (lf_on n z).mpr (h r hr1)
      · by_cases n : nz2 r = true
        · have n' : r.1 ≠ 0 ∨ r.2.1 ≠ 0 := by unfold nz2 at n; simpa using n
          exact (lf_on n' z).mp (h _ (List.mem_map.mpr ⟨r, List.mem_filter.mpr ⟨hr, n⟩, rfl⟩))
        · unfold nz2 at n
          simp at n
          have nb : bad r = false := by
            cases e : bad r with
            | false => rfl
            | true => exact absurd (List.any_eq_true.mpr ⟨r, hr, e⟩) hb
          unfold bad at nb
          simp [n.1, n.2] at nb
          unfold on
          rw [n.1, n.2, nb]
          simp
    have lns : ∀ l ∈ (rows.filter nz2).map lf, Ln l := fun l hl => by
      obtain ⟨r, hr, rfl⟩ := List.mem_map.mp hl
      obtain ⟨hr1, hr2⟩ := List.mem_filter.mp hr
      exact lf_ln (by unfold nz2 at hr2; simpa using hr2)
    rw [key]
    generalize (rows.filter nz2).map lf = ls at *
    cases ls with
    | nil => simp [solL, Mem]
    | cons f ls =>
      unfold solL
      dsimp only
      cases ho : (f :: ls).filter (fun l => !decide (l = f)) with
      | nil =>
        dsimp only
        show on f z ↔ _
        refine ⟨fun h l hl => ?_, fun h => h f (List.mem_cons_self ..)⟩
        have := List.filter_eq_nil_iff.mp ho l hl
        simp at this
        rw [this]; exact h
      | cons o os =>
        dsimp only
        have om : o ∈ (f :: ls).filter (fun l => !decide (l = f)) := by rw [ho]; exact List.mem_cons_self ..
        obtain ⟨om1, om2⟩ := List.mem_filter.mp om
        have one : o ≠ f := by simpa using om2
        have fm : f ∈ f :: ls := List.mem_cons_self ..
        by_cases p : f.1 * o.2.1 = o.1 * f.2.1
        · rw [if_pos p]
          refine ⟨fun h => h.elim, fun h => ?_⟩
          exact one (ln_same (lns f fm) (lns o om1) hz p (h f fm) (h o om1)).symm
        · rw [if_neg p]
          have ci := cross_iff hz p
          by_cases q : (f :: ls).all (fun l => decide (on l (cross f o))) = true
          · rw [if_pos q]
            show z = _ ↔ _
            refine ⟨fun e l hl => ?_, fun h => ci.mp ⟨h f fm, h o om1⟩⟩
            rw [e]
            exact of_decide_eq_true (List.all_eq_true.mp q l hl)
          · rw [if_neg q]
            refine ⟨fun h => h.elim, fun h => ?_⟩
            have e := ci.mp ⟨h f fm, h o om1⟩
            refine q (List.all_eq_true.mpr fun l hl => ?_)
            rw [← e]
            exact decide_eq_true (h l hl)
/-- the form of what is told -/
def KOk : KS → Prop
  | .spot s => Ok s
  | .line l => Ln l
  | _ => True
theorem sol_ok (rows : List T3) : KOk (sol rows) := by
  unfold sol
  split
  · trivial
  · have lns : ∀ l ∈ (rows.filter nz2).map lf, Ln l := fun l hl => by
      obtain ⟨r, hr, rfl⟩ := List.mem_map.mp hl
      obtain ⟨hr1, hr2⟩ := List.mem_filter.mp hr
      exact lf_ln (by unfold nz2 at hr2; simpa using hr2)
    generalize (rows.filter nz2).map lf = ls at *
    cases ls with
    | nil => trivial
    | cons f ls =>
      unfold solL
      dsimp only
      cases (f :: ls).filter (fun l => !decide (l = f)) with
      | nil => exact lns f (List.mem_cons_self ..)
      | cons o os =>
        dsimp only
        split
        · trivial
        · rename_i p
          split
          · exact low_ok (by omega)
          · trivial
/-! ### where two copies meet -/
def minus (a b : T3) : T3 := plus a (neg b)
def gap (a b : Cp) (z : T3) : T3 := minus (ap a z) (ap b z)
def eqs (R U G : T3) : List T3 := [(R.1 * U.2.2 * G.2.2, U.1 * R.2.2 * G.2.2, G.1 * R.2.2 * U.2.2), (R.2.1 * U.2.2 * G.2.2, U.2.1 * R.2.2 * G.2.2, G.2.1 * R.2.2 * U.2.2)]
def meet (a b : Cp) : KS := sol (eqs (minus (gap a b (1, 0, 1)) (gap a b (0, 0, 1))) (minus (gap a b (0, 1, 1)) (gap a b (0, 0, 1))) (neg (gap a b (0, 0, 1))))
theorem minus_ok {a b : T3} (ha : Ok a) (hb : Ok b) : Ok (minus a b) := plus_ok ha (neg_ok hb)
theorem re_minus {a b : T3} (ha : Ok a) (hb : Ok b) : re (minus a b) = re a - re b := by unfold minus; rw [re_plus ha (neg_ok hb), re_neg]; grind
theorem im_minus {a b : T3} (ha : Ok a) (hb : Ok b) : im (minus a b) = im a - im b := by unfold minus; rw [im_plus ha (neg_ok hb), im_neg]; grind
theorem eqs_iff {R U G z : T3} (hR : Ok R) (hU : Ok U) (hG : Ok G) (hz : Ok z) : (∀ r ∈ eqs R U G, on r z) ↔ (re R * re z + re U * im z = re G ∧ im R * re z + im U * im z = im G) := by
  have r0 := cast_ne hR.ne
  have u0 := cast_ne hU.ne
  have g0 := cast_ne hG.ne
  have h : ∀ r1 u1 g1 : Int, on (r1 * U.2.2 * G.2.2, u1 * R.2.2 * G.2.2, g1 * R.2.2 * U.2.2) z ↔ (r1 : Rat) / (R.2.2 : Rat) * re z + (u1 : Rat) / (U.2.2 : Rat) * im z = (g1 : Rat) / (G.2.2 : Rat) := fun r1 u1 g1 => by
    rw [on_iff hz]
    simp only [Rat.intCast_mul]
    refine ⟨fun e => ?_, fun e => ?_⟩ <;> grind
  have e : (∀ r ∈ eqs R U G, on r z) ↔ (on (R.1 * U.2.2 * G.2.2, U.1 * R.2.2 * G.2.2, G.1 * R.2.2 * U.2.2) z ∧ on (R.2.1 * U.2.2 * G.2.2, U.2.1 * R.2.2 * G.2.2, G.2.1 * R.2.2 * U.2.2) z) := by
    unfold eqs; simp
  rw [e, h, h]
  rfl
theorem ok_0 : Ok (0, 0, 1) := ⟨by decide, by decide⟩
theorem ok_1 : Ok (1, 0, 1) := ⟨by decide, by decide⟩
theorem ok_i : Ok (0, 1, 1) := ⟨by decide, by decide⟩
theorem re_i : re (0, 1, 1) = 0 := by unfold re; decide +kernel
theorem im_i : im (0, 1, 1) = 1 := by unfold im; decide +kernel
theorem gap_ok {a b : Cp} {z : T3} (ha : CpOk a) (hb : CpOk b) (hz : Ok z) : Ok (gap a b z) := minus_ok (ap_ok ha hz) (ap_ok hb hz)
theorem re_gap {a b : Cp} {z : T3} (ha : CpOk a) (hb : CpOk b) (hz : Ok z) : re (gap a b z) = re (ap a z) - re (ap b z) := re_minus (ap_ok ha hz) (ap_ok hb hz)
theorem im_gap {a b : Cp} {z : T3} (ha : CpOk a) (hb : CpOk b) (hz : Ok z) : im (gap a b z) = im (ap a z) - im (ap b z) := im_minus (ap_ok ha hz) (ap_ok hb hz)
theorem meet_mem {a b : Cp} {z : T3} (ha : CpOk a) (hb : CpOk b) (hz : Ok z) : Mem (meet a b) z ↔ ap a z = ap b z := by
  unfold meet
  have g0 := gap_ok ha hb ok_0
  have g1 := gap_ok ha hb ok_1
  have gi := gap_ok ha hb ok_i
  rw [sol_mem _ hz, eqs_iff (minus_ok g1 g0) (minus_ok gi g0) (neg_ok g0) hz, re_minus g1 g0, re_minus gi g0, im_minus g1 g0, im_minus gi g0, re_neg, im_neg]
  simp only [re_gap ha hb ok_0, re_gap ha hb ok_1, re_gap ha hb ok_i, im_gap ha hb ok_0, im_gap ha hb ok_1, im_gap ha hb ok_i]
  unfold ap
  simp only [re_car ha.t ha.s ok_0, re_car ha.t ha.s ok_1, re_car ha.t ha.s ok_i, re_car hb.t hb.s ok_0, re_car hb.t hb.s ok_1, re_car hb.t hb.s ok_i, im_car ha.t ha.s ok_0, im_car ha.t ha.s ok_1, im_car ha.t ha.s ok_i, im_car hb.t hb.s ok_0, im_car hb.t hb.s ok_1, im_car hb.t hb.s ok_i, re_0, im_0, re_1, im_1, re_i, im_i]
  have k : car a.t a.s a.m z = car b.t b.s b.m z ↔ (re (car a.t a.s a.m z) = re (car b.t b.s b.m z) ∧ im (car a.t a.s a.m z) = im (car b.t b.s b.m z)) :=
    ⟨fun e => by rw [e]; exact ⟨rfl, rfl⟩, fun ⟨e1, e2⟩ => ext (car_ok ha.t ha.s hz) (car_ok hb.t hb.s hz) e1 e2⟩
  rw [k, re_car ha.t ha.s hz, re_car hb.t hb.s hz, im_car ha.t ha.s hz, im_car hb.t hb.s hz]
  generalize (if a.m = true then (-1 : Rat) else 1) = sa
  generalize (if b.m = true then (-1 : Rat) else 1) = sb
  refine ⟨fun ⟨e1, e2⟩ => ⟨?_, ?_⟩, fun ⟨e1, e2⟩ => ⟨?_, ?_⟩⟩ <;> grind
theorem meet_ok (a b : Cp) : KOk (meet a b) := sol_ok _
theorem all_iff {a b : Cp} (ha : CpOk a) (hb : CpOk b) : meet a b = .all ↔ a = b := by
  refine ⟨fun e => ?_, fun e => ?_⟩
  · have h : ∀ z, Ok z → ap a z = ap b z := fun z hz => (meet_mem ha hb hz).mp (by rw [e]; trivial)
    have e0 := h _ ok_0
    have e1 := h _ ok_1
    have ei := h _ ok_i
    have r0 := congrArg re e0
    have i0 := congrArg im e0
    have r1 := congrArg re e1
    have i1 := congrArg im e1
    have ri := congrArg re ei
    have ii := congrArg im ei
    unfold ap at r0 i0 r1 i1 ri ii
    simp only [re_car ha.t ha.s ok_0, re_car ha.t ha.s ok_1, re_car ha.t ha.s ok_i, re_car hb.t hb.s ok_0, re_car hb.t hb.s ok_1, re_car hb.t hb.s ok_i, im_car ha.t ha.s ok_0, im_car ha.t ha.s ok_1, im_car ha.t ha.s ok_i, im_car hb.t hb.s ok_0, im_car hb.t hb.s ok_1, im_car hb.t hb.s ok_i, re_0, im_0, re_1, im_1, re_i, im_i] at r0 i0 r1 i1 ri ii
    have n := nn_ne ha.t ha.n
    have q : nn a.t = re a.t * re a.t + im a.t * im a.t := rfl
    have tr : re a.t = re b.t := by grind
    have ti : im a.t = im b.t := by grind
    refine cp_ext ha hb tr ti (by grind) (by grind) ?_
    have no : a.m ≠ b.m → False := fun hne => by
      apply n
      rw [q]
      have z : re a.t = 0 ∧ im a.t = 0 := by
        cases hm : a.m <;> cases hm' : b.m
        · exact absurd (hm.trans hm'.symm) hne
        · rw [hm, hm'] at ri ii
          simp at ri ii
          exact ⟨by grind, by grind⟩
        · rw [hm, hm'] at ri ii
          simp at ri ii
          exact ⟨by grind, by grind⟩
        · exact absurd (hm.trans hm'.symm) hne
      rw [z.1, z.2]
      grind
    exact Decidable.byContradiction no
  · have h : ∀ z, Ok z → Mem (meet a b) z := fun z hz => (meet_mem ha hb hz).mpr (by rw [e])
    have ok := meet_ok a b
    generalize meet a b = k at *
    have h0 := h _ ok_0
    have h1 := h _ ok_1
    have hi := h _ ok_i
    cases k with
    | all => rfl
    | none => exact h0.elim
    | spot s =>
      have z0 : ((0, 0, 1) : T3) = s := h0
      have z1 : ((1, 0, 1) : T3) = s := h1
      rw [← z0] at z1
      exact absurd z1 (by decide)
    | line l =>
      exfalso
      have ok : Ln l := ok
      have z0 : on l (0, 0, 1) := h0
      have z1 : on l (1, 0, 1) := h1
      have zi : on l (0, 1, 1) := hi
      unfold on at z0 z1 zi
      simp at z0 z1 zi
      have := ok.s
      omega
/-! ### sizes of what is told -/
def KB (n m : Nat) : KS → Prop
  | .spot s => B n s
  | .line l => B m l
  | _ => True
theorem lf_B {r : T3} {n : Nat} (h : r.1 ≠ 0 ∨ r.2.1 ≠ 0) (b : B n r) : B n (lf r) := by
  obtain ⟨e1, e2, e3⟩ := lf_mul r
  have hs := sgl_ne (c := r.2.2) h
  obtain ⟨b1, b2, b3⟩ := b
  refine ⟨?_, ?_, ?_⟩
  · have := abs_le (a := (lf r).1) hs; rw [← e1] at this; omega
  · have := abs_le (a := (lf r).2.1) hs; rw [← e2] at this; omega
  · have := abs_le (a := (lf r).2.2) hs; rw [← e3] at this; omega
theorem sol_KB {rows : List T3} {n : Nat} (h : ∀ r ∈ rows, B n r) : KB (n + n + 1) n (sol rows) := by
  unfold sol
  split
  · trivial
  · have lns : ∀ l ∈ (rows.filter nz2).map lf, B n l := fun l hl => by
      obtain ⟨r, hr, rfl⟩ := List.mem_map.mp hl
      obtain ⟨hr1, hr2⟩ := List.mem_filter.mp hr
      exact lf_B (by unfold nz2 at hr2; simpa using hr2) (h r hr1)
    generalize (rows.filter nz2).map lf = ls at *
    cases ls with
    | nil => trivial
    | cons f ls =>
      unfold solL
      dsimp only
      have hf := lns f (List.mem_cons_self ..)
      cases ho : (f :: ls).filter (fun l => !decide (l = f)) with
      | nil => exact hf
      | cons o os =>
        dsimp only
        have om : o ∈ (f :: ls).filter (fun l => !decide (l = f)) := by rw [ho]; exact List.mem_cons_self ..
        have hO := lns o (List.mem_filter.mp om).1
        split
        · trivial
        · rename_i p
          split
          · exact low_B (fun z => p (Int.sub_eq_zero.mp z)) (sub_lt (mul_lt hf.2.2 hO.2.1) (mul_lt hO.2.2 hf.2.1)) (sub_lt (mul_lt hf.1 hO.2.2) (mul_lt hO.1 hf.2.2)) (sub_lt (mul_lt hf.1 hO.2.1) (mul_lt hO.1 hf.2.1))
          · trivial
theorem eqs_B {R U G : T3} {n : Nat} (hR : B n R) (hU : B n U) (hG : B n G) : ∀ r ∈ eqs R U G, B (n + n + n) r := by
  intro r hr
  unfold eqs at hr
  simp only [List.mem_cons, List.mem_nil_iff, or_false] at hr
  rcases hr with rfl | rfl
  · exact ⟨mul_lt (mul_lt hR.1 hU.2.2) hG.2.2, mul_lt (mul_lt hU.1 hR.2.2) hG.2.2, mul_lt (mul_lt hG.1 hR.2.2) hU.2.2⟩
  · exact ⟨mul_lt (mul_lt hR.2.1 hU.2.2) hG.2.2, mul_lt (mul_lt hU.2.1 hR.2.2) hG.2.2, mul_lt (mul_lt hG.2.1 hR.2.2) hU.2.2⟩
theorem minus_B {a b : T3} {n m : Nat} (oa : Ok a) (ob : Ok b) (ha : B n a) (hb : B m b) : B (n + m + 1) (minus a b) := plus_B oa (neg_ok ob) ha (neg_B hb)
theorem gap_Bn {a b : Cp} {z : T3} {n m : Nat} (ha : CpOk a) (hb : CpOk b) (hz : Ok z) (ta : B n a.t) (sa : B n a.s) (tb : B m b.t) (sb : B m b.s) (bz : B 1 z) : B (2 * n + 3 + (2 * m + 3) + 1) (gap a b z) :=
  minus_B (ap_ok ha hz) (ap_ok hb hz) ((car_B ha.t ha.s hz ta sa bz).mono (by omega)) ((car_B hb.t hb.s hz tb sb bz).mono (by omega))
instance (n : Nat) (t : T3) : Decidable (B n t) := inferInstanceAs (Decidable (_ ∧ _ ∧ _))
theorem meet_KB {a b : Cp} {n m : Nat} (ha : CpOk a) (hb : CpOk b) (ta : B n a.t) (sa : B n a.s) (tb : B m b.t) (sb : B m b.s) : KB (24 * n + 24 * m + 91) (12 * n + 12 * m + 45) (meet a b) := by
  have z0 : B 1 (0, 0, 1) := by decide
  have z1 : B 1 (1, 0, 1) := by decide
  have zi : B 1 (0, 1, 1) := by decide
  have b0 := gap_Bn ha hb ok_0 ta sa tb sb z0
  have b1 := gap_Bn ha hb ok_1 ta sa tb sb z1
  have bi := gap_Bn ha hb ok_i ta sa tb sb zi
  have g0 := gap_ok ha hb ok_0
  have g1 := gap_ok ha hb ok_1
  have gi := gap_ok ha hb ok_i
  have bR := minus_B g1 g0 b1 b0
  have bU := minus_B gi g0 bi b0
  have bG := (neg_B b0).mono (show 2 * n + 3 + (2 * m + 3) + 1 ≤ 2 * n + 3 + (2 * m + 3) + 1 + (2 * n + 3 + (2 * m + 3) + 1) + 1 by omega)
  have e1 : 24 * n + 24 * m + 91 = (12 * n + 12 * m + 45) + (12 * n + 12 * m + 45) + 1 := by omega
  rw [e1]
  exact sol_KB fun r hr => (eqs_B bR bU bG r hr).mono (by omega)
/-! ### a spot of a line, and others along it -/
def along (l : T3) (k : Int) : T3 := low (l.1 * l.2.2 + k * l.2.1) (l.2.1 * l.2.2 - k * l.1) (l.1 * l.1 + l.2.1 * l.2.1)
theorem ln_sq {l : T3} (h : Ln l) : l.1 * l.1 + l.2.1 * l.2.1 ≠ 0 := sq_ne (a := l) (by have := h.s; unfold Nz; omega)
theorem along_ok {l : T3} (h : Ln l) (k : Int) : Ok (along l k) := low_ok (ln_sq h)
theorem along_on {l : T3} (h : Ln l) (k : Int) : on l (along l k) := by
  rw [on_iff (along_ok h k)]
  have n := cast_ne (ln_sq h)
  unfold along
  rw [low_re (ln_sq h), low_im (ln_sq h)]
  simp only [Rat.intCast_add, Rat.intCast_sub, Rat.intCast_mul] at n ⊢
  grind
theorem along_re {l : T3} (h : Ln l) (k : Int) : re (along l k) = ((l.1 * l.2.2 + k * l.2.1 : Int) : Rat) / ((l.1 * l.1 + l.2.1 * l.2.1 : Int) : Rat) := low_re (ln_sq h)
theorem along_im {l : T3} (h : Ln l) (k : Int) : im (along l k) = ((l.2.1 * l.2.2 - k * l.1 : Int) : Rat) / ((l.1 * l.1 + l.2.1 * l.2.1 : Int) : Rat) := low_im (ln_sq h)
theorem two_on {l m : T3} (hl : Ln l) (hm : Ln m) (h0 : on m (along l 0)) (h1 : on m (along l 1)) : l = m := by
  refine ln_same hl hm (along_ok hl 0) ?_ (along_on hl 0) h0
  rw [on_iff (along_ok hl _), along_re hl, along_im hl] at h0 h1
  have n := cast_ne (ln_sq hl)
  simp only [Rat.intCast_add, Rat.intCast_sub, Rat.intCast_mul] at n h0 h1
  have e : (l.1 : Rat) * (m.2.1 : Rat) = (m.1 : Rat) * (l.2.1 : Rat) := by
    simp at h0 h1
    grind
  rw [← Rat.intCast_mul, ← Rat.intCast_mul] at e
  exact Rat.intCast_inj.mp e
theorem along_ne {l : T3} (h : Ln l) : along l 0 ≠ along l 1 := fun e => by
  have r := congrArg re e
  have i := congrArg im e
  rw [along_re h, along_re h] at r
  rw [along_im h, along_im h] at i
  have n := cast_ne (ln_sq h)
  simp only [Rat.intCast_add, Rat.intCast_sub, Rat.intCast_mul] at n r i
  have e1 : (l.2.1 : Rat) = 0 := by simp at r; grind
  have e2 : (l.1 : Rat) = 0 := by simp at i; grind
  have z1 : l.2.1 = 0 := by
    have : ((l.2.1 : Int) : Rat) = ((0 : Int) : Rat) := by rw [e1]; simp
    exact Rat.intCast_inj.mp this
  have z2 : l.1 = 0 := by
    have : ((l.1 : Int) : Rat) = ((0 : Int) : Rat) := by rw [e2]; simp
    exact Rat.intCast_inj.mp this
  have := h.s
  omega
theorem no_line {l : T3} (h : Ln l) (a : ∀ z, Ok z → on l z) : False := by
  have z0 := a _ ok_0
  have z1 := a _ ok_1
  have zi := a _ ok_i
  unfold on at z0 z1 zi
  simp at z0 z1 zi
  have := h.s
  omega
theorem no_spot {s : T3} (a : ∀ z, Ok z → z = s) : False := by
  have e := (a _ ok_0).trans (a _ ok_1).symm
  exact absurd e (by decide)
theorem ks_ext {k m : KS} (hk : KOk k) (hm : KOk m) (h : ∀ z, Ok z → (Mem k z ↔ Mem m z)) : k = m := by
  cases k with
  | all =>
    cases m with
    | all => rfl
    | none => exact ((h _ ok_0).mp trivial).elim
    | spot s => exact (no_spot fun z hz => (h z hz).mp trivial).elim
    | line l => exact (no_line hm fun z hz => (h z hz).mp trivial).elim
  | none =>
    cases m with
    | all => exact ((h _ ok_0).mpr trivial).elim
    | none => rfl
    | spot s => exact ((h s hm).mpr rfl).elim
    | line l => exact ((h _ (along_ok hm 0)).mpr (along_on hm 0)).elim
  | spot s =>
    cases m with
    | all => exact (no_spot fun z hz => (h z hz).mpr trivial).elim
    | none => exact ((h s hk).mp rfl).elim
    | spot t => exact congrArg KS.spot ((h s hk).mp rfl)
    | line l =>
      have a : along l 0 = s := (h _ (along_ok hm 0)).mpr (along_on hm 0)
      have b : along l 1 = s := (h _ (along_ok hm 1)).mpr (along_on hm 1)
      exact absurd (a.trans b.symm) (along_ne hm)
  | line l =>
    cases m with
    | all => exact (no_line hk fun z hz => (h z hz).mpr trivial).elim
    | none => exact ((h _ (along_ok hk 0)).mp (along_on hk 0)).elim
    | spot s =>
      have a : along l 0 = s := (h _ (along_ok hk 0)).mp (along_on hk 0)
      have b : along l 1 = s := (h _ (along_ok hk 1)).mp (along_on hk 1)
      exact absurd (a.trans b.symm) (along_ne hk)
    | line l' => exact congrArg KS.line (two_on hk hm ((h _ (along_ok hk 0)).mp (along_on hk 0)) ((h _ (along_ok hk 1)).mp (along_on hk 1)))
theorem meet_comm {a b : Cp} (ha : CpOk a) (hb : CpOk b) : meet b a = meet a b := ks_ext (meet_ok b a) (meet_ok a b) fun z hz => by
  rw [meet_mem hb ha hz, meet_mem ha hb hz]; exact ⟨Eq.symm, Eq.symm⟩
end Mth
namespace Mth
/-! ### arms -/
structure Am where
  pole : T3
  t : T3
  near : Int
  far : Int
  m : Bool
  deriving DecidableEq
structure AmOk (a : Am) : Prop where
  p : Ok a.pole
  t : Ok a.t
  n : Nz a.t
  lo : 0 ≤ a.near
  mi : a.near ≤ a.far
  hi : a.far ≤ 1000
def about (a : Am) : Cp := ⟨a.t, minus a.pole (times a.t (face a.pole a.m)), a.m⟩
theorem about_ok {a : Am} (h : AmOk a) : CpOk (about a) := ⟨h.t, h.n, minus_ok h.p (times_ok h.t (face_ok h.p _))⟩
theorem re_sh {p t : T3} (hp : Ok p) (ht : Ok t) (m : Bool) : re (minus p (times t (face p m))) = re p - (re t * re p - im t * ((if m = true then -1 else 1) * im p)) := by
  rw [re_minus hp (times_ok ht (face_ok hp m)), re_times ht (face_ok hp m), re_face, im_face]
theorem im_sh {p t : T3} (hp : Ok p) (ht : Ok t) (m : Bool) : im (minus p (times t (face p m))) = im p - (re t * ((if m = true then -1 else 1) * im p) + im t * re p) := by
  rw [im_minus hp (times_ok ht (face_ok hp m)), im_times ht (face_ok hp m), re_face, im_face]
theorem about_fix {a : Am} (h : AmOk a) : ap (about a) a.pole = a.pole := by
  have o := minus_ok h.p (times_ok h.t (face_ok h.p a.m))
  refine ext (ap_ok (about_ok h) h.p) h.p ?_ ?_
  · show re (car a.t (minus a.pole (times a.t (face a.pole a.m))) a.m a.pole) = _
    rw [re_car h.t o h.p, re_sh h.p h.t]; grind
  · show im (car a.t (minus a.pole (times a.t (face a.pole a.m))) a.m a.pole) = _
    rw [im_car h.t o h.p, im_sh h.p h.t]; grind
theorem about_of {c : Cp} {z : T3} {n f : Int} (hc : CpOk c) (hz : Ok z) (h : ap c z = z) : about ⟨z, c.t, n, f, c.m⟩ = c := by
  have o := minus_ok hz (times_ok hc.t (face_ok hz c.m))
  have h1 := congrArg re h
  have h2 := congrArg im h
  unfold ap at h1 h2
  rw [re_car hc.t hc.s hz] at h1
  rw [im_car hc.t hc.s hz] at h2
  refine cp_ext (a := about ⟨z, c.t, n, f, c.m⟩) ⟨hc.t, hc.n, o⟩ hc rfl rfl ?_ ?_ rfl
  · show re (minus z (times c.t (face z c.m))) = _
    rw [re_sh hz hc.t]; grind
  · show im (minus z (times c.t (face z c.m))) = _
    rw [im_sh hz hc.t]; grind
/-! ### chains -/
def jall (as : List Am) : Cp := as.foldl (fun c a => jn c (about a)) still
theorem foldl_ok {as : List Am} : ∀ {c : Cp}, CpOk c → (∀ a ∈ as, AmOk a) → CpOk (as.foldl (fun c a => jn c (about a)) c) := by
  induction as with
  | nil => intro c hc _; exact hc
  | cons a as ih => intro c hc h; exact ih (jn_ok hc (about_ok (h a (List.mem_cons_self ..)))) fun b hb => h b (List.mem_cons_of_mem _ hb)
theorem jall_ok {as : List Am} (h : ∀ a ∈ as, AmOk a) : CpOk (jall as) := foldl_ok still_ok h
theorem jall_snoc (as : List Am) (a : Am) : jall (as ++ [a]) = jn (jall as) (about a) := by
  unfold jall; rw [List.foldl_append]; rfl
theorem jall_take {as : List Am} {i : Nat} {a : Am} (h : as[i]? = some a) : jall (as.take (i + 1)) = jn (jall (as.take i)) (about a) := by
  rw [List.take_succ, h]; exact jall_snoc _ _
theorem jall_one {a : Am} (h : AmOk a) : jall [a] = about a := still_jn (about_ok h)
/-! ### the spot nearest to the middle -/
def near0 : KS → Option T3
  | .none => none
  | .all => some (0, 0, 1)
  | .spot s => some s
  | .line l => some (along l 0)
theorem along0 (l : T3) : along l 0 = low (l.1 * l.2.2) (l.2.1 * l.2.2) (l.1 * l.1 + l.2.1 * l.2.1) := by
  unfold along; rw [Int.zero_mul, Int.zero_mul, Int.add_zero, Int.sub_zero]
theorem near0_mem {k : KS} (hk : KOk k) {z : T3} (h : near0 k = some z) : Ok z ∧ Mem k z := by
  cases k with
  | none => cases h
  | all => cases h; exact ⟨ok_0, trivial⟩
  | spot s => cases h; exact ⟨hk, rfl⟩
  | line l => cases h; exact ⟨along_ok hk 0, along_on hk 0⟩
theorem along_perp {l : T3} (h : Ln l) : l.1 * (along l 0).2.1 = l.2.1 * (along l 0).1 := by
  have o := along_ok h 0
  have n := cast_ne (ln_sq h)
  have d := cast_ne o.ne
  have e1 := along_re h 0
  have e2 := along_im h 0
  unfold re at e1
  unfold im at e2
  generalize along l 0 = z at *
  simp only [Rat.intCast_add, Rat.intCast_sub, Rat.intCast_mul] at e1 e2 n
  have : ((l.1 * z.2.1 : Int) : Rat) = ((l.2.1 * z.1 : Int) : Rat) := by
    simp only [Rat.intCast_mul]
    grind
  exact_mod_cast this
def sng (c : Cp) : Option Am := (near0 (meet c still)).map fun z => ⟨z, c.t, 0, 1000, c.m⟩
theorem sng_ok {c : Cp} {a : Am} (hc : CpOk c) (h : sng c = some a) : AmOk a ∧ about a = c ∧ near0 (meet c still) = some a.pole ∧ a.near = 0 ∧ a.far = 1000 ∧ a.t = c.t ∧ a.m = c.m := by
  unfold sng at h
  cases e : near0 (meet c still) with
  | none => rw [e] at h; cases h
  | some z =>
    rw [e] at h
    cases h
    obtain ⟨oz, mz⟩ := near0_mem (meet_ok c still) e
    have fz : ap c z = z := by rw [(meet_mem hc still_ok oz).mp mz, ap_still oz]
    exact ⟨⟨oz, hc.t, hc.n, by show (0 : Int) ≤ 0; decide, by show (0 : Int) ≤ 1000; decide, by show (1000 : Int) ≤ 1000; decide⟩, about_of hc oz fz, rfl, rfl, rfl, rfl, rfl⟩
theorem sng_none {c : Cp} : sng c = none ↔ meet c still = .none := by
  unfold sng
  cases e : meet c still with
  | none => exact ⟨fun _ => rfl, fun _ => rfl⟩
  | all => exact ⟨(fun h => by cases h), (fun h => by cases h)⟩
  | spot s => exact ⟨(fun h => by cases h), (fun h => by cases h)⟩
  | line l => exact ⟨(fun h => by cases h), (fun h => by cases h)⟩
theorem near0_B {k : KS} {n m : Nat} (hk : KOk k) (kb : KB n m k) (hn : n ≤ 2600) (hm : m + m + 1 ≤ 2600) {z : T3} (e : near0 k = some z) : B 2600 z := by
  cases k with
  | none => cases e
  | all => cases e; exact B.mono (n := 3) (by decide) (by decide)
  | spot s => cases e; exact B.mono kb hn
  | line l =>
    cases e
    have kb : B m l := kb
    rw [along0]
    exact (low_B (ln_sq hk) (up_lt (by omega) (mul_lt kb.1 kb.2.2)) (up_lt (by omega) (mul_lt kb.2.1 kb.2.2)) (add_lt (mul_lt kb.1 kb.1) (mul_lt kb.2.1 kb.2.1))).mono hm
/-- a single arm is its own -/
theorem sng_single {c : Cp} {a : Am} (hc : CpOk c) (h : sng c = some a) : sng (jall [a]) = some a := by
  obtain ⟨o, e, _⟩ := sng_ok hc h
  rw [jall_one o, e]; exact h
/-- the level line of a spot -/
def lev (s : T3) : Am := ⟨s, (1, 0, 1), 0, 9, true⟩
theorem lev_ok {s : T3} (h : Ok s) : AmOk (lev s) := ⟨h, ok_1, .inl (show (1 : Int) ≠ 0 by decide), (by show (0 : Int) ≤ 0; decide), (by show (0 : Int) ≤ 9; decide), (by show (9 : Int) ≤ 1000; decide)⟩
theorem lev_meet {s : T3} (h : Ok s) : meet (jall [lev s]) still = .line (lf (0, s.2.2, s.2.1)) := by
  have oa := lev_ok h
  have oc := about_ok oa
  have hn : (0, s.2.2, s.2.1).1 ≠ (0 : Int) ∨ (0, s.2.2, s.2.1).2.1 ≠ (0 : Int) := .inr h.ne
  rw [jall_one oa]
  refine ks_ext (meet_ok _ _) (lf_ln hn) fun z hz => ?_
  rw [meet_mem oc still_ok hz, ap_still hz]
  show _ ↔ on (lf (0, s.2.2, s.2.1)) z
  rw [lf_on hn z, on_iff hz]
  have n := cast_ne h.ne
  have ei : im s = (s.2.1 : Rat) / (s.2.2 : Rat) := rfl
  have e1 : re (ap (about (lev s)) z) = re z := by
    unfold ap; rw [re_car oc.t oc.s hz]; unfold about lev; dsimp only; rw [re_sh h ok_1, re_1, im_1]; grind
  have e2 : im (ap (about (lev s)) z) = 2 * im s - im z := by
    unfold ap; rw [im_car oc.t oc.s hz]; unfold about lev; dsimp only; rw [im_sh h ok_1, re_1, im_1]; grind
  have z0 : (((0 : Int)) : Rat) = 0 := rfl
  dsimp only
  rw [z0]
  constructor
  · intro e
    have := congrArg im e
    rw [e2] at this
    grind
  · intro e
    refine ext (ap_ok oc hz) hz e1 ?_
    rw [e2]
    grind
theorem lev_pole {s : T3} (h : Ok s) {a : Am} (e : sng (jall [lev s]) = some a) : a.pole = low 0 s.2.1 s.2.2 := by
  obtain ⟨_, _, h3, _⟩ := sng_ok (jall_ok fun b hb => by rw [List.mem_singleton.mp hb]; exact lev_ok h) e
  rw [lev_meet h] at h3
  have h3 := Option.some.inj h3
  rw [← h3]
  have hn : (0, s.2.2, s.2.1).1 ≠ (0 : Int) ∨ (0, s.2.2, s.2.1).2.1 ≠ (0 : Int) := .inr h.ne
  have hl := lf_ln hn
  have hm := lf_mul (0, s.2.2, s.2.1)
  have sn := sgl_ne (c := s.2.1) hn
  dsimp only at hm sn
  have l1 : (lf (0, s.2.2, s.2.1)).1 = 0 := by
    rcases Int.mul_eq_zero.mp hm.1.symm with z | z
    · exact absurd z sn
    · exact z
  have on1 := along_on hl 0
  rw [lf_on hn, on_iff (along_ok hl 0)] at on1
  have n := cast_ne h.ne
  refine ext (along_ok hl 0) (low_ok h.ne) ?_ ?_
  · rw [along_re hl, low_re h.ne, l1]
    simp only [Int.zero_mul, Int.add_zero, Rat.intCast_zero, Rat.div_def, Rat.zero_mul]
  · rw [low_im h.ne]
    have z0 : (((0 : Int)) : Rat) = 0 := rfl
    dsimp only at on1
    rw [z0] at on1
    grind
theorem lev_some {s : T3} (h : Ok s) : ∃ a, sng (jall [lev s]) = some a := by
  unfold sng
  rw [lev_meet h]
  exact ⟨_, rfl⟩
end Mth
namespace Mth
/-! ### fractions -/
def val (a : Int × Int) : Rat := (a.1 : Rat) / (a.2 : Rat)
def lessF (a b : Int × Int) : Bool := decide (a.1 * b.2 < b.1 * a.2)
theorem div_lt {a b c d : Rat} (hb : 0 < b) (hd : 0 < d) : a / b < c / d ↔ a * d < c * b := by
  have e1 : a / b * (b * d) = a * d := by grind
  have e2 : c / d * (b * d) = c * b := by grind
  have p : 0 < b * d := Rat.mul_pos hb hd
  rw [← e1, ← e2]
  exact (Rat.mul_lt_mul_right p).symm
theorem cast_pos {a : Int} (h : 0 < a) : (0 : Rat) < (a : Rat) := by exact_mod_cast h
theorem lessF_iff {a b : Int × Int} (ha : 0 < a.2) (hb : 0 < b.2) : lessF a b = decide (val a < val b) := by
  unfold lessF val
  have h := div_lt (a := (a.1 : Rat)) (c := (b.1 : Rat)) (cast_pos ha) (cast_pos hb)
  have e : (a.1 : Rat) * (b.2 : Rat) < (b.1 : Rat) * (a.2 : Rat) ↔ a.1 * b.2 < b.1 * a.2 := by
    rw [← Rat.intCast_mul, ← Rat.intCast_mul]
    exact Rat.intCast_lt_intCast
  rw [decide_eq_decide]
  exact (h.trans e).symm
theorem fr_pos {p q : Int} (hq : q ≠ 0) : 0 < (fr p q).2 := low_pos hq
theorem fr_val {p q : Int} (hq : q ≠ 0) : val (fr p q) = (p : Rat) / (q : Rat) := low_re (y := 0) hq
theorem gr_val {t : T3} (h : Ok t) : val (gr t) = nn t := by
  have := re_gr3 h
  rw [gr3_eq] at this
  exact this
theorem gr_p2 {t : T3} (h : Ok t) : 0 < (gr t).2 := low_pos (mul_ne h.ne h.ne)
theorem gr_congr {s t : T3} (hs : Ok s) (ht : Ok t) (h : nn s = nn t) : gr s = gr t := by
  have e : gr3 s = gr3 t := ext (gr3_ok hs) (gr3_ok ht) (by rw [re_gr3 hs, re_gr3 ht, h]) (by rw [im_gr3 hs, im_gr3 ht])
  rw [gr3_eq, gr3_eq] at e
  have x1 := congrArg (fun z : T3 => z.1) e
  have x2 := congrArg (fun z : T3 => z.2.2) e
  dsimp only at x1 x2
  exact Prod.ext x1 x2
/-! ### zones -/
theorem nn_ap {c : Cp} {z u : T3} (hc : CpOk c) (hz : Ok z) (hu : Ok u) : nn (minus (ap c z) (ap c u)) = nn c.t * nn (minus z u) := by
  unfold nn
  rw [re_minus (ap_ok hc hz) (ap_ok hc hu), im_minus (ap_ok hc hz) (ap_ok hc hu), re_minus hz hu, im_minus hz hu]
  unfold ap
  rw [re_car hc.t hc.s hz, re_car hc.t hc.s hu, im_car hc.t hc.s hz, im_car hc.t hc.s hu]
  cases c.m <;> simp only [if_true, if_false, Bool.false_eq_true] <;> grind
def zfr (c : Cp) (n : Int) : Int × Int := fr (n * n * (gr c.t).2) (gr c.t).1
theorem nn_pos {t : T3} (h : Ok t) (n : Nz t) : 0 < nn t := by
  rw [← gr_val h]
  obtain ⟨p1, p2⟩ := gr_pos h n
  unfold val
  have h := (div_lt (a := 0) (b := 1) (c := ((gr t).1 : Rat)) (by decide) (cast_pos p2)).mpr (by rw [Rat.zero_mul, Rat.mul_one]; exact cast_pos p1)
  have e : (0 : Rat) / 1 = 0 := by grind
  rw [e] at h
  exact h
theorem zfr_p2 {c : Cp} (hc : CpOk c) (n : Int) : 0 < (zfr c n).2 := fr_pos (by have := (gr_pos hc.t hc.n).1; omega)
theorem zfr_val {c : Cp} (hc : CpOk c) (n : Int) : val (zfr c n) * nn c.t = (n : Rat) * (n : Rat) := by
  obtain ⟨p1, p2⟩ := gr_pos hc.t hc.n
  unfold zfr
  rw [fr_val (by omega), ← gr_val hc.t]
  unfold val
  have c1 := cast_ne (show (gr c.t).1 ≠ 0 by omega)
  have c2 := cast_ne (show (gr c.t).2 ≠ 0 by omega)
  simp only [Rat.intCast_mul]
  grind
theorem val1 (n : Int) : val (n, 1) = (n : Rat) := by unfold val; dsimp only; simp only [Rat.intCast_one]; grind
theorem lt_mul {x y g : Rat} (hg : 0 < g) : x < y ↔ g * x < y * g := by
  rw [Rat.mul_comm g x]; exact (Rat.mul_lt_mul_right hg).symm
theorem lt_mul' {x y g : Rat} (hg : 0 < g) : x < y ↔ x * g < g * y := by
  rw [Rat.mul_comm g y]; exact (Rat.mul_lt_mul_right hg).symm
theorem zone1 {c : Cp} {z p : T3} (hc : CpOk c) (hz : Ok z) (hp : Ok p) (n : Int) : lessF (gr (minus z (ap (bk c) p))) (zfr c n) = lessF (gr (minus (ap c z) p)) (n * n, 1) := by
  have hu := ap_ok (bk_ok hc) hp
  have e := nn_ap hc hz hu
  rw [ap_bk hc hp] at e
  have o1 := minus_ok hz hu
  have o2 := minus_ok (ap_ok hc hz) hp
  rw [lessF_iff (gr_p2 o1) (zfr_p2 hc n), lessF_iff (gr_p2 o2) (show (0 : Int) < 1 by decide), gr_val o1, gr_val o2, val1, e]
  rw [decide_eq_decide, lt_mul (nn_pos hc.t hc.n), zfr_val hc, ← Rat.intCast_mul]
theorem zone2 {c : Cp} {z p : T3} (hc : CpOk c) (hz : Ok z) (hp : Ok p) (n : Int) : lessF (zfr c n) (gr (minus z (ap (bk c) p))) = lessF (n * n, 1) (gr (minus (ap c z) p)) := by
  have hu := ap_ok (bk_ok hc) hp
  have e := nn_ap hc hz hu
  rw [ap_bk hc hp] at e
  have o1 := minus_ok hz hu
  have o2 := minus_ok (ap_ok hc hz) hp
  rw [lessF_iff (zfr_p2 hc n) (gr_p2 o1), lessF_iff (show (0 : Int) < 1 by decide) (gr_p2 o2), gr_val o1, gr_val o2, val1, e]
  rw [decide_eq_decide, lt_mul' (nn_pos hc.t hc.n), zfr_val hc, ← Rat.intCast_mul]
def inF (d lo hi : Int × Int) : Bool := !lessF d lo && !lessF hi d
def rch (a : Am) (z : T3) : Bool := inF (gr (minus z a.pole)) (a.near * a.near, 1) (a.far * a.far, 1)
/-- the zone of an arm behind a copy -/
def zctr (c : Cp) (a : Am) : T3 := ap (bk c) a.pole
theorem zone_in {c : Cp} {a : Am} {z : T3} (hc : CpOk c) (ha : AmOk a) (hz : Ok z) : inF (gr (minus z (zctr c a))) (zfr c a.near) (zfr c a.far) = rch a (ap c z) := by
  unfold inF rch zctr inF
  rw [zone1 hc hz ha.p, zone2 hc hz ha.p]
structure Zn where
  ctr : T3
  lo : Int × Int
  hi : Int × Int
def zn (c : Cp) (a : Am) : Zn := ⟨zctr c a, zfr c a.near, zfr c a.far⟩
def zl : Cp → List Am → List Zn
  | _, [] => []
  | c, a :: as => zn c a :: zl (jn c (about a)) as
theorem zl_len : ∀ (c : Cp) (as : List Am), (zl c as).length = as.length
  | _, [] => rfl
  | c, a :: as => by unfold zl; rw [List.length_cons, List.length_cons, zl_len]
theorem zl_at : ∀ {as : List Am} {c : Cp} {i : Nat} {a : Am}, as[i]? = some a → (zl c as)[i]? = some (zn ((as.take i).foldl (fun c a => jn c (about a)) c) a)
  | [], c, i, a, h => by simp at h
  | b :: as, c, 0, a, h => by simp at h; subst h; rfl
  | b :: as, c, i + 1, a, h => by
    have h' : as[i]? = some a := by simpa using h
    have z := zl_at (c := jn c (about b)) h'
    unfold zl
    simpa using z
def zns (as : List Am) : List Zn := zl still as
theorem zns_at {as : List Am} {i : Nat} {a : Am} (h : as[i]? = some a) : (zns as)[i]? = some (zn (jall (as.take i)) a) := zl_at h
theorem zns_len (as : List Am) : (zns as).length = as.length := zl_len _ _
def FB (n : Nat) (f : Int × Int) : Prop := f.1.natAbs < 2 ^ n ∧ f.2.natAbs < 2 ^ n
theorem FB.mono {n m : Nat} {f : Int × Int} (h : FB n f) (e : n ≤ m) : FB m f := ⟨up_lt e h.1, up_lt e h.2⟩
theorem fr_FB {p q : Int} {n : Nat} (hq : q ≠ 0) (h1 : p.natAbs < 2 ^ n) (h2 : q.natAbs < 2 ^ n) : FB n (fr p q) := by
  have b := low_B (y := 0) hq h1 (by show 0 < 2 ^ n; exact Nat.pos_of_ne_zero (by simp)) h2
  exact ⟨b.1, b.2.2⟩
theorem gr_FB {t : T3} {n : Nat} (h : Ok t) (b : B n t) : FB (n + n + 1) (gr t) := fr_FB (mul_ne h.ne h.ne) (add_lt (mul_lt b.1 b.1) (mul_lt b.2.1 b.2.1)) (up_lt (by omega) (mul_lt b.2.2 b.2.2))
theorem nn_jt {c : Cp} {a : Am} (hc : CpOk c) (ha : AmOk a) : nn (jn c (about a)).t = nn c.t * nn a.t := by
  show nn (times a.t (face c.t a.m)) = _
  rw [nn_times ha.t (face_ok hc.t _), nn_face]; grind
end Mth
namespace Mth
/-! ### copies that carry pairs of spots -/
abbrev Pr := T3 × T3
def crC (s g : T3) (o : Pr) (m : Bool) : Cp := ⟨times (minus o.2 g) (inv (face (minus o.1 s) m)), minus g (times (times (minus o.2 g) (inv (face (minus o.1 s) m))) (face s m)), m⟩
def crb (prs : List Pr) (h o : Pr) (m : Bool) : List Cp := if (crC h.1 h.2 o m).t = (0, 0, 1) then [] else if prs.any (fun p => !decide (ap (crC h.1 h.2 o m) p.1 = p.2)) = true then [] else [crC h.1 h.2 o m]
def oth (prs : List Pr) (h : Pr) : List Pr := prs.filter fun p => !decide (p.1 = h.1)
def crs (prs : List Pr) (h o : Pr) : List Cp := crb prs h o false ++ crb prs h o true
structure PrOk (p : Pr) : Prop where
  a : Ok p.1
  b : Ok p.2
theorem sq_nonneg (x : Rat) : 0 ≤ x * x := by
  rcases Rat.le_total (a := 0) (b := x) with c | c
  · exact Rat.mul_nonneg c c
  · have d : 0 ≤ -x := by grind
    have := Rat.mul_nonneg d d
    grind
theorem sq_zero {x y : Rat} (e : x * x + y * y = 0) : x = 0 ∧ y = 0 := by
  have p := sq_nonneg x
  have q := sq_nonneg y
  have ex : x * x = 0 := by grind
  have ey : y * y = 0 := by grind
  constructor
  · rcases Rat.mul_eq_zero.mp ex with c | c <;> exact c
  · rcases Rat.mul_eq_zero.mp ey with c | c <;> exact c
/-- two ways to carry -/
theorem two_ways {a b a' b' u v x y : Rat} (e1 : a * u - b * v = a' * u + b' * v) (e2 : a * v + b * u = b' * u - a' * v) (e3 : a * x - b * y = a' * x + b' * y) (e4 : a * y + b * x = b' * x - a' * y) (k : a * a + b * b ≠ 0) (w : u * u + v * v ≠ 0) : x * v = y * u := by
  have f1 : a' * (u * u + v * v) = (a * u - b * v) * u - (a * v + b * u) * v := by rw [e1, e2]; grind
  have f2 : b' * (u * u + v * v) = (a * u - b * v) * v + (a * v + b * u) * u := by rw [e1, e2]; grind
  have g1 : (a * x - b * y) * (u * u + v * v) = a' * (u * u + v * v) * x + b' * (u * u + v * v) * y := by rw [e3]; grind
  have g2 : (a * y + b * x) * (u * u + v * v) = b' * (u * u + v * v) * x - a' * (u * u + v * v) * y := by rw [e4]; grind
  rw [f1, f2] at g1 g2
  have h1 : (a * v + b * u) * (x * v - y * u) = 0 := by grind
  have h2 : (b * v - a * u) * (x * v - y * u) = 0 := by grind
  have h3 : ((a * a + b * b) * (u * u + v * v)) * (x * v - y * u) = 0 := by
    have : ((a * a + b * b) * (u * u + v * v)) * (x * v - y * u) = (a * v + b * u) * ((a * v + b * u) * (x * v - y * u)) + (b * v - a * u) * ((b * v - a * u) * (x * v - y * u)) := by grind
    rw [this, h1, h2]; grind
  rcases Rat.mul_eq_zero.mp h3 with c | c
  · rcases Rat.mul_eq_zero.mp c with c | c
    · exact absurd c k
    · exact absurd c w
  · grind
theorem minus_ne {a b : T3} (ha : Ok a) (hb : Ok b) (h : a ≠ b) : Nz (minus a b) := (nz_iff (minus_ok ha hb)).mpr fun e => by
  unfold nn at e
  rw [re_minus ha hb, im_minus ha hb] at e
  obtain ⟨h1, h2⟩ := sq_zero e
  exact h (ext ha hb (by grind) (by grind))
theorem zero_of {t : T3} (h : Ok t) (z : ¬ Nz t) : t = (0, 0, 1) := by
  unfold Nz at z
  refine ext h ok_0 ?_ ?_
  · rw [re_0]; unfold re; rw [show t.1 = 0 by omega]; simp only [Rat.intCast_zero, Rat.div_def, Rat.zero_mul]
  · rw [im_0]; unfold im; rw [show t.2.1 = 0 by omega]; simp only [Rat.intCast_zero, Rat.div_def, Rat.zero_mul]
section
variable {h o : Pr} {m : Bool} (ph : PrOk h) (po : PrOk o) (hn : o.1 ≠ h.1)
include ph po hn
theorem st_nz : Nz (face (minus o.1 h.1) m) := face_nz (minus_ok po.a ph.a) (minus_ne po.a ph.a hn) m
theorem crC_t : Ok (crC h.1 h.2 o m).t := times_ok (minus_ok po.b ph.b) (inv_ok (st_nz ph po hn))
theorem crC_s : Ok (crC h.1 h.2 o m).s := minus_ok ph.b (times_ok (crC_t ph po hn) (face_ok ph.a m))
theorem crC_ok (z : (crC h.1 h.2 o m).t ≠ (0, 0, 1)) : CpOk (crC h.1 h.2 o m) := ⟨crC_t ph po hn, Classical.byContradiction fun c => z (zero_of (crC_t ph po hn) c), crC_s ph po hn⟩
/-- the only one -/
theorem crC_uniq {c : Cp} (hc : CpOk c) (hm : c.m = m) (e1 : ap c h.1 = h.2) (e2 : ap c o.1 = o.2) : crC h.1 h.2 o m = c := by
  have n1 := st_nz (m := m) ph po hn
  have os := face_ok (minus_ok po.a ph.a) m
  have nn0 := nn_ne os n1
  have a1 := congrArg re e1
  have a2 := congrArg im e1
  have b1 := congrArg re e2
  have b2 := congrArg im e2
  unfold ap at a1 a2 b1 b2
  rw [re_car hc.t hc.s ph.a] at a1
  rw [im_car hc.t hc.s ph.a] at a2
  rw [re_car hc.t hc.s po.a] at b1
  rw [im_car hc.t hc.s po.a] at b2
  have ot : Ok (times (minus o.2 h.2) (inv (face (minus o.1 h.1) m))) := times_ok (minus_ok po.b ph.b) (inv_ok n1)
  have t1 : times (minus o.2 h.2) (inv (face (minus o.1 h.1) m)) = c.t := by
    have en : nn (face (minus o.1 h.1) m) = (re o.1 - re h.1) * (re o.1 - re h.1) + (im o.1 - im h.1) * (im o.1 - im h.1) := by
      rw [nn_face]; unfold nn; rw [re_minus po.a ph.a, im_minus po.a ph.a]
    refine ext ot hc.t ?_ ?_
    · rw [re_times (minus_ok po.b ph.b) (inv_ok n1), re_inv os n1, im_inv os n1, re_minus po.b ph.b, im_minus po.b ph.b, re_face, im_face, re_minus po.a ph.a, im_minus po.a ph.a]
      rw [en] at nn0 ⊢
      rw [hm] at a1 a2 b1 b2
      cases m <;> simp only [if_true, if_false, Bool.false_eq_true] at * <;> grind
    · rw [im_times (minus_ok po.b ph.b) (inv_ok n1), re_inv os n1, im_inv os n1, re_minus po.b ph.b, im_minus po.b ph.b, re_face, im_face, re_minus po.a ph.a, im_minus po.a ph.a]
      rw [en] at nn0 ⊢
      rw [hm] at a1 a2 b1 b2
      cases m <;> simp only [if_true, if_false, Bool.false_eq_true] at * <;> grind
  have e : crC h.1 h.2 o m = ⟨c.t, minus h.2 (times c.t (face h.1 m)), m⟩ := by unfold crC; rw [t1]
  rw [e]
  refine cp_ext (a := ⟨c.t, minus h.2 (times c.t (face h.1 m)), m⟩) ⟨hc.t, hc.n, minus_ok ph.b (times_ok hc.t (face_ok ph.a m))⟩ hc rfl rfl ?_ ?_ hm.symm
  · show re (minus h.2 (times c.t (face h.1 m))) = _
    rw [re_minus ph.b (times_ok hc.t (face_ok ph.a m)), re_times hc.t (face_ok ph.a m), re_face, im_face]
    rw [hm] at a1; grind
  · show im (minus h.2 (times c.t (face h.1 m))) = _
    rw [im_minus ph.b (times_ok hc.t (face_ok ph.a m)), im_times hc.t (face_ok ph.a m), re_face, im_face]
    rw [hm] at a2; grind
theorem crb_mem {prs : List Pr} (hh : h ∈ prs) (ho : o ∈ prs) {c : Cp} : c ∈ crb prs h o m ↔ (CpOk c ∧ c.m = m ∧ ∀ p ∈ prs, ap c p.1 = p.2) := by
  unfold crb
  constructor
  · intro hc
    split at hc
    · cases hc
    · rename_i z
      split at hc
      · cases hc
      · rename_i a
        rw [List.mem_singleton.mp hc]
        refine ⟨crC_ok ph po hn z, rfl, fun p hp => ?_⟩
        have a' : prs.any (fun p => !decide (ap (crC h.1 h.2 o m) p.1 = p.2)) = false := by simpa using a
        have := List.any_eq_false.mp a' p hp
        simpa using this
  · rintro ⟨hc, hm, hp⟩
    have e := crC_uniq ph po hn hc hm (hp h hh) (hp o ho)
    rw [e]
    rw [if_neg (fun z => by have := hc.n; rw [z] at this; rcases this with n | n <;> exact n rfl)]
    rw [if_neg (by
      intro a
      obtain ⟨p, h1, h2⟩ := List.any_eq_true.mp a
      simp [hp p h1] at h2)]
    exact List.mem_singleton.mpr rfl
theorem crb_len {prs : List Pr} : (crb prs h o m).length ≤ 1 := by
  unfold crb
  split
  · simp
  · split <;> simp
end
/-- all in one line -/
def flatP (h o p : Pr) : Prop := (minus p.1 h.1).1 * (minus o.1 h.1).2.1 = (minus p.1 h.1).2.1 * (minus o.1 h.1).1
theorem flat_iff {h o p : Pr} (ph : PrOk h) (po : PrOk o) (pp : PrOk p) : flatP h o p ↔ (re p.1 - re h.1) * (im o.1 - im h.1) = (im p.1 - im h.1) * (re o.1 - re h.1) := by
  have o1 := minus_ok pp.a ph.a
  have o2 := minus_ok po.a ph.a
  rw [← re_minus pp.a ph.a, ← im_minus pp.a ph.a, ← re_minus po.a ph.a, ← im_minus po.a ph.a]
  unfold flatP
  generalize minus p.1 h.1 = a at *
  generalize minus o.1 h.1 = b at *
  have na := cast_ne o1.ne
  have nb := cast_ne o2.ne
  unfold re im
  constructor
  · intro e
    have e' : ((a.1 * b.2.1 : Int) : Rat) = ((a.2.1 * b.1 : Int) : Rat) := by rw [e]
    simp only [Rat.intCast_mul] at e'
    grind
  · intro e
    have e' : ((a.1 * b.2.1 : Int) : Rat) = ((a.2.1 * b.1 : Int) : Rat) := by
      simp only [Rat.intCast_mul]
      grind
    exact_mod_cast e'
section
variable {h o : Pr} (ph : PrOk h) (po : PrOk o) (hn : o.1 ≠ h.1)
include ph po hn
theorem wn : (re o.1 - re h.1) * (re o.1 - re h.1) + (im o.1 - im h.1) * (im o.1 - im h.1) ≠ 0 := by
  have := nn_ne (minus_ok po.a ph.a) (minus_ne po.a ph.a hn)
  unfold nn at this
  rwa [re_minus po.a ph.a, im_minus po.a ph.a] at this
/-- carried the other way round, where all is in one line -/
theorem flat_both {prs : List Pr} (hh : h ∈ prs) (ho : o ∈ prs) (ok : ∀ p ∈ prs, PrOk p) (fl : ∀ p ∈ prs, flatP h o p) (m : Bool) {c : Cp} (hc : c ∈ crb prs h o m) : crb prs h o (!m) ≠ [] := by
  obtain ⟨oc, cm, cp⟩ := (crb_mem ph po hn hh ho).mp hc
  intro em
  have w := wn ph po hn
  have ot := crC_t (m := !m) ph po hn
  have n1 := st_nz (m := !m) ph po hn
  have os := face_ok (minus_ok po.a ph.a) (!m)
  have nn0 := nn_ne os n1
  have en : nn (face (minus o.1 h.1) (!m)) = (re o.1 - re h.1) * (re o.1 - re h.1) + (im o.1 - im h.1) * (im o.1 - im h.1) := by
    rw [nn_face]; unfold nn; rw [re_minus po.a ph.a, im_minus po.a ph.a]
  have a1 := congrArg re (cp h hh)
  have a2 := congrArg im (cp h hh)
  have b1 := congrArg re (cp o ho)
  have b2 := congrArg im (cp o ho)
  unfold ap at a1 a2 b1 b2
  rw [re_car oc.t oc.s ph.a, cm] at a1
  rw [im_car oc.t oc.s ph.a, cm] at a2
  rw [re_car oc.t oc.s po.a, cm] at b1
  rw [im_car oc.t oc.s po.a, cm] at b2
  have rt : re (crC h.1 h.2 o (!m)).t = ((re o.2 - re h.2) * (re o.1 - re h.1) + (im o.2 - im h.2) * ((if (!m) = true then -1 else 1) * (im o.1 - im h.1))) / ((re o.1 - re h.1) * (re o.1 - re h.1) + (im o.1 - im h.1) * (im o.1 - im h.1)) := by
    show re (times _ _) = _
    rw [re_times (minus_ok po.b ph.b) (inv_ok n1), re_inv os n1, im_inv os n1, en, re_minus po.b ph.b, im_minus po.b ph.b, re_face, im_face, re_minus po.a ph.a, im_minus po.a ph.a]
    grind
  have it : im (crC h.1 h.2 o (!m)).t = ((im o.2 - im h.2) * (re o.1 - re h.1) - (re o.2 - re h.2) * ((if (!m) = true then -1 else 1) * (im o.1 - im h.1))) / ((re o.1 - re h.1) * (re o.1 - re h.1) + (im o.1 - im h.1) * (im o.1 - im h.1)) := by
    show im (times _ _) = _
    rw [im_times (minus_ok po.b ph.b) (inv_ok n1), re_inv os n1, im_inv os n1, en, re_minus po.b ph.b, im_minus po.b ph.b, re_face, im_face, re_minus po.a ph.a, im_minus po.a ph.a]
    grind
  have nt : (crC h.1 h.2 o (!m)).t ≠ (0, 0, 1) := fun z => by
    have z1 := congrArg re z
    have z2 := congrArg im z
    rw [re_0] at z1
    rw [im_0] at z2
    have k := nn_ne oc.t oc.n
    unfold nn at k
    rw [rt] at z1
    rw [it] at z2
    cases m <;> simp only [Bool.not_true, Bool.not_false, if_true, if_false, Bool.false_eq_true] at * <;> grind
  have oc' := crC_ok ph po hn nt
  have key : crC h.1 h.2 o (!m) ∈ crb prs h o (!m) := (crb_mem ph po hn hh ho).mpr ⟨oc', rfl, fun p hp => by
    have pp := ok p hp
    have f := (flat_iff ph po pp).mp (fl p hp)
    have c1 := congrArg re (cp p hp)
    have c2 := congrArg im (cp p hp)
    unfold ap at c1 c2
    rw [re_car oc.t oc.s pp.a, cm] at c1
    rw [im_car oc.t oc.s pp.a, cm] at c2
    have sre : re (crC h.1 h.2 o (!m)).s = re h.2 - (re (crC h.1 h.2 o (!m)).t * re h.1 - im (crC h.1 h.2 o (!m)).t * ((if (!m) = true then -1 else 1) * im h.1)) := by
      show re (minus h.2 (times (crC h.1 h.2 o (!m)).t (face h.1 (!m)))) = _
      rw [re_minus ph.b (times_ok ot (face_ok ph.a _)), re_times ot (face_ok ph.a _), re_face, im_face]
    have sim : im (crC h.1 h.2 o (!m)).s = im h.2 - (re (crC h.1 h.2 o (!m)).t * ((if (!m) = true then -1 else 1) * im h.1) + im (crC h.1 h.2 o (!m)).t * re h.1) := by
      show im (minus h.2 (times (crC h.1 h.2 o (!m)).t (face h.1 (!m)))) = _
      rw [im_minus ph.b (times_ok ot (face_ok ph.a _)), im_times ot (face_ok ph.a _), re_face, im_face]
    refine ext (ap_ok oc' pp.a) pp.b ?_ ?_
    · unfold ap
      rw [re_car oc'.t oc'.s pp.a, sre, rt, it]
      show _ - _ * ((if (!m) = true then -1 else 1) * _) + _ = _
      cases m <;> simp only [Bool.not_true, Bool.not_false, if_true, if_false, Bool.false_eq_true] at * <;> grind
    · unfold ap
      rw [im_car oc'.t oc'.s pp.a, sim, rt, it]
      show _ * ((if (!m) = true then -1 else 1) * _) + _ + _ = _
      cases m <;> simp only [Bool.not_true, Bool.not_false, if_true, if_false, Bool.false_eq_true] at * <;> grind⟩
  rw [em] at key
  cases key
/-- not both, where not all is in one line -/
theorem not_both {prs : List Pr} (hh : h ∈ prs) (ho : o ∈ prs) (ok : ∀ p ∈ prs, PrOk p) {c e : Cp} (hc : c ∈ crb prs h o false) (he : e ∈ crb prs h o true) : ∀ p ∈ prs, flatP h o p := by
  obtain ⟨oc, cm, cp⟩ := (crb_mem ph po hn hh ho).mp hc
  obtain ⟨oe, em, ep⟩ := (crb_mem ph po hn hh ho).mp he
  intro p hp
  have pp := ok p hp
  rw [flat_iff ph po pp]
  have rows : ∀ q : Pr, q ∈ prs → PrOk q → re c.t * re q.1 - im c.t * im q.1 + re c.s = re q.2 ∧ re c.t * im q.1 + im c.t * re q.1 + im c.s = im q.2 ∧ re e.t * re q.1 + im e.t * im q.1 + re e.s = re q.2 ∧ im e.t * re q.1 - re e.t * im q.1 + im e.s = im q.2 := fun q hq pq => by
    have c1 := congrArg re (cp q hq)
    have c2 := congrArg im (cp q hq)
    have e1 := congrArg re (ep q hq)
    have e2 := congrArg im (ep q hq)
    unfold ap at c1 c2 e1 e2
    rw [re_car oc.t oc.s pq.a, cm] at c1
    rw [im_car oc.t oc.s pq.a, cm] at c2
    rw [re_car oe.t oe.s pq.a, em] at e1
    rw [im_car oe.t oe.s pq.a, em] at e2
    simp only [if_true, if_false, Bool.false_eq_true] at c1 c2 e1 e2
    exact ⟨by grind, by grind, by grind, by grind⟩
  obtain ⟨h1, h2, h3, h4⟩ := rows h hh ph
  obtain ⟨o1, o2, o3, o4⟩ := rows o ho po
  obtain ⟨p1, p2, p3, p4⟩ := rows p hp pp
  have k := nn_ne oc.t oc.n
  unfold nn at k
  have w := wn ph po hn
  exact two_ways (a := re c.t) (b := im c.t) (a' := re e.t) (b' := im e.t) (u := re o.1 - re h.1) (v := im o.1 - im h.1) (x := re p.1 - re h.1) (y := im p.1 - im h.1) (by grind) (by grind) (by grind) (by grind) k w
/-- nothing is carried to one spot -/
theorem crb_one {prs : List Pr} (e : o.2 = h.2) (m : Bool) : crb prs h o m = [] := by
  unfold crb
  rw [if_pos]
  refine ext (crC_t ph po hn) ok_0 ?_ ?_
  · show re (times (minus o.2 h.2) (inv (face (minus o.1 h.1) m))) = _
    rw [re_times (minus_ok po.b ph.b) (inv_ok (st_nz ph po hn)), re_minus po.b ph.b, im_minus po.b ph.b, e, re_0]; grind
  · show im (times (minus o.2 h.2) (inv (face (minus o.1 h.1) m))) = _
    rw [im_times (minus_ok po.b ph.b) (inv_ok (st_nz ph po hn)), re_minus po.b ph.b, im_minus po.b ph.b, e, im_0]; grind
/-- one of them alone where all is in one line, both where not, is not so -/
theorem crs_flat {prs : List Pr} (hh : h ∈ prs) (ho : o ∈ prs) (ok : ∀ p ∈ prs, PrOk p) (fl : ∀ p ∈ prs, flatP h o p) : (crs prs h o).length ≠ 1 := by
  unfold crs
  rw [List.length_append]
  have l1 := crb_len (m := false) ph po hn (prs := prs)
  have l2 := crb_len (m := true) ph po hn (prs := prs)
  have b1 := fun c hc => flat_both ph po hn hh ho ok fl false (c := c) hc
  have b2 := fun c hc => flat_both ph po hn hh ho ok fl true (c := c) hc
  cases e1 : crb prs h o false with
  | nil =>
    cases e2 : crb prs h o true with
    | nil => simp
    | cons c r => exact absurd e1 (b2 c (by rw [e2]; exact List.mem_cons_self ..))
  | cons c r =>
    cases e2 : crb prs h o true with
    | nil => exact absurd e2 (b1 c (by rw [e1]; exact List.mem_cons_self ..))
    | cons d t =>
      simp only [List.length_cons]
      omega
theorem crs_two {prs : List Pr} (hh : h ∈ prs) (ho : o ∈ prs) (ok : ∀ p ∈ prs, PrOk p) (nf : ¬ ∀ p ∈ prs, flatP h o p) : (crs prs h o).length ≠ 2 := by
  unfold crs
  rw [List.length_append]
  have l1 := crb_len (m := false) ph po hn (prs := prs)
  have l2 := crb_len (m := true) ph po hn (prs := prs)
  cases e1 : crb prs h o false with
  | nil => rw [List.length_nil]; omega
  | cons c r =>
    cases e2 : crb prs h o true with
    | nil => rw [e1] at l1; rw [List.length_nil]; omega
    | cons d t => exact absurd (not_both ph po hn hh ho ok (c := c) (e := d) (by rw [e1]; exact List.mem_cons_self ..) (by rw [e2]; exact List.mem_cons_self ..)) nf
theorem crs_mem {prs : List Pr} (hh : h ∈ prs) (ho : o ∈ prs) {c : Cp} : c ∈ crs prs h o ↔ (CpOk c ∧ ∀ p ∈ prs, ap c p.1 = p.2) := by
  unfold crs
  rw [List.mem_append, crb_mem ph po hn hh ho, crb_mem ph po hn hh ho]
  constructor
  · rintro (⟨a, _, b⟩ | ⟨a, _, b⟩) <;> exact ⟨a, b⟩
  · rintro ⟨a, b⟩
    cases e : c.m with
    | false => exact .inl ⟨a, rfl, b⟩
    | true => exact .inr ⟨a, rfl, b⟩
theorem crs_flags {prs : List Pr} (hh : h ∈ prs) (ho : o ∈ prs) : (crs prs h o).map (·.m) ∈ [[], [false], [true], [false, true]] := by
  unfold crs
  have l1 := crb_len (m := false) ph po hn (prs := prs)
  have l2 := crb_len (m := true) ph po hn (prs := prs)
  have f1 := fun c (hc : c ∈ crb prs h o false) => ((crb_mem ph po hn hh ho).mp hc).2.1
  have f2 := fun c (hc : c ∈ crb prs h o true) => ((crb_mem ph po hn hh ho).mp hc).2.1
  match e1 : crb prs h o false, e2 : crb prs h o true with
  | [], [] => decide
  | [c], [] => rw [List.map_append]; simp only [List.map_cons, List.map_nil]; rw [f1 c (by rw [e1]; exact List.mem_cons_self ..)]; decide
  | [], [d] => rw [List.map_append]; simp only [List.map_cons, List.map_nil]; rw [f2 d (by rw [e2]; exact List.mem_cons_self ..)]; decide
  | [c], [d] => rw [List.map_append]; simp only [List.map_cons, List.map_nil]; rw [f1 c (by rw [e1]; exact List.mem_cons_self ..), f2 d (by rw [e2]; exact List.mem_cons_self ..)]; decide
  | _ :: _ :: _, _ => rw [e1] at l1; simp at l1
  | _, _ :: _ :: _ => rw [e2] at l2; simp at l2
end
end Mth
namespace Mth
/-! ### where an arm can be held -/
def unm (t : T3) (m : Bool) (s g : T3) : T3 := minus g (times t (face s m))
def prow (t : T3) (m : Bool) (p : Pr) : List T3 := eqs (unm t m (1, 0, 1) (1, 0, 1)) (unm t m (0, 1, 1) (0, 1, 1)) (unm t m p.1 p.2)
def prows (t : T3) (m : Bool) (ps : List Pr) : List T3 := ps.flatMap (prow t m)
def pol (t : T3) (m : Bool) (ps : List Pr) : KS := sol (prows t m ps)
def abt (p t : T3) (m : Bool) : Cp := ⟨t, minus p (times t (face p m)), m⟩
theorem abt_ok {p t : T3} (m : Bool) (hp : Ok p) (ht : Ok t) (nt : Nz t) : CpOk (abt p t m) := ⟨ht, nt, minus_ok hp (times_ok ht (face_ok hp m))⟩
theorem unm_ok {t s g : T3} (m : Bool) (ht : Ok t) (hs : Ok s) (hg : Ok g) : Ok (unm t m s g) := minus_ok hg (times_ok ht (face_ok hs m))
theorem unm_re {t s g : T3} (m : Bool) (ht : Ok t) (hs : Ok s) (hg : Ok g) : re (unm t m s g) = re g - (re t * re s - im t * ((if m = true then -1 else 1) * im s)) := by
  unfold unm
  rw [re_minus hg (times_ok ht (face_ok hs m)), re_times ht (face_ok hs m), re_face, im_face]
theorem unm_im {t s g : T3} (m : Bool) (ht : Ok t) (hs : Ok s) (hg : Ok g) : im (unm t m s g) = im g - (re t * ((if m = true then -1 else 1) * im s) + im t * re s) := by
  unfold unm
  rw [im_minus hg (times_ok ht (face_ok hs m)), im_times ht (face_ok hs m), re_face, im_face]
theorem prow_iff {t p : T3} {m : Bool} {q : Pr} (ht : Ok t) (nt : Nz t) (hp : Ok p) (hq : PrOk q) : (∀ r ∈ prow t m q, on r p) ↔ ap (abt p t m) q.1 = q.2 := by
  have ok := abt_ok m hp ht nt
  unfold prow
  rw [eqs_iff (unm_ok m ht ok_1 ok_1) (unm_ok m ht ok_i ok_i) (unm_ok m ht hq.a hq.b) hp, unm_re m ht ok_1 ok_1, unm_re m ht ok_i ok_i, unm_re m ht hq.a hq.b, unm_im m ht ok_1 ok_1, unm_im m ht ok_i ok_i, unm_im m ht hq.a hq.b, re_1, im_1, re_i, im_i]
  have k : ap (abt p t m) q.1 = q.2 ↔ (re (ap (abt p t m) q.1) = re q.2 ∧ im (ap (abt p t m) q.1) = im q.2) :=
    ⟨fun e => by rw [e]; exact ⟨rfl, rfl⟩, fun ⟨e1, e2⟩ => ext (ap_ok ok hq.a) hq.b e1 e2⟩
  rw [k]
  unfold ap
  rw [re_car ok.t ok.s hq.a, im_car ok.t ok.s hq.a]
  unfold abt
  dsimp only
  rw [re_minus hp (times_ok ht (face_ok hp m)), re_times ht (face_ok hp m), re_face, im_face, im_minus hp (times_ok ht (face_ok hp m)), im_times ht (face_ok hp m), re_face, im_face]
  generalize (if m = true then (-1 : Rat) else 1) = sa
  refine ⟨fun ⟨e1, e2⟩ => ⟨?_, ?_⟩, fun ⟨e1, e2⟩ => ⟨?_, ?_⟩⟩ <;> grind
theorem pol_mem {t p : T3} {m : Bool} {ps : List Pr} (ht : Ok t) (nt : Nz t) (hp : Ok p) (hq : ∀ q ∈ ps, PrOk q) : Mem (pol t m ps) p ↔ ∀ q ∈ ps, ap (abt p t m) q.1 = q.2 := by
  unfold pol prows
  rw [sol_mem _ hp]
  refine ⟨fun h q hm => (prow_iff ht nt hp (hq q hm)).mp fun r hr => h r (List.mem_flatMap.mpr ⟨q, hm, hr⟩), fun h r hr => ?_⟩
  obtain ⟨q, hm, hr'⟩ := List.mem_flatMap.mp hr
  exact (prow_iff ht nt hp (hq q hm)).mpr (h q hm) r hr'
theorem pol_ok (t : T3) (m : Bool) (ps : List Pr) : KOk (pol t m ps) := sol_ok _
theorem pol_congr {t : T3} {m : Bool} {ps qs : List Pr} (ht : Ok t) (nt : Nz t) (hp : ∀ q ∈ ps, PrOk q) (h : ∀ q, q ∈ qs ↔ q ∈ ps) : pol t m qs = pol t m ps :=
  ks_ext (pol_ok ..) (pol_ok ..) fun z hz => by
    rw [pol_mem ht nt hz (fun q hq => hp q ((h q).mp hq)), pol_mem ht nt hz hp]
    exact ⟨fun k q hq => k q ((h q).mpr hq), fun k q hq => k q ((h q).mp hq)⟩
theorem unm_B {t s g : T3} (m : Bool) {n k : Nat} (ht : Ok t) (hs : Ok s) (hg : Ok g) (bt : B 3 t) (bs : B n s) (bg : B k g) : B (k + (3 + n + 1) + 1) (unm t m s g) := minus_B hg (times_ok ht (face_ok hs m)) bg (times_B ht (face_ok hs m) bt (face_B bs m))
theorem prows_B {t : T3} {m : Bool} {ps : List Pr} (ht : Ok t) (bt : B 3 t) (h : ∀ q ∈ ps, PrOk q ∧ B 20 q.1 ∧ B 20 q.2) : ∀ r ∈ prows t m ps, B 135 r := fun r hr => by
  obtain ⟨q, hq, hr'⟩ := List.mem_flatMap.mp hr
  obtain ⟨oq, b1, b2⟩ := h q hq
  exact eqs_B (n := 45) ((unm_B m ht ok_1 ok_1 bt (n := 1) (k := 1) (by decide) (by decide)).mono (by decide)) ((unm_B m ht ok_i ok_i bt (n := 1) (k := 1) (by decide) (by decide)).mono (by decide)) (unm_B m ht oq.a oq.b bt b1 b2) r hr'
theorem pol_KB {t : T3} {m : Bool} {ps : List Pr} (ht : Ok t) (bt : B 3 t) (h : ∀ q ∈ ps, PrOk q ∧ B 20 q.1 ∧ B 20 q.2) : KB 271 135 (pol t m ps) := sol_KB (prows_B ht bt h)
theorem prow_len (t : T3) (m : Bool) (p : Pr) : (prow t m p).length = 2 := rfl
theorem prows_len (t : T3) (m : Bool) (ps : List Pr) : (prows t m ps).length = 2 * ps.length := by
  unfold prows
  induction ps with
  | nil => rfl
  | cons p r ih => rw [List.flatMap_cons, List.length_append, ih, prow_len, List.length_cons]; omega
theorem prows_more (t : T3) (m : Bool) {ps : List Pr} {i : Nat} {p : Pr} (h : ps[i]? = some p) : prows t m (ps.take (i + 1)) = prows t m (ps.take i) ++ prow t m p := by
  unfold prows
  rw [List.take_succ, h, List.flatMap_append]
  simp
end Mth
namespace Mth
/-! ### copies seen from elsewhere -/
theorem ap_cj {o c : Cp} (ho : CpOk o) (hc : CpOk c) {z : T3} (hz : Ok z) : ap (cj o c) (ap o z) = ap o (ap c z) := by
  unfold cj
  rw [jn_ap (jn_ok (bk_ok ho) hc) ho (ap_ok ho hz), jn_ap (bk_ok ho) hc (ap_ok ho hz), bk_ap ho hz]
theorem ap_inj {o : Cp} (ho : CpOk o) {y z : T3} (hy : Ok y) (hz : Ok z) (e : ap o y = ap o z) : y = z := by
  rw [← bk_ap ho hy, ← bk_ap ho hz, e]
theorem meet_cj {o c d : Cp} (ho : CpOk o) (hc : CpOk c) (hd : CpOk d) {z : T3} (hz : Ok z) : Mem (meet (cj o c) (cj o d)) (ap o z) ↔ Mem (meet c d) z := by
  rw [meet_mem (cj_ok ho hc) (cj_ok ho hd) (ap_ok ho hz), meet_mem hc hd hz, ap_cj ho hc hz, ap_cj ho hd hz]
  exact ⟨fun e => ap_inj ho (ap_ok hc hz) (ap_ok hd hz) e, fun e => by rw [e]⟩
theorem kept_cj {o c : Cp} (ho : CpOk o) (hc : CpOk c) {z : T3} (hz : Ok z) : Mem (meet (cj o c) still) (ap o z) ↔ Mem (meet c still) z := by
  have := meet_cj ho hc still_ok hz
  rw [cj_still ho] at this
  exact this
/-- what is told of spots, and of the same spots elsewhere -/
structure Moved (o : Cp) (k k' : KS) : Prop where
  al : k = .all → k' = .all
  no : k = .none → k' = .none
  sp : ∀ s, k = .spot s → k' = .spot (ap o s)
  ln : ∀ l, k = .line l → ∃ l', k' = .line l' ∧ ∀ z, Ok z → on l z → on l' (ap o z)
theorem moved {o : Cp} (ho : CpOk o) {k k' : KS} (hk : KOk k) (hk' : KOk k') (h : ∀ z, Ok z → (Mem k' (ap o z) ↔ Mem k z)) : Moved o k k' := by
  have h' : ∀ w, Ok w → (Mem k' w ↔ Mem k (ap (bk o) w)) := fun w hw => by
    have := h (ap (bk o) w) (ap_ok (bk_ok ho) hw)
    rw [ap_bk ho hw] at this
    exact this
  refine ⟨fun e => ?_, fun e => ?_, fun s e => ?_, fun l e => ?_⟩
  · subst e
    exact ks_ext hk' hk fun w hw => by rw [h' w hw]; exact ⟨fun _ => trivial, fun _ => trivial⟩
  · subst e
    exact ks_ext hk' hk fun w hw => by rw [h' w hw]; exact ⟨fun x => x, fun x => x⟩
  · subst e
    have os : Ok s := hk
    refine ks_ext hk' (show KOk (.spot (ap o s)) from ap_ok ho os) fun w hw => ?_
    rw [h' w hw]
    show ap (bk o) w = s ↔ w = ap o s
    exact ⟨fun e => by rw [← e, ap_bk ho hw], fun e => by rw [e, bk_ap ho os]⟩
  · subst e
    cases k' with
    | line l' => exact ⟨l', rfl, fun z hz hl => (h z hz).mpr hl⟩
    | all =>
      exfalso
      have : KS.line l = .all := ks_ext hk trivial fun z hz => by rw [← h z hz]; exact ⟨fun _ => trivial, fun _ => trivial⟩
      cases this
    | none =>
      exfalso
      have : KS.line l = .none := ks_ext hk trivial fun z hz => by rw [← h z hz]; exact ⟨fun x => x, fun x => x⟩
      cases this
    | spot s' =>
      exfalso
      have os : Ok s' := hk'
      have : KS.line l = .spot (ap (bk o) s') := ks_ext hk (show KOk (.spot (ap (bk o) s')) from ap_ok (bk_ok ho) os) fun z hz => by
        rw [← h z hz]
        show ap o z = s' ↔ z = ap (bk o) s'
        exact ⟨fun e => by rw [← e, bk_ap ho hz], fun e => by rw [e, ap_bk ho os]⟩
      cases this
theorem nn_jn {a b : Cp} (ha : CpOk a) (hb : CpOk b) : nn (jn a b).t = nn a.t * nn b.t := by
  have e := congrArg re (gr_jn ha hb)
  rw [re_gr3 (jn_ok ha hb).t, re_times (gr3_ok ha.t) (gr3_ok hb.t), re_gr3 ha.t, re_gr3 hb.t, im_gr3 ha.t, im_gr3 hb.t] at e
  grind
theorem nn_still : nn still.t = 1 := by
  unfold nn still
  dsimp only
  rw [re_1, im_1]
  grind
theorem gr_cj {o c : Cp} (ho : CpOk o) (hc : CpOk c) : gr (cj o c).t = gr c.t := by
  refine gr_congr (cj_ok ho hc).t hc.t ?_
  unfold cj
  have e : nn (bk o).t * nn o.t = 1 := by rw [← nn_jn (bk_ok ho) ho, bk_jn ho, nn_still]
  rw [nn_jn (jn_ok (bk_ok ho) hc) ho, nn_jn (bk_ok ho) hc]
  grind
theorem cj_m (o c : Cp) : (cj o c).m = c.m := by
  show ((o.m != c.m) != o.m) = c.m
  cases o.m <;> cases c.m <;> rfl
theorem bk_m (c : Cp) : (bk c).m = c.m := rfl
theorem one_map {α : Type} {f : α → α} {l l' : List α} (h : l.length ≤ 1) (h' : l'.length ≤ 1) (a : ∀ x ∈ l, f x ∈ l') (b : ∀ y ∈ l', ∃ x, x ∈ l) : l.map f = l' := by
  match l, l', h, h', a, b with
  | [], [], _, _, _, _ => rfl
  | [x], [y], _, _, a, _ => 
    have := a x (List.mem_singleton.mpr rfl)
    show [f x] = [y]
    rw [List.mem_singleton.mp this]
  | [], y :: _, _, _, _, b => obtain ⟨x, hx⟩ := b y (List.mem_cons_self ..); cases hx
  | x :: _, [], _, _, a, _ => have := a x (List.mem_cons_self ..); cases this
/-- pairs, carried elsewhere -/
def prm (e : Cp) (p : Pr) : Pr := (ap e p.1, ap e p.2)
def prw (p : Pr) : Pr := (p.2, p.1)
theorem prm_ok {e : Cp} (he : CpOk e) {p : Pr} (h : PrOk p) : PrOk (prm e p) := ⟨ap_ok he h.a, ap_ok he h.b⟩
theorem prw_ok {p : Pr} (h : PrOk p) : PrOk (prw p) := ⟨h.b, h.a⟩
section
variable {prs : List Pr} {h o : Pr} (ph : PrOk h) (po : PrOk o) (hn : o.1 ≠ h.1) (hh : h ∈ prs) (ho : o ∈ prs) (ok : ∀ p ∈ prs, PrOk p)
include ph po hn hh ho ok
theorem crs_cj {e : Cp} (he : CpOk e) : (crs prs h o).map (cj e) = crs (prs.map (prm e)) (prm e h) (prm e o) := by
  have hn' : (prm e o).1 ≠ (prm e h).1 := fun z => hn (ap_inj he po.a ph.a z)
  have one : ∀ m, (crb prs h o m).map (cj e) = crb (prs.map (prm e)) (prm e h) (prm e o) m := fun m => by
    refine one_map (crb_len ph po hn) (crb_len (prm_ok he ph) (prm_ok he po) hn') (fun c hc => ?_) (fun c hc => ?_)
    · rw [crb_mem ph po hn hh ho] at hc
      rw [crb_mem (prm_ok he ph) (prm_ok he po) hn' (List.mem_map.mpr ⟨h, hh, rfl⟩) (List.mem_map.mpr ⟨o, ho, rfl⟩)]
      refine ⟨cj_ok he hc.1, by rw [cj_m]; exact hc.2.1, fun p hp => ?_⟩
      obtain ⟨q, hq, rfl⟩ := List.mem_map.mp hp
      show ap (cj e c) (ap e q.1) = ap e q.2
      rw [ap_cj he hc.1 (ok q hq).a, hc.2.2 q hq]
    · rw [crb_mem (prm_ok he ph) (prm_ok he po) hn' (List.mem_map.mpr ⟨h, hh, rfl⟩) (List.mem_map.mpr ⟨o, ho, rfl⟩)] at hc
      refine ⟨cj (bk e) c, ?_⟩
      rw [crb_mem ph po hn hh ho]
      refine ⟨cj_ok (bk_ok he) hc.1, by rw [cj_m]; exact hc.2.1, fun p hp => ?_⟩
      have k := hc.2.2 _ (List.mem_map.mpr ⟨p, hp, rfl⟩)
      have k : ap c (ap e p.1) = ap e p.2 := k
      have op := ok p hp
      have := ap_cj (bk_ok he) hc.1 (ap_ok he op.a)
      rw [bk_ap he op.a, k, bk_ap he op.b] at this
      exact this
  unfold crs
  rw [List.map_append, one, one]
theorem crs_bk (hn2 : o.2 ≠ h.2) : (crs prs h o).map bk = crs (prs.map prw) (prw h) (prw o) := by
  have one : ∀ m, (crb prs h o m).map bk = crb (prs.map prw) (prw h) (prw o) m := fun m => by
    refine one_map (crb_len ph po hn) (crb_len (prw_ok ph) (prw_ok po) hn2) (fun c hc => ?_) (fun c hc => ?_)
    · rw [crb_mem ph po hn hh ho] at hc
      rw [crb_mem (prw_ok ph) (prw_ok po) hn2 (List.mem_map.mpr ⟨h, hh, rfl⟩) (List.mem_map.mpr ⟨o, ho, rfl⟩)]
      refine ⟨bk_ok hc.1, hc.2.1, fun p hp => ?_⟩
      obtain ⟨q, hq, rfl⟩ := List.mem_map.mp hp
      have r := bk_ap hc.1 (ok q hq).a
      rw [hc.2.2 q hq] at r
      exact r
    · rw [crb_mem (prw_ok ph) (prw_ok po) hn2 (List.mem_map.mpr ⟨h, hh, rfl⟩) (List.mem_map.mpr ⟨o, ho, rfl⟩)] at hc
      refine ⟨bk c, ?_⟩
      rw [crb_mem ph po hn hh ho]
      refine ⟨bk_ok hc.1, hc.2.1, fun p hp => ?_⟩
      have k := hc.2.2 (prw p) (List.mem_map.mpr ⟨p, hp, rfl⟩)
      change ap c p.2 = p.1 at k
      have r := bk_ap hc.1 (ok p hp).b
      rw [k] at r
      exact r
  unfold crs
  rw [List.map_append, one, one]
end
theorem oth_map {prs : List Pr} {h o : Pr} {os : List Pr} {f : Pr → Pr} (i : ∀ p ∈ prs, ((f p).1 = (f h).1 ↔ p.1 = h.1)) (e : oth prs h = o :: os) : oth (prs.map f) (f h) = f o :: os.map f := by
  have : oth (prs.map f) (f h) = (oth prs h).map f := by
    unfold oth
    rw [List.filter_map]
    congr 1
    refine List.filter_congr fun p hp => ?_
    show (!decide ((f p).1 = (f h).1)) = !decide (p.1 = h.1)
    rw [decide_eq_decide.mpr (i p hp)]
  rw [this, e]
  rfl
end Mth
namespace My
open PySem L2 Mth
/-! ### a def of the module and its promise -/
structure D (P : Program) (w : World) (K : PySem.W.Frag) (mg : Str → Option Value) (base : Heap) (x : Str) (k : Nat) (sp : Sp) : Prop where
  ex : ∃ f, FnR P w K mg base CX0 k f sp ∧ PySem.W.keepIn K (.ref f) = true ∧ mg x = some (.ref f)
theorem rOf {P : Program} {w : World} {K : PySem.W.Frag} {mg : Str → Option Value} {base : Heap} {CX : CXT} {k : Nat} {f : Addr} {fd : FuncData} {ps : List Str} {sp : Sp} (F : FnOk P w K mg base CX k f fd ps sp) (b : Binds K fd ps []) : FnR P w K mg base CX k f sp := by
  intro A outer s H us vs Q E hr e0 r h
  have KX : K.In s.heap := e0.mod.kin.keeps fun b o e => (e0.bs b o e).1
  have hl : us.length = ps.length := by rw [← r.length]; exact F.len _ _ _ _ h
  have z := b s us KX (by rw [List.append_nil]; exact hl)
  rw [List.append_nil] at z
  exact F.run A outer s H ⟨us, []⟩ us vs Q E hr e0 z r h
def tCl (sp : Sp) (t : TA) : TE := fun σ H Q => t σ H fun vs H1 => sp vs H1 Q E0
section
variable {X : Cx} {k : Nat} {f : Addr} {sp : Sp} {x : Str} {e : Expr} {es : List Expr} {t : TA} {p pos : Pos}
theorem pcR (F : FnR X.prog X.w X.K X.mg X.base CX0 k f sp) (hr : Room k X.A) (hk : PySem.W.keepIn X.K (.ref f) = true) (hm : X.mg x = some (.ref f)) (ha : PA X (e :: es) t) (hg : Gl X x := by rfl) (hd : (x == ("__debug__" : Str)) = false := by decide)
    (he : starEach (e :: es) X.env = (false, eval e X.env) :: starEach es X.env := by rfl) (hpl : (backTo pos (starEach es X.env)).any (·.1) = false := by rfl) :
    PE X (.Call (.Name x p) (e :: es) [] pos) (tCl sp t) := by
  refine ⟨fun pins s σ H Q I h => ?_⟩
  refine wpAny_Call_Name_kw (ld_glob I hg hm ?_ hd)
  refine PySem.W.callWith_K (h₀ := X.base) I.ok.mod.kin hk (thn (ha.run pos pins s σ H _ I h) fun us s1 ⟨vs, H1, I1, r, q⟩ => ⟨I1.kIn, ?_⟩) he hpl
  exact wpAny_call (run_fnR F hr pass0 I1 r q)
/-- f(e, ..) by the promise of f -/
theorem pc (d : D X.prog X.w X.K X.mg X.base x k sp) (hr : Room k X.A) (ha : PA X (e :: es) t) (hg : Gl X x := by rfl) (hd : (x == ("__debug__" : Str)) = false := by decide)
    (he : starEach (e :: es) X.env = (false, eval e X.env) :: starEach es X.env := by rfl) (hpl : (backTo pos (starEach es X.env)).any (·.1) = false := by rfl) :
    PE X (.Call (.Name x p) (e :: es) [] pos) (tCl sp t) := by
  obtain ⟨f, F, hk, hm⟩ := d.ex
  exact pcR F hr hk hm ha hg hd he hpl
end
section
variable {X : Cx} {k : Nat} {sp : Sp} {x : Str} {p pos : Pos}
/-- f() by the promise of f -/
theorem pc0 (d : D X.prog X.w X.K X.mg X.base x k sp) (hr : Room k X.A) (hg : Gl X x := by rfl) (hd : (x == ("__debug__" : Str)) = false := by decide) : PE X (.Call (.Name x p) [] [] pos) (tCl sp tNil) := by
  obtain ⟨f, F, hk, hm⟩ := d.ex
  refine ⟨fun pins s σ H Q I h => ?_⟩
  refine wpAny_Call_Name_kw (ld_glob I hg hm ?_ hd)
  exact PySem.W.callWith_K0 I.kIn hk (wpAny_call (run_fnR (us := []) (vs := []) F hr pass0 I .nil h))
end
/-! ### operators of own classes -/
def rOwn2 (C : Addr) (sp : Sp) : R2 := fun x y H Q => ∃ a b dx fs dy gs, x = .ref a ∧ y = .ref b ∧ H a = some (.ins C dx fs) ∧ H b = some (.ins C dy gs) ∧ sp [x, y] H Q E0
def rOwn1 (C : Addr) (sp : Sp) : V → Hp → VK → Prop := fun x H Q => ∃ a dx fs, x = .ref a ∧ H a = some (.ins C dx fs) ∧ sp [x] H Q E0
section
variable {X : Cx} {k : Nat} {f C : Addr} {sp : Sp}
theorem back_of {pins : List (Addr × Obj)} {σ : L2.St} {Q : VK} {v : Value} {s' : Shared} (h : EP X pins σ Q v s') : PySem.W.CmpBack (EP X pins σ Q) v s' := by
  have h0 := h
  obtain ⟨z, H', I', rz, q⟩ := h
  cases v <;> first | exact h0 | (exfalso; cases z <;> first | (obtain ⟨t, e⟩ := rz; cases e) | cases rz)
theorem op_own {op : Operator} (F : FnR X.prog X.w X.K X.mg X.base CX0 k f sp) (hr : Room k X.A) (hc : PySem.W.selfFirst X.K C = true)
    (hs : PySem.W.findIn X.K (.ref C) (PySem.dunder op.info.2) = some (some (.ref f))) (hf : PySem.W.isFn X.K (.ref f) = true) : OpR X (binaryOp op) (rOwn2 C sp) := by
  intro pins s σ H x y v u Q I rx ry hq
  obtain ⟨a, b, dx, fs, dy, gs, rfl, rfl, ha, hb', q⟩ := hq
  cases rx
  cases ry
  obtain ⟨mA, J, _⟩ := ins_get I.hok ha
  obtain ⟨mB, J', _⟩ := ins_get I.hok hb'
  obtain ⟨od, J, _⟩ := J.look
  obtain ⟨od', J', _⟩ := J'.look
  obtain ⟨m, hF⟩ := I.fr
  refine PySem.W.binop_K hF I.ok.mod.kin J J'.type hc hs hf ?_
  exact wpAny_mono (wpAny_call (run_fnR (us := [.ref a, .ref b]) (vs := [V.ref a, V.ref b]) F hr pass0 I (.cons rfl (.cons rfl .nil)) q)) (fun v s' h => back_of h) fun _ _ z => z
theorem un_own (F : FnR X.prog X.w X.K X.mg X.base CX0 k f sp) (hr : Room k X.A)
    (hs : PySem.W.findIn X.K (.ref C) "__invert__" = some (some (.ref f))) (hf : PySem.W.isFn X.K (.ref f) = true) : UnR X (unaryOp .Invert) (rOwn1 C sp) := by
  intro pins s σ H x v Q I rx hq
  obtain ⟨a, dx, fs, rfl, ha, q⟩ := hq
  cases rx
  obtain ⟨mA, J, _⟩ := ins_get I.hok ha
  obtain ⟨od, J, _⟩ := J.look
  obtain ⟨m, hF⟩ := I.fr
  refine PySem.W.ksp_inv hF I.ok.mod.kin J hs hf ?_
  exact wpAny_call (run_fnR (us := [.ref a]) (vs := [V.ref a]) F hr pass0 I (.cons rfl .nil) q)
theorem eq_own (F : FnR X.prog X.w X.K X.mg X.base CX0 k f sp) (hr : Room k X.A)
    (hs : PySem.W.findIn X.K (.ref C) "__eq__" = some (some (.ref f))) (hf : PySem.W.isFn X.K (.ref f) = true) : OpR X (compareOp .Eq) (rOwn2 C sp) := by
  intro pins s σ H x y v u Q I rx ry hq
  obtain ⟨a, b, dx, fs, dy, gs, rfl, rfl, ha, hb', q⟩ := hq
  cases rx
  cases ry
  obtain ⟨mA, J, _⟩ := ins_get I.hok ha
  obtain ⟨mB, J', _⟩ := ins_get I.hok hb'
  obtain ⟨od, J, _⟩ := J.look
  obtain ⟨od', J', _⟩ := J'.look
  obtain ⟨m, hF⟩ := I.fr
  show wpAny (model X.prog X.w) X.A (richCompare .Eq (.ref a) (.ref b)) (EP X pins σ Q) X.xe s
  refine PySem.W.cmp_K (op := .Eq) (tb := .ref C) hr.units0 hF I.ok.mod.kin J J'.type (by simp [PySem.W.notFirst]) hs hf ?_
  exact wpAny_mono (wpAny_call (run_fnR (us := [.ref a, .ref b]) (vs := [V.ref a, V.ref b]) F hr pass0 I (.cons rfl (.cons rfl .nil)) q)) (fun v s' h => back_of h) fun _ _ z => z
end
/-! ### // by a number of any sign -/
def CDivX (_ j : Int) : Prop := j ≠ 0 ∧ j.natAbs.log2 < 9000
theorem op_fdivX {X : Cx} : OpR X (binaryOp .FloorDiv) (rI CDivX fun i j => .int (i.fdiv j)) := opI fun i j _ _ _ _ _ hc q =>
  PyProof.Rows.floordiv_int hc.1 q (.inl (PyProof.noPylong_of_log2 hc.2))
theorem divX {i j : Int} {b : Nat} (h : j ≠ 0) (hb : j.natAbs < 2 ^ b) (h0 : 0 < b) (h9 : b ≤ 9000) : CDivX i j := ⟨h, Nat.lt_of_lt_of_le (PySem.Flt.log2_lt_of h0 hb) h9⟩
/-! ### tuples of three ints -/
def v3 (s : T3) : List V := [.int s.1, .int s.2.1, .int s.2.2]
def IsT (K : PySem.W.Frag) (H : Hp) (v : V) (s : T3) : Prop := ∃ p, v = .ref p ∧ SqT K H p (v3 s)
theorem same_T {K : PySem.W.Frag} {H H' : Hp} {a : Addr} {xs : List V} (e : Same H H') (h : SqT K H a xs) : SqT K H' a xs := SqT.ext h e
theorem IsT.same {K : PySem.W.Frag} {H H' : Hp} {v : V} {s : T3} (h : IsT K H v s) (e : Same H H') : IsT K H' v s := by
  obtain ⟨p, rfl, q⟩ := h
  exact ⟨p, rfl, same_T e q⟩
theorem same_new {H : Hp} {p : Addr} (h : H p = none) (o : HO) : Same H (upd H p o) := fun b u q => by rw [upd_ne (ne_of_none q h)]; exact q
theorem IsT.new {K : PySem.W.Frag} {H : Hp} {p : Addr} {a b c : Int} : IsT K (upd H p (.tup [.int a, .int b, .int c])) (.ref p) (a, b, c) := ⟨p, rfl, .inl (.inl upd_same)⟩
theorem yes_of {σ : St} {H : Hp} {A B : Hp → Prop} (h : A H) : tYes σ H (fun b H3 => if b = true then A H3 else B H3) := by
  show if true = true then A H else B H
  rw [if_pos rfl]
  exact h
/-! ### displays of tuples of three written ints -/
def tT3 (K : PySem.W.Frag) (t : T3) : TE := fun _ H Q => ∀ H' p, Same H H' → SqT K H' p (v3 t) → Q (.ref p) H'
def tTups (K : PySem.W.Frag) (ts : List T3) : TA := fun _ H Q => ∀ H' (ps : List Addr), Same H H' → Paired (fun p t => SqT K H' p (v3 t)) ps ts → Q (ps.map V.ref) H'
theorem paT0 {X : Cx} : PA X [] (tTups X.K []) := ⟨fun pos pins s σ H Q I h => (pa_nil (X := X)).run pos pins s σ H Q I (h H [] (Same.refl _) .nil)⟩
theorem paT {X : Cx} {e : Expr} {es : List Expr} {te : TE} {t : T3} {ts : List T3} (he : PE X e te) (hi : ∀ σ H Q, tT3 X.K t σ H Q → te σ H Q) (hr : PA X es (tTups X.K ts))
    (hs : starEach (e :: es) X.env = (false, eval e X.env) :: starEach es X.env := by rfl) : PA X (e :: es) (tTups X.K (t :: ts)) :=
  ⟨fun pos pins s σ H Q I h => (pa_cons he hr hs).run pos pins s σ H Q I (hi σ H _ fun H1 p s1 h1 => fun H2 ps s2 h2 => h H2 (p :: ps) (s1.trans s2) (.cons (same_T s2 h1) h2))⟩
/-! ### all is kept but one list -/
def Keep (d : Addr) (H H' : Hp) : Prop := ∀ b o, b ≠ d → H b = some o → H' b = some o
theorem Keep.of {d : Addr} {H H' : Hp} (s : Same H H') : Keep d H H' := fun b o _ e => s b o e
theorem Keep.trans {d : Addr} {H H1 H2 : Hp} (a : Keep d H H1) (b : Keep d H1 H2) : Keep d H H2 := fun c o n e => b c o n (a c o n e)
theorem keep_upd {d : Addr} {H : Hp} {o : HO} : Keep d H (upd H d o) := fun b u n e => by rw [upd_ne n]; exact e
theorem keep_T {K : PySem.W.Frag} {H H' : Hp} {d p : Addr} {xs ys : List V} (h : SqT K H p xs) (hd : H d = some (.lst ys)) (k : Keep d H H') : SqT K H' p xs := by
  rcases h with (h | ⟨o, h⟩) | h
  · exact .inl (.inl (k _ _ (ne_of h hd (by intro z; cases z)) h))
  · exact .inl (.inr ⟨o, k _ _ (ne_of h hd (by intro z; cases z)) h⟩)
  · exact .inr h
theorem IsT.keep {K : PySem.W.Frag} {H H' : Hp} {v : V} {s : T3} {d : Addr} {ys : List V} (h : IsT K H v s) (hd : H d = some (.lst ys)) (k : Keep d H H') : IsT K H' v s := by
  obtain ⟨p, rfl, q⟩ := h
  exact ⟨p, rfl, keep_T q hd k⟩
/-! ### two ways that meet -/
theorem seq_join {t u : TS} {D : Ends} {σ : St} {H : Hp} (W : St → Hp → Prop) (k : ∀ σ' H', W σ' H' → u D σ' H') (h : ∀ D' : Ends, D'.rt = D.rt → (∀ σ' H', W σ' H' → D'.nx σ' H') → t D' σ H) : tSeq t u D σ H := h { D with nx := u D } rfl k
theorem exp_join {t : TT} {ta tb : TE} {σ : St} {H : Hp} {Q : VK} (W : V → Hp → Prop) (k : ∀ v H', W v H' → Q v H') (h : ∀ Q' : VK, (∀ v H', W v H' → Q' v H') → tIf t ta tb σ H Q') : tIf t ta tb σ H Q := h Q k
theorem small {n : Nat} (h : n ≤ 1000) : n ≤ sizeLine := Nat.le_of_lt (small1000 h)
end My
namespace My
open PySem L2 Mth PyProof.Rows
/-! ### a op b op c op d as a test -/
def tChain3 (r r' r'' : R2) (ta tb tc td : TE) : TE := fun σ H Q => ta σ H fun x H1 => tb σ H1 fun y H2 => r x y H2 fun z H3 => ∃ k, z = .bl k ∧
  (if k = true then tc σ H3 fun w' H4 => r' y w' H4 fun z' H5 => ∃ k', z' = .bl k' ∧ (if k' = true then td σ H5 fun u' H6 => r'' w' u' H6 Q else Q (.bl false) H5) else Q (.bl false) H3)
theorem pt_chain3 {X : Cx} {a b c d : Expr} {ta tb tc td : TE} {pos : Pos} {op op' op'' : CmpOp} {r r' r'' : R2} (ho : OpR X (compareOp op) r) (ho' : OpR X (compareOp op') r') (ho'' : OpR X (compareOp op'') r'') (ha : PE X a ta) (hb : PE X b tb) (hc : PE X c tc) (hd : PE X d td)
    (hm : lastMarks [op, op', op''] [b, c, d] = false := by with_unfolding_all rfl) : PT X (.Compare a [op, op', op''] [b, c, d] pos) (tTest (tChain3 r r' r'' ta tb tc td)) := by
  refine ⟨fun pins s σ H Q I h => ?_⟩
  refine isTrue_chain (thn (ha.run pins s σ H _ I h) fun v s1 ⟨x, H1, I1, r1, q1⟩ => test_link (thn (hb.run pins s1 σ H1 _ I1 q1) fun u s2 ⟨y, H2, I2, r2, q2⟩ =>
    thn (ho pins s2 σ H2 x y v u _ I2 r1 r2 q2) fun e s3 ⟨z, H3, I3, r3, k, ek, q3⟩ => ?_)) hm
  subst ek
  cases r3
  refine wpAny_truthy_bool ?_
  cases k with
  | false =>
    obtain ⟨k', e', q'⟩ := q3
    cases e'
    exact ite_ff ⟨H3, I3, q'⟩
  | true =>
    refine ite_tt (test_link (thn (hc.run pins s3 σ H3 _ I3 q3) fun w' s4 ⟨z', H4, I4, r4, q4⟩ => thn (ho' pins s4 σ H4 y z' u w' _ I4 r2 r4 q4) fun d' s5 ⟨z2, H5, I5, r5, k2, e2, q5⟩ => ?_))
    subst e2
    cases r5
    refine wpAny_truthy_bool ?_
    cases k2 with
    | false =>
      obtain ⟨k', e', q'⟩ := q5
      cases e'
      exact ite_ff ⟨H5, I5, q'⟩
    | true =>
      refine ite_tt (test_last (thn (hd.run pins s5 σ H5 _ I5 q5) fun w2 s6 ⟨z3, H6, I6, r6, q6⟩ => thn (ho'' pins s6 σ H6 z' z3 w' w2 _ I6 r4 r6 q6) fun d3 s7 ⟨z4, H7, I7, r7, k3, e3, q7⟩ => ?_))
      subst e3
      cases r7
      exact wpAny_truthy_bool ⟨H7, I7, q7⟩
/-! ### instances made with no argument, with a starred one -/
section
variable {X : Cx} {k : Nat} {f C : Addr} {sp : Sp} {x : Str} {p pos sp_ : Pos} {e : Expr} {te : TE}
theorem pe_makeR0 (M : Mk X.K C f) (F : FnR X.prog X.w X.K X.mg X.base CX0 k f sp) (hr : Room (k + 1) X.A) (hg : Gl X x) (hm : X.mg x = some (.ref C)) (hdb : (x == ("__debug__" : Str)) = false := by decide) : PE X (.Call (.Name x p) [] [] pos) (StX.tMakeR C sp E0 tNil) := by
  refine ⟨fun pins s σ H Q I h => ?_⟩
  refine wpAny_Call_Name_kw (ld_glob I hg hm ?_ hdb)
  exact PySem.W.callWith_K0 I.kIn M.kp (StX.run_makeR (us := []) M F hr pass0 I .nil h)
def tMakeS (K : PySem.W.Frag) (C : Addr) (sp : Sp) (te : TE) : TE := fun σ H Q => te σ H fun y H1 => ∃ a xs, y = V.ref a ∧ (SqT K H1 a xs ∨ SqL K H1 a xs) ∧ ∀ x dx, H1 x = Option.none → H1 dx = Option.none → dx ≠ x →
  sp (V.ref x :: xs) (upd (upd H1 dx (.own x)) x (.ins C dx [])) (fun v H2 => v = .non ∧ Q (.ref x) H2) E0
theorem pe_makeS (M : Mk X.K C f) (F : FnR X.prog X.w X.K X.mg X.base CX0 k f sp) (hr : Room (k + 1) X.A) (hg : Gl X x) (hm : X.mg x = some (.ref C)) (he : PE X e te) (hdb : (x == ("__debug__" : Str)) = false := by decide)
    (hst : starEach [.Starred e sp_] X.env = [(true, eval e X.env)] := by rfl) : PE X (.Call (.Name x p) [.Starred e sp_] [] pos) (tMakeS X.K C sp te) := by
  refine ⟨fun pins s σ H Q I h => ?_⟩
  refine wpAny_Call_Name_kw (ld_glob I hg hm ?_ hdb)
  refine PySem.W.callWith_S (h₀ := X.base) I.ok.mod.kin M.kp (thn (he.run pins s σ H _ I h) fun v s1 ⟨y, H1, I1, ry, a, xs, ey, hxs, q⟩ => ?_) hst
  subst ey
  obtain rfl : v = Value.ref a := ry
  exact StX.star_any I1 hxs fun us s2 I2 rv => ⟨I2.kIn, StX.run_makeR M F hr pass0 I2 rv q⟩
end
/-! ### properties that tell a field -/
structure MPf (P : Program) (w : World) (K : PySem.W.Frag) (mg : Str → Option Value) (base : Heap) (C : Addr) (x f : Str) : Prop where
  cl : Cls K C
  ex : ∃ g fd p, FnOk P w K mg base CX0 1 g fd ["self"] (getSp C f) ∧ Binds K fd ["self"] [] ∧ PropOf K C x p g
theorem pe_pf {X : Cx} {C : Addr} {x f : Str} {e : Expr} {te : TE} {pos : Pos} (M : MPf X.prog X.w X.K X.mg X.base C x f) (hr : Room 2 X.A) (he : PE X e te) (hab : attributeBase e x X.env (eval e X.env) = eval e X.env := by rfl) : PE X (.Attribute e x pos) (tProp C (getSp C f) [] E0 te) := by
  obtain ⟨g, fd, p, F, b, hp⟩ := M.ex
  exact pe_prop he M.cl hp F hr b .nil pass0 hab
theorem pf_of {C p dx : Addr} {H : Hp} {Q : VK} {fs : List (Str × V)} {f : Str} {z : V} (h : H p = some (.ins C dx fs)) (l : fs.lookup f = some z) (q : Q z H) : ∃ a dx fs, V.ref p = .ref a ∧ H a = some (.ins C dx fs) ∧ getSp C f (.ref a :: []) H Q E0 :=
  ⟨p, dx, fs, rfl, h, p, dx, fs, z, rfl, h, l, q⟩
/-! ### fields -/
theorem putF_len (x : Str) (v : V) : ∀ fs : List (Str × V), (putF x v fs).length ≤ fs.length + 1
  | [] => Nat.le_refl _
  | (y, u) :: fs => by
    unfold putF
    split
    · simp
    · have := putF_len x v fs
      simp only [List.length_cons]
      omega
/-- all is kept but an instance that is being made -/
theorem keepI_T {K : PySem.W.Frag} {H H' : Hp} {d p C dx : Addr} {fs : List (Str × V)} {xs : List V} (h : SqT K H p xs) (hd : H d = some (.ins C dx fs)) (k : Keep d H H') : SqT K H' p xs := by
  rcases h with (h | ⟨o, h⟩) | h
  · exact .inl (.inl (k _ _ (ne_of h hd (by intro z; cases z)) h))
  · exact .inl (.inr ⟨o, k _ _ (ne_of h hd (by intro z; cases z)) h⟩)
  · exact .inr h
/-! ### a def with a star parameter behind its others -/
theorem fun_star {P : Program} {w : World} {K : PySem.W.Frag} {mg : Str → Option Value} {base : Heap} {x qual : Str} {st : Stmt} {f : Addr} {fd : FuncData} {N ps : List Str} {pv : Str} {k : Nat} {sp : Sp} (F : Fun K x qual st f fd) (S : FnScope N (ps ++ [pv]) (defScope st))
    (hb : ∀ (kV doc pm : Value) (an : Option Addr) (cdv ct : Value) (us rest : List Value), us.length = ps.length → bindArgs (PySem.W.fnOf x qual (defArgs st) (defBody st) (defScope st) .none kV doc pm an cdv ct) ⟨us ++ rest, []⟩ = (newTuple rest >>= fun t => pure (ps.zip us ++ [(pv, t)])))
    (hbody : ∀ (cdv : Value) (A : Around) (outer : List Env) (s : Shared) (H : Hp) (vs : List V) (Q : VK) (E : XK), Room k (A.deeper (envOfC qual (defScope st) s.heap.objs.size f cdv)) → sp vs H Q E →
      ∃ t, PSs (cxOf CX0 P w K mg base N qual (defScope st) f cdv A outer s H E).nox (defBody st) t ∧ t { nx := fun _ H' => Q .non H', rt := Q } (start N vs) H) :
    FnR P w K mg base CX0 (k + 1) f (fun vs H Q E => ∃ ws rest, vs = ws ++ rest ∧ ws.length = ps.length ∧ rest.length ≤ sizeLine ∧ ∀ p, H p = Option.none → sp (ws ++ [V.ref p]) (upd H p (.tup rest)) Q E) := by
  obtain ⟨oc, od, kV, doc, pm, an, cdv, ct, osl, rfl, lk, hcd⟩ := F.ex
  refine StX.fn_star lk hcd S StX.cxUp_none (hb kV doc pm an cdv ct) fun A outer s H vs Q E hr hsp => ?_
  obtain ⟨t, h, q⟩ := hbody cdv A outer s H vs Q E hr hsp
  exact ⟨t, h.nox, q⟩
end My
namespace My
open PySem PySem.Spec PyProof.Rows L2 TS
/-! ### sorted(a set of tuples of ints of any sign): how many there are -/
/-- ints of any sign, ranked -/
def rkS (B : Int) (ns : List Int) : Int := code (2 * B) (ns.map (· + B))
def SdS (B : Int) (ns : List Int) : Prop := ∀ m ∈ ns, -B ≤ m ∧ m < B
theorem SdS.up {B : Int} {ns : List Int} (h : SdS B ns) : Bd (2 * B) (ns.map (· + B)) := fun m hm => by
  obtain ⟨k, hk, rfl⟩ := List.mem_map.mp hm
  have := h k hk
  constructor <;> omega
theorem SdS.tl {B k : Int} {ns : List Int} (h : SdS B (k :: ns)) : SdS B ns := fun m hm => h m (List.mem_cons_of_mem _ hm)
theorem rkS_lt {B k l : Int} {ns ms : List Int} (e : ns.length = ms.length) (h1 : SdS B ns) (h2 : SdS B ms) (h : k < l) : rkS B (k :: ns) < rkS B (l :: ms) :=
  code_lt (by rw [List.length_map, List.length_map]; exact e) h1.up h2.up (show k + B < l + B by omega)
theorem rkS_eq {B k : Int} {ns ms : List Int} (e : ns.length = ms.length) : rkS B (k :: ns) < rkS B (k :: ms) ↔ rkS B ns < rkS B ms := code_same (by rw [List.length_map, List.length_map]; exact e)
section
variable {prog : Program} {w : World} {A : Around} {E : Value → Shared → Prop} {s : Shared}
theorem lexS {Q : Bool → Shared → Prop} {B : Int} {c : Bool} {us : List Value} {ns : List Int} (hu : IntsAre us ns) : ∀ {ws : List Value} {ms : List Int} (j : Nat), IntsAre ws ms → ns.length = ms.length → SdS B ns → SdS B ms → Q (decide (rkS B ns < rkS B ms)) s → PySem.W.KatLex prog w A c false Q (us.zip ws) j s := by
  induction hu with
  | nil =>
    intro ws ms j hw hl _ _ q
    cases hw with
    | nil =>
      rw [decide_eq_false (Int.lt_irrefl _)] at q
      exact PySem.W.kat_nil q
    | cons _ _ _ => cases hl
  | @cons k tk us ns hu ih =>
    intro ws ms j hw hl b1 b2 q
    cases hw with
    | nil => cases hl
    | @cons l tl ws ms hw =>
      have el : ns.length = ms.length := Nat.succ.inj hl
      show PySem.W.KatLex prog w A c false Q ((.int k tk, .int l tl) :: us.zip ws) j s
      refine PySem.W.kat_cons (wpAny_eqBool_int ?_)
      by_cases same : k = l
      · subst same
        rw [decide_eq_decide.mpr (rkS_eq el)] at q
        rw [beq_self_eq_true]
        exact PySem.W.kat_yes (ih (j + 1) hw el b1.tl b2.tl q)
      · have er : decide (rkS B (k :: ns) < rkS B (l :: ms)) = decide (k < l) := decide_eq_decide.mpr ⟨fun y => by
            rcases Int.lt_or_gt_of_ne same with z | z
            · exact z
            · have := rkS_lt el.symm b2.tl b1.tl z
              omega, rkS_lt el b1.tl b2.tl⟩
        rw [er] at q
        rw [beq_eq_false_iff_ne.mpr same]
        exact PySem.W.kat_no (oneLt_ints _ q)
/-- tuples of d ints each -/
def TupsS (h : Heap) (d : Nat) (B : Int) (us : List Value) : Prop := ∀ u ∈ us, ∃ ns, TupInts h u ns ∧ ns.length = d + 1 ∧ SdS B ns
theorem headsS {h : Heap} {d : Nat} {B : Int} : ∀ us : List Value, TupsS h d B us → ∃ fs, PySem.W.KatTups h us fs ∧ fs.length = us.length ∧ ∀ y ∈ fs, ∃ k t, y = Value.int k t
  | [], _ => ⟨[], .nil, rfl, fun y hy => nomatch hy⟩
  | u :: us, T => by
    obtain ⟨fs, k1, k2, k3⟩ := headsS us fun z hz => T z (List.mem_cons_of_mem _ hz)
    obtain ⟨ns, ⟨a, arr, rfl, ⟨ob, g1, g2, m, g3⟩, ia⟩, ln, _⟩ := T u List.mem_cons_self
    cases ea : arr.toList with
    | nil =>
      rw [ea] at ia
      have := ia.length
      rw [ln] at this
      cases this
    | cons z zs =>
      obtain ⟨k, t, ez⟩ := ia.all z (by rw [ea]; exact List.mem_cons_self)
      have e0 : arr[0]? = some z := by
        rw [← Array.getElem?_toList, ea]; rfl
      refine ⟨z :: fs, .cons g1 g2 g3 e0 k1, congrArg Nat.succ k2, fun y hy => ?_⟩
      cases hy with
      | head => exact ⟨k, t, ez⟩
      | tail _ hy => exact k3 y hy
theorem TupsS.up {h h' : Heap} {d : Nat} {B : Int} {us : List Value} (T : TupsS h d B us) (k : ∀ b o, h.get? b = some o → o.cls = .type "tuple" → h'.get? b = some o) : TupsS h' d B us := fun u hu => by
  obtain ⟨ns, t, r⟩ := T u hu
  exact ⟨ns, t.keeps k, r⟩
theorem kindS {d : Nat} {B : Int} {us : List Value} {Q : SortKind → Shared → Prop} (two : 2 ≤ us.length) (T : TupsS s.heap d B us) (q : ∀ κ, Cmp prog w A s κ (pairsOf us) (fun u => rkS B (intsOf s.heap u)) → Q κ s) : wpAny (model prog w) A (keyKind' us.toArray) Q E s := by
  obtain ⟨fs, k1, k2, k3⟩ := headsS us T
  refine PySem.W.kat_kind (T := Value.type "int") k1 (by omega) (fun y hy => ?_) rfl (q _ fun x y hx hy Q2 E2 q2 => ?_)
  · obtain ⟨k, t, rfl⟩ := k3 y hy
    exact .of_pure rfl
  rw [pairsOf_toList] at hx hy
  obtain ⟨ns, tx, lx, bx⟩ := T _ (mem_zip_self hx).2
  obtain ⟨ms, ty, ly, by_⟩ := T _ (mem_zip_self hy).2
  have q2 : Q2 (decide (rkS B (intsOf s.heap x.1) < rkS B (intsOf s.heap y.1))) s := q2
  rw [tx.ints, ty.ints] at q2
  obtain ⟨a1, r1, f1, ⟨o1, u1, u2, m1, u3⟩, j1⟩ := tx
  obtain ⟨a2, r2, f2, ⟨o2, v1, v2, m2, v3⟩, j2⟩ := ty
  have sz : decide (r1.size < r2.size) = false := decide_eq_false (by have n1 := j1.length; have n2 := j2.length; rw [Array.length_toList] at n1 n2; omega)
  rw [f1, f2]
  refine PySem.W.kat_lt u1 u3 v1 v3 ?_
  rw [sz]
  exact lexS j1 0 j2 (by omega) bx by_ q2
theorem sortS {l : Addr} {us : List Value} {n d : Nat} {B : Int} {Q : Value → Shared → Prop} (ho : s.heap.get? l = some (seqObj "list" us.toArray n)) (few : us.length < 64) (T : TupsS s.heap d B us)
    (q : ∀ out : Array Value, out.toList.Perm us → Q .none { s with heap := sortedHeap s.heap l us out }) : wpAny (model prog w) A (call (.builtin "list.sort") [.ref l]) Q E s := by
  have nl : ∀ b o, s.heap.get? b = some o → o.cls = .type "tuple" → b ≠ l := fun b o e hc z => by
    rw [z, ho] at e
    rw [← Option.some.inj e] at hc
    have hc : Value.type "list" = Value.type "tuple" := hc
    injection hc with hc
    exact absurd hc (by decide)
  refine wpAny_call_entry slot_list_sort ⟨_, ho, rfl⟩ entry_list_sort (SK.plain_sort (r := fun u => rkS B (intsOf (midHeap s.heap l us) u)) ho few (fun two Q2 q2 => ?_) fun ps out e1 e2 _ => ⟨_, rfl, q out ?_⟩) (args_list_sort _)
  · exact kindS (s := { s with heap := midHeap s.heap l us }) two (T.up fun b o e hc => midHeap_old (nl b o e hc) e) q2
  · rw [e1]
    have := e2.map Prod.snd
    rwa [List.map_snd_zip (Nat.le_refl _)] at this
end
theorem u65 {k : Nat} {A : Around} (r : Room k A) : A.units + 65 < cLine := by have := r.un; omega
/-! ### shapes of data -/
theorem canAll : ∀ {xs : List PyData}, (∀ x ∈ xs, x.canLay0 = true) → PyData.canLayAll0 xs = true
  | [], _ => rfl
  | x :: xs, h => by
    unfold PyData.canLayAll0
    rw [h x List.mem_cons_self, canAll fun y hy => h y (List.mem_cons_of_mem _ hy)]
    rfl
theorem depAll {n : Nat} : ∀ {xs : List PyData}, (∀ x ∈ xs, x.depth ≤ n) → PyData.depthAll xs ≤ n
  | [], _ => Nat.zero_le _
  | x :: xs, h => by
    unfold PyData.depthAll
    have h1 := h x List.mem_cons_self
    have h2 := depAll fun y hy => h y (List.mem_cons_of_mem _ hy)
    omega
theorem shapedL {xs : List PyData} (h : ∀ x ∈ xs, x.canLay0 = true ∧ x.depth ≤ 60) : SeqAt.shaped (.list xs) = true := by
  show (PyData.canLayAll0 xs && decide (PyData.depthAll xs + 1 ≤ 64)) = true
  rw [canAll fun x hx => (h x hx).1, decide_eq_true (by have := depAll (n := 60) fun x hx => (h x hx).2; omega)]
  rfl
theorem eqvL : ∀ (xs : List PyData), PyData.eqv (.list xs) (.list []) = xs.isEmpty
  | [] => rfl
  | _ :: _ => rfl
theorem paired_perm {α β : Type} {R : α → β → Prop} {us ws : List α} (p : ws.Perm us) : ∀ {ps : List β}, Paired R us ps → ∃ qs : List β, qs.Perm ps ∧ Paired R ws qs := by
  induction p with
  | nil => intro ps h; cases h; exact ⟨[], .nil, .nil⟩
  | cons x _ ih =>
    intro ps h
    cases h with
    | cons r t =>
      obtain ⟨qs, a, b⟩ := ih t
      exact ⟨_ :: qs, a.cons _, .cons r b⟩
  | swap x y l =>
    intro ps h
    cases h with
    | cons r t =>
      cases t with
      | cons r2 t2 => exact ⟨_ :: _ :: _, .swap _ _ _, .cons r2 (.cons r t2)⟩
  | trans _ _ ih1 ih2 =>
    intro ps h
    obtain ⟨qs, a, b⟩ := ih2 h
    obtain ⟨rs, c, d⟩ := ih1 b
    exact ⟨rs, c.trans a, d⟩
section
variable {X : Cx}
def rSortedN (K : PySem.W.Frag) (P : Program) (w : World) : List V → Hp → VK → Prop := fun vs H Q => ∃ (a : Addr) (L : List (Addr × List Int)) (d : Nat) (B : Int), vs = [V.ref a] ∧ H a = some (SetTO P w a L) ∧ (∀ p ∈ L, SqT K H p.1 (p.2.map V.int) ∧ p.2.length = d + 1 ∧ SdS B p.2) ∧
  ((L.map (·.2)).Nodup → L.length < 64 → ∀ zs p, zs.length = L.length → H p = none → Q (.ref p) (upd H p (.lst zs)))
theorem cr_sortedN (hc : X.calm = true) : CallR X (.builtin "sorted") (rSortedN X.K X.prog X.w) := by
  intro pins s σ H vs us Q I r h
  obtain ⟨a, L, d, B, rfl, ha, hL, q⟩ := h
  obtain ⟨es, ep, t, R⟩ := ((I.hok a _ ha).1 : SetT0 X.prog X.w s.heap a L).full fun p hp => I.isT (hL p hp).1
  have few := R.few
  rw [Vals.ref1 r]
  refine Calls.call_function_entry kind_sorted plain_sorted entry_sorted (args_sorted1 _) ?_
  unfold Builtin.«sorted»
  refine wpAny_bind (m := checkCount "sorted" 1 1 _) (wpAny_pure ?_)
  obtain ⟨ob, g1, g2, g3⟩ := R.ob
  have hes : es.toList.map (·.2) = L.map fun q => Value.ref q.1 := by
    rw [R.rows, rowsOf, List.map_map]; rfl
  refine wpAny_bind (collect_set (A := X.A.in1) (I.ok.hd hc) ⟨ob, g1, g2.1, g3⟩ R.fits (by rw [R.size]; exact Nat.lt_of_lt_of_le few (by decide)) R.tab.ris R.led fun s1 out k1 k2 k3 k4 pm => ?_)
  rw [hes] at pm
  have lo : out.length = L.length := by rw [pm.length_eq, List.length_map]
  refine wpAny_bind (wpAny_newList ?_ (by rw [sizeLine_eq]; omega))
  have hl : (s1.heap.push (seqObj "list" out.toArray 0)).get? s1.heap.objs.size = some (seqObj "list" out.toArray 0) := Heap.get?_push_size _ rfl
  have up : ∀ b o, s.heap.get? b = some o → (s1.heap.push (seqObj "list" out.toArray 0)).get? b = some o := fun b o e => Heap.get?_push_of_some _ (k1 b o e)
  refine wpAny_bind (wpAny_holding (sortS (s := { s1 with heap := s1.heap.push (seqObj "list" out.toArray 0) }) (d := d) (B := B) hl (by omega) (fun u hu => ?_) fun arr pa => ?_))
  · obtain ⟨p, hp, rfl⟩ := List.mem_map.mp (pm.mem_iff.mp hu)
    exact ⟨p.2, tupInts_of (P := X.prog) (w := X.w) (isT_keep (R.tup p hp) up), (hL p hp).2⟩
  obtain ⟨c, hc'⟩ := sortedHeap_at (vs := out) (out := arr) hl
  have la : arr.toList.length = L.length := by rw [pa.length_eq, lo]
  have refs : ∀ u ∈ arr.toList, ∃ b, u = Value.ref b := fun u hu => by
    obtain ⟨p, _, rfl⟩ := List.mem_map.mp (pm.mem_iff.mp (pa.mem_iff.mp hu))
    exact ⟨_, rfl⟩
  have hn : H s1.heap.objs.size = none := I.hok.fresh k2
  have kall : ∀ b o, s.heap.get? b = some o → (sortedHeap (s1.heap.push (seqObj "list" out.toArray 0)) s1.heap.objs.size out arr).get? b = some o := fun b o e => by
    have lt := Heap.lt_size (k1 b o e)
    rw [sortedHeap_old (Nat.ne_of_lt lt) (by rw [size_push']; exact Nat.lt_succ_of_lt lt)]
    exact up b o e
  have hzl : (arr.toList.map backV).length ≤ sizeLine := by rw [List.length_map, sizeLine_eq]; omega
  have J : Inv X pins σ (upd H s1.heap.objs.size (.lst (arr.toList.map backV))) { s with heap := sortedHeap (s1.heap.push (seqObj "list" out.toArray 0)) s1.heap.objs.size out arr, gens := s1.gens, drawn := s1.drawn, toks := s1.toks } :=
    I.call (ch := []) (Un.laid kall k2 hn) (I.hok.laid kall k2 ⟨hzl, arr.toList, c, vals_back refs, hc'⟩) (by rw [k3]; exact I.bare) (fun _ z => nomatch z)
  have es1 : ({ s1 with heap := sortedHeap (s1.heap.push (seqObj "list" out.toArray 0)) s1.heap.objs.size out arr } : Shared) = { s with heap := sortedHeap (s1.heap.push (seqObj "list" out.toArray 0)) s1.heap.objs.size out arr, gens := s1.gens, drawn := s1.drawn, toks := s1.toks } := by
    cases s1
    cases s
    cases k4
    rfl
  refine wpAny_pure ⟨_, rfl, ?_⟩
  show EP X pins σ Q (.ref s1.heap.objs.size) ({ s1 with heap := sortedHeap (s1.heap.push (seqObj "list" out.toArray 0)) s1.heap.objs.size out arr } : Shared)
  rw [es1]
  exact ⟨.ref s1.heap.objs.size, _, J, rfl, q R.nd few _ _ (by rw [List.length_map]; exact la) hn⟩
end
end My
/-! t[::-1] of a tuple -/
namespace My
open PySem PySem.Spec PyProof.Rows L2
theorem adjust_rev (n : Nat) : Builtin.Slice.sliceAdjust none none (-1) (n : Int) = ((n : Int) - 1, -1) := by
  unfold Builtin.Slice.sliceAdjust
  simp
theorem places_rev (n : Nat) : Builtin.Slice.slicePlaces ((n : Int) - 1) (-1) (-1) = n := by
  unfold Builtin.Slice.slicePlaces
  simp
  try omega
theorem fm_congr {α β : Type} {f g : α → Option β} : ∀ {l : List α}, (∀ x ∈ l, f x = g x) → l.filterMap f = l.filterMap g
  | [], _ => rfl
  | a :: l, h => by
    rw [List.filterMap_cons, List.filterMap_cons, h a (List.mem_cons_self ..), fm_congr fun x hx => h x (List.mem_cons_of_mem _ hx)]
theorem pick_rev (xs : Array Value) : ((List.range xs.size).filterMap fun (m : Nat) => xs[(((xs.size : Int) - 1) + (m : Int) * (-1)).toNat]?).toArray = xs.toList.reverse.toArray := by
  have e : (List.range xs.size).filterMap (fun (m : Nat) => xs[(((xs.size : Int) - 1) + (m : Int) * (-1)).toNat]?) = ((List.range xs.size).map fun k => xs.size - 1 - k).filterMap (xs[·]?) := by
    rw [List.filterMap_map]
    refine fm_congr fun k hk => ?_
    have := List.mem_range.mp hk
    have ei : (((xs.size : Int) - 1) + (k : Int) * (-1)).toNat = xs.size - 1 - k := by omega
    rw [ei]
    rfl
  rw [e, PySem.W.krv_range, List.filterMap_reverse, PySem.W.krv_all]
section
variable {prog : Program} {w : World} {A : Around} {E : Value → Shared → Prop} {s : Shared}
theorem sliceApplied_rev {sl : Addr} {vk : Value} {n : Nat} {Q : Int × Int × Nat → Shared → Prop} (hs : s.heap.IsSliceOf sl .none .none vk) (pk : IsPart vk (some (-1)))
    (h : Q ((n : Int) - 1, -1, n) s) : wpAny (model prog w) A (Builtin.Slice.sliceApplied (.ref sl) (pure (n : Int))) Q E s := by
  obtain ⟨os, hos, hcs, hds⟩ := id hs
  unfold Builtin.Slice.sliceApplied Builtin.Slice.sliceFields
  refine wpAny_bind (wpAny_bind (wpAny_field hos hds (x := .none) rfl (wpAny_bind (wpAny_field hos hds (x := .none) rfl (wpAny_bind (wpAny_field hos hds (x := vk) rfl (wpAny_pure ?_)))))))
  refine wpAny_bind (HT.slicePart_ pk ?_)
  show wpAny _ _ (if ((-1 : Int) == 0) = true then _ else _) _ _ s
  rw [if_neg (by decide)]
  refine wpAny_bind (HT.slicePart_ .none (wpAny_bind (HT.slicePart_ .none (wpAny_bind (wpAny_pure ?_)))))
  show wpAny _ _ (match Builtin.Slice.sliceAdjust none none (-1) (n : Int) with | (lo, hi) => pure (lo, (-1 : Int), Builtin.Slice.slicePlaces lo hi (-1))) _ _ s
  rw [adjust_rev n]
  show wpAny _ _ (pure ((n : Int) - 1, (-1 : Int), Builtin.Slice.slicePlaces ((n : Int) - 1) (-1) (-1))) _ _ s
  rw [places_rev]
  exact wpAny_pure h
theorem getItem_tuple_rev {t sl : Addr} {items : Array Value} {vk : Value} {Q : Value → Shared → Prop} (ht : IsTup s.heap t items) (hs : s.heap.IsSliceOf sl .none .none vk) (pk : IsPart vk (some (-1)))
    (h : Q (.ref s.heap.objs.size) { s with heap := s.heap.push { cls := .type "tuple", data := .seq items.toList.reverse.toArray } }) (hsz : items.size ≤ sizeLine) : wpAny (model prog w) A (getItem (.ref t) (.ref sl)) Q E s := by
  have hfit : sizeOk (.seq items.toList.reverse.toArray) := by
    show items.toList.reverse.toArray.size ≤ sizeLine
    rw [List.size_toArray, List.length_reverse, Array.length_toList]
    exact hsz
  obtain ⟨os, hos, hcs, hds⟩ := id hs
  have hTs : s.TypeIs (.ref sl) "slice" := ⟨os, hos, hcs⟩
  unfold getItem
  try with_reducible refine wpAny_holding ?_
  first | refine wpAny_bind (wpAny_pure ?_) | skip
  refine wpAny_bind (wpAny_sequenceKey ht.typeIs (by decide) ?_)
  refine wpAny_bind (wpAny_callSpecial?_slot (name := Str.ofString "__getitem__") ht.typeIs PyProof.Rows.slot_tuple_getitem
    (wpAny_call_entry PyProof.Rows.slot_tuple_getitem ht.typeIs PyProof.Rows.entry_tuple_getitem ?_ (PyProof.Rows.args_tuple_getitem _ _)))
  show wpAny _ _ (Builtin.Tuple.tupleItemsOf (.ref t) >>= _) _ _ s
  refine wpAny_bind (PyProof.Rows.tupleItemsOf_ ht ?_)
  refine wpAny_bind (wpAny_typeOf hTs ?_)
  rw [if_pos (by decide)]
  refine wpAny_bind (sliceApplied_rev hs pk ?_)
  show wpAny _ _ (if (((items.size : Int) - 1) == 0 && (-1 : Int) == 1 && items.size == items.size) = true then _ else _) _ _ s
  rw [if_neg (by simp), pick_rev]
  first
    | exact wpAny_bind (m := Builtin.Tuple.tupleExact _) (wpAny_newObj_type (wpAny_pure ⟨_, rfl, wpAny_pure h⟩) hfit)
    | exact wpAny_bind (m := Builtin.Tuple.tupleExact _) (wpAny_newObj_type (wpAny_bind (wpAny_pure (wpAny_pure ⟨_, rfl, wpAny_pure h⟩))) hfit)
    | exact wpAny_bind (wpAny_bind (m := Builtin.Tuple.tupleExact _) (wpAny_newObj_type (wpAny_pure (wpAny_pure ⟨_, rfl, wpAny_pure h⟩)) hfit))
    | exact wpAny_bind (wpAny_bind (m := Builtin.Tuple.tupleExact _) (wpAny_newObj_type (wpAny_pure ⟨_, rfl, wpAny_pure h⟩) hfit))
end
section
variable {X : Cx} {e k : Expr} {te tk : TE} {p2 pos : Pos}
/-- t[::-1] -/
def tRevT (K : PySem.W.Frag) (te : TE) (tk : TO) : TE := fun σ H Q => te σ H fun x H1 => tk σ H1 fun u H2 => ∃ a xs, x = .ref a ∧ u = some (-1) ∧ SqT K H2 a xs ∧ ∀ p, H2 p = none → Q (.ref p) (upd H2 p (.tup xs.reverse))
theorem pe_revT {to : TO} (he : PE X e te) (hk : PO X (some k) to) : PE X (.Subscript e (.Slice none none (some k) p2) pos) (tRevT X.K te to) := by
  refine ⟨fun pins s σ H Q I h => ?_⟩
  refine Subscript_ (thn (he.run pins s σ H _ I h) fun v s1 ⟨x, H1, I1, r1, q1⟩ => ?_)
  refine wpAny_Slice ?_
  rw [evalPart_none]
  refine wpAny_pure (wpAny_pure ?_)
  refine thn (hk.run pins s1 σ H1 _ I1 q1) fun vk s3 ⟨u, H3, I3, pk, a, xs, ex, eu, hx, q⟩ => ?_
  subst ex
  subst eu
  cases r1
  have I4 : Inv X pins σ H3 { s3 with heap := s3.heap.push { cls := .type "slice", data := .fields #[.none, .none, vk] } } := I3.kept (t' := s3.toks) fun b ob q => Heap.get?_push_of_some _ q
  obtain ⟨its, r, ht, hz⟩ := I4.tuple hx
  show wpAny (model X.prog X.w) X.A (subscriptTail e (.Slice none none (some k) p2) (.ref a) (.ref s3.heap.objs.size)) (EP X pins σ Q) X.xe { s3 with heap := s3.heap.push { cls := .type "slice", data := .fields #[.none, .none, vk] } }
  refine tail_any (ops := [.ref a, .ref s3.heap.objs.size]) ht.typeIs PyProof.Rows.slot_tuple_getitem.lookup ?_ (by with_unfolding_all rfl)
  refine getItem_tuple_rev ht (Heap.IsSliceOf.new ..) pk ?_ (by rw [List.size_toArray, ← r.length]; exact hz)
  refine ⟨.ref _, _, I4.laid (t' := s3.toks) (o := .tup xs.reverse) (fun b ob q => Heap.get?_push_of_some _ q) (Nat.le_refl _) ?_, rfl, q _ (I4.hok.fresh (Nat.le_refl _))⟩
  have rr : ∀ {xs : List V} {us : List Value}, Vals xs us → Vals xs.reverse us.reverse := fun {xs us} r => by
    induction r with
    | nil => exact .nil
    | cons a t ih => rw [List.reverse_cons, List.reverse_cons]; exact ih.append (.cons a .nil)
  exact ⟨by rw [List.length_reverse]; exact hz, its.reverse, rr r, IsTup.new _ _⟩
end
end My
/-! rules under a comprehension's letters -/
namespace My
open PySem L2
theorem pe_conv {X : Cx} {e : Expr} {t t' : TE} (h : PE X e t) (q : t = t') : PE X e t' := q ▸ h
end My
/-! sorted of data of any kind -/
namespace My
open PySem L2 PyProof.Rows PySem.W
section
variable {X : Cx}
def RD (K : PySem.W.Frag) (H : Hp) (v : Value) (d : PyData) : Prop := ∃ x, RelV x v ∧ Dp K H x d
theorem each_RD {K : PySem.W.Frag} {H : Hp} : ∀ {xs : List V} {us : List Value} {ds : List PyData}, Vals xs us → DpAll K H xs ds → EachIs (RD K H) us ds
  | _, _, _, .nil, .nil => .nil
  | _, _, _, .cons r t, .cons h k => .cons ⟨_, r, h⟩ (each_RD t k)
theorem RD_back {K : PySem.W.Frag} {H : Hp} : ∀ {us : List Value} {ds : List PyData}, EachIs (RD K H) us ds → ∃ xs, Vals xs us ∧ DpAll K H xs ds
  | _, _, .nil => ⟨[], .nil, .nil⟩
  | _, _, .cons ⟨x, r, h⟩ t => by
    obtain ⟨xs, a, b⟩ := RD_back t
    exact ⟨x :: xs, .cons r a, .cons h b⟩
def leD : PyData → PyData → Bool := dataLe false id
def rSortedD (K : PySem.W.Frag) : List V → Hp → VK → Prop := fun vs H Q => ∃ (a : Addr) (xs : List V) (ds : List PyData), vs = [V.ref a] ∧ SqL K H a xs ∧ DpAll K H xs ds ∧ AllAlike ds ∧ Sortable ds ∧ (∀ d ∈ ds, d.depth ≤ 60) ∧
  ∀ ys p, H p = none → DpAll K H ys (ds.mergeSort leD) → Q (.ref p) (upd H p (.lst ys))
theorem cr_sortedD (hu : X.A.units + 65 < cLine) : CallR X (.builtin "sorted") (rSortedD X.K) := by
  intro pins s σ H vs us Q I r h
  obtain ⟨a, xs, ds, rfl, hs, hd, al, so, dep, q⟩ := h
  rw [Vals.ref1 r]
  obtain ⟨its, rv, hl, hz⟩ := I.list hs
  have e := each_RD rv hd
  have er : EachIs (fun v b => ∃ as, Reads s.heap v (id b) as) its ds := e.mono fun v d ⟨x, rx, hx⟩ => Dp.reads I d x v hx rx
  have hlen : ds.length = its.length := e.length.symm
  have hz' : ds.length ≤ sizeLine := by rw [hlen, ← rv.length]; exact hz
  refine sorted_data (enc := id) hl.isList e er (by rw [List.map_id]; exact al) (by rw [List.map_id]; exact so) hz' (fun b hb => by have := dep b hb; show X.A.units + 2 + b.depth < cLine; omega) fun out lo eo => ?_
  obtain ⟨ys, ry, dy⟩ := RD_back eo
  obtain ⟨ep, he'⟩ := sortedAll_at s.heap its (List.toArray out)
  have hly : ys.length ≤ sizeLine := by rw [ry.length, lo]; exact hz'
  exact ⟨.ref _, upd H (s.heap.objs.size + 1) (.lst ys), I.laid (t' := s.toks) (fun _ _ => sortedAll_old) (Nat.le_succ _) ⟨hly, out, ep, ry, he'⟩, rfl, q _ _ (I.hok.fresh (Nat.le_succ _)) dy⟩
end
end My
/-! x not in l, items by their own == -/
namespace My
open PySem PySem.Spec L2 PyProof.Rows PySem.MeetsSeq
section
variable {X : Cx} {k : Nat} {f C : Addr} {sp : Sp}
theorem eqB_own {A : Around} {pins : List (Addr × Obj)} {σ : L2.St} {H : Hp} {s : Shared} {a b dx dy : Addr} {fs gs : List (Str × V)} {e : Bool} (F : FnR X.prog X.w X.K X.mg X.base CX0 k f sp) (sb : Sub X k A)
    (hs : PySem.W.findIn X.K (.ref C) "__eq__" = some (some (.ref f))) (hf : PySem.W.isFn X.K (.ref f) = true) (I : Inv X pins σ H s) (ha : H a = some (.ins C dx fs)) (hb : H b = some (.ins C dy gs)) (self : a = b → e = true)
    (h : sp [.ref a, .ref b] H (fun v H' => v = .bl e ∧ H' = H) E0) : wpAny (model X.prog X.w) A (eqBool (.ref a) (.ref b)) (fun r s' => r = e ∧ Inv X pins σ H s') X.xe s := by
  by_cases hab : a = b
  · subst hab
    exact SeqAt.EqAt.same (A := A) (s := s) (.ref a) X.prog X.w X.xe _ ⟨(self rfl).symm, I⟩
  obtain ⟨mA, J, _⟩ := ins_get I.hok ha
  obtain ⟨mB, J', _⟩ := ins_get I.hok hb
  obtain ⟨od, J, _⟩ := J.look
  obtain ⟨od', J', _⟩ := J'.look
  obtain ⟨m, hF⟩ := I.fr
  refine GQ.eqBool_refG hab ?_
  refine PySem.W.cmp_K (op := .Eq) (tb := .ref C) sb.room.units0 hF I.ok.mod.kin J J'.type (by simp [PySem.W.notFirst]) hs hf ?_
  have e0 : Env0 X.prog X.w X.K X.mg X.base A X.stack s H := by
    have e := I.env0
    exact ⟨by rw [sb.fr]; exact e.frames, e.mod, e.bs, e.bsz, e.funs, e.frf, e.hok, e.bare⟩
  refine wpAny_call (codeAny_mono (F A X.stack s H [.ref a, .ref b] [.ref a, .ref b] _ E0 sb.room e0 (.cons rfl (.cons rfl .nil)) h) fun r s' hq => ?_)
  cases r with
  | error e => exact (show False from hq).elim
  | ok fl =>
    cases fl with
    | ret w =>
      obtain ⟨z, H', I', rz, ez, eH⟩ := I.after hq
      subst ez eH
      cases rz
      exact ⟨e, rfl, rfl, I'⟩
    | next => exact False.elim hq
    | brk => exact False.elim hq
    | cont => exact False.elim hq
open PySem.SeqAt in
theorem has_loopO {A : Around} {pins : List (Addr × Obj)} {σ : L2.St} {H : Hp} {R : Result → Shared → Prop} {l a : Addr} {xs : List V} {es : List Bool} (hl : H l = some (.lst xs)) (hle : es.length = xs.length)
    (turn : ∀ (i : Nat) (x : V), xs[i]? = some x → ∃ (b : Addr) (e : Bool), x = .ref b ∧ es[i]? = some e ∧ ∀ s, Inv X pins σ H s → wpAny (model X.prog X.w) A.in1 (eqBool (.ref b) (.ref a)) (fun r s' => r = e ∧ Inv X pins σ H s') (fun e s' => R (.error e) s') s) (n : Nat) :
    ∀ (i : Nat), xs.length - i = n → i ≤ xs.length → (∀ s, Inv X pins σ H s → R (.ok (.ret (.bool ((es.drop i).any id)))) s) → ∀ s, Inv X pins σ H s →
      wpAny (model X.prog X.w) A.in1 (Builtin.«list.__contains__.loop» ⟨[.ref l, .ref a, rawInt i], []⟩) (GQ.FinOf X.prog X.w A R) (fun e s' => R (.error e) s') s := by
  induction n with
  | zero =>
    intro i hk hi hR s I
    obtain ⟨hz, its, ep, rv, hob⟩ := I.hok l _ hl
    have hR := hR s I
    have hsz : its.toArray.size = xs.length := by rw [List.size_toArray, rv.length]
    rw [List.drop_eq_nil_of_le (by omega)] at hR
    obtain ⟨hp, g, d, tk, os⟩ := s
    wp_walk using wpAny_loadPart' hob
    have hi1 : its.toArray[((i : Nat) : Int).toNat]? = none := by simp; rw [← rv.length]; omega
    rw [hi1]
    wp_walk
    exact hR
  | succ n ih =>
    intro i hk hi hR s I
    obtain ⟨hz, its, ep, rv, hob⟩ := I.hok l _ hl
    have hlt : i < xs.length := by omega
    obtain ⟨b, e, eb, ee, ht⟩ := turn i xs[i] (List.getElem?_eq_getElem hlt)
    have ht := ht s I
    have hsz : i < its.length := by rw [← rv.length]; exact hlt
    have hv : its[i]? = some (.ref b) := by
      obtain ⟨u, hu, ru⟩ := rv.get (List.getElem?_eq_getElem hlt)
      rw [eb] at ru
      cases ru
      exact hu
    have hd : es.drop i = e :: es.drop (i + 1) := by
      obtain ⟨h1, h2⟩ := List.getElem?_eq_some_iff.mp ee
      rw [List.drop_eq_getElem_cons h1, h2]
    obtain ⟨hp, g, d, tk, os⟩ := s
    wp_walk using wpAny_loadPart' hob
    have hi1 : its.toArray[((i : Nat) : Int).toNat]? = some (.ref b) := by simpa using hv
    have hc : ((i : Int) + 1) = ((i + 1 : Nat) : Int) := by omega
    rw [hi1]
    refine wpAny_bind (wpAny_mono ht (fun r s2 h2 => ?_) fun _ _ x => x)
    obtain ⟨hr, I2⟩ := h2
    rw [← hr] at hd
    cases he : r with
    | true =>
      have := hR s2 I2
      rw [hd, List.any_cons, he] at this
      obtain ⟨hp2, g2, d2, tk2, os2⟩ := s2
      wp_walk
      exact this
    | false =>
      have hrec := ih (i + 1) (by omega) (by omega) (fun s' I' => by have := hR s' I'; rw [hd, List.any_cons, he] at this; simpa using this) s2 I2
      obtain ⟨hp2, g2, d2, tk2, os2⟩ := s2
      wp_walk
      rw [hc]
      exact ⟨plainId_quiet plain_contains_loop _, codeAny_builtin entry_contains_loop (by
        rw [Around.under_plainId plain_contains_loop _]
        exact hrec)⟩
def rNotInO (C : Addr) (sp : Sp) : R2 := fun x y H Q => ∃ l xs a dx fs, ∃ es : List Bool, y = .ref l ∧ x = .ref a ∧ H l = some (.lst xs) ∧ H a = some (.ins C dx fs) ∧ es.length = xs.length ∧ (∀ (i : Nat) (z : V), xs[i]? = some z → ∃ (b dy : Addr) (gs : List (Str × V)) (e : Bool), z = .ref b ∧ es[i]? = some e ∧ H b = some (.ins C dy gs) ∧ (b = a → e = true) ∧ sp [.ref b, .ref a] H (fun v H' => v = .bl e ∧ H' = H) E0) ∧ Q (.bl (!es.any id)) H
theorem op_notInO (F0 : FnR X.prog X.w X.K X.mg X.base CX0 k f sp) (hr : Room (k + 1) X.A)
    (hs : PySem.W.findIn X.K (.ref C) "__eq__" = some (some (.ref f))) (hf : PySem.W.isFn X.K (.ref f) = true) : OpR X (compareOp .NotIn) (rNotInO C sp) := by
  intro pins s σ H x y v u Q I rx ry hq
  obtain ⟨l, xs, a, dx, fs, es, rfl, rfl, hl, ha, hle, turn, q⟩ := hq
  cases rx
  cases ry
  obtain ⟨hz, its, ep, rv, hob⟩ := I.hok l _ hl
  have key : ∀ (Qv : Value → Shared → Prop), (∀ s', Inv X pins σ H s' → Qv (.bool (es.any id)) s') → wpAny (model X.prog X.w) X.A (call (.builtin "list.__contains__") [.ref l, .ref a]) Qv X.xe s := by
    intro Qv hQ
    refine GQ.call_here F.slot_list_contains ⟨_, hob, rfl⟩ F.entry_list_contains (F.args_list_contains_2 _ _) ?_
    have hrec := has_loopO (A := X.A) (R := wants Qv X.xe) (es := es) (a := a) hl hle (fun i z hz => by
      obtain ⟨b, dy, gs, e, rfl, ee, hb, self, h⟩ := turn i z hz
      exact ⟨b, e, rfl, ee, fun s' I' => eqB_own F0 (Sub.in1 (n := k) ⟨hr, rfl⟩) hs hf I' hb ha self h⟩) _ 0 rfl (Nat.zero_le _) (fun s' I' => hQ s' I') s I
    obtain ⟨hp, g, d, tk, os⟩ := s
    wp_walk using wpAny_loadPart' hob
    exact ⟨plainId_quiet plain_contains_loop _, codeAny_builtin entry_contains_loop (by
      rw [Around.under_plainId plain_contains_loop _]
      exact hrec)⟩
  show wpAny _ X.A (do return Value.bool (!(← contains (.ref l) (.ref a)))) _ X.xe s
  exact wpAny_bind (wpAny_contains_slot ⟨_, hob, rfl⟩ F.slot_list_contains (key _ fun s' I' => wpAny_truthy_bool (wpAny_pure ⟨.bl _, H, I', rfl, q⟩)))
end
end My
namespace My
open PySem L2 Mth
def topS (i : Nat) : Stmt := PySem.Challenge.pw_copyarms_k53_whole_kept_spots_seen_from.main.body.getD i (.Pass ⟨0, 0, 0, 0⟩)
end My
namespace My
open PySem L2 Mth
abbrev s_carried : Stmt := topS 23
theorem sc_carried : FnScope ["turn", "shift", "mirrored", "spot"] ["turn", "shift", "mirrored", "spot"] (defScope s_carried) := ⟨rfl, rfl, rfl, by decide +kernel, rfl, by decide +kernel, by decide +kernel⟩
abbrev s_common_divisor : Stmt := topS 11
theorem sc_common_divisor : FnScope ["one", "other"] ["one", "other"] (defScope s_common_divisor) := ⟨rfl, rfl, rfl, by decide +kernel, rfl, by decide +kernel, by decide +kernel⟩
abbrev s_faced : Stmt := topS 22
theorem sc_faced : FnScope ["number", "mirrored", "x", "y", "d"] ["number", "mirrored"] (defScope s_faced) := ⟨rfl, rfl, rfl, by decide +kernel, rfl, by decide +kernel, by decide +kernel⟩
abbrev s_inverse : Stmt := topS 21
theorem sc_inverse : FnScope ["number", "x", "y", "d"] ["number"] (defScope s_inverse) := ⟨rfl, rfl, rfl, by decide +kernel, rfl, by decide +kernel, by decide +kernel⟩
abbrev s_negative : Stmt := topS 18
theorem sc_negative : FnScope ["number", "x", "y", "d"] ["number"] (defScope s_negative) := ⟨rfl, rfl, rfl, by decide +kernel, rfl, by decide +kernel, by decide +kernel⟩
abbrev s_plus : Stmt := topS 17
theorem sc_plus : FnScope ["one", "other", "x", "y", "d", "u", "v", "e"] ["one", "other"] (defScope s_plus) := ⟨rfl, rfl, rfl, by decide +kernel, rfl, by decide +kernel, by decide +kernel⟩
abbrev s_product : Stmt := topS 20
theorem sc_product : FnScope ["one", "other", "x", "y", "d", "u", "v", "e"] ["one", "other"] (defScope s_product) := ⟨rfl, rfl, rfl, by decide +kernel, rfl, by decide +kernel, by decide +kernel⟩
abbrev s_spot_at : Stmt := topS 15
theorem sc_spot_at : FnScope ["x", "y", "d", "divisor"] ["x", "y", "d"] (defScope s_spot_at) := ⟨rfl, rfl, rfl, by decide +kernel, rfl, by decide +kernel, by decide +kernel⟩
section
variable {P : Program} {w : World} {K : PySem.W.Frag} {mg : Str → Option Value} {base : Heap}
/-- a def with keyword-only parameters, out of which nothing is raised -/
theorem ok0 {x qual : Str} {params : Arguments} {body : List Stmt} {scope : Scope} {dvs : List V} {kws : List (Str × V)} {f : Addr} {fd : FuncData} {N ps : List Str} {k : Nat} {sp : Sp} (F : FunD K x qual params body scope dvs kws f fd) (S : FnScope N ps scope) (len : ∀ vs H Q E, sp vs H Q E → vs.length = ps.length)
    (hbody : ∀ (cdv : Value) (A : Around) (outer : List Env) (s : Shared) (H : Hp) (vs : List V) (Q : VK) (E : XK), Room k (A.deeper (PyProof.Rows.envOfC qual scope s.heap.objs.size f cdv)) → sp vs H Q E →
      ∃ t, PSs (cxOf CX0 P w K mg base N qual scope f cdv A outer s H E).nox body t ∧ t { nx := fun _ H' => Q .non H', rt := Q } (start N vs) H) : FnOk P w K mg base CX0 (k + 1) f fd ps sp :=
  F.ok S len fun cdv A outer s H vs Q E hr hsp => by
    obtain ⟨t, h, q⟩ := hbody cdv A outer s H vs Q E hr hsp
    exact ⟨t, h.nox, q⟩
/-- the greatest common divisor -/
def sp_gcd : Sp := fun vs H Q _ => ∃ a b : Int, vs = [.int a, .int b] ∧ Q (.int ((Int.gcd a b : Nat) : Int)) H
theorem ok_common_divisor {f : Addr} {fd : FuncData} (b_abs : mg "abs" = none) (F : Fun K "common_divisor" "common_divisor" s_common_divisor f fd) : FnOk P w K mg base CX0 1 f fd ["one", "other"] sp_gcd := by
  refine F.ok sc_common_divisor (fun vs H Q E h => ?_) (fun cdv A outer s H vs Q E hr h => ?_)
  · obtain ⟨a, b, rfl, _⟩ := h
    rfl
  obtain ⟨a, b, rfl, q⟩ := h
  refine ⟨_, (pss_cons (ps_while PassesOwn.never (pt_cmpR (op_ne) (pv 1) pe_int (nomark _)) (pss_one (ps_par (i := 0) (j := 1) (by rfl) sc_common_divisor.nd rfl rfl (by decide) rfl rfl (pa_cons (pv 1) (pa_cons (pe_op op_modN (pv 0) (pv 1)) pa_nil)) (by rfl))))
    (pss_one (ps_ret (pe_callB call_abs (by rfl) b_abs (by decide +kernel) (pa_cons (pv 0) pa_nil))))), ?_⟩
  refine while_by (fun σ H' => H' = H ∧ ∃ x y : Int, σ = [some (.int x), some (.int y)] ∧ Int.gcd x y = Int.gcd a b) (fun σ _ => match σ with | [_, some (.int y)] => y.natAbs | _ => 0) ⟨rfl, a, b, rfl, rfl⟩ ?_ ?_
  · rintro σ H' ⟨rfl, x, y, rfl, e⟩
    refine ⟨_, rfl, rfl, _, rfl, ?_⟩
    by_cases c : y = 0
    · subst c
      refine if_neg (by decide) |>.mpr ?_
      refine ⟨_, rfl, _, rfl, ?_⟩
      rw [← e, gcd_0] at q
      exact q
    · refine (if_pos (show (!decide (V.int y = V.int 0)) = true by rw [decide_eq_false (fun z => c (V.int.inj z))]; rfl)).mpr ?_
      refine ⟨_, rfl, _, rfl, _, rfl, _, _, rfl, rfl, c, _, _, rfl, ⟨rfl, _, _, rfl, ?_⟩, ?_⟩
      · rw [gcd_fmod]; exact e
      · exact fmod_small c
  · rintro σ H' Q1 Q2 hq ⟨v, h1, h2, k, h3, h4⟩
    exact ⟨v, h1, h2, k, h3, hq _ _ h4⟩
/-- (x, y, d) in lowest terms -/
def sp_low (K : PySem.W.Frag) : Sp := fun vs H Q _ => ∃ x y d : Int, vs = [.int x, .int y, .int d] ∧ d ≠ 0 ∧ d.natAbs < 2 ^ 8500 ∧ ∀ H' r, Same H H' → IsT K H' r (low x y d) → Q r H'
theorem g3_lt {x y d : Int} (hd : d ≠ 0) {n : Nat} (h : d.natAbs < 2 ^ n) : (sg x y d).natAbs < 2 ^ n := by
  obtain ⟨u, hu⟩ := @sg_dd x y d
  have hu0 : u ≠ 0 := fun z => by rw [z, Int.mul_zero] at hu; exact hd hu
  have e : (sg x y d).natAbs * u.natAbs = d.natAbs := by rw [← Int.natAbs_mul, ← hu]
  have : 1 ≤ u.natAbs := by omega
  have : (sg x y d).natAbs * 1 ≤ (sg x y d).natAbs * u.natAbs := Nat.mul_le_mul_left _ this
  omega
theorem ok_spot_at {f : Addr} {fd : FuncData} (d_common_divisor : D P w K mg base "common_divisor" 1 sp_gcd) (F : Fun K "spot_at" "spot_at" s_spot_at f fd) : FnOk P w K mg base CX0 2 f fd ["x", "y", "d"] (sp_low K) := by
  refine F.ok sc_spot_at (fun vs H Q E h => ?_) (fun cdv A outer s H vs Q E hr h => ?_)
  · obtain ⟨x, y, d, rfl, _⟩ := h
    rfl
  obtain ⟨x, y, d, rfl, hd, hB, q⟩ := h
  refine ⟨_, (pss_cons (ps_set (i := 3) sc_spot_at.nd rfl (by first | exact Or.inl rfl | exact Or.inr rfl) (pc d_common_divisor (hr.mono (by decide)) (pa_cons (pc d_common_divisor (hr.mono (by decide)) (pa_cons (pv 0) (pa_cons (pv 1) pa_nil))) (pa_cons (pv 2) pa_nil))))
    (pss_cons (ps_if (pt_cmpR (op_lt) (pv 2) pe_int (nomark _)) (pss_one (ps_set (i := 3) sc_spot_at.nd rfl (by first | exact Or.inl rfl | exact Or.inr rfl) (pe_un un_neg (pv 3)))) pss_nil)
    (pss_one (ps_ret (pe_tup (pa_cons (pe_op op_fdivX (pv 0) (pv 3)) (pa_cons (pe_op op_fdivX (pv 1) (pv 3)) (pa_cons (pe_op op_fdivX (pv 2) (pv 3)) pa_nil)))))))), ?_⟩
  refine ⟨_, rfl, _, rfl, _, _, rfl, _, rfl, _, _, rfl, ?_⟩
  refine ⟨_, rfl, _, _, rfl, rfl, _, rfl, ?_⟩
  have hc : CDivX x (sg x y d) ∧ CDivX y (sg x y d) ∧ CDivX d (sg x y d) := ⟨divX (sg_ne hd) (g3_lt hd hB) (by decide) (by decide), divX (sg_ne hd) (g3_lt hd hB) (by decide) (by decide), divX (sg_ne hd) (g3_lt hd hB) (by decide) (by decide)⟩
  refine ite2 (fun c => ?_) (fun c => ?_)
  · have es : sg x y d = -(g3 x y d) := if_pos (of_decide_eq_true c)
    refine ⟨_, rfl, _, rfl, ?_⟩
    rw [es] at hc
    refine ⟨_, rfl, _, rfl, _, _, rfl, rfl, hc.1, _, rfl, _, rfl, _, _, rfl, rfl, hc.2.1, _, rfl, _, rfl, _, _, rfl, rfl, hc.2.2, (by show 3 ≤ sizeLine; decide), fun p hp => ?_⟩
    refine q _ _ (same_new hp _) ?_
    unfold low
    rw [es]
    exact IsT.new
  · have es : sg x y d = g3 x y d := if_neg (of_decide_eq_false (Bool.eq_false_iff.mpr c))
    rw [es] at hc
    refine ⟨_, rfl, _, rfl, _, _, rfl, rfl, hc.1, _, rfl, _, rfl, _, _, rfl, rfl, hc.2.1, _, rfl, _, rfl, _, _, rfl, rfl, hc.2.2, (by show 3 ≤ sizeLine; decide), fun p hp => ?_⟩
    refine q _ _ (same_new hp _) ?_
    unfold low
    rw [es]
    exact IsT.new
/-- two parts of numbers of bounded size -/
def sp_two (K : PySem.W.Frag) (g : T3 → T3 → T3) : Sp := fun vs H Q _ => ∃ va vb a b, vs = [va, vb] ∧ IsT K H va a ∧ IsT K H vb b ∧ Ok a ∧ Ok b ∧ B 4000 a ∧ B 4000 b ∧ ∀ H' r, Same H H' → IsT K H' r (g a b) → Q r H'
theorem mulW {i j : Int} {a b : Nat} (ha : i.natAbs < 2 ^ (a + 1)) (hb : j.natAbs < 2 ^ (b + 1)) (h : a + b + 2 ≤ 1000000 := by decide) : CMulW i j := wide_mul ha hb (by omega) (by omega) (by omega)
theorem ok_plus {f : Addr} {fd : FuncData} (d_spot_at : D P w K mg base "spot_at" 2 (sp_low K)) (F : Fun K "plus" "plus" s_plus f fd) : FnOk P w K mg base CX0 3 f fd ["one", "other"] (sp_two K plus) := by
  refine F.ok sc_plus (fun vs H Q E h => ?_) (fun cdv A outer s H vs Q E hr h => ?_)
  · obtain ⟨va, vb, a, b, rfl, _⟩ := h
    rfl
  obtain ⟨va, vb, ⟨x, y, d⟩, ⟨u, v, e⟩, rfl, ⟨pa, rfl, ta⟩, ⟨pb, rfl, tb⟩, oa, ob, ⟨a1, a2, a3⟩, ⟨b1, b2, b3⟩, q⟩ := h
  refine ⟨_, (pss_cons (ps_asg (pv 0) (pg_tup rfl (pgs_cons (pg_name (i := 2) sc_plus.nd rfl (by first | exact Or.inl rfl | exact Or.inr rfl)) (pgs_cons (pg_name (i := 3) sc_plus.nd rfl (by first | exact Or.inl rfl | exact Or.inr rfl)) (pgs_cons (pg_name (i := 4) sc_plus.nd rfl (by first | exact Or.inl rfl | exact Or.inr rfl)) pgs_nil)))))
    (pss_cons (ps_asg (pv 1) (pg_tup rfl (pgs_cons (pg_name (i := 5) sc_plus.nd rfl (by first | exact Or.inl rfl | exact Or.inr rfl)) (pgs_cons (pg_name (i := 6) sc_plus.nd rfl (by first | exact Or.inl rfl | exact Or.inr rfl)) (pgs_cons (pg_name (i := 7) sc_plus.nd rfl (by first | exact Or.inl rfl | exact Or.inr rfl)) pgs_nil)))))
    (pss_one (ps_ret (pc d_spot_at (hr.mono (by decide)) (pa_cons (pe_op op_add (pe_op op_mulW (pv 2) (pv 7)) (pe_op op_mulW (pv 5) (pv 4))) (pa_cons (pe_op op_add (pe_op op_mulW (pv 3) (pv 7)) (pe_op op_mulW (pv 6) (pv 4))) (pa_cons (pe_op op_mulW (pv 4) (pv 7)) pa_nil)))))))), ?_⟩
  refine ⟨_, rfl, _, _, rfl, ta, rfl, _, _, rfl, _, _, rfl, _, _, rfl, rfl, ?_⟩
  refine ⟨_, rfl, _, _, rfl, tb, rfl, _, _, rfl, _, _, rfl, _, _, rfl, rfl, ?_⟩
  refine ⟨_, rfl, _, rfl, _, _, rfl, rfl, mulW a1 b3, _, rfl, _, rfl, _, _, rfl, rfl, mulW b1 a3, _, _, rfl, rfl, ?_⟩
  refine ⟨_, rfl, _, rfl, _, _, rfl, rfl, mulW a2 b3, _, rfl, _, rfl, _, _, rfl, rfl, mulW b2 a3, _, _, rfl, rfl, ?_⟩
  refine ⟨_, rfl, _, rfl, _, _, rfl, rfl, mulW a3 b3, ?_⟩
  exact ⟨_, _, _, rfl, mul_ne oa.ne ob.ne, up_lt (by decide) (mul_lt a3 b3), q⟩
theorem ok_product {f : Addr} {fd : FuncData} (d_spot_at : D P w K mg base "spot_at" 2 (sp_low K)) (F : Fun K "product" "product" s_product f fd) : FnOk P w K mg base CX0 3 f fd ["one", "other"] (sp_two K times) := by
  refine F.ok sc_product (fun vs H Q E h => ?_) (fun cdv A outer s H vs Q E hr h => ?_)
  · obtain ⟨va, vb, a, b, rfl, _⟩ := h
    rfl
  obtain ⟨va, vb, ⟨x, y, d⟩, ⟨u, v, e⟩, rfl, ⟨pa, rfl, ta⟩, ⟨pb, rfl, tb⟩, oa, ob, ⟨a1, a2, a3⟩, ⟨b1, b2, b3⟩, q⟩ := h
  refine ⟨_, (pss_cons (ps_asg (pv 0) (pg_tup rfl (pgs_cons (pg_name (i := 2) sc_product.nd rfl (by first | exact Or.inl rfl | exact Or.inr rfl)) (pgs_cons (pg_name (i := 3) sc_product.nd rfl (by first | exact Or.inl rfl | exact Or.inr rfl)) (pgs_cons (pg_name (i := 4) sc_product.nd rfl (by first | exact Or.inl rfl | exact Or.inr rfl)) pgs_nil)))))
    (pss_cons (ps_asg (pv 1) (pg_tup rfl (pgs_cons (pg_name (i := 5) sc_product.nd rfl (by first | exact Or.inl rfl | exact Or.inr rfl)) (pgs_cons (pg_name (i := 6) sc_product.nd rfl (by first | exact Or.inl rfl | exact Or.inr rfl)) (pgs_cons (pg_name (i := 7) sc_product.nd rfl (by first | exact Or.inl rfl | exact Or.inr rfl)) pgs_nil)))))
    (pss_one (ps_ret (pc d_spot_at (hr.mono (by decide)) (pa_cons (pe_op op_sub (pe_op op_mulW (pv 2) (pv 5)) (pe_op op_mulW (pv 3) (pv 6))) (pa_cons (pe_op op_add (pe_op op_mulW (pv 2) (pv 6)) (pe_op op_mulW (pv 3) (pv 5))) (pa_cons (pe_op op_mulW (pv 4) (pv 7)) pa_nil)))))))), ?_⟩
  refine ⟨_, rfl, _, _, rfl, ta, rfl, _, _, rfl, _, _, rfl, _, _, rfl, rfl, ?_⟩
  refine ⟨_, rfl, _, _, rfl, tb, rfl, _, _, rfl, _, _, rfl, _, _, rfl, rfl, ?_⟩
  refine ⟨_, rfl, _, rfl, _, _, rfl, rfl, mulW a1 b1, _, rfl, _, rfl, _, _, rfl, rfl, mulW a2 b2, _, _, rfl, rfl, ?_⟩
  refine ⟨_, rfl, _, rfl, _, _, rfl, rfl, mulW a1 b2, _, rfl, _, rfl, _, _, rfl, rfl, mulW a2 b1, _, _, rfl, rfl, ?_⟩
  refine ⟨_, rfl, _, rfl, _, _, rfl, rfl, mulW a3 b3, ?_⟩
  exact ⟨_, _, _, rfl, mul_ne oa.ne ob.ne, up_lt (by decide) (mul_lt a3 b3), q⟩
def sp_one (K : PySem.W.Frag) (g : T3 → T3) : Sp := fun vs H Q _ => ∃ va a, vs = [va] ∧ IsT K H va a ∧ ∀ H' r, Same H H' → IsT K H' r (g a) → Q r H'
theorem ok_negative {f : Addr} {fd : FuncData} (F : Fun K "negative" "negative" s_negative f fd) : FnOk P w K mg base CX0 1 f fd ["number"] (sp_one K neg) := by
  refine F.ok sc_negative (fun vs H Q E h => ?_) (fun cdv A outer s H vs Q E hr h => ?_)
  · obtain ⟨va, a, rfl, _⟩ := h
    rfl
  obtain ⟨va, ⟨x, y, d⟩, rfl, ⟨pa, rfl, ta⟩, q⟩ := h
  refine ⟨_, (pss_cons (ps_asg (pv 0) (pg_tup rfl (pgs_cons (pg_name (i := 1) sc_negative.nd rfl (by first | exact Or.inl rfl | exact Or.inr rfl)) (pgs_cons (pg_name (i := 2) sc_negative.nd rfl (by first | exact Or.inl rfl | exact Or.inr rfl)) (pgs_cons (pg_name (i := 3) sc_negative.nd rfl (by first | exact Or.inl rfl | exact Or.inr rfl)) pgs_nil)))))
    (pss_one (ps_ret (pe_tup (pa_cons (pe_un un_neg (pv 1)) (pa_cons (pe_un un_neg (pv 2)) (pa_cons (pv 3) pa_nil))))))), ?_⟩
  refine ⟨_, rfl, _, _, rfl, ta, rfl, _, _, rfl, _, _, rfl, _, _, rfl, rfl, ?_⟩
  exact ⟨_, rfl, _, rfl, _, rfl, _, rfl, _, rfl, (by show 3 ≤ sizeLine; decide), fun p hp => q _ _ (same_new hp _) IsT.new⟩
def sp_inv (K : PySem.W.Frag) : Sp := fun vs H Q _ => ∃ va a, vs = [va] ∧ IsT K H va a ∧ Nz a ∧ B 4000 a ∧ ∀ H' r, Same H H' → IsT K H' r (inv a) → Q r H'
theorem ok_inverse {f : Addr} {fd : FuncData} (d_spot_at : D P w K mg base "spot_at" 2 (sp_low K)) (F : Fun K "inverse" "inverse" s_inverse f fd) : FnOk P w K mg base CX0 3 f fd ["number"] (sp_inv K) := by
  refine F.ok sc_inverse (fun vs H Q E h => ?_) (fun cdv A outer s H vs Q E hr h => ?_)
  · obtain ⟨va, a, rfl, _⟩ := h
    rfl
  obtain ⟨va, ⟨x, y, d⟩, rfl, ⟨pa, rfl, ta⟩, na, ⟨a1, a2, a3⟩, q⟩ := h
  refine ⟨_, (pss_cons (ps_asg (pv 0) (pg_tup rfl (pgs_cons (pg_name (i := 1) sc_inverse.nd rfl (by first | exact Or.inl rfl | exact Or.inr rfl)) (pgs_cons (pg_name (i := 2) sc_inverse.nd rfl (by first | exact Or.inl rfl | exact Or.inr rfl)) (pgs_cons (pg_name (i := 3) sc_inverse.nd rfl (by first | exact Or.inl rfl | exact Or.inr rfl)) pgs_nil)))))
    (pss_one (ps_ret (pc d_spot_at (hr.mono (by decide)) (pa_cons (pe_op op_mulW (pv 1) (pv 3)) (pa_cons (pe_op op_mulW (pe_un un_neg (pv 2)) (pv 3)) (pa_cons (pe_op op_add (pe_op op_mulW (pv 1) (pv 1)) (pe_op op_mulW (pv 2) (pv 2))) pa_nil))))))), ?_⟩
  refine ⟨_, rfl, _, _, rfl, ta, rfl, _, _, rfl, _, _, rfl, _, _, rfl, rfl, ?_⟩
  refine ⟨_, rfl, _, rfl, _, _, rfl, rfl, mulW a1 a3, _, rfl, _, rfl, _, rfl, _, _, rfl, rfl, mulW (neg_lt a2) a3, ?_⟩
  refine ⟨_, rfl, _, rfl, _, _, rfl, rfl, mulW a1 a1, _, rfl, _, rfl, _, _, rfl, rfl, mulW a2 a2, _, _, rfl, rfl, ?_⟩
  exact ⟨_, _, _, rfl, sq_ne na, up_lt (by decide) (add_lt (mul_lt a1 a1) (mul_lt a2 a2)), q⟩
def sp_face (K : PySem.W.Frag) : Sp := fun vs H Q _ => ∃ va a m, vs = [va, .bl m] ∧ IsT K H va a ∧ ∀ H' r, Same H H' → IsT K H' r (face a m) → Q r H'
theorem ok_faced {f : Addr} {fd : FuncData} (F : Fun K "faced" "faced" s_faced f fd) : FnOk P w K mg base CX0 1 f fd ["number", "mirrored"] (sp_face K) := by
  refine F.ok sc_faced (fun vs H Q E h => ?_) (fun cdv A outer s H vs Q E hr h => ?_)
  · obtain ⟨va, a, m, rfl, _⟩ := h
    rfl
  obtain ⟨va, ⟨x, y, d⟩, m, rfl, ⟨pa, rfl, ta⟩, q⟩ := h
  refine ⟨_, (pss_cons (ps_asg (pv 0) (pg_tup rfl (pgs_cons (pg_name (i := 2) sc_faced.nd rfl (by first | exact Or.inl rfl | exact Or.inr rfl)) (pgs_cons (pg_name (i := 3) sc_faced.nd rfl (by first | exact Or.inl rfl | exact Or.inr rfl)) (pgs_cons (pg_name (i := 4) sc_faced.nd rfl (by first | exact Or.inl rfl | exact Or.inr rfl)) pgs_nil)))))
    (pss_one (ps_ret (pe_ifExp (pt_val (pv 1)) (pe_tup (pa_cons (pv 2) (pa_cons (pe_un un_neg (pv 3)) (pa_cons (pv 4) pa_nil)))) (pv 0))))), ?_⟩
  refine ⟨_, rfl, _, _, rfl, ta, rfl, _, _, rfl, _, _, rfl, _, _, rfl, rfl, ?_⟩
  refine ⟨_, rfl, _, rfl, ?_⟩
  cases m with
  | true => exact iteT ⟨_, rfl, _, rfl, _, rfl, _, rfl, (by show 3 ≤ sizeLine; decide), fun p hp => q _ _ (same_new hp _) IsT.new⟩
  | false => exact iteF ⟨_, rfl, q _ _ (Same.refl _) ⟨pa, rfl, ta⟩⟩
/-- where a copy carries a spot -/
def sp_car (K : PySem.W.Frag) : Sp := fun vs H Q _ => ∃ vt vs' m vz t s z, vs = [vt, vs', .bl m, vz] ∧ IsT K H vt t ∧ IsT K H vs' s ∧ IsT K H vz z ∧ Ok t ∧ Ok s ∧ Ok z ∧ B 1900 t ∧ B 4000 s ∧ B 1900 z ∧ ∀ H' r, Same H H' → IsT K H' r (car t s m z) → Q r H'
theorem ok_carried {f : Addr} {fd : FuncData} (d_plus : D P w K mg base "plus" 3 (sp_two K plus)) (d_product : D P w K mg base "product" 3 (sp_two K times)) (d_faced : D P w K mg base "faced" 1 (sp_face K)) (F : Fun K "carried" "carried" s_carried f fd) : FnOk P w K mg base CX0 4 f fd ["turn", "shift", "mirrored", "spot"] (sp_car K) := by
  refine F.ok sc_carried (fun vs H Q E h => ?_) (fun cdv A outer s H vs Q E hr h => ?_)
  · obtain ⟨vt, vs', m, vz, t, s', z, rfl, _⟩ := h
    rfl
  obtain ⟨vt, vs', m, vz, t, s', z, rfl, it, is, iz, ot, os, oz, bt, bs, bz, q⟩ := h
  refine ⟨_, (pss_one (ps_ret (pc d_plus (hr.mono (by decide)) (pa_cons (pc d_product (hr.mono (by decide)) (pa_cons (pv 0) (pa_cons (pc d_faced (hr.mono (by decide)) (pa_cons (pv 3) (pa_cons (pv 2) pa_nil))) pa_nil))) (pa_cons (pv 1) pa_nil))))), ?_⟩
  refine ⟨_, rfl, _, rfl, _, rfl, _, _, _, rfl, iz, fun H1 r1 s1 i1 => ?_⟩
  refine ⟨_, _, _, _, rfl, it.same s1, i1, ot, face_ok oz m, bt.mono (by decide), (face_B bz m).mono (by decide), fun H2 r2 s2 i2 => ?_⟩
  refine ⟨_, rfl, _, _, _, _, rfl, i2, is.same (s1.trans s2), times_ok ot (face_ok oz m), os, (times_B ot (face_ok oz m) bt (face_B bz m)).mono (by decide), bs, fun H3 r3 s3 i3 => ?_⟩
  exact q _ _ (s1.trans (s2.trans s3)) i3
def sp_fr (K : PySem.W.Frag) : Sp := fun vs H Q _ => ∃ p q' : Int, vs = [.int p, .int q'] ∧ q' ≠ 0 ∧ q'.natAbs < 2 ^ 8500 ∧ ∀ H' a, Same H H' → SqT K H' a [.int (fr p q').1, .int (fr p q').2] → Q (.ref a) H'
theorem g3_0 (p q : Int) : g3 p 0 q = ((Int.gcd p q : Nat) : Int) := by
  unfold g3
  rw [Int.gcd_zero_right]
  unfold Int.gcd
  rw [Int.natAbs_natCast]
def BC (n : Nat) (c : Cp) : Prop := B n c.t ∧ B n c.s
end
end My

namespace My
open PySem L2 Mth
abbrev s_fraction : Stmt := topS 16
theorem sc_fraction : FnScope ["p", "q", "divisor"] ["p", "q"] (defScope s_fraction) := ⟨rfl, rfl, rfl, by decide +kernel, rfl, by decide +kernel, by decide +kernel⟩
section
variable {P : Program} {w : World} {K : PySem.W.Frag} {mg : Str → Option Value} {base : Heap}
theorem ok_fraction {f : Addr} {fd : FuncData} (d_common_divisor : D P w K mg base "common_divisor" 1 sp_gcd) (F : Fun K "fraction" "fraction" s_fraction f fd) : FnOk P w K mg base CX0 2 f fd ["p", "q"] (sp_fr K) := by
  refine F.ok sc_fraction (fun vs H Q E h => ?_) (fun cdv A outer s H vs Q E hr h => ?_)
  · obtain ⟨x, d, rfl, _⟩ := h
    rfl
  obtain ⟨x, d, rfl, hd, hB, q⟩ := h
  refine ⟨_, (pss_cons (ps_set (i := 2) sc_fraction.nd rfl (by first | exact Or.inl rfl | exact Or.inr rfl) (pc d_common_divisor (hr.mono (by decide)) (pa_cons (pv 0) (pa_cons (pv 1) pa_nil))))
    (pss_cons (ps_if (pt_cmpR (op_lt) (pv 1) pe_int (nomark _)) (pss_one (ps_set (i := 2) sc_fraction.nd rfl (by first | exact Or.inl rfl | exact Or.inr rfl) (pe_un un_neg (pv 2)))) pss_nil)
    (pss_one (ps_ret (pe_tup (pa_cons (pe_op op_fdivX (pv 0) (pv 2)) (pa_cons (pe_op op_fdivX (pv 1) (pv 2)) pa_nil))))))), ?_⟩
  refine ⟨_, rfl, _, rfl, _, _, rfl, ?_⟩
  refine ⟨_, rfl, _, _, rfl, rfl, _, rfl, ?_⟩
  have hc : CDivX x (sg x 0 d) ∧ CDivX d (sg x 0 d) := ⟨divX (sg_ne hd) (g3_lt hd hB) (by decide) (by decide), divX (sg_ne hd) (g3_lt hd hB) (by decide) (by decide)⟩
  have fin : ∀ H' a, Same H H' → SqT K H' a [.int (x.fdiv (sg x 0 d)), .int (d.fdiv (sg x 0 d))] → Q (.ref a) H' := q
  refine ite2 (fun c => ?_) (fun c => ?_)
  · have es : sg x 0 d = -((Int.gcd x d : Nat) : Int) := by rw [← g3_0]; exact if_pos (of_decide_eq_true c)
    refine ⟨_, rfl, _, rfl, ?_⟩
    rw [es] at hc fin
    refine ⟨_, rfl, _, rfl, _, _, rfl, rfl, hc.1, _, rfl, _, rfl, _, _, rfl, rfl, hc.2, (by show 2 ≤ sizeLine; decide), fun p hp => ?_⟩
    exact fin _ _ (same_new hp _) (.inl (.inl upd_same))
  · have es : sg x 0 d = ((Int.gcd x d : Nat) : Int) := by rw [← g3_0]; exact if_neg (of_decide_eq_false (Bool.eq_false_iff.mpr c))
    rw [es] at hc fin
    refine ⟨_, rfl, _, rfl, _, _, rfl, rfl, hc.1, _, rfl, _, rfl, _, _, rfl, rfl, hc.2, (by show 2 ≤ sizeLine; decide), fun p hp => ?_⟩
    exact fin _ _ (same_new hp _) (.inl (.inl upd_same))
end
end My

namespace My
open PySem L2 Mth
abbrev s_check_spot : Stmt := topS 13
theorem sc_check_spot : FnScope ["value"] ["value"] (defScope s_check_spot) := ⟨rfl, rfl, rfl, by decide +kernel, rfl, by decide +kernel, by decide +kernel⟩
abbrev s_check_turn : Stmt := topS 14
theorem sc_check_turn : FnScope ["value"] ["value"] (defScope s_check_turn) := ⟨rfl, rfl, rfl, by decide +kernel, rfl, by decide +kernel, by decide +kernel⟩
abbrev s_is_spot : Stmt := topS 12
theorem sc_is_spot : FnScope ["value", "number", "x", "y", "d"] ["value"] (defScope s_is_spot) := ⟨rfl, rfl, rfl, by decide +kernel, rfl, by decide +kernel, by decide +kernel⟩
abbrev s_is_whole : Stmt := topS 10
theorem sc_is_whole : FnScope ["value"] ["value"] (defScope s_is_whole) := ⟨rfl, rfl, rfl, by decide +kernel, rfl, by decide +kernel, by decide +kernel⟩
section
variable {P : Program} {w : World} {K : PySem.W.Frag} {mg : Str → Option Value} {base : Heap}
theorem ty_T {K : PySem.W.Frag} {H : Hp} {a : Addr} {xs : List V} (h : SqT K H a xs) : TyX K H (.ref a) (.type "tuple") := by
  rcases h with (h | ⟨o, h⟩) | ⟨o, its, n, h, c, _⟩
  · exact .base (.tup h)
  · exact .fTuple h
  · exact .kTuple h c
def sp_whole : Sp := fun vs H Q _ => ∃ i : Int, vs = [.int i] ∧ Q (.bl true) H
theorem ok_is_whole {f : Addr} {fd : FuncData} (b_isinstance : mg "isinstance" = none) (b_int : mg "int" = none) (b_bool : mg "bool" = none) (F : Fun K "is_whole" "is_whole" s_is_whole f fd) : FnOk P w K mg base CX0 1 f fd ["value"] sp_whole := by
  refine F.ok sc_is_whole (fun vs H Q E h => ?_) (fun cdv A outer s H vs Q E hr h => ?_)
  · obtain ⟨i, rfl, _⟩ := h
    rfl
  obtain ⟨i, rfl, q⟩ := h
  refine ⟨_, (pss_one (ps_ret (pe_and (pe_callB (r := rIsi K) call_isi (by rfl) b_isinstance (by decide +kernel) (pa_cons (pv 0) (pa_cons (pe_bltn (v := .ty "int") (by rfl) b_int (by decide +kernel) rfl) pa_nil))) (pe_one (pe_not (pe_callB (r := rIsi K) call_isi (by rfl) b_isinstance (by decide +kernel) (pa_cons (pv 0) (pa_cons (pe_bltn (v := .ty "bool") (by rfl) b_bool (by decide +kernel) rfl) pa_nil)))))))), ?_⟩
  refine ⟨_, rfl, _, _, _, _, _, rfl, .ty _, .base (.int i), kit_ty (by decide +kernel), true, rfl, iteT ?_⟩
  exact ⟨_, rfl, _, _, _, _, _, rfl, .ty _, .base (.int i), kit_ty (by decide +kernel), false, rfl, q⟩
/-- what is a spot is one -/
def sp_isspot (K : PySem.W.Frag) : Sp := fun vs H Q _ => ∃ va a, vs = [va] ∧ IsT K H va a ∧ Ok a ∧ ∀ H', Same H H' → Q (.bl true) H'
theorem v3_at {a : T3} {i : Nat} {x : V} (h : (v3 a)[i]? = some x) : ∃ z : Int, x = .int z := by
  unfold v3 at h
  match i, h with
  | 0, h => exact ⟨_, (Option.some.inj h).symm⟩
  | 1, h => exact ⟨_, (Option.some.inj h).symm⟩
  | 2, h => exact ⟨_, (Option.some.inj h).symm⟩
  | (n + 3), h => simp at h
theorem ok_is_spot {f : Addr} {fd : FuncData} (b_isinstance : mg "isinstance" = none) (b_tuple : mg "tuple" = none) (b_len : mg "len" = none) (b_all : mg "all" = none) (d_common_divisor : D P w K mg base "common_divisor" 1 sp_gcd) (d_is_whole : D P w K mg base "is_whole" 1 sp_whole)
    (F : Fun K "is_spot" "is_spot" s_is_spot f fd) : FnOk P w K mg base CX0 2 f fd ["value"] (sp_isspot K) := by
  refine F.ok sc_is_spot (fun vs H Q E h => ?_) (fun cdv A outer s H vs Q E hr h => ?_)
  · obtain ⟨va, a, rfl, _⟩ := h
    rfl
  obtain ⟨va, a, rfl, ⟨p, rfl, ta⟩, oa, q⟩ := h
  refine ⟨_, (pss_cons (ps_if (PW.pt (pw_or (pt_not (pt_val (pe_callB (r := rIsi K) call_isi (by rfl) b_isinstance (by decide +kernel) (pa_cons (pv 0) (pa_cons (pe_bltn (v := .ty "tuple") (by rfl) b_tuple (by decide +kernel) rfl) pa_nil))))) (pw_or1 (pt_cmpR (op_ne) (pe_callB call_len_seq (by rfl) b_len PySem.boot_len (pa_cons (pv 0) pa_nil)) pe_int (nomark _))))) (pss_one (ps_ret pe_bl)) pss_nil)
    (pss_cons (ps_if (pt_not (pt_val (pe_callB (cr_all rfl) (by rfl) b_all (by decide +kernel) (pa_cons (pe_lc (own := [("number", 1)]) (g := gName 1) (tt := tYes) (by rfl) sc_is_spot.nd (pi_tup (pv 0)) (blkOk_by (own := [("number", 1)]) (N := ["value", "number", "x", "y", "d"]) (sc := defScope s_is_spot) (by decide +kernel)) (fun _ _ _ _ _ => (pg_name (i := 1) sc_is_spot.nd rfl (by first | exact Or.inl rfl | exact Or.inr rfl))) (fun _ _ _ _ _ => pts_nil) (fun _ _ _ _ _ => (pc d_is_whole (hr.mono (by decide)) (pa_cons (pv 1) pa_nil)))) pa_nil)))) (pss_one (ps_ret pe_bl)) pss_nil)
    (pss_cons (ps_asg (pv 0) (pg_tup rfl (pgs_cons (pg_name (i := 2) sc_is_spot.nd rfl (by first | exact Or.inl rfl | exact Or.inr rfl)) (pgs_cons (pg_name (i := 3) sc_is_spot.nd rfl (by first | exact Or.inl rfl | exact Or.inr rfl)) (pgs_cons (pg_name (i := 4) sc_is_spot.nd rfl (by first | exact Or.inl rfl | exact Or.inr rfl)) pgs_nil)))))
    (pss_one (ps_ret (pe_and (pe_cmpR (op_ge) (pv 4) pe_int (nomark _)) (pe_one (pe_cmpR (op_eq) (pc d_common_divisor (hr.mono (by decide)) (pa_cons (pc d_common_divisor (hr.mono (by decide)) (pa_cons (pv 2) (pa_cons (pv 3) pa_nil))) (pa_cons (pv 4) pa_nil))) pe_int (nomark _))))))))), ?_⟩
  refine ⟨_, rfl, _, _, _, _, _, rfl, .ty _, ty_T ta, kit_ty (by decide +kernel), true, rfl, ?_⟩
  refine iteF ?_
  refine ⟨_, rfl, _, _, rfl, .inr ta, rfl, _, rfl, iteF ?_⟩
  refine ⟨_, rfl, _, rfl, ⟨_, ta⟩, fun L hL => lc_tup (K := K) (a := p) (xs := v3 a) (fun i H' => ∃ acc : List V, H' = upd H L (.lst acc) ∧ acc = (List.replicate i true).map V.bl) ⟨[], rfl, rfl⟩ ?_ ?_ ?_⟩
  · rintro i H' hi ⟨acc, rfl, _⟩
    exact same_T (same_new hL _) ta
  · rintro i x H' hx ⟨acc, rfl, ea⟩
    obtain ⟨z, rfl⟩ := v3_at hx
    refine ⟨rfl, ?_⟩
    refine yes_of ?_
    refine ⟨_, rfl, z, rfl, acc, upd_same, ?_, ?_⟩
    · have := (List.getElem?_eq_some_iff.mp hx).1
      rw [ea, List.length_map, List.length_replicate]
      exact small1000 (by have : (v3 a).length = 3 := rfl; omega)
    · refine ⟨acc ++ [.bl true], upd_upd, ?_⟩
      rw [ea, List.replicate_succ', List.map_append]
      rfl
  · rintro H' ⟨acc, rfl, ea⟩
    refine ⟨_, [true, true, true], rfl, .inl (.inl ?_), ?_⟩
    · rw [ea]; exact upd_same
    refine ⟨_, rfl, iteF ?_⟩
    have s1 := same_new hL (.lst acc)
    refine ⟨_, rfl, _, _, rfl, same_T s1 ta, rfl, _, _, rfl, _, _, rfl, _, _, rfl, rfl, ?_⟩
    refine ⟨_, rfl, _, _, rfl, rfl, true, congrArg V.bl (decide_eq_true (show (1 : Int) ≤ a.2.2 from oa.1)), iteT ?_⟩
    refine ⟨_, rfl, _, rfl, _, _, rfl, _, rfl, _, _, rfl, rfl, ?_⟩
    have e : V.int ((Int.gcd ((Int.gcd a.1 a.2.1 : Nat) : Int) a.2.2 : Nat) : Int) = V.int 1 := congrArg V.int oa.2
    have z := q _ s1
    show Q (.bl (decide (V.int ((Int.gcd ((Int.gcd a.1 a.2.1 : Nat) : Int) a.2.2 : Nat) : Int) = V.int 1))) _
    rw [decide_eq_true e]
    exact z
def sp_check (K : PySem.W.Frag) : Sp := fun vs H Q _ => ∃ va a, vs = [va] ∧ IsT K H va a ∧ Ok a ∧ ∀ H', Same H H' → Q .non H'
theorem ok_check_spot {f : Addr} {fd : FuncData} (d_is_spot : D P w K mg base "is_spot" 2 (sp_isspot K)) (F : Fun K "check_spot" "check_spot" s_check_spot f fd) : FnOk P w K mg base CX0 3 f fd ["value"] (sp_check K) := by
  refine F.ok sc_check_spot (fun vs H Q E h => ?_) (fun cdv A outer s H vs Q E hr h => ?_)
  · obtain ⟨va, a, rfl, _⟩ := h
    rfl
  obtain ⟨va, a, rfl, ia, oa, q⟩ := h
  refine ⟨_, (pss_one (ps_if (pt_not (pt_val (pc d_is_spot (hr.mono (by decide)) (pa_cons (pv 0) pa_nil)))) (pss_one ps_never) pss_nil)), ?_⟩
  exact ⟨_, rfl, _, _, rfl, ia, oa, fun H1 s1 => ⟨_, rfl, iteF (q _ s1)⟩⟩
def d3 (s : T3) : PyData := .tuple [.int s.1, .int s.2.1, .int s.2.2]
theorem Dp3 {K : PySem.W.Frag} {H : Hp} {p : Addr} {s : T3} (h : SqT K H p (v3 s)) : Dp K H (.ref p) (d3 s) := .tup h (.cons (.int _) (.cons (.int _) (.cons (.int _) .nil)))
theorem shaped3 (s : T3) : SeqAt.shaped (d3 s) = true := rfl
theorem eqv3 (s t : T3) : PyData.eqv (d3 s) (d3 t) = decide (s = t) := by
  obtain ⟨a, b, c⟩ := s
  obtain ⟨u, v, w⟩ := t
  show ((a == u) && ((b == v) && ((c == w) && true))) = decide ((a, b, c) = (u, v, w))
  by_cases h1 : a = u
  · by_cases h2 : b = v
    · by_cases h3 : c = w
      · subst h1 h2 h3; simp
      · rw [decide_eq_false (fun z => h3 (by injection z with _ z; injection z))]; simp [h3]
    · rw [decide_eq_false (fun z => h2 (by injection z with _ z; injection z))]; simp [h2]
  · rw [decide_eq_false (fun z => h1 (by injection z))]; simp [h1]
def sp_checkT (K : PySem.W.Frag) : Sp := fun vs H Q _ => ∃ va a, vs = [va] ∧ IsT K H va a ∧ Ok a ∧ Nz a ∧ ∀ H', Same H H' → Q .non H'
theorem ok_check_turn {f aM : Addr} {fd : FuncData} (d_is_spot : D P w K mg base "is_spot" 2 (sp_isspot K)) (m_MIDDLE : mg "MIDDLE" = some (.ref aM)) (t_MIDDLE : ∀ H, SqT K H aM (v3 (0, 0, 1))) (F : Fun K "check_turn" "check_turn" s_check_turn f fd) : FnOk P w K mg base CX0 3 f fd ["value"] (sp_checkT K) := by
  refine F.ok sc_check_turn (fun vs H Q E h => ?_) (fun cdv A outer s H vs Q E hr h => ?_)
  · obtain ⟨va, a, rfl, _⟩ := h
    rfl
  obtain ⟨va, a, rfl, ⟨p, rfl, ta⟩, oa, na, q⟩ := h
  refine ⟨_, (pss_one (ps_if (PW.pt (pw_or (pt_not (pt_val (pc d_is_spot (hr.mono (by decide)) (pa_cons (pv 0) pa_nil)))) (pw_or1 (pt_cmpR (op_eqD hr.units) (pv 0) (pe_glob (v := .ref aM) (by rfl) m_MIDDLE rfl) (nomark _))))) (pss_one ps_never) pss_nil)), ?_⟩
  refine ⟨_, rfl, _, _, rfl, ⟨p, rfl, ta⟩, oa, fun H1 s1 => ⟨_, rfl, iteF ?_⟩⟩
  refine ⟨_, rfl, _, _, Dp3 (same_T s1 ta), Dp3 (t_MIDDLE H1), shaped3 _, shaped3 _, _, rfl, ?_⟩
  rw [eqv3, decide_eq_false (fun z => by rw [z] at na; rcases na with n | n <;> exact n rfl)]
  exact iteF (q _ s1)
end
end My

namespace My
open PySem L2 Mth
abbrev s_minus : Stmt := topS 19
theorem sc_minus : FnScope ["one", "other"] ["one", "other"] (defScope s_minus) := ⟨rfl, rfl, rfl, by decide +kernel, rfl, by decide +kernel, by decide +kernel⟩
section
variable {P : Program} {w : World} {K : PySem.W.Frag} {mg : Str → Option Value} {base : Heap}
theorem dI (a b : Int) : decide (V.int a = V.int b) = decide (a = b) := by
  by_cases h : a = b
  · rw [h]; simp
  · rw [decide_eq_false h, decide_eq_false (fun z => h (V.int.inj z))]
theorem ok_minus {f : Addr} {fd : FuncData} (d_plus : D P w K mg base "plus" 3 (sp_two K plus)) (d_negative : D P w K mg base "negative" 1 (sp_one K neg)) (F : Fun K "minus" "minus" s_minus f fd) : FnOk P w K mg base CX0 4 f fd ["one", "other"] (sp_two K minus) := by
  refine F.ok sc_minus (fun vs H Q E h => ?_) (fun cdv A outer s H vs Q E hr h => ?_)
  · obtain ⟨va, vb, a, b, rfl, _⟩ := h
    rfl
  obtain ⟨va, vb, a, b, rfl, ia, ib, oa, ob, ba, bb, q⟩ := h
  refine ⟨_, (pss_one (ps_ret (pc d_plus (hr.mono (by decide)) (pa_cons (pv 0) (pa_cons (pc d_negative (hr.mono (by decide)) (pa_cons (pv 1) pa_nil)) pa_nil))))), ?_⟩
  refine ⟨_, rfl, _, rfl, _, b, rfl, ib, fun H1 r1 s1 i1 => ?_⟩
  exact ⟨_, _, a, _, rfl, ia.same s1, i1, oa, neg_ok ob, ba, neg_B bb, fun H2 r2 s2 i2 => q _ _ (s1.trans s2) i2⟩
end
end My

namespace My
open PySem L2 Mth
abbrev s_Copy___init__ : Stmt := inClass (topS 32) 0
theorem sc_Copy___init__ : FnScope ["self", "turn", "shift", "mirrored"] ["self", "turn", "shift", "mirrored"] (defScope s_Copy___init__) := ⟨rfl, rfl, rfl, by decide +kernel, rfl, by decide +kernel, by decide +kernel⟩
section
variable {P : Program} {w : World} {K : PySem.W.Frag} {mg : Str → Option Value} {base : Heap}
def cf (a b : Addr) (m : Bool) : List (Str × V) := [("factor", .ref a), ("offset", .ref b), ("flips", .bl m)]
theorem cf_put {a b : Addr} {m : Bool} : putF "flips" (.bl m) (putF "offset" (.ref b) (putF "factor" (.ref a) [])) = cf a b m := by
  have h1 : ¬ (("factor" : Str) = "offset") := by decide +kernel
  have h2 : ¬ (("factor" : Str) = "flips") := by decide +kernel
  have h3 : ¬ (("offset" : Str) = "flips") := by decide +kernel
  simp only [putF, if_neg h1, if_neg h2, if_neg h3]
  rfl
theorem cf_f {a b : Addr} {m : Bool} : (cf a b m).lookup ("factor" : Str) = some (.ref a) := by
  unfold cf
  simp only [List.lookup, beq_self_eq_true]
theorem cf_o {a b : Addr} {m : Bool} : (cf a b m).lookup ("offset" : Str) = some (.ref b) := by
  unfold cf
  simp only [List.lookup, beq_self_eq_true, show (("offset" : Str) == "factor") = false by decide +kernel]
theorem cf_m {a b : Addr} {m : Bool} : (cf a b m).lookup ("flips" : Str) = some (.bl m) := by
  unfold cf
  simp only [List.lookup, beq_self_eq_true, show (("flips" : Str) == "factor") = false by decide +kernel, show (("flips" : Str) == "offset") = false by decide +kernel]
structure CTxt (K : PySem.W.Frag) (C : Addr) : Prop where
  cl : Cls K C
  nF : NoAttr K C "factor"
  nO : NoAttr K C "offset"
  nL : NoAttr K C "flips"
  ha : PySem.W.findIn K (.ref C) "__class__" = some (some (.builtin "object.__class__"))
  hn : PySem.W.specialIn K (.builtin "object.__class__") "__get__" = some (some (.builtin "getset_descriptor.__get__"))
  htk : PySem.W.takesIn K (.builtin "object.__class__") = some true
  hm : PySem.W.mroIn K C (.type "object") = some true
/-- a copy as an object -/
def IsC (K : PySem.W.Frag) (C : Addr) (H : Hp) (v : V) (c : Cp) : Prop := ∃ p dx a b, v = .ref p ∧ H p = some (.ins C dx (cf a b c.m)) ∧ SqT K H a (v3 c.t) ∧ SqT K H b (v3 c.s)
theorem IsC.same {C : Addr} {H H' : Hp} {v : V} {c : Cp} (h : IsC K C H v c) (e : Same H H') : IsC K C H' v c := by
  obtain ⟨p, dx, a, b, rfl, h1, h2, h3⟩ := h
  exact ⟨p, dx, a, b, rfl, e _ _ h1, same_T e h2, same_T e h3⟩
def sp_init (K : PySem.W.Frag) (C : Addr) : Sp := fun vs H Q _ => ∃ (H0 : Hp) (p dx : Addr) (vt vs' : V) (m : Bool) (t s : T3), vs = [.ref p, vt, vs', .bl m] ∧ Same H0 H ∧ H0 p = none ∧ H p = some (.ins C dx []) ∧ IsT K H0 vt t ∧ IsT K H0 vs' s ∧ Ok t ∧ Nz t ∧ Ok s ∧
  ∀ H', Same H0 H' → IsC K C H' (.ref p) ⟨t, s, m⟩ → Q .non H'
theorem ok_init {f C : Addr} {fd : FuncData} {kws : List (Str × V)} (T : CTxt K C) (d_check_turn : D P w K mg base "check_turn" 3 (sp_checkT K)) (d_check_spot : D P w K mg base "check_spot" 3 (sp_check K))
    (F : FunD K "__init__" "Copy.__init__" (defArgs s_Copy___init__) (defBody s_Copy___init__) (defScope s_Copy___init__) [] kws f fd) : FnOk P w K mg base CX0 4 f fd ["self", "turn", "shift", "mirrored"] (sp_init K C) := by
  refine ok0 F sc_Copy___init__ (fun vs H Q E h => ?_) (fun cdv A outer s H vs Q E hr h => ?_)
  · obtain ⟨H0, p, dx, vt, vs', m, t, s, rfl, _⟩ := h
    rfl
  obtain ⟨H0, p, dx, vt, vs', m, t, s', rfl, s0, p0, hp, it, is, ot, nt, os, q⟩ := h
  refine ⟨_, (pss_cons (ps_expr (pc d_check_turn (hr.mono (by decide)) (pa_cons (pv 1) pa_nil)))
    (pss_cons (ps_expr (pc d_check_spot (hr.mono (by decide)) (pa_cons (pv 2) pa_nil)))
    (pss_cons (ps_fld (pv 0) (pv 1) rfl)
    (pss_cons (ps_fld (pv 0) (pv 2) rfl)
    (pss_one (ps_fld (pv 0) (pv 3) rfl)))))), ?_⟩
  refine ⟨_, rfl, _, _, rfl, it.same s0, ot, nt, fun H1 s1 => ?_⟩
  refine ⟨_, rfl, _, _, rfl, is.same (s0.trans s1), os, fun H2 s2 => ?_⟩
  obtain ⟨a, rfl, ta⟩ := it
  obtain ⟨b, rfl, tb⟩ := is
  have hp2 : H2 p = some (.ins C dx []) := s2 _ _ (s1 _ _ hp)
  refine ⟨_, rfl, _, rfl, p, C, dx, _, rfl, hp2, T.cl, T.nF, (by show 0 < 1000; decide), ?_⟩
  refine ⟨_, rfl, _, rfl, p, C, dx, _, rfl, upd_same, T.cl, T.nO, (by show 1 < 1000; decide), ?_⟩
  refine ⟨_, rfl, _, rfl, p, C, dx, _, rfl, upd_same, T.cl, T.nL, (by show _ < 1000; simp only [putF]; rw [if_neg (show ¬ (("factor" : Str) = "offset") by decide +kernel)]; exact (by decide : 2 < 1000)), ?_⟩
  have sm : Same H0 (upd (upd (upd H2 p (.ins C dx (putF "factor" (.ref a) []))) p (.ins C dx (putF "offset" (.ref b) (putF "factor" (.ref a) [])))) p (.ins C dx (putF "flips" (.bl m) (putF "offset" (.ref b) (putF "factor" (.ref a) []))))) := fun c o e => by
    have nc : c ≠ p := fun z => by rw [z, p0] at e; cases e
    rw [upd_ne nc, upd_ne nc, upd_ne nc]
    exact s2 _ _ (s1 _ _ (s0 _ _ e))
  exact q _ sm ⟨p, dx, a, b, rfl, by rw [upd_same, cf_put], same_T sm ta, same_T sm tb⟩
/-- the class as its users see it -/
structure CopyI (P : Program) (w : World) (K : PySem.W.Frag) (mg : Str → Option Value) (base : Heap) (C f : Addr) (fd : FuncData) (mv : List Value) (ds : List Value) : Prop where
  tx : CTxt K C
  mkC : Mk K C f
  ok : FnOk P w K mg base CX0 4 f fd ["self", "turn", "shift", "mirrored"] (sp_init K C)
  mgC : mg "Copy" = some (.ref C)
  bv : Vals [.bl false] ds
  bd : Binds K fd ["self", "turn", "shift", "mirrored"] ds
  kb : KBn K fd ["self", "turn", "shift", "mirrored"] 3 ["mirrored"] (fun us ws => us ++ ws) (fun vs zs => vs ++ zs)
theorem mk_of {C : Addr} {H : Hp} {Q : VK} {vt vs : V} {m : Bool} {t s : T3} (it : IsT K H vt t) (is : IsT K H vs s) (ot : Ok t) (nt : Nz t) (os : Ok s) (q : ∀ H' r, Same H H' → IsC K C H' r ⟨t, s, m⟩ → Q r H') :
    ∀ x dx, H x = none → H dx = none → dx ≠ x → sp_init K C [.ref x, vt, vs, .bl m] (upd (upd H dx (.own x)) x (.ins C dx [])) (fun v H2 => v = .non ∧ Q (.ref x) H2) E0 := by
  intro x dx hx hd _
  refine ⟨H, x, dx, vt, vs, m, t, s, rfl, fun c o e => ?_, hx, upd_same, it, is, ot, nt, os, fun H' s' i => ⟨rfl, q _ _ s' i⟩⟩
  rw [upd_ne (ne_of_none e hx), upd_ne (ne_of_none e hd)]
  exact e
theorem own2_of {C : Addr} {H : Hp} {Q : VK} {sp : Sp} {x y : V} {a b : Cp} (ix : IsC K C H x a) (iy : IsC K C H y b) (q : sp [x, y] H Q E0) : rOwn2 C sp x y H Q := by
  obtain ⟨p, dx, _, _, rfl, h1, _⟩ := ix
  obtain ⟨p', dx', _, _, rfl, h1', _⟩ := iy
  exact ⟨p, p', dx, _, dx', _, rfl, rfl, h1, h1', q⟩
theorem own1_of {C : Addr} {H : Hp} {Q : VK} {sp : Sp} {x : V} {a : Cp} (ix : IsC K C H x a) (q : sp [x] H Q E0) : rOwn1 C sp x H Q := by
  obtain ⟨p, dx, _, _, rfl, h1, _⟩ := ix
  exact ⟨p, dx, _, rfl, h1, q⟩
/-! ### the properties -/
def sp_get (K : PySem.W.Frag) (C : Addr) (g : Cp → Hp → V → Prop) : Sp := fun vs H Q _ => ∃ vc c, vs = [vc] ∧ IsC K C H vc c ∧ ∀ r, g c H r → Q r H
def sp_growth (K : PySem.W.Frag) (C : Addr) : Sp := fun vs H Q _ => ∃ vc c, vs = [vc] ∧ IsC K C H vc c ∧ CpOk c ∧ B 4000 c.t ∧ ∀ H' a, Same H H' → SqT K H' a [.int (gr c.t).1, .int (gr c.t).2] → Q (.ref a) H'
def sp_ap (K : PySem.W.Frag) (C : Addr) : Sp := fun vs H Q _ => ∃ vc c vz z, vs = [vc, vz] ∧ IsC K C H vc c ∧ CpOk c ∧ BC 1900 c ∧ IsT K H vz z ∧ Ok z ∧ B 1900 z ∧ ∀ H' r, Same H H' → IsT K H' r (ap c z) → Q r H'
def sp_jn (K : PySem.W.Frag) (C : Addr) : Sp := fun vs H Q _ => ∃ va a vb b, vs = [va, vb] ∧ IsC K C H va a ∧ IsC K C H vb b ∧ CpOk a ∧ CpOk b ∧ BC 1900 a ∧ BC 1900 b ∧ ∀ H' r, Same H H' → IsC K C H' r (jn a b) → Q r H'
theorem neB (a b : Bool) : V.bl (!decide (V.bl a = V.bl b)) = V.bl (a != b) := by cases a <;> cases b <;> rfl
def sp_bk (K : PySem.W.Frag) (C : Addr) : Sp := fun vs H Q _ => ∃ va a, vs = [va] ∧ IsC K C H va a ∧ CpOk a ∧ BC 1900 a ∧ ∀ H' r, Same H H' → IsC K C H' r (bk a) → Q r H'
def ceq (a b : Cp) : Bool := decide (a.t = b.t) && (decide (a.s = b.s) && decide (a.m = b.m))
theorem ceq_iff {a b : Cp} : ceq a b = true ↔ a = b := by
  obtain ⟨a1, a2, a3⟩ := a
  obtain ⟨b1, b2, b3⟩ := b
  unfold ceq
  simp
def sp_ceq (K : PySem.W.Frag) (C : Addr) : Sp := fun vs H Q _ => ∃ va a vb b, vs = [va, vb] ∧ IsC K C H va a ∧ IsC K C H vb b ∧ Q (.bl (ceq a b)) H
end
end My

namespace My
open PySem L2 Mth
abbrev s_Copy___call__ : Stmt := inClass (topS 32) 5
theorem sc_Copy___call__ : FnScope ["self", "spot"] ["self", "spot"] (defScope s_Copy___call__) := ⟨rfl, rfl, rfl, by decide +kernel, rfl, by decide +kernel, by decide +kernel⟩
section
variable {P : Program} {w : World} {K : PySem.W.Frag} {mg : Str → Option Value} {base : Heap}
theorem ok_call {f C : Addr} {fd : FuncData} (T : CTxt K C) (d_check_spot : D P w K mg base "check_spot" 3 (sp_check K)) (d_carried : D P w K mg base "carried" 4 (sp_car K)) (F : Fun K "__call__" "Copy.__call__" s_Copy___call__ f fd) : FnOk P w K mg base CX0 5 f fd ["self", "spot"] (sp_ap K C) := by
  refine F.ok sc_Copy___call__ (fun vs H Q E h => ?_) (fun cdv A outer s H vs Q E hr h => ?_)
  · obtain ⟨vc, c, vz, z, rfl, _⟩ := h
    rfl
  obtain ⟨vc, c, vz, z, rfl, ⟨p, dx, a, b, rfl, h1, h2, h3⟩, ok, bc, iz, oz, bz, q⟩ := h
  refine ⟨_, (pss_cons (ps_expr (pc d_check_spot (hr.mono (by decide)) (pa_cons (pv 1) pa_nil)))
    (pss_one (ps_ret (pc d_carried (hr.mono (by decide)) (pa_cons (pe_fld (pv 0) rfl) (pa_cons (pe_fld (pv 0) rfl) (pa_cons (pe_fld (pv 0) rfl) (pa_cons (pv 1) pa_nil)))))))), ?_⟩
  refine ⟨_, rfl, _, _, rfl, iz, oz, fun H1 s1 => ?_⟩
  refine ⟨_, rfl, p, C, dx, _, _, rfl, s1 _ _ h1, T.cl, T.nF, cf_f, _, rfl, p, C, dx, _, _, rfl, s1 _ _ h1, T.cl, T.nO, cf_o, _, rfl, p, C, dx, _, _, rfl, s1 _ _ h1, T.cl, T.nL, cf_m, _, rfl, ?_⟩
  exact ⟨_, _, _, _, _, _, _, rfl, ⟨_, rfl, same_T s1 h2⟩, ⟨_, rfl, same_T s1 h3⟩, iz.same s1, ok.t, ok.s, oz, bc.1, bc.2.mono (by decide), bz, fun H2 r s2 i => q _ _ (s1.trans s2) i⟩
end
end My

namespace My
open PySem L2 Mth
abbrev s_Copy_turn : Stmt := inClass (topS 32) 1
theorem sc_Copy_turn : FnScope ["self"] ["self"] (defScope s_Copy_turn) := ⟨rfl, rfl, rfl, by decide +kernel, rfl, by decide +kernel, by decide +kernel⟩
section
variable {P : Program} {w : World} {K : PySem.W.Frag} {mg : Str → Option Value} {base : Heap}
theorem ok_turn {f C : Addr} {fd : FuncData} (T : CTxt K C) (F : Fun K "turn" "Copy.turn" s_Copy_turn f fd) : FnOk P w K mg base CX0 1 f fd ["self"] (sp_get K C fun c H r => IsT K H r c.t) := by
  refine F.ok sc_Copy_turn (fun vs H Q E h => ?_) (fun cdv A outer s H vs Q E hr h => ?_)
  · obtain ⟨vc, c, rfl, _⟩ := h
    rfl
  obtain ⟨vc, c, rfl, ⟨p, dx, a, b, rfl, h1, h2, h3⟩, q⟩ := h
  refine ⟨_, (pss_one (ps_ret (pe_fld (pv 0) rfl))), ?_⟩
  exact ⟨_, rfl, p, C, dx, _, _, rfl, h1, T.cl, T.nF, cf_f, q _ ⟨_, rfl, h2⟩⟩
end
end My

namespace My
open PySem L2 Mth
abbrev s_Copy_shift : Stmt := inClass (topS 32) 2
theorem sc_Copy_shift : FnScope ["self"] ["self"] (defScope s_Copy_shift) := ⟨rfl, rfl, rfl, by decide +kernel, rfl, by decide +kernel, by decide +kernel⟩
section
variable {P : Program} {w : World} {K : PySem.W.Frag} {mg : Str → Option Value} {base : Heap}
theorem ok_shift {f C : Addr} {fd : FuncData} (T : CTxt K C) (F : Fun K "shift" "Copy.shift" s_Copy_shift f fd) : FnOk P w K mg base CX0 1 f fd ["self"] (sp_get K C fun c H r => IsT K H r c.s) := by
  refine F.ok sc_Copy_shift (fun vs H Q E h => ?_) (fun cdv A outer s H vs Q E hr h => ?_)
  · obtain ⟨vc, c, rfl, _⟩ := h
    rfl
  obtain ⟨vc, c, rfl, ⟨p, dx, a, b, rfl, h1, h2, h3⟩, q⟩ := h
  refine ⟨_, (pss_one (ps_ret (pe_fld (pv 0) rfl))), ?_⟩
  exact ⟨_, rfl, p, C, dx, _, _, rfl, h1, T.cl, T.nO, cf_o, q _ ⟨_, rfl, h3⟩⟩
end
end My

namespace My
open PySem L2 Mth
abbrev s_Copy_mirrored : Stmt := inClass (topS 32) 3
theorem sc_Copy_mirrored : FnScope ["self"] ["self"] (defScope s_Copy_mirrored) := ⟨rfl, rfl, rfl, by decide +kernel, rfl, by decide +kernel, by decide +kernel⟩
section
variable {P : Program} {w : World} {K : PySem.W.Frag} {mg : Str → Option Value} {base : Heap}
theorem ok_mirrored {f C : Addr} {fd : FuncData} (T : CTxt K C) (F : Fun K "mirrored" "Copy.mirrored" s_Copy_mirrored f fd) : FnOk P w K mg base CX0 1 f fd ["self"] (sp_get K C fun c H r => r = .bl c.m) := by
  refine F.ok sc_Copy_mirrored (fun vs H Q E h => ?_) (fun cdv A outer s H vs Q E hr h => ?_)
  · obtain ⟨vc, c, rfl, _⟩ := h
    rfl
  obtain ⟨vc, c, rfl, ⟨p, dx, a, b, rfl, h1, h2, h3⟩, q⟩ := h
  refine ⟨_, (pss_one (ps_ret (pe_fld (pv 0) rfl))), ?_⟩
  exact ⟨_, rfl, p, C, dx, _, _, rfl, h1, T.cl, T.nL, cf_m, q _ rfl⟩
end
end My

namespace My
open PySem L2 Mth
abbrev s_Copy_growth : Stmt := inClass (topS 32) 4
theorem sc_Copy_growth : FnScope ["self", "x", "y", "d"] ["self"] (defScope s_Copy_growth) := ⟨rfl, rfl, rfl, by decide +kernel, rfl, by decide +kernel, by decide +kernel⟩
section
variable {P : Program} {w : World} {K : PySem.W.Frag} {mg : Str → Option Value} {base : Heap}
theorem ok_growth {f C : Addr} {fd : FuncData} (T : CTxt K C) (d_fraction : D P w K mg base "fraction" 2 (sp_fr K)) (F : Fun K "growth" "Copy.growth" s_Copy_growth f fd) : FnOk P w K mg base CX0 3 f fd ["self"] (sp_growth K C) := by
  refine F.ok sc_Copy_growth (fun vs H Q E h => ?_) (fun cdv A outer s H vs Q E hr h => ?_)
  · obtain ⟨vc, c, rfl, _⟩ := h
    rfl
  obtain ⟨vc, ⟨⟨x, y, d⟩, s', m⟩, rfl, ⟨p, dx, a, b, rfl, h1, h2, h3⟩, ok, ⟨a1, a2, a3⟩, q⟩ := h
  refine ⟨_, (pss_cons (ps_asg (pe_fld (pv 0) rfl) (pg_tup rfl (pgs_cons (pg_name (i := 1) sc_Copy_growth.nd rfl (by first | exact Or.inl rfl | exact Or.inr rfl)) (pgs_cons (pg_name (i := 2) sc_Copy_growth.nd rfl (by first | exact Or.inl rfl | exact Or.inr rfl)) (pgs_cons (pg_name (i := 3) sc_Copy_growth.nd rfl (by first | exact Or.inl rfl | exact Or.inr rfl)) pgs_nil)))))
    (pss_one (ps_ret (pc d_fraction (hr.mono (by decide)) (pa_cons (pe_op op_add (pe_op op_mulW (pv 1) (pv 1)) (pe_op op_mulW (pv 2) (pv 2))) (pa_cons (pe_op op_mulW (pv 3) (pv 3)) pa_nil)))))), ?_⟩
  refine ⟨_, rfl, p, C, dx, _, _, rfl, h1, T.cl, T.nF, cf_f, _, _, rfl, h2, rfl, _, _, rfl, _, _, rfl, _, _, rfl, rfl, ?_⟩
  refine ⟨_, rfl, _, rfl, _, _, rfl, rfl, mulW a1 a1, _, rfl, _, rfl, _, _, rfl, rfl, mulW a2 a2, _, _, rfl, rfl, ?_⟩
  refine ⟨_, rfl, _, rfl, _, _, rfl, rfl, mulW a3 a3, ?_⟩
  exact ⟨_, _, rfl, mul_ne ok.t.ne ok.t.ne, up_lt (by decide) (mul_lt a3 a3), q⟩
end
end My

namespace My
open PySem L2 Mth
abbrev s_Copy___rshift__ : Stmt := inClass (topS 32) 6
theorem sc_Copy___rshift__ : FnScope ["self", "other", "turn", "shift"] ["self", "other"] (defScope s_Copy___rshift__) := ⟨rfl, rfl, rfl, by decide +kernel, rfl, by decide +kernel, by decide +kernel⟩
section
variable {P : Program} {w : World} {K : PySem.W.Frag} {mg : Str → Option Value} {base : Heap}
theorem ok_rshift {f C fI : Addr} {fd fdI : FuncData} {mv ds : List Value} (TC : CopyI P w K mg base C fI fdI mv ds) (d_product : D P w K mg base "product" 3 (sp_two K times)) (d_faced : D P w K mg base "faced" 1 (sp_face K)) (d_carried : D P w K mg base "carried" 4 (sp_car K))
    (F : Fun K "__rshift__" "Copy.__rshift__" s_Copy___rshift__ f fd) : FnOk P w K mg base CX0 6 f fd ["self", "other"] (sp_jn K C) := by
  refine F.ok sc_Copy___rshift__ (fun vs H Q E h => ?_) (fun cdv A outer s H vs Q E hr h => ?_)
  · obtain ⟨va, a, vb, b, rfl, _⟩ := h
    rfl
  obtain ⟨va, a, vb, b, rfl, ⟨p, dx, u, v, rfl, h1, h2, h3⟩, ⟨p', dx', u', v', rfl, k1, k2, k3⟩, oa, ob, ba, bb, q⟩ := h
  have T := TC.tx
  refine ⟨_, (pss_cons (ps_set (i := 2) sc_Copy___rshift__.nd rfl (by first | exact Or.inl rfl | exact Or.inr rfl) (pc d_product (hr.mono (by decide)) (pa_cons (pe_fld (pv 1) rfl) (pa_cons (pc d_faced (hr.mono (by decide)) (pa_cons (pe_fld (pv 0) rfl) (pa_cons (pe_fld (pv 1) rfl) pa_nil))) pa_nil))))
    (pss_cons (ps_set (i := 3) sc_Copy___rshift__.nd rfl (by first | exact Or.inl rfl | exact Or.inr rfl) (pc d_carried (hr.mono (by decide)) (pa_cons (pe_fld (pv 1) rfl) (pa_cons (pe_fld (pv 1) rfl) (pa_cons (pe_fld (pv 1) rfl) (pa_cons (pe_fld (pv 0) rfl) pa_nil))))))
    (pss_one (ps_ret (pe_makeK TC.mkC TC.ok (hr.mono (by decide)) (by rfl) TC.mgC TC.kb pass0 (pa_cons (pv 2) (pa_cons (pv 3) pa_nil)) (pk_cons (pe_cmpR (op_ne) (pe_fld (pv 0) rfl) (pe_fld (pv 1) rfl) (nomark _)) pk_nil)))))), ?_⟩
  refine ⟨_, rfl, p', C, dx', _, _, rfl, k1, T.cl, T.nF, cf_f, _, rfl, p, C, dx, _, _, rfl, h1, T.cl, T.nF, cf_f, _, rfl, p', C, dx', _, _, rfl, k1, T.cl, T.nL, cf_m, ?_⟩
  refine ⟨_, _, _, rfl, ⟨_, rfl, h2⟩, fun H1 r1 s1 i1 => ?_⟩
  refine ⟨_, _, _, _, rfl, ⟨_, rfl, same_T s1 k2⟩, i1, ob.t, face_ok oa.t _, bb.1.mono (by decide), (face_B ba.1 _).mono (by decide), fun H2 r2 s2 i2 => ?_⟩
  have s12 := s1.trans s2
  refine ⟨_, rfl, p', C, dx', _, _, rfl, s12 _ _ k1, T.cl, T.nF, cf_f, _, rfl, p', C, dx', _, _, rfl, s12 _ _ k1, T.cl, T.nO, cf_o, _, rfl, p', C, dx', _, _, rfl, s12 _ _ k1, T.cl, T.nL, cf_m, _, rfl, p, C, dx, _, _, rfl, s12 _ _ h1, T.cl, T.nO, cf_o, ?_⟩
  refine ⟨_, _, _, _, _, _, _, rfl, ⟨_, rfl, same_T s12 k2⟩, ⟨_, rfl, same_T s12 k3⟩, ⟨_, rfl, same_T s12 h3⟩, ob.t, ob.s, oa.s, bb.1, bb.2.mono (by decide), ba.2, fun H3 r3 s3 i3 => ?_⟩
  have s123 := s12.trans s3
  refine ⟨_, rfl, _, rfl, _, rfl, p, C, dx, _, _, rfl, s123 _ _ h1, T.cl, T.nL, cf_m, _, rfl, p', C, dx', _, _, rfl, s123 _ _ k1, T.cl, T.nL, cf_m, rfl, ?_⟩
  refine ⟨rfl, rfl, ?_⟩
  rw [neB]
  exact mk_of (i2.same s3) i3 (jn_ok oa ob).t (jn_ok oa ob).n (jn_ok oa ob).s fun H4 r4 s4 i4 => q _ _ (s123.trans s4) i4
end
end My

namespace My
open PySem L2 Mth
abbrev s_Copy___invert__ : Stmt := inClass (topS 32) 7
theorem sc_Copy___invert__ : FnScope ["self", "back", "shift"] ["self"] (defScope s_Copy___invert__) := ⟨rfl, rfl, rfl, by decide +kernel, rfl, by decide +kernel, by decide +kernel⟩
section
variable {P : Program} {w : World} {K : PySem.W.Frag} {mg : Str → Option Value} {base : Heap}
theorem ok_invert {f C fI : Addr} {fd fdI : FuncData} {mv ds : List Value} (TC : CopyI P w K mg base C fI fdI mv ds) (d_product : D P w K mg base "product" 3 (sp_two K times)) (d_inverse : D P w K mg base "inverse" 3 (sp_inv K)) (d_negative : D P w K mg base "negative" 1 (sp_one K neg)) (d_faced : D P w K mg base "faced" 1 (sp_face K))
    (F : Fun K "__invert__" "Copy.__invert__" s_Copy___invert__ f fd) : FnOk P w K mg base CX0 6 f fd ["self"] (sp_bk K C) := by
  refine F.ok sc_Copy___invert__ (fun vs H Q E h => ?_) (fun cdv A outer s H vs Q E hr h => ?_)
  · obtain ⟨va, a, rfl, _⟩ := h
    rfl
  obtain ⟨va, a, rfl, ⟨p, dx, u, v, rfl, h1, h2, h3⟩, oa, ba, q⟩ := h
  have T := TC.tx
  refine ⟨_, (pss_cons (ps_set (i := 1) sc_Copy___invert__.nd rfl (by first | exact Or.inl rfl | exact Or.inr rfl) (pc d_inverse (hr.mono (by decide)) (pa_cons (pe_fld (pv 0) rfl) pa_nil)))
    (pss_cons (ps_set (i := 2) sc_Copy___invert__.nd rfl (by first | exact Or.inl rfl | exact Or.inr rfl) (pc d_negative (hr.mono (by decide)) (pa_cons (pc d_product (hr.mono (by decide)) (pa_cons (pv 1) (pa_cons (pe_fld (pv 0) rfl) pa_nil))) pa_nil)))
    (pss_one (ps_ret (pe_makeK TC.mkC TC.ok (hr.mono (by decide)) (by rfl) TC.mgC TC.kb pass0 (pa_cons (pc d_faced (hr.mono (by decide)) (pa_cons (pv 1) (pa_cons (pe_fld (pv 0) rfl) pa_nil))) (pa_cons (pc d_faced (hr.mono (by decide)) (pa_cons (pv 2) (pa_cons (pe_fld (pv 0) rfl) pa_nil))) pa_nil)) (pk_cons (pe_fld (pv 0) rfl) pk_nil)))))), ?_⟩
  refine ⟨_, rfl, p, C, dx, _, _, rfl, h1, T.cl, T.nF, cf_f, ?_⟩
  refine ⟨_, _, rfl, ⟨_, rfl, h2⟩, oa.n, ba.1.mono (by decide), fun H1 r1 s1 i1 => ?_⟩
  refine ⟨_, rfl, _, rfl, p, C, dx, _, _, rfl, s1 _ _ h1, T.cl, T.nO, cf_o, ?_⟩
  refine ⟨_, _, _, _, rfl, i1, ⟨_, rfl, same_T s1 h3⟩, inv_ok oa.n, oa.s, (inv_B oa.n ba.1).mono (by decide), ba.2.mono (by decide), fun H2 r2 s2 i2 => ?_⟩
  refine ⟨_, _, rfl, i2, fun H3 r3 s3 i3 => ?_⟩
  have s123 := s1.trans (s2.trans s3)
  refine ⟨_, rfl, _, rfl, p, C, dx, _, _, rfl, s123 _ _ h1, T.cl, T.nL, cf_m, ?_⟩
  refine ⟨_, _, _, rfl, i1.same (s2.trans s3), fun H4 r4 s4 i4 => ?_⟩
  refine ⟨_, rfl, _, rfl, p, C, dx, _, _, rfl, (s123.trans s4) _ _ h1, T.cl, T.nL, cf_m, ?_⟩
  refine ⟨_, _, _, rfl, i3.same s4, fun H5 r5 s5 i5 => ?_⟩
  refine ⟨_, rfl, p, C, dx, _, _, rfl, (s123.trans (s4.trans s5)) _ _ h1, T.cl, T.nL, cf_m, rfl, rfl, ?_⟩
  exact mk_of (i4.same s5) i5 (bk_ok oa).t (bk_ok oa).n (bk_ok oa).s fun H6 r6 s6 i6 => q _ _ ((s123.trans (s4.trans s5)).trans s6) i6
end
end My

namespace My
open PySem L2 Mth
abbrev s_Copy___eq__ : Stmt := inClass (topS 32) 8
theorem sc_Copy___eq__ : FnScope ["self", "other"] ["self", "other"] (defScope s_Copy___eq__) := ⟨rfl, rfl, rfl, by decide +kernel, rfl, by decide +kernel, by decide +kernel⟩
section
variable {P : Program} {w : World} {K : PySem.W.Frag} {mg : Str → Option Value} {base : Heap}
theorem ok_eq {f C : Addr} {fd : FuncData} (T : CTxt K C) (mgC : mg "Copy" = some (.ref C)) (b_isinstance : mg "isinstance" = none) (F : Fun K "__eq__" "Copy.__eq__" s_Copy___eq__ f fd) : FnOk P w K mg base CX0 1 f fd ["self", "other"] (sp_ceq K C) := by
  refine F.ok sc_Copy___eq__ (fun vs H Q E h => ?_) (fun cdv A outer s H vs Q E hr h => ?_)
  · obtain ⟨va, a, vb, b, rfl, _⟩ := h
    rfl
  obtain ⟨va, a, vb, b, rfl, ⟨p, dx, u, v, rfl, h1, h2, h3⟩, ⟨p', dx', u', v', rfl, k1, k2, k3⟩, q⟩ := h
  refine ⟨_, (pss_one (ps_ret (pe_and (pe_callB (r := rIsi K) call_isi (by rfl) b_isinstance (by decide +kernel) (pa_cons (pv 1) (pa_cons (pe_glob (v := .ref C) (by rfl) mgC rfl) pa_nil))) (pe_and (pe_cmpR (op_eqD hr.units) (pe_fld (pv 0) rfl) (pe_fld (pv 1) rfl) (nomark _)) (pe_and (pe_cmpR (op_eqD hr.units) (pe_fld (pv 0) rfl) (pe_fld (pv 1) rfl) (nomark _)) (pe_one (pe_cmpR (op_eq) (pe_fld (pv 0) rfl) (pe_fld (pv 1) rfl) (nomark _)))))))), ?_⟩
  refine ⟨_, rfl, _, _, _, _, true, rfl, .own C, .base (.ins k1 T.cl T.ha T.hn T.htk T.hm), ?_, true, rfl, iteT ?_⟩
  · unfold PySem.W.kitOne; simp
  refine ⟨_, rfl, p, C, dx, _, _, rfl, h1, T.cl, T.nF, cf_f, _, rfl, p', C, dx', _, _, rfl, k1, T.cl, T.nF, cf_f, _, _, Dp3 h2, Dp3 k2, shaped3 _, shaped3 _, _, rfl, ?_⟩
  rw [eqv3]
  unfold ceq at q
  cases c1 : decide (a.t = b.t) with
  | false =>
    rw [c1] at q
    exact iteF q
  | true =>
    rw [c1] at q
    refine iteT ?_
    refine ⟨_, rfl, p, C, dx, _, _, rfl, h1, T.cl, T.nO, cf_o, _, rfl, p', C, dx', _, _, rfl, k1, T.cl, T.nO, cf_o, _, _, Dp3 h3, Dp3 k3, shaped3 _, shaped3 _, _, rfl, ?_⟩
    rw [eqv3]
    cases c2 : decide (a.s = b.s) with
    | false =>
      rw [c2] at q
      exact iteF q
    | true =>
      rw [c2] at q
      refine iteT ?_
      refine ⟨_, rfl, p, C, dx, _, _, rfl, h1, T.cl, T.nL, cf_m, _, rfl, p', C, dx', _, _, rfl, k1, T.cl, T.nL, cf_m, rfl, ?_⟩
      have e : decide (V.bl a.m = V.bl b.m) = decide (a.m = b.m) := by cases a.m <;> cases b.m <;> rfl
      show Q (.bl (decide (V.bl a.m = V.bl b.m))) H
      rw [e]
      exact q
end
end My

namespace My
open PySem L2 Mth
abbrev s_law_below : Stmt := topS 42
theorem sc_law_below : FnScope ["_law_d", "_law_limit", "_law_result"] ["_law_d", "_law_limit"] (defScope s_law_below) := ⟨rfl, rfl, rfl, by decide +kernel, rfl, by decide +kernel, by decide +kernel⟩
abbrev s_law_random : Stmt := topS 41
theorem sc_law_random : FnScope ["_law_script", "_law_salt", "_law_seed", "_law_cell"] ["_law_script", "_law_salt"] (defScope s_law_random) := ⟨rfl, rfl, rfl, by decide +kernel, rfl, by decide +kernel, by decide +kernel⟩
section
variable {P : Program} {w : World} {K : PySem.W.Frag} {mg : Str → Option Value} {base : Heap}
/-! ### the source of numbers -/
structure Src where
  seed : Int
  cur : Int
  rest : List Int
structure SrcOk (s : Src) : Prop where
  s0 : 0 ≤ s.seed
  s1 : s.seed < 2147483647
  c0 : 0 ≤ s.cur
  r0 : ∀ r ∈ s.rest, 0 ≤ r
  len : s.rest.length ≤ 63
def encD (s : Src) : List V := .int s.seed :: .int s.cur :: s.rest.map V.int
theorem natAbs_pow18 : ((10 : Int) ^ (18 : Int).toNat) = 1000000000000000000 := by decide
theorem getInt {ns : List Int} {i : Nat} {y : V} (h : (ns.map V.int)[i]? = some y) : ∃ u, y = V.int u ∧ ns[i]? = some u := by
  rw [List.getElem?_map] at h
  cases e : ns[i]? with
  | none => rw [e] at h; cases h
  | some u => rw [e] at h; exact ⟨u, (Option.some.inj h).symm, rfl⟩
theorem take_more {α : Type} {l : List α} {i : Nat} {x : α} (h : l[i]? = some x) : l.take (i + 1) = l.take i ++ [x] := by
  rw [List.take_succ, h]
  rfl
def sp_random (K : PySem.W.Frag) : Sp := fun vs H Q _ => ∃ (a : Addr) (ns : List Int) (salt : Int), vs = [.ref a, .int salt] ∧ SqL K H a (ns.map V.int) ∧ ns.length ≤ 63 ∧ 0 ≤ salt ∧ salt < 2147483647 ∧
  ∀ H' d st, Same H H' → H' d = some (.lst (encD st)) → SrcOk st → Q (.ref d) H'
theorem ok_law_random {f : Addr} {fd : FuncData} (b_abs : mg "abs" = none) (F : Fun K "_law_random" "_law_random" s_law_random f fd) : FnOk P w K mg base CX0 1 f fd ["_law_script", "_law_salt"] (sp_random K) := by
  refine F.ok sc_law_random (fun vs H Q E h => ?_) (fun cdv A outer s H vs Q E hr h => ?_)
  · obtain ⟨a, ns, salt, rfl, _⟩ := h
    rfl
  obtain ⟨a, ns, salt, rfl, hS, h63, h0, h1, q⟩ := h
  refine ⟨_, (pss_cons (ps_set (i := 2) sc_law_random.nd rfl (by first | exact Or.inl rfl | exact Or.inr rfl) (pv 1))
    (pss_cons (ps_for PassesOwn.never rfl (pi_list (pv 0)) (pg_name (i := 3) sc_law_random.nd rfl (by first | exact Or.inl rfl | exact Or.inr rfl)) (pss_one (ps_set (i := 2) sc_law_random.nd rfl (by first | exact Or.inl rfl | exact Or.inr rfl) (pe_op op_modN (pe_op op_add (pe_op op_mulW (pv 2) pe_int) (pe_callB call_abs (by rfl) b_abs (by decide +kernel) (pa_cons (pv 3) pa_nil))) pe_int))))
    (pss_one (ps_ret (pe_op op_cat (pe_lst (pa_cons (pv 2) (pa_cons pe_int pa_nil))) (pe_lc (own := [("_law_cell", 3)]) (g := gName 3) (by rfl) sc_law_random.nd (pi_list (pv 0)) (blkOk_by (own := [("_law_cell", 3)]) (N := ["_law_script", "_law_salt", "_law_seed", "_law_cell"]) (sc := defScope s_law_random) (by decide +kernel)) (fun _ _ _ _ _ => (pg_name (i := 3) sc_law_random.nd rfl (by first | exact Or.inl rfl | exact Or.inr rfl))) (fun _ _ _ _ _ => (pts_one (pt_cmpR (op_ge) (pv 3) (pe_op op_pow pe_int pe_int) (nomark _)))) (fun _ _ _ _ _ => (pv 3)))))))), ?_⟩
  refine ⟨_, rfl, ?_⟩
  refine ⟨_, rfl, _, rfl, ⟨_, hS⟩, for_list (K := K) (a := a) (xs := ns.map V.int) (fun i σ H' => H' = H ∧ ∃ (z : Int) (v : Option V), σ = [some (.ref a), some (.int salt), some (.int z), v] ∧ 0 ≤ z ∧ z < 2147483647) ⟨rfl, salt, none, rfl, h0, h1⟩ ?_ ?_ ?_⟩
  · rintro i σ H' _ ⟨rfl, _⟩
    exact hS
  · rintro i y σ H' hi ⟨rfl, z, v, rfl, z0, z1⟩
    obtain ⟨u, rfl, hu⟩ := getInt hi
    refine ⟨_, rfl, _, _, rfl, rfl, mulW (a := 31) (b := 31) (show z.natAbs < 2 ^ 32 by omega) (by decide), _, rfl, _, rfl, _, _, rfl, rfl, _, _, rfl, rfl, (show (2147483647 : Int) ≠ 0 by decide), ?_⟩
    exact ⟨rfl, _, _, rfl, Int.fmod_nonneg_of_pos _ (by decide), Int.fmod_lt_of_pos _ (by decide)⟩
  · rintro σ H' ⟨rfl, z, v, rfl, z0, z1⟩
    refine ⟨_, rfl, (by show 2 ≤ sizeLine; decide), fun p hp => ?_⟩
    have g1 := same_new hp (.lst [.int z, .int 0])
    refine ⟨_, rfl, a, rfl, ⟨_, g1.seq hS⟩, fun L hL => lc_list (K := K) (a := a) (xs := ns.map V.int) (fun i H1 => ∃ acc : List Int, H1 = upd (upd H' p (.lst [.int z, .int 0])) L (.lst (acc.map V.int)) ∧ acc.length ≤ i ∧ ∀ r ∈ acc, 0 ≤ r) ⟨[], rfl, Nat.le_refl _, fun r hr => by cases hr⟩ ?_ ?_ ?_⟩
    · rintro i H1 hi ⟨acc, rfl, _⟩
      exact (same_new hL _).seq (g1.seq hS)
    · rintro i y H1 hi ⟨acc, rfl, hl, ha⟩
      obtain ⟨u, rfl, hu⟩ := getInt hi
      have hi63 : i < ns.length := (List.getElem?_eq_some_iff.mp hu).1
      refine ⟨rfl, ?_⟩
      refine ⟨_, rfl, _, _, rfl, rfl, ⟨by decide, by decide, by decide⟩, _, _, rfl, rfl, _, rfl, ?_⟩
      refine ite2 (fun c => ?_) (fun c => ?_)
      · refine ⟨_, rfl, acc.map V.int, upd_same, ?_, acc ++ [u], ?_, ?_, ?_⟩
        · rw [List.length_map]; exact small1000 (by omega)
        · rw [upd_upd, List.map_append]; rfl
        · rw [List.length_append, List.length_singleton]; omega
        · intro r hr
          rcases List.mem_append.mp hr with h | h
          · exact ha r h
          · have c' : (10 : Int) ^ (18 : Int).toNat ≤ u := of_decide_eq_true c
            rw [natAbs_pow18] at c'
            have := List.mem_singleton.mp h
            omega
      · exact ⟨acc, rfl, by omega, ha⟩
    · rintro H1 ⟨acc, rfl, hl, ha⟩
      rw [List.length_map] at hl
      have npL : p ≠ L := fun z => by rw [← z, upd_same] at hL; cases hL
      refine ⟨p, L, _, _, rfl, rfl, by rw [upd_ne npL]; exact upd_same, upd_same, ?_, fun r hr => ?_⟩
      · rw [List.length_map]; exact small (by show 2 + _ ≤ 1000; omega)
      · have g2 := same_new hL (.lst (acc.map V.int))
        exact q _ _ ⟨z, 0, acc⟩ (g1.trans (g2.trans (same_new hr _))) upd_same ⟨z0, z1, Int.le_refl 0, ha, by show acc.length ≤ 63; omega⟩
/-- the next number -/
def sp_below : Sp := fun vs H Q _ => ∃ (d : Addr) (n : Int) (st : Src), vs = [.ref d, .int n] ∧ 0 < n ∧ n < 1000000 ∧ H d = some (.lst (encD st)) ∧ SrcOk st ∧
  ∀ st' r, SrcOk st' → 0 ≤ r → r < n → Q (.int r) (upd H d (.lst (encD st')))
theorem div_nn {a b : Int} (ha : 0 ≤ a) (hb : 0 < b) : 0 ≤ a.fdiv b := by
  rw [Int.fdiv_eq_ediv_of_nonneg a (by omega)]
  exact Int.ediv_nonneg ha (by omega)
theorem dX {i j : Int} (h : 0 < j) (h9 : j < 1000000) : CDivX i j := divX (b := 20) (by omega) (by omega) (by decide) (by decide)
theorem at0 {a b : V} {r : List V} : atI (a :: b :: r) 0 = some a := atI_nat (j := 0) rfl
theorem at1 {a b : V} {r : List V} : atI (a :: b :: r) 1 = some b := atI_nat (j := 1) rfl
theorem ix0 {a b : V} {r : List V} : ixN (a :: b :: r).length 0 = some 0 := by
  unfold ixN
  rw [if_pos (by decide), if_pos (by simp only [List.length_cons]; omega)]
  rfl
theorem ix1 {a b : V} {r : List V} : ixN (a :: b :: r).length 1 = some 1 := by
  unfold ixN
  rw [if_pos (by decide), if_pos (by simp only [List.length_cons]; omega)]
  rfl
theorem ok_law_below {f : Addr} {fd : FuncData} (b_len : mg "len" = none) (F : Fun K "_law_below" "_law_below" s_law_below f fd) : FnOk P w K mg base CX0 1 f fd ["_law_d", "_law_limit"] sp_below := by
  refine F.ok sc_law_below (fun vs H Q E h => ?_) (fun cdv A outer s H vs Q E hr h => ?_)
  · obtain ⟨d, n, st, rfl, _⟩ := h
    rfl
  obtain ⟨d, n, ⟨seed, cur, rest⟩, rfl, n0, n1, hd, ⟨s0, s1, c0, r0, hl⟩, q⟩ := h
  dsimp only at s0 s1 c0 r0 hl
  refine ⟨_, (pss_cons (ps_if (PW.pt (pw_and (pt_cmpR (op_eq) (pe_ix ix_list (pv 0) pe_int (fun _ _ => rfl)) pe_int (nomark _)) (pw_and1 (pt_cmpR (op_gt) (pe_callB call_len_seq (by rfl) b_len PySem.boot_len (pa_cons (pv 0) pa_nil)) pe_int (nomark _))))) (pss_one (ps_asg (pe_bm PySem.F.plainAttrs_list PySem.F.slot_list_pop PySem.F.type_list_pop mt_popAt (pv 0) (pa_cons pe_int pa_nil)) (pg_sub (pv 0) pe_int set_list))) pss_nil)
    (pss_cons (ps_if (pt_cmpR (op_gt) (pe_ix ix_list (pv 0) pe_int (fun _ _ => rfl)) pe_int (nomark _)) (pss_cons (ps_set (i := 2) sc_law_below.nd rfl (by first | exact Or.inl rfl | exact Or.inr rfl) (pe_op op_modN (pe_ix ix_list (pv 0) pe_int (fun _ _ => rfl)) (pv 1)))
    (pss_cons (ps_asg (pe_op op_fdivX (pe_ix ix_list (pv 0) pe_int (fun _ _ => rfl)) (pv 1)) (pg_sub (pv 0) pe_int set_list))
    (pss_one (ps_ret (pv 2))))) pss_nil)
    (pss_cons (ps_asg (pe_op op_modN (pe_op op_add (pe_op op_mulW (pe_ix ix_list (pv 0) pe_int (fun _ _ => rfl)) pe_int) pe_int) pe_int) (pg_sub (pv 0) pe_int set_list))
    (pss_one (ps_ret (pe_op op_modN (pe_op op_fdivX (pe_ix ix_list (pv 0) pe_int (fun _ _ => rfl)) pe_int) (pv 1))))))), ?_⟩
  have tail : ∀ (cur : Int) (rest : List Int) (H1 : Hp), 0 ≤ cur → (∀ r ∈ rest, 0 ≤ r) → rest.length ≤ 63 → (∀ o, upd H1 d o = upd H d o) → H1 d = some (.lst (encD ⟨seed, cur, rest⟩)) →
      (tSeq (tIfS (tTest (tOp (rI0 fun i j => .bl (decide (j < i))) (tOp (rIxL K) (tVar 0) (tC (.int 1))) (tC (.int 0))))
        (tSeq (tAsg (tOp (rI (fun _ j => j ≠ 0) fun i j => .int (i.fmod j)) (tOp (rIxL K) (tVar 0) (tC (.int 1))) (tVar 1)) (gName 2))
          (tSeq (tAsg (tOp (rI CDivX fun i j => .int (i.fdiv j)) (tOp (rIxL K) (tVar 0) (tC (.int 1))) (tVar 1)) (gSub (tVar 0) (tC (.int 1)) rSetL)) (tRet (tVar 2)))) tNext)
        (tSeq (tAsg (tOp (rI (fun _ j => j ≠ 0) fun i j => .int (i.fmod j)) (tOp (rI0 fun i j => .int (i + j)) (tOp (rI CMulW fun i j => .int (i * j)) (tOp (rIxL K) (tVar 0) (tC (.int 0))) (tC (.int 48271))) (tC (.int 11))) (tC (.int 2147483647))) (gSub (tVar 0) (tC (.int 0)) rSetL))
          (tRet (tOp (rI (fun _ j => j ≠ 0) fun i j => .int (i.fmod j)) (tOp (rI CDivX fun i j => .int (i.fdiv j)) (tOp (rIxL K) (tVar 0) (tC (.int 0))) (tC (.int 64))) (tVar 1))))) { nx := fun _ H' => Q .non H', rt := Q } [some (.ref d), some (.int n), none] H1 := by
    intro cur rest H1 c0 r0 hl hu h1
    refine ⟨_, rfl, _, _, _, _, rfl, rfl, .inl (.inl h1), at1, _, _, rfl, rfl, _, rfl, ?_⟩
    refine ite2 (fun c => ?_) (fun c => ?_)
    · refine ⟨_, rfl, _, _, _, _, rfl, rfl, .inl (.inl h1), at1, _, rfl, _, _, rfl, rfl, (show n ≠ 0 by omega), ?_⟩
      refine ⟨_, rfl, _, _, _, _, rfl, rfl, .inl (.inl h1), at1, _, rfl, _, _, rfl, rfl, dX n0 n1, ?_⟩
      refine ⟨_, rfl, _, _, _, _, rfl, rfl, h1, ix1, ?_⟩
      refine ⟨_, rfl, ?_⟩
      have z := q ⟨seed, cur.fdiv n, rest⟩ (cur.fmod n) ⟨s0, s1, div_nn c0 n0, r0, hl⟩ (Int.fmod_nonneg_of_pos _ n0) (Int.fmod_lt_of_pos _ n0)
      rw [← hu] at z
      exact z
    · refine ⟨_, rfl, _, _, _, _, rfl, rfl, .inl (.inl h1), at0, _, _, rfl, rfl, mulW (a := 31) (b := 31) (show seed.natAbs < 2 ^ 32 by omega) (by decide), _, _, rfl, rfl, _, _, rfl, rfl, (show (2147483647 : Int) ≠ 0 by decide), ?_⟩
      refine ⟨_, rfl, _, _, _, _, rfl, rfl, h1, ix0, ?_⟩
      have m0 := Int.fmod_nonneg_of_pos (a := seed * 48271 + 11) (b := 2147483647) (by decide)
      have m1 := Int.fmod_lt_of_pos (a := seed * 48271 + 11) (b := 2147483647) (by decide)
      have z := q ⟨(seed * 48271 + 11).fmod 2147483647, cur, rest⟩ ((((seed * 48271 + 11).fmod 2147483647).fdiv 64).fmod n) ⟨m0, m1, c0, r0, hl⟩ (Int.fmod_nonneg_of_pos _ n0) (Int.fmod_lt_of_pos _ n0)
      rw [← hu] at z
      refine ⟨_, rfl, _, _, _, _, rfl, rfl, .inl (.inl upd_same), at0, _, _, rfl, rfl, dX (by decide) (by decide), _, rfl, _, _, rfl, rfl, (show n ≠ 0 by omega), ?_⟩
      exact z
  refine ⟨_, rfl, _, _, _, _, rfl, rfl, .inl (.inl hd), at1, rfl, _, rfl, ?_⟩
  refine ite2 (fun c => ?_) (fun c => ?_)
  · refine ⟨_, rfl, _, _, rfl, .inl (.inl (.inl hd)), _, _, rfl, rfl, _, rfl, ?_⟩
    refine ite2 (fun c2 => ?_) (fun c2 => ?_)
    · cases rest with
      | nil =>
        exfalso
        have := of_decide_eq_true c2
        simp [encD] at this
      | cons r rs =>
        refine ⟨_, rfl, .inl ⟨rfl, _, .inl (.inl hd)⟩, _, _, _, 2, _, rfl, rfl, hd, by decide, by decide, ?_, rfl, ?_⟩
        · show seqIndex? 2 (encD ⟨seed, cur, r :: rs⟩).length = some 2
          refine (ixN_seq (n := (encD ⟨seed, cur, r :: rs⟩).length) (i := 2) (j := 2) ?_).1
          unfold ixN
          rw [if_pos (by decide), if_pos (by simp [encD]; omega)]
          rfl
        refine ⟨_, rfl, _, _, _, _, rfl, rfl, upd_same, ix1, ?_⟩
        refine tail r rs _ (r0 r (List.mem_cons_self ..)) (fun x hx => r0 x (List.mem_cons_of_mem _ hx)) (by simp only [List.length_cons] at hl; omega) (fun o => ?_) ?_
        · rw [upd_upd, upd_upd]
        · rw [upd_same]
          rfl
    · exact tail cur rest H c0 r0 hl (fun o => rfl) hd
  · exact tail cur rest H c0 r0 hl (fun o => rfl) hd
end
end My

namespace My
open PySem L2 Mth
abbrev s_law_common : Stmt := topS 44
theorem sc_law_common : FnScope ["_law_one", "_law_other"] ["_law_one", "_law_other"] (defScope s_law_common) := ⟨rfl, rfl, rfl, by decide +kernel, rfl, by decide +kernel, by decide +kernel⟩
abbrev s_law_lowest : Stmt := topS 45
theorem sc_law_lowest : FnScope ["_law_x", "_law_y", "_law_q", "_law_common_now"] ["_law_x", "_law_y", "_law_q"] (defScope s_law_lowest) := ⟨rfl, rfl, rfl, by decide +kernel, rfl, by decide +kernel, by decide +kernel⟩
abbrev s_law_spot : Stmt := topS 46
theorem sc_law_spot : FnScope ["_law_d", "_law_below_here"] ["_law_d"] (defScope s_law_spot) := ⟨rfl, rfl, rfl, by decide +kernel, rfl, by decide +kernel, by decide +kernel⟩
abbrev s_law_turn : Stmt := topS 43
theorem sc_law_turn : FnScope ["_law_d", "_law_some"] ["_law_d"] (defScope s_law_turn) := ⟨rfl, rfl, rfl, by decide +kernel, rfl, by decide +kernel, by decide +kernel⟩
section
variable {P : Program} {w : World} {K : PySem.W.Frag} {mg : Str → Option Value} {base : Heap}
theorem ok_law_common {f : Addr} {fd : FuncData} (b_abs : mg "abs" = none) (F : Fun K "_law_common" "_law_common" s_law_common f fd) : FnOk P w K mg base CX0 1 f fd ["_law_one", "_law_other"] sp_gcd := by
  refine F.ok sc_law_common (fun vs H Q E h => ?_) (fun cdv A outer s H vs Q E hr h => ?_)
  · obtain ⟨a, b, rfl, _⟩ := h
    rfl
  obtain ⟨a, b, rfl, q⟩ := h
  refine ⟨_, (pss_cons (ps_par (i := 0) (j := 1) (by rfl) sc_law_common.nd rfl rfl (by decide) rfl rfl (pa_cons (pe_callB call_abs (by rfl) b_abs (by decide +kernel) (pa_cons (pv 0) pa_nil)) (pa_cons (pe_callB call_abs (by rfl) b_abs (by decide +kernel) (pa_cons (pv 1) pa_nil)) pa_nil)) (by rfl))
    (pss_cons (ps_while PassesOwn.never (pt_cmpR (op_gt) (pv 1) pe_int (nomark _)) (pss_one (ps_par (i := 0) (j := 1) (by rfl) sc_law_common.nd rfl rfl (by decide) rfl rfl (pa_cons (pv 1) (pa_cons (pe_op op_modN (pv 0) (pv 1)) pa_nil)) (by rfl))))
    (pss_one (ps_ret (pv 0))))), ?_⟩
  refine ⟨_, rfl, _, rfl, _, rfl, _, rfl, _, _, rfl, ?_⟩
  refine while_by (fun σ H' => H' = H ∧ ∃ x y : Int, σ = [some (.int x), some (.int y)] ∧ 0 ≤ x ∧ 0 ≤ y ∧ Int.gcd x y = Int.gcd a b) (fun σ _ => match σ with | [_, some (.int y)] => y.natAbs | _ => 0) ⟨rfl, _, _, rfl, ?_, ?_, ?_⟩ ?_ ?_
  · split <;> omega
  · split <;> omega
  · have e : ∀ z : Int, (if z < 0 then -z else z) = ((z.natAbs : Nat) : Int) := fun z => by split <;> omega
    rw [e, e]
    unfold Int.gcd
    rw [Int.natAbs_natCast, Int.natAbs_natCast]
  · rintro σ H' ⟨rfl, x, y, rfl, x0, y0, e⟩
    refine ⟨_, rfl, _, _, rfl, rfl, _, rfl, ?_⟩
    refine ite2 (fun c => ?_) (fun c => ?_)
    · have c' : 0 < y := of_decide_eq_true c
      refine ⟨_, rfl, _, rfl, _, rfl, _, _, rfl, rfl, (show y ≠ 0 by omega), _, _, rfl, ⟨rfl, _, _, rfl, y0, Int.fmod_nonneg_of_pos _ c', ?_⟩, ?_⟩
      · rw [gcd_fmod]; exact e
      · exact fmod_small (by omega)
    · have c' : ¬ 0 < y := of_decide_eq_false (Bool.eq_false_iff.mpr c)
      have y1 : y = 0 := by omega
      subst y1
      refine ⟨_, rfl, ?_⟩
      rw [← e, Int.gcd_zero_right] at q
      have ex : ((x.natAbs : Nat) : Int) = x := by omega
      rw [ex] at q
      exact q
  · rintro σ H' Q1 Q2 hq ⟨v, h1, i, j, h2, h3, k, h4, h5⟩
    exact ⟨v, h1, i, j, h2, h3, k, h4, hq _ _ h5⟩
theorem ok_law_lowest {f : Addr} {fd : FuncData} (d_law_common : D P w K mg base "_law_common" 1 sp_gcd) (F : Fun K "_law_lowest" "_law_lowest" s_law_lowest f fd) : FnOk P w K mg base CX0 2 f fd ["_law_x", "_law_y", "_law_q"] (sp_low K) := by
  refine F.ok sc_law_lowest (fun vs H Q E h => ?_) (fun cdv A outer s H vs Q E hr h => ?_)
  · obtain ⟨x, y, d, rfl, _⟩ := h
    rfl
  obtain ⟨x, y, d, rfl, hd, hB, q⟩ := h
  refine ⟨_, (pss_cons (ps_set (i := 3) sc_law_lowest.nd rfl (by first | exact Or.inl rfl | exact Or.inr rfl) (pc d_law_common (hr.mono (by decide)) (pa_cons (pc d_law_common (hr.mono (by decide)) (pa_cons (pv 0) (pa_cons (pv 1) pa_nil))) (pa_cons (pv 2) pa_nil))))
    (pss_cons (ps_set (i := 3) sc_law_lowest.nd rfl (by first | exact Or.inl rfl | exact Or.inr rfl) (pe_ifExp (pt_cmpR (op_gt) (pv 2) pe_int (nomark _)) (pv 3) (pe_op op_sub pe_int (pv 3))))
    (pss_one (ps_ret (pe_tup (pa_cons (pe_op op_fdivX (pv 0) (pv 3)) (pa_cons (pe_op op_fdivX (pv 1) (pv 3)) (pa_cons (pe_op op_fdivX (pv 2) (pv 3)) pa_nil)))))))), ?_⟩
  refine ⟨_, rfl, _, rfl, _, _, rfl, _, rfl, _, _, rfl, ?_⟩
  refine ⟨_, rfl, _, _, rfl, rfl, _, rfl, ?_⟩
  have hc : CDivX x (sg x y d) ∧ CDivX y (sg x y d) ∧ CDivX d (sg x y d) := ⟨divX (sg_ne hd) (g3_lt hd hB) (by decide) (by decide), divX (sg_ne hd) (g3_lt hd hB) (by decide) (by decide), divX (sg_ne hd) (g3_lt hd hB) (by decide) (by decide)⟩
  refine ite2 (fun c => ?_) (fun c => ?_)
  · have es : sg x y d = g3 x y d := if_neg (by have := of_decide_eq_true c; omega)
    rw [es] at hc
    refine ⟨_, rfl, ?_⟩
    refine ⟨_, rfl, _, rfl, _, _, rfl, rfl, hc.1, _, rfl, _, rfl, _, _, rfl, rfl, hc.2.1, _, rfl, _, rfl, _, _, rfl, rfl, hc.2.2, (by show 3 ≤ sizeLine; decide), fun p hp => ?_⟩
    refine q _ _ (same_new hp _) ?_
    unfold low
    rw [es]
    exact IsT.new
  · have es : sg x y d = 0 - g3 x y d := by
      rw [Int.zero_sub]
      exact if_pos (by have := of_decide_eq_false (Bool.eq_false_iff.mpr c); omega)
    rw [es] at hc
    refine ⟨_, rfl, _, _, rfl, rfl, ?_⟩
    refine ⟨_, rfl, _, rfl, _, _, rfl, rfl, hc.1, _, rfl, _, rfl, _, _, rfl, rfl, hc.2.1, _, rfl, _, rfl, _, _, rfl, rfl, hc.2.2, (by show 3 ≤ sizeLine; decide), fun p hp => ?_⟩
    refine q _ _ (same_new hp _) ?_
    unfold low
    rw [es]
    exact IsT.new
/-! ### draws -/
structure TurnIn (t : T3) : Prop where
  ok : Ok t
  nz : Nz t
  bd : B 3 t
  mem : t ∈ turns13
structure SpotIn (t : T3) : Prop where
  ok : Ok t
  bd : B 3 t
def sp_draw (g : Hp → V → Prop) : Sp := fun vs H Q _ => ∃ (d : Addr) (st : Src), vs = [.ref d] ∧ H d = some (.lst (encD st)) ∧ SrcOk st ∧
  ∀ H' st' r, Keep d H H' → H' d = some (.lst (encD st')) → SrcOk st' → g H' r → Q r H'
instance (t : T3) : Decidable (Ok t) := inferInstanceAs (Decidable (_ ∧ _))
instance (t : T3) : Decidable (Nz t) := inferInstanceAs (Decidable (_ ∨ _))
theorem turns_in : ∀ t ∈ turns13, TurnIn t := by
  have h : ∀ t ∈ turns13, Ok t ∧ Nz t ∧ B 3 t := by decide +kernel
  exact fun t ht => ⟨(h t ht).1, (h t ht).2.1, (h t ht).2.2, ht⟩
theorem paired_at {ps : List Addr} {ts : List T3} {R : Addr → T3 → Prop} (h : Paired R ps ts) : ∀ {i : Nat}, i < ts.length → ∃ p t, ps[i]? = some p ∧ t ∈ ts ∧ R p t := by
  induction h with
  | nil => intro i hi; cases hi
  | cons r _ ih =>
    intro i hi
    cases i with
    | zero => exact ⟨_, _, rfl, List.mem_cons_self .., r⟩
    | succ i =>
      obtain ⟨p, t, h1, h2, h3⟩ := ih (i := i) (by simpa using hi)
      exact ⟨p, t, by simpa using h1, List.mem_cons_of_mem _ h2, h3⟩
theorem paired_app {R : Addr → T3 → Prop} : ∀ {ps qs : List Addr} {ts us : List T3}, Paired R ps ts → Paired R qs us → Paired R (ps ++ qs) (ts ++ us)
  | _, _, _, _, .nil, k => k
  | _, _, _, _, .cons r t, k => .cons r (paired_app t k)
theorem paired_imp {R S : Addr → T3 → Prop} (h : ∀ p t, R p t → S p t) : ∀ {ps : List Addr} {ts : List T3}, Paired R ps ts → Paired S ps ts
  | _, _, .nil => .nil
  | _, _, .cons r t => .cons (h _ _ r) (paired_imp h t)
theorem at_map {ps : List Addr} {i : Nat} {p : Addr} {z : Int} (h : ps[i]? = some p) (hz : z = (i : Int)) : atI (ps.map V.ref) z = some (.ref p) := by
  rw [hz]
  exact atI_nat (by rw [List.getElem?_map, h]; rfl)
theorem ok_law_turn {f : Addr} {fd : FuncData} (d_law_below : D P w K mg base "_law_below" 1 sp_below) (F : Fun K "_law_turn" "_law_turn" s_law_turn f fd) : FnOk P w K mg base CX0 2 f fd ["_law_d"] (sp_draw fun H r => ∃ t, IsT K H r t ∧ TurnIn t) := by
  refine F.ok sc_law_turn (fun vs H Q E h => ?_) (fun cdv A outer s H vs Q E hr h => ?_)
  · obtain ⟨d, st, rfl, _⟩ := h
    rfl
  obtain ⟨d, st, rfl, hd, ok, q⟩ := h
  refine ⟨_, (pss_cons (ps_set (i := 1) sc_law_turn.nd rfl (by first | exact Or.inl rfl | exact Or.inr rfl) (pe_lst (paT (t := (1, 0, 1)) (pe_tup (pa_cons pe_int (pa_cons pe_int (pa_cons pe_int pa_nil)))) (fun σ H Q h => ⟨(by show 3 ≤ sizeLine; decide), fun p hp => h _ _ (same_new hp _) (.inl (.inl upd_same))⟩) (paT (t := (-1, 0, 1)) (pe_tup (pa_cons (pe_op op_sub pe_int pe_int) (pa_cons pe_int (pa_cons pe_int pa_nil)))) (fun σ H Q h => ⟨_, _, rfl, rfl, (by show 3 ≤ sizeLine; decide), fun p hp => h _ _ (same_new hp _) (.inl (.inl upd_same))⟩) (paT (t := (0, 1, 1)) (pe_tup (pa_cons pe_int (pa_cons pe_int (pa_cons pe_int pa_nil)))) (fun σ H Q h => ⟨(by show 3 ≤ sizeLine; decide), fun p hp => h _ _ (same_new hp _) (.inl (.inl upd_same))⟩) (paT (t := (0, -1, 1)) (pe_tup (pa_cons pe_int (pa_cons (pe_op op_sub pe_int pe_int) (pa_cons pe_int pa_nil)))) (fun σ H Q h => ⟨_, _, rfl, rfl, (by show 3 ≤ sizeLine; decide), fun p hp => h _ _ (same_new hp _) (.inl (.inl upd_same))⟩) (paT (t := (2, 0, 1)) (pe_tup (pa_cons pe_int (pa_cons pe_int (pa_cons pe_int pa_nil)))) (fun σ H Q h => ⟨(by show 3 ≤ sizeLine; decide), fun p hp => h _ _ (same_new hp _) (.inl (.inl upd_same))⟩) (paT (t := (1, 0, 2)) (pe_tup (pa_cons pe_int (pa_cons pe_int (pa_cons pe_int pa_nil)))) (fun σ H Q h => ⟨(by show 3 ≤ sizeLine; decide), fun p hp => h _ _ (same_new hp _) (.inl (.inl upd_same))⟩) (paT (t := (1, 1, 1)) (pe_tup (pa_cons pe_int (pa_cons pe_int (pa_cons pe_int pa_nil)))) (fun σ H Q h => ⟨(by show 3 ≤ sizeLine; decide), fun p hp => h _ _ (same_new hp _) (.inl (.inl upd_same))⟩) (paT (t := (3, 4, 5)) (pe_tup (pa_cons pe_int (pa_cons pe_int (pa_cons pe_int pa_nil)))) (fun σ H Q h => ⟨(by show 3 ≤ sizeLine; decide), fun p hp => h _ _ (same_new hp _) (.inl (.inl upd_same))⟩) paT0))))))))))
    (pss_cons (ps_set (i := 1) sc_law_turn.nd rfl (by first | exact Or.inl rfl | exact Or.inr rfl) (pe_op op_cat (pv 1) (pe_lst (paT (t := (0, 2, 1)) (pe_tup (pa_cons pe_int (pa_cons pe_int (pa_cons pe_int pa_nil)))) (fun σ H Q h => ⟨(by show 3 ≤ sizeLine; decide), fun p hp => h _ _ (same_new hp _) (.inl (.inl upd_same))⟩) (paT (t := (-1, 0, 3)) (pe_tup (pa_cons (pe_op op_sub pe_int pe_int) (pa_cons pe_int (pa_cons pe_int pa_nil)))) (fun σ H Q h => ⟨_, _, rfl, rfl, (by show 3 ≤ sizeLine; decide), fun p hp => h _ _ (same_new hp _) (.inl (.inl upd_same))⟩) (paT (t := (1, -1, 2)) (pe_tup (pa_cons pe_int (pa_cons (pe_op op_sub pe_int pe_int) (pa_cons pe_int pa_nil)))) (fun σ H Q h => ⟨_, _, rfl, rfl, (by show 3 ≤ sizeLine; decide), fun p hp => h _ _ (same_new hp _) (.inl (.inl upd_same))⟩) (paT (t := (2, 1, 1)) (pe_tup (pa_cons pe_int (pa_cons pe_int (pa_cons pe_int pa_nil)))) (fun σ H Q h => ⟨(by show 3 ≤ sizeLine; decide), fun p hp => h _ _ (same_new hp _) (.inl (.inl upd_same))⟩) (paT (t := (-4, 3, 5)) (pe_tup (pa_cons (pe_op op_sub pe_int pe_int) (pa_cons pe_int (pa_cons pe_int pa_nil)))) (fun σ H Q h => ⟨_, _, rfl, rfl, (by show 3 ≤ sizeLine; decide), fun p hp => h _ _ (same_new hp _) (.inl (.inl upd_same))⟩) paT0))))))))
    (pss_one (ps_ret (pe_ix ix_list (pv 1) (pc d_law_below (hr.mono (by decide)) (pa_cons (pv 0) (pa_cons pe_int pa_nil))) (fun _ _ => rfl)))))), ?_⟩
  intro H1 ps s1 h1
  have l1 : (ps.map V.ref).length = 8 := by rw [List.length_map, Paired.length h1]; rfl
  refine ⟨by rw [l1]; decide, fun a ha => ?_⟩
  refine ⟨_, rfl, ?_⟩
  intro H2 qs s2 h2
  have l2 : (qs.map V.ref).length = 5 := by rw [List.length_map, Paired.length h2]; rfl
  refine ⟨by rw [l2]; decide, fun b hb => ?_⟩
  have sa := same_new ha (.lst (ps.map V.ref))
  have sb := same_new hb (.lst (qs.map V.ref))
  refine ⟨a, b, _, _, rfl, rfl, sb _ _ (s2 _ _ upd_same), upd_same, by rw [l1, l2]; decide, fun c hc => ?_⟩
  have sc := same_new hc (.lst (ps.map V.ref ++ qs.map V.ref))
  have sAll := s1.trans (sa.trans (s2.trans (sb.trans sc)))
  refine ⟨_, rfl, _, rfl, d, _, st, rfl, by decide, by decide, sAll _ _ hd, ok, fun st' r ok' r0 r1 => ?_⟩
  have hcd : c ≠ d := fun z => by
    have := sb _ _ (s2 _ _ (sa _ _ (s1 _ _ hd)))
    rw [← z, hc] at this
    cases this
  have pr : Paired (fun p t => SqT K (upd (upd (upd H2 b (.lst (qs.map V.ref))) c (.lst (ps.map V.ref ++ qs.map V.ref))) d (.lst (encD st'))) p (v3 t)) (ps ++ qs) turns13 :=
    paired_app (paired_imp (fun p t z => keep_T (same_T (sa.trans (s2.trans (sb.trans sc))) z) (sAll _ _ hd) keep_upd) h1) (paired_imp (fun p t z => keep_T (same_T (sb.trans sc) z) (sAll _ _ hd) keep_upd) h2)
  obtain ⟨p, t, e1, e2, e3⟩ := paired_at pr (i := r.toNat) (by show r.toNat < 13; omega)
  refine ⟨c, _, _, _, rfl, rfl, .inl (.inl ?_), at_map (ps := ps ++ qs) e1 (by omega), ?_⟩
  · rw [upd_ne hcd, upd_same, List.map_append]
  · exact q _ st' _ ((Keep.of sAll).trans keep_upd) upd_same ok' ⟨t, ⟨p, rfl, e3⟩, turns_in t e2⟩
theorem ok_law_spot {f : Addr} {fd : FuncData} (d_law_below : D P w K mg base "_law_below" 1 sp_below) (d_law_lowest : D P w K mg base "_law_lowest" 2 (sp_low K)) (F : Fun K "_law_spot" "_law_spot" s_law_spot f fd) : FnOk P w K mg base CX0 3 f fd ["_law_d"] (sp_draw fun H r => ∃ t, IsT K H r t ∧ SpotIn t) := by
  refine F.ok sc_law_spot (fun vs H Q E h => ?_) (fun cdv A outer s H vs Q E hr h => ?_)
  · obtain ⟨d, st, rfl, _⟩ := h
    rfl
  obtain ⟨d, st, rfl, hd, ok, q⟩ := h
  refine ⟨_, (pss_cons (ps_set (i := 1) sc_law_spot.nd rfl (by first | exact Or.inl rfl | exact Or.inr rfl) (pe_ix ix_list (pe_lst (pa_cons pe_int (pa_cons pe_int (pa_cons pe_int (pa_cons pe_int (pa_cons pe_int (pa_cons pe_int pa_nil))))))) (pc d_law_below (hr.mono (by decide)) (pa_cons (pv 0) (pa_cons pe_int pa_nil))) (fun _ _ => rfl)))
    (pss_one (ps_ret (pc d_law_lowest (hr.mono (by decide)) (pa_cons (pe_op op_sub (pc d_law_below (hr.mono (by decide)) (pa_cons (pv 0) (pa_cons pe_int pa_nil))) pe_int) (pa_cons (pe_op op_sub (pc d_law_below (hr.mono (by decide)) (pa_cons (pv 0) (pa_cons pe_int pa_nil))) pe_int) (pa_cons (pv 1) pa_nil))))))), ?_⟩
  refine ⟨(by show 6 ≤ sizeLine; decide), fun a ha => ?_⟩
  have sa := same_new ha (.lst [.int 1, .int 1, .int 1, .int 2, .int 3, .int 4])
  refine ⟨_, rfl, d, _, st, rfl, by decide, by decide, sa _ _ hd, ok, fun st1 r ok1 r0 r1 => ?_⟩
  have had : a ≠ d := fun z => by rw [← z, ha] at hd; cases hd
  obtain ⟨c, hc, c1, c4⟩ : ∃ c : Int, atI [V.int 1, .int 1, .int 1, .int 2, .int 3, .int 4] r = some (.int c) ∧ 1 ≤ c ∧ c ≤ 4 := by
    have : r = 0 ∨ r = 1 ∨ r = 2 ∨ r = 3 ∨ r = 4 ∨ r = 5 := by omega
    rcases this with rfl | rfl | rfl | rfl | rfl | rfl
    · exact ⟨1, by rfl, by decide, by decide⟩
    · exact ⟨1, by rfl, by decide, by decide⟩
    · exact ⟨1, by rfl, by decide, by decide⟩
    · exact ⟨2, by rfl, by decide, by decide⟩
    · exact ⟨3, by rfl, by decide, by decide⟩
    · exact ⟨4, by rfl, by decide, by decide⟩
  refine ⟨a, _, _, _, rfl, rfl, .inl (.inl (by rw [upd_ne had]; exact upd_same)), hc, ?_⟩
  refine ⟨_, rfl, d, _, st1, rfl, by decide, by decide, upd_same, ok1, fun st2 x ok2 x0 x1 => ?_⟩
  refine ⟨_, _, rfl, rfl, _, rfl, d, _, st2, rfl, by decide, by decide, upd_same, ok2, fun st3 y ok3 y0 y1 => ?_⟩
  refine ⟨_, _, rfl, rfl, _, rfl, _, _, _, rfl, (by omega), (show c.natAbs < 2 ^ 8500 from Nat.lt_of_lt_of_le (show c.natAbs < 2 ^ 3 by omega) (pw (by decide))), fun H' r' s' i => ?_⟩
  refine q _ st3 _ ((Keep.of sa).trans (keep_upd.trans (keep_upd.trans (keep_upd.trans (Keep.of s'))))) (s' _ _ upd_same) ok3 ⟨_, i, low_ok (by omega), low_B (by omega) ?_ ?_ ?_⟩ <;> show _ < 8 <;> omega
end
end My

namespace My
open PySem L2 Mth

section
variable {P : Program} {w : World} {K : PySem.W.Frag} {mg : Str → Option Value} {base : Heap}
/-- a copy as it is told: (turn, shift, mirrored) -/
def IsD (K : PySem.W.Frag) (H : Hp) (v : V) (c : Cp) : Prop := ∃ p a b, v = .ref p ∧ SqT K H p [.ref a, .ref b, .bl c.m] ∧ SqT K H a (v3 c.t) ∧ SqT K H b (v3 c.s)
theorem IsD.same {H H' : Hp} {v : V} {c : Cp} (h : IsD K H v c) (e : Same H H') : IsD K H' v c := by
  obtain ⟨p, a, b, rfl, h1, h2, h3⟩ := h
  exact ⟨p, a, b, rfl, same_T e h1, same_T e h2, same_T e h3⟩
theorem IsD.keep {H H' : Hp} {v : V} {c : Cp} {d : Addr} {ys : List V} (h : IsD K H v c) (hd : H d = some (.lst ys)) (e : Keep d H H') : IsD K H' v c := by
  obtain ⟨p, a, b, rfl, h1, h2, h3⟩ := h
  exact ⟨p, a, b, rfl, keep_T h1 hd e, keep_T h2 hd e, keep_T h3 hd e⟩
structure CopyIn (c : Cp) : Prop where
  ok : CpOk c
  bd : BC 3 c
  mem : c.t ∈ turns13
def sp_lcar (K : PySem.W.Frag) : Sp := fun vs H Q _ => ∃ vc c vz z, vs = [vc, vz] ∧ IsD K H vc c ∧ CpOk c ∧ BC 1900 c ∧ IsT K H vz z ∧ Ok z ∧ B 1900 z ∧ ∀ H' r, Same H H' → IsT K H' r (ap c z) → Q r H'
/-! ### equal at every level -/
theorem DpAll.get {H : Hp} : ∀ {xs : List V} {ds : List PyData}, DpAll K H xs ds → xs.length = ds.length ∧ ∀ (i : Nat) x, xs[i]? = some x → ∃ d, ds[i]? = some d ∧ Dp K H x d
  | _, _, .nil => ⟨rfl, fun i x h => by simp at h⟩
  | _, _, .cons h t => by
    obtain ⟨e, g⟩ := DpAll.get t
    refine ⟨by rw [List.length_cons, List.length_cons, e], fun i x hx => ?_⟩
    cases i with
    | zero => exact ⟨_, rfl, by simp at hx; rw [← hx]; exact h⟩
    | succ i => exact g i x (by simpa using hx)
mutual
theorem Dp.same {H H' : Hp} (s : Same H H') : ∀ {v : V} {d : PyData}, Dp K H v d → Dp K H' v d
  | _, _, .non => .non
  | _, _, .bl b => .bl b
  | _, _, .int i => .int i
  | _, _, .str x => .str x
  | _, _, .lst h t => .lst (s.seq h) (DpAll.same s t)
  | _, _, .tup h t => .tup (same_T s h) (DpAll.same s t)
theorem DpAll.same {H H' : Hp} (s : Same H H') : ∀ {vs : List V} {ds : List PyData}, DpAll K H vs ds → DpAll K H' vs ds
  | _, _, .nil => .nil
  | _, _, .cons h t => .cons (Dp.same s h) (DpAll.same s t)
end
/-- how deep -/
def Deep : Nat → PyData → Prop
  | 0, _ => False
  | n + 1, .list ds => ds.length ≤ 1000 ∧ ∀ d ∈ ds, Deep n d
  | n + 1, .tuple ds => ds.length ≤ 1000 ∧ ∀ d ∈ ds, Deep n d
  | _ + 1, .dict _ => False
  | _ + 1, _ => True
def sp_equal (K : PySem.W.Frag) (n : Nat) : Sp := fun vs H Q _ => ∃ va vb d, vs = [va, vb] ∧ Dp K H va d ∧ Dp K H vb d ∧ Deep n d ∧ ∀ H', Same H H' → Q (.bl true) H'
theorem ty_L {H : Hp} {a : Addr} {xs : List V} (h : SqL K H a xs) : TyX K H (.ref a) (.type "list") := by
  rcases h with (h | ⟨o, h⟩) | ⟨o, its, n, h, c, _⟩
  · exact .base (.lst h)
  · exact .base (.frz h)
  · exact .kList h c
end
end My

namespace My
open PySem L2 Mth
section
variable {K : PySem.W.Frag}
theorem IsC.keep {C : Addr} {H H' : Hp} {v : V} {c : Cp} {d : Addr} {ys : List V} (h : IsC K C H v c) (hd : H d = some (.lst ys)) (e : Keep d H H') : IsC K C H' v c := by
  obtain ⟨p, dx, a, b, rfl, h1, h2, h3⟩ := h
  exact ⟨p, dx, a, b, rfl, e _ _ (ne_of h1 hd (by intro z; cases z)) h1, keep_T h2 hd e, keep_T h3 hd e⟩
def sp_copyOf (K : PySem.W.Frag) (C : Addr) : Sp := fun vs H Q _ => ∃ vc c, vs = [vc] ∧ IsD K H vc c ∧ CpOk c ∧ ∀ H' r, Same H H' → IsC K C H' r c → Q r H'
end
end My

namespace My
open PySem L2 Mth
section
variable {K : PySem.W.Frag}
theorem asg_of {te : TE} {g : TG} {u : TS} {D : Ends} {σ : L2.St} {H : Hp} (h : te σ H fun x H1 => g x σ H1 (u D)) : tSeq (tAsg te g) u D σ H := h
theorem gn_of {i : Nat} {v : V} {σ : L2.St} {H : Hp} {Q : L2.St → Hp → Prop} (h : Q (σ.set i (some v)) H) : gName i v σ H Q := h
theorem nil_of {σ : L2.St} {H : Hp} {Q : List V → Hp → Prop} (h : Q [] H) : tNil σ H Q := h
theorem te_join {t : TE} {σ : L2.St} {H : Hp} {Q : VK} (W : V → Hp → Prop) (k : ∀ v H', W v H' → Q v H') (h : ∀ Q' : VK, (∀ v H', W v H' → Q' v H') → t σ H Q') : t σ H Q := h Q k
theorem seq_assoc {A B C : TS} {D : Ends} {σ : L2.St} {H : Hp} (h : tSeq (tSeq A B) C D σ H) : tSeq A (tSeq B C) D σ H := h
end
end My

namespace My
open PySem L2 Mth
section
variable {K : PySem.W.Frag}
theorem t3_of {H : Hp} {Q : VK} {t : T3} (q : ∀ H' r, Same H H' → IsT K H' r t → Q r H') : ∀ p, H p = none → Q (.ref p) (upd H p (.tup (v3 t))) := fun p hp => q _ _ (same_new hp _) ⟨p, rfl, .inl (.inl upd_same)⟩
theorem eqv2 (a b : Int) : PyData.eqv (.tuple [.int a, .int b]) (.tuple [.int a, .int b]) = true := by
  show ((a == a) && ((b == b) && true)) = true
  simp
theorem Dp2 {H : Hp} {p : Addr} {a b : Int} (h : SqT K H p [.int a, .int b]) : Dp K H (.ref p) (.tuple [.int a, .int b]) := .tup h (.cons (.int _) (.cons (.int _) .nil))
theorem IsT.dp {H : Hp} {v : V} {t : T3} (h : IsT K H v t) : Dp K H v (d3 t) := by
  obtain ⟨p, rfl, q⟩ := h
  exact Dp3 q
theorem deep3 (n : Nat) (t : T3) : Deep (n + 2) (d3 t) := by
  refine ⟨(by show 3 ≤ 1000; decide), fun d hd => ?_⟩
  simp only [List.mem_cons, List.mem_nil_iff, or_false] at hd
  rcases hd with rfl | rfl | rfl <;> trivial
theorem deep2 (n : Nat) (a b : Int) : Deep (n + 2) (.tuple [.int a, .int b]) := by
  refine ⟨(by show 2 ≤ 1000; decide), fun d hd => ?_⟩
  simp only [List.mem_cons, List.mem_nil_iff, or_false] at hd
  rcases hd with rfl | rfl <;> trivial
/-- equal at every level, of two spots -/
theorem eq3_of {H : Hp} {Q : VK} {va vb : V} {a b : T3} {n : Nat} (ia : IsT K H va a) (ib : IsT K H vb b) (e : a = b) (q : ∀ H', Same H H' → Q (.bl true) H') : sp_equal K (n + 2) [va, vb] H Q E0 := by
  subst e
  exact ⟨va, vb, d3 a, rfl, ia.dp, ib.dp, deep3 n a, q⟩
end
end My

namespace My
open PySem L2 Mth
open PyProof.Rows PySem.Spec
section
variable {P : Program} {w : World} {K : PySem.W.Frag} {mg : Str → Option Value} {base : Heap}
/-! ### the class's operations as its users see them -/
structure MRs (P : Program) (w : World) (K : PySem.W.Frag) (mg : Str → Option Value) (base : Heap) (C : Addr) : Prop where
  sf : PySem.W.selfFirst K C = true
  ex : ∃ f, FnR P w K mg base CX0 6 f (sp_jn K C) ∧ PySem.W.findIn K (.ref C) "__rshift__" = some (some (.ref f)) ∧ PySem.W.isFn K (.ref f) = true
structure MIv (P : Program) (w : World) (K : PySem.W.Frag) (mg : Str → Option Value) (base : Heap) (C : Addr) : Prop where
  ex : ∃ f, FnR P w K mg base CX0 6 f (sp_bk K C) ∧ PySem.W.findIn K (.ref C) "__invert__" = some (some (.ref f)) ∧ PySem.W.isFn K (.ref f) = true
structure MEq (P : Program) (w : World) (K : PySem.W.Frag) (mg : Str → Option Value) (base : Heap) (C : Addr) : Prop where
  ex : ∃ f, FnR P w K mg base CX0 1 f (sp_ceq K C) ∧ PySem.W.findIn K (.ref C) "__eq__" = some (some (.ref f)) ∧ PySem.W.isFn K (.ref f) = true
structure MCa (P : Program) (w : World) (K : PySem.W.Frag) (mg : Str → Option Value) (base : Heap) (C : Addr) : Prop where
  ex : ∃ f, FnR P w K mg base CX0 5 f (sp_ap K C) ∧ StX.CallO K C f
structure MPt (P : Program) (w : World) (K : PySem.W.Frag) (mg : Str → Option Value) (base : Heap) (C : Addr) : Prop where
  cl : Cls K C
  ex : ∃ f fd p, FnOk P w K mg base CX0 1 f fd ["self"] (sp_get K C fun c H r => IsT K H r c.t) ∧ Binds K fd ["self"] [] ∧ PropOf K C "turn" p f
structure MPs (P : Program) (w : World) (K : PySem.W.Frag) (mg : Str → Option Value) (base : Heap) (C : Addr) : Prop where
  cl : Cls K C
  ex : ∃ f fd p, FnOk P w K mg base CX0 1 f fd ["self"] (sp_get K C fun c H r => IsT K H r c.s) ∧ Binds K fd ["self"] [] ∧ PropOf K C "shift" p f
structure MPm (P : Program) (w : World) (K : PySem.W.Frag) (mg : Str → Option Value) (base : Heap) (C : Addr) : Prop where
  cl : Cls K C
  ex : ∃ f fd p, FnOk P w K mg base CX0 1 f fd ["self"] (sp_get K C fun c H r => r = .bl c.m) ∧ Binds K fd ["self"] [] ∧ PropOf K C "mirrored" p f
structure MPg (P : Program) (w : World) (K : PySem.W.Frag) (mg : Str → Option Value) (base : Heap) (C : Addr) : Prop where
  cl : Cls K C
  ex : ∃ f fd p, FnOk P w K mg base CX0 3 f fd ["self"] (sp_growth K C) ∧ Binds K fd ["self"] [] ∧ PropOf K C "growth" p f
section
variable {X : Cx} {C : Addr} {fe e : Expr} {es : List Expr} {te tf : TE} {t : TA} {pos : Pos}
theorem op_rsh (M : MRs X.prog X.w X.K X.mg X.base C) (hr : Room 6 X.A) : OpR X (binaryOp .RShift) (rOwn2 C (sp_jn X.K C)) := by
  obtain ⟨f, F, h1, h2⟩ := M.ex
  exact op_own (op := .RShift) F hr M.sf h1 h2
theorem un_inv' (M : MIv X.prog X.w X.K X.mg X.base C) (hr : Room 6 X.A) : UnR X (unaryOp .Invert) (rOwn1 C (sp_bk X.K C)) := by
  obtain ⟨f, F, h1, h2⟩ := M.ex
  exact un_own F hr h1 h2
theorem op_ceq (M : MEq X.prog X.w X.K X.mg X.base C) (hr : Room 1 X.A) : OpR X (compareOp .Eq) (rOwn2 C (sp_ceq X.K C)) := by
  obtain ⟨f, F, h1, h2⟩ := M.ex
  exact eq_own F hr h1 h2
def tAp (K : PySem.W.Frag) (C : Addr) (tf : TE) (t : TA) : TE := fun σ H Q => tf σ H fun y H1 => ∃ a, y = V.ref a ∧ t σ H1 fun vs H2 => (∃ dx fs, H2 a = some (.ins C dx fs)) ∧ sp_ap K C (V.ref a :: vs) H2 Q E0
theorem pe_ap (M : MCa X.prog X.w X.K X.mg X.base C) (hr : Room 5 X.A) (hf : PE X fe tf) (ha : PA X (e :: es) t)
    (ht : eval (.Call fe (e :: es) [] pos) X.env = (do callWith pos (← eval fe X.env) [] (backTo pos (starEach (e :: es) X.env)) (backToKw pos (keywordEach [] X.env))) := by rfl)
    (he : starEach (e :: es) X.env = (false, eval e X.env) :: starEach es X.env := by rfl) (hpl : (backTo pos (starEach es X.env)).any (·.1) = false := by rfl) : PE X (.Call fe (e :: es) [] pos) (tAp X.K C tf t) := by
  obtain ⟨g, F, c⟩ := M.ex
  refine ⟨fun pins s σ H Q I h => ?_⟩
  refine Call_ (thn (hf.run pins s σ H _ I h) fun u s1 ⟨y, H1, I1, ry, a, ey, q⟩ => ?_) ht
  subst ey
  obtain rfl : u = Value.ref a := ry
  refine StX.callO_with (thn (ha.run pos pins s1 σ H1 _ I1 q) fun us s2 ⟨vs, H2, I2, r, hi, q2⟩ => ?_) he hpl
  have hi' : StX.InsC X H2 a C := .inr hi
  obtain ⟨ox, od, J, hd⟩ := StX.insC_at I2 hi'
  exact ⟨⟨C, ox, od, J, hd⟩, StX.run_callO c F hr pass0 I2 hi' r q2⟩
theorem pe_turn (M : MPt X.prog X.w X.K X.mg X.base C) (hr : Room 2 X.A) (he : PE X e te) (hab : attributeBase e "turn" X.env (eval e X.env) = eval e X.env := by rfl) : PE X (.Attribute e "turn" pos) (tProp C (sp_get X.K C fun c H r => IsT X.K H r c.t) [] E0 te) := by
  obtain ⟨f, fd, p, F, b, hp⟩ := M.ex
  exact pe_prop he M.cl hp F hr b .nil pass0 hab
theorem pe_shift (M : MPs X.prog X.w X.K X.mg X.base C) (hr : Room 2 X.A) (he : PE X e te) (hab : attributeBase e "shift" X.env (eval e X.env) = eval e X.env := by rfl) : PE X (.Attribute e "shift" pos) (tProp C (sp_get X.K C fun c H r => IsT X.K H r c.s) [] E0 te) := by
  obtain ⟨f, fd, p, F, b, hp⟩ := M.ex
  exact pe_prop he M.cl hp F hr b .nil pass0 hab
theorem pe_mirr (M : MPm X.prog X.w X.K X.mg X.base C) (hr : Room 2 X.A) (he : PE X e te) (hab : attributeBase e "mirrored" X.env (eval e X.env) = eval e X.env := by rfl) : PE X (.Attribute e "mirrored" pos) (tProp C (sp_get X.K C fun c _ r => r = .bl c.m) [] E0 te) := by
  obtain ⟨f, fd, p, F, b, hp⟩ := M.ex
  exact pe_prop he M.cl hp F hr b .nil pass0 hab
theorem pe_grow (M : MPg X.prog X.w X.K X.mg X.base C) (hr : Room 4 X.A) (he : PE X e te) (hab : attributeBase e "growth" X.env (eval e X.env) = eval e X.env := by rfl) : PE X (.Attribute e "growth" pos) (tProp C (sp_growth X.K C) [] E0 te) := by
  obtain ⟨f, fd, p, F, b, hp⟩ := M.ex
  exact pe_prop he M.cl hp F hr b .nil pass0 hab
end
/-! ### readings of these, from what is known of the objects -/
theorem prop_of {C : Addr} {H : Hp} {Q : VK} {sp : Sp} {v : V} {c : Cp} (i : IsC K C H v c) (q : sp [v] H Q E0) : ∃ a dx fs, v = .ref a ∧ H a = some (.ins C dx fs) ∧ sp (.ref a :: []) H Q E0 := by
  obtain ⟨p, dx, a, b, rfl, h1, _⟩ := i
  exact ⟨p, dx, _, rfl, h1, q⟩
theorem ap_of {C : Addr} {H2 : Hp} {Q : VK} {vz : V} {a : Addr} {c : Cp} {z : T3} (i : IsC K C H2 (.ref a) c) (ok : CpOk c) (bc : BC 1900 c) (iz : IsT K H2 vz z) (oz : Ok z) (bz : B 1900 z) (q : ∀ H' r, Same H2 H' → IsT K H' r (ap c z) → Q r H') :
    (∃ dx fs, H2 a = some (.ins C dx fs)) ∧ sp_ap K C [.ref a, vz] H2 Q E0 := by
  have i' := i
  obtain ⟨p, dx, _, _, e, h1, _⟩ := i
  cases e
  exact ⟨⟨dx, _, h1⟩, _, c, _, z, rfl, i', ok, bc, iz, oz, bz, q⟩
theorem jn_of {C : Addr} {H : Hp} {Q : VK} {x y : V} {a b : Cp} (ix : IsC K C H x a) (iy : IsC K C H y b) (oa : CpOk a) (ob : CpOk b) (ba : BC 1900 a) (bb : BC 1900 b) (q : ∀ H' r, Same H H' → IsC K C H' r (jn a b) → Q r H') : rOwn2 C (sp_jn K C) x y H Q :=
  own2_of ix iy ⟨_, a, _, b, rfl, ix, iy, oa, ob, ba, bb, q⟩
theorem bk_of {C : Addr} {H : Hp} {Q : VK} {x : V} {a : Cp} (ix : IsC K C H x a) (oa : CpOk a) (ba : BC 1900 a) (q : ∀ H' r, Same H H' → IsC K C H' r (bk a) → Q r H') : rOwn1 C (sp_bk K C) x H Q :=
  own1_of ix ⟨_, a, rfl, ix, oa, ba, q⟩
theorem ceq_of {C : Addr} {H : Hp} {Q : VK} {x y : V} {a b : Cp} (ix : IsC K C H x a) (iy : IsC K C H y b) (e : a = b) (q : Q (.bl true) H) : rOwn2 C (sp_ceq K C) x y H Q :=
  own2_of ix iy ⟨_, a, _, b, rfl, ix, iy, by rw [ceq_iff.mpr e]; exact q⟩
/-- a copy made, whatever is wanted of it -/
theorem mk_of2 {C : Addr} {H : Hp} {Qf : Addr → VK} {vt vs : V} {m : Bool} {t s : T3} (it : IsT K H vt t) (is : IsT K H vs s) (ot : Ok t) (nt : Nz t) (os : Ok s) (q : ∀ H' x, Same H H' → IsC K C H' (.ref x) ⟨t, s, m⟩ → Qf x .non H') :
    ∀ x dx, H x = none → H dx = none → dx ≠ x → sp_init K C [.ref x, vt, vs, .bl m] (upd (upd H dx (.own x)) x (.ins C dx [])) (Qf x) E0 := by
  intro x dx hx hd _
  refine ⟨H, x, dx, vt, vs, m, t, s, rfl, fun c o e => ?_, hx, upd_same, it, is, ot, nt, os, fun H' s' i => q _ _ s' i⟩
  rw [upd_ne (ne_of_none e hx), upd_ne (ne_of_none e hd)]
  exact e
theorem BC.mono {n m : Nat} {c : Cp} (b : BC n c) (h : n ≤ m) : BC m c := ⟨b.1.mono h, b.2.mono h⟩
theorem bk_BC {n : Nat} {c : Cp} (ok : CpOk c) (b : BC n c) : BC (3 * n + 2) (bk c) :=
  ⟨(face_B (inv_B ok.n b.1) _).mono (by omega), (face_B (neg_B (times_B (inv_ok ok.n) ok.s (inv_B ok.n b.1) b.2)) _).mono (by omega)⟩
theorem jn_BC {n m : Nat} {a b : Cp} (oa : CpOk a) (ob : CpOk b) (ba : BC n a) (bb : BC m b) : BC (n + 2 * m + 2) (jn a b) :=
  ⟨(times_B ob.t (face_ok oa.t _) bb.1 (face_B ba.1 _)).mono (by omega), (car_B ob.t ob.s oa.s bb.1 bb.2 ba.2).mono (by omega)⟩
theorem ap_B {n m : Nat} {c : Cp} {z : T3} (ok : CpOk c) (oz : Ok z) (b : BC n c) (bz : B m z) : B (2 * n + m + 2) (ap c z) := (car_B ok.t ok.s oz b.1 b.2 bz).mono (by omega)
theorem still_BC : BC 3 still := by unfold BC; exact ⟨by decide, by decide⟩
theorem gr3_B {t : T3} (o : Ok t) (b : B 3 t) : B 4000 (gr3 t) :=
  B.mono (n := 7) (low_B (mul_ne o.ne o.ne) (add_lt (mul_lt b.1 b.1) (mul_lt b.2.1 b.2.1)) (by decide) (up_lt (by decide) (mul_lt b.2.2 b.2.2))) (by decide)
end
end My

namespace My
open PySem L2 Mth
section
variable {P : Program} {w : World} {K : PySem.W.Frag} {mg : Str → Option Value} {base : Heap}
theorem bind_init {f : Addr} {fd : FuncData} (F : FunD K "__init__" "Copy.__init__" (defArgs s_Copy___init__) (defBody s_Copy___init__) (defScope s_Copy___init__) [] [("mirrored", .bl false)] f fd) :
    (∃ ds, Vals [.bl false] ds ∧ Binds K fd ["self", "turn", "shift", "mirrored"] ds) ∧ ∃ mv : List Value, KBn K fd ["self", "turn", "shift", "mirrored"] 3 ["mirrored"] (fun us ws => us ++ ws) (fun vs zs => vs ++ zs) := by
  refine ⟨F.binds0 (ps := ["self", "turn", "shift", "mirrored"]) 3 (by intro z; cases z) rfl fun D doc pm an cdv ct us ks h1 h2 => ?_, ?_⟩
  · match us, ks, h1, h2 with
    | [x, y, z], [k], _, _ => exact ⟨_, _, _, _, _, _, rfl, rfl, rfl⟩
  · refine F.kbinds0 (ps := ["self", "turn", "shift", "mirrored"]) 3 ["mirrored"] [] (fun us _ ws => us ++ ws) (by intro z; cases z) (fun q hq => by cases hq) (fun r1 _ r3 => r1.append r3) fun D doc pm an cdv ct us mv ws h1 h2 h3 => ?_
    match us, mv, ws, h1, h2, h3 with
    | [x, y, z], [], [k], _, _, _ => rfl
end
end My

namespace My
open PySem L2 Mth
section
theorem pimp {α β : Type} {R S : α → β → Prop} (h : ∀ p t, R p t → S p t) : ∀ {ps : List α} {ts : List β}, Paired R ps ts → Paired S ps ts
  | _, _, .nil => .nil
  | _, _, .cons r t => .cons (h _ _ r) (pimp h t)
theorem papp {α β : Type} {R : α → β → Prop} : ∀ {ps qs : List α} {ts us : List β}, Paired R ps ts → Paired R qs us → Paired R (ps ++ qs) (ts ++ us)
  | _, _, _, _, .nil, k => k
  | _, _, _, _, .cons r t, k => .cons r (papp t k)
theorem pget {α β : Type} {R : α → β → Prop} : ∀ {ps : List α} {ts : List β}, Paired R ps ts → ∀ {i : Nat} {p : α}, ps[i]? = some p → ∃ t, ts[i]? = some t ∧ R p t
  | _, _, .nil, i, p, h => by simp at h
  | _, _, .cons r t, 0, p, h => ⟨_, rfl, by simp at h; rw [← h]; exact r⟩
  | _, _, .cons r t, i + 1, p, h => by
    obtain ⟨u, h1, h2⟩ := pget t (i := i) (p := p) (by simpa using h)
    exact ⟨u, by simpa using h1, h2⟩
theorem prev {α β : Type} {R : α → β → Prop} {l : List α} {m : List β} (h : Paired R l m) : Paired R l.reverse m.reverse := by
  induction h with
  | nil => exact .nil
  | cons r _ ih => rw [List.reverse_cons, List.reverse_cons]; exact papp ih (.cons r .nil)
theorem pdrop {α β : Type} {R : α → β → Prop} {l : List α} {m : List β} (h : Paired R l m) : ∀ n, Paired R (l.drop n) (m.drop n) := by
  induction h with
  | nil => intro n; rw [List.drop_nil, List.drop_nil]; exact .nil
  | cons r t ih =>
    intro n
    cases n with
    | zero => exact .cons r t
    | succ n => exact ih n
theorem ptake {α β : Type} {R : α → β → Prop} {l : List α} {m : List β} (h : Paired R l m) : ∀ n, Paired R (l.take n) (m.take n) := by
  induction h with
  | nil => intro n; rw [List.take_nil, List.take_nil]; exact .nil
  | cons r t ih =>
    intro n
    cases n with
    | zero => exact .nil
    | succ n => exact .cons r (ih n)
end
end My

namespace My
open PySem L2 Mth
section
variable {K : PySem.W.Frag}
/-- a list of told copies, and of copies -/
def AllD (K : PySem.W.Frag) (H : Hp) (vs : List V) (cs : List Cp) : Prop := Paired (fun v c => IsD K H v c) vs cs
def AllC (K : PySem.W.Frag) (C : Addr) (H : Hp) (vs : List V) (cs : List Cp) : Prop := Paired (fun v c => IsC K C H v c) vs cs
theorem AllD.same {H H' : Hp} {vs : List V} {cs : List Cp} (h : AllD K H vs cs) (s : Same H H') : AllD K H' vs cs := pimp (fun _ _ i => i.same s) h
theorem AllC.same {C : Addr} {H H' : Hp} {vs : List V} {cs : List Cp} (h : AllC K C H vs cs) (s : Same H H') : AllC K C H' vs cs := pimp (fun _ _ i => i.same s) h
theorem AllD.keep {H H' : Hp} {vs : List V} {cs : List Cp} {d : Addr} {ys : List V} (h : AllD K H vs cs) (hd : H d = some (.lst ys)) (k : Keep d H H') : AllD K H' vs cs := pimp (fun _ _ i => i.keep hd k) h
theorem AllC.keep {C : Addr} {H H' : Hp} {vs : List V} {cs : List Cp} {d : Addr} {ys : List V} (h : AllC K C H vs cs) (hd : H d = some (.lst ys)) (k : Keep d H H') : AllC K C H' vs cs := pimp (fun _ _ i => i.keep hd k) h
theorem keep_new {d p : Addr} {H : Hp} {o : HO} (h : H p = none) : Keep d H (upd H p o) := Keep.of (same_new h o)
/-- the tolds that a comprehension over range(n) draws: the heap behind it -/
structure Drawn (K : PySem.W.Frag) (d L : Addr) (H H' : Hp) (n : Nat) : Prop where
  ex : ∃ st vs cs, Keep d H H' ∧ H' d = some (.lst (encD st)) ∧ SrcOk st ∧ H' L = some (.lst vs) ∧ vs.length = n ∧ AllD K H' vs cs ∧ ∀ c ∈ cs, CopyIn c
theorem drawn_start {d L : Addr} {H : Hp} {st : Src} (hd : H d = some (.lst (encD st))) (ok : SrcOk st) (hL : H L = none) : Drawn K d L H (upd H L (.lst [])) 0 :=
  ⟨st, [], [], keep_new hL, (same_new hL _) _ _ hd, ok, upd_same, rfl, .nil, fun c hc => by cases hc⟩
theorem drawn_more {d L : Addr} {H H1 H2 : Hp} {n : Nat} {st st2 : Src} {v : V} {c : Cp} {vs : List V} {cs : List Cp} (hL : H L = none) (hdL : L ≠ d) (k1 : Keep d H H1) (hd1 : H1 d = some (.lst (encD st))) (h1 : H1 L = some (.lst vs)) (hn : vs.length = n) (a : AllD K H1 vs cs) (g : ∀ c ∈ cs, CopyIn c)
    (k2 : Keep d H1 H2) (hd2 : H2 d = some (.lst (encD st2))) (ok2 : SrcOk st2) (i : IsD K H2 v c) (ic : CopyIn c) : Drawn K d L H (upd H2 L (.lst (vs ++ [v]))) (n + 1) := by
  have h2 : H2 L = some (.lst vs) := k2 _ _ hdL h1
  have a2 : AllD K H2 vs cs := a.keep hd1 k2
  refine ⟨st2, vs ++ [v], cs ++ [c], fun b o nb e => ?_, ?_, ok2, upd_same, by rw [List.length_append, hn]; rfl, papp (a2.keep h2 keep_upd) (.cons (i.keep h2 keep_upd) .nil), fun x hx => ?_⟩
  · rw [upd_ne (ne_of_none e hL)]
    exact k2 _ _ nb (k1 _ _ nb e)
  · rw [upd_ne (Ne.symm hdL)]; exact hd2
  · rcases List.mem_append.mp hx with h | h
    · exact g x h
    · rw [List.mem_singleton.mp h]; exact ic
/-- the copies of tolds, by a comprehension: the heap behind it -/
structure Copied (K : PySem.W.Frag) (C L : Addr) (H H' : Hp) (cs : List Cp) : Prop where
  ex : ∃ ws, Same H H' ∧ H' L = some (.lst ws) ∧ AllC K C H' ws cs
theorem copied_start {C L : Addr} {H : Hp} (hL : H L = none) : Copied K C L H (upd H L (.lst [])) [] := ⟨[], same_new hL _, upd_same, .nil⟩
theorem copied_more {C L : Addr} {H H1 H2 : Hp} {cs : List Cp} {c : Cp} {w : V} {ws : List V} (hL : H L = none) (s1 : Same H H1) (h1 : H1 L = some (.lst ws)) (a : AllC K C H1 ws cs) (s2 : Same H1 H2) (i : IsC K C H2 w c) : Copied K C L H (upd H2 L (.lst (ws ++ [w]))) (cs ++ [c]) := by
  have h2 := s2 _ _ h1
  refine ⟨ws ++ [w], fun b o e => ?_, upd_same, papp ((a.same s2).keep h2 keep_upd) (.cons (i.keep h2 keep_upd) .nil)⟩
  rw [upd_ne (ne_of_none e hL)]
  exact s2 _ _ (s1 _ _ e)
end
end My

namespace My
open PySem L2 Mth
section
variable {K : PySem.W.Frag} {α : Type}
theorem tk_filter {β : Type} (p : β → Bool) {l : List β} {i : Nat} {x : β} (h : l[i]? = some x) : (l.take (i + 1)).filter p = (l.take i).filter p ++ (if p x = true then [x] else []) := by
  rw [take_more h, List.filter_append]
  congr 1
  by_cases c : p x = true
  · rw [if_pos c]; simp [c]
  · rw [if_neg c]; simp [c]
theorem tk_map {β γ : Type} (f : β → γ) {l : List β} {i : Nat} {x : β} (h : l[i]? = some x) : (l.take (i + 1)).map f = (l.take i).map f ++ [f x] := by
  rw [take_more h, List.map_append]; rfl
/-! ### what a comprehension draws, of any kind -/
def KeepsI (I : Hp → V → α → Prop) : Prop := ∀ (H H' : Hp) (v : V) (x : α) (e : Addr) (ys : List V), I H v x → H e = some (.lst ys) → Keep e H H' → I H' v x
def DrawnG (I : Hp → V → α → Prop) (G : α → Prop) (d L : Addr) (H H' : Hp) (n : Nat) : Prop := ∃ st vs xs, Keep d H H' ∧ H' d = some (.lst (encD st)) ∧ SrcOk st ∧ H' L = some (.lst vs) ∧ vs.length = n ∧ Paired (I H') vs xs ∧ ∀ x ∈ xs, G x
theorem drawnG_start {I : Hp → V → α → Prop} {G : α → Prop} {d L : Addr} {H : Hp} {st : Src} (hd : H d = some (.lst (encD st))) (ok : SrcOk st) (hL : H L = none) : DrawnG I G d L H (upd H L (.lst [])) 0 :=
  ⟨st, [], [], Keep.of (same_new hL _), (same_new hL _) _ _ hd, ok, upd_same, rfl, .nil, fun c hc => by cases hc⟩
theorem drawnG_more {I : Hp → V → α → Prop} {G : α → Prop} (kI : KeepsI I) {d L : Addr} {H H1 H2 : Hp} {n : Nat} {st st2 : Src} {v : V} {x : α} {vs : List V} {xs : List α} (hL : H L = none) (hdL : L ≠ d) (k1 : Keep d H H1) (hd1 : H1 d = some (.lst (encD st))) (h1 : H1 L = some (.lst vs)) (hn : vs.length = n) (a : Paired (I H1) vs xs) (g : ∀ x ∈ xs, G x)
    (k2 : Keep d H1 H2) (hd2 : H2 d = some (.lst (encD st2))) (ok2 : SrcOk st2) (i : I H2 v x) (ix : G x) : DrawnG I G d L H (upd H2 L (.lst (vs ++ [v]))) (n + 1) := by
  have h2 : H2 L = some (.lst vs) := k2 _ _ hdL h1
  refine ⟨st2, vs ++ [v], xs ++ [x], fun b o nb e => ?_, ?_, ok2, upd_same, by rw [List.length_append, hn]; rfl, papp (pimp (fun p t q => kI _ _ _ _ _ _ (kI _ _ _ _ _ _ q hd1 k2) h2 keep_upd) a) (.cons (kI _ _ _ _ _ _ i h2 keep_upd) .nil), fun y hy => ?_⟩
  · rw [upd_ne (ne_of_none e hL)]
    exact k2 _ _ nb (k1 _ _ nb e)
  · rw [upd_ne (Ne.symm hdL)]; exact hd2
  · rcases List.mem_append.mp hy with h | h
    · exact g y h
    · rw [List.mem_singleton.mp h]; exact ix
theorem keepsT : KeepsI (IsT K) := fun _ _ _ _ _ _ i hd k => i.keep hd k
theorem turn4' : ∀ t ∈ [((1, 0, 1) : T3), (-1, 0, 1), (0, 1, 1), (3, 4, 5)], TurnIn t := fun t ht => turns_in t (by
  have h : ∀ t ∈ [((1, 0, 1) : T3), (-1, 0, 1), (0, 1, 1), (3, 4, 5)], t ∈ turns13 := by decide +kernel
  exact h t ht)
end
end My

namespace My
open PySem L2 Mth
abbrev s_law_told : Stmt := topS 47
theorem sc_law_told : FnScope ["_law_d"] ["_law_d"] (defScope s_law_told) := ⟨rfl, rfl, rfl, by decide +kernel, rfl, by decide +kernel, by decide +kernel⟩
section
variable {P : Program} {w : World} {K : PySem.W.Frag} {mg : Str → Option Value} {base : Heap}
theorem ok_law_told {f : Addr} {fd : FuncData} (d_law_below : D P w K mg base "_law_below" 1 sp_below) (d_law_turn : D P w K mg base "_law_turn" 2 (sp_draw fun H r => ∃ t, IsT K H r t ∧ TurnIn t)) (d_law_spot : D P w K mg base "_law_spot" 3 (sp_draw fun H r => ∃ t, IsT K H r t ∧ SpotIn t))
    (F : Fun K "_law_told" "_law_told" s_law_told f fd) : FnOk P w K mg base CX0 4 f fd ["_law_d"] (sp_draw fun H r => ∃ c, IsD K H r c ∧ CopyIn c) := by
  refine F.ok sc_law_told (fun vs H Q E h => ?_) (fun cdv A outer s H vs Q E hr h => ?_)
  · obtain ⟨d, st, rfl, _⟩ := h
    rfl
  obtain ⟨d, st, rfl, hd, ok, q⟩ := h
  refine ⟨_, (pss_one (ps_ret (pe_tup (pa_cons (pc d_law_turn (hr.mono (by decide)) (pa_cons (pv 0) pa_nil)) (pa_cons (pc d_law_spot (hr.mono (by decide)) (pa_cons (pv 0) pa_nil)) (pa_cons (pe_cmpR (op_eq) (pc d_law_below (hr.mono (by decide)) (pa_cons (pv 0) (pa_cons pe_int pa_nil))) pe_int (nomark _)) pa_nil)))))), ?_⟩
  refine ⟨_, rfl, d, st, rfl, hd, ok, fun H1 st1 r1 k1 hd1 ok1 ⟨t, ⟨a, er, it⟩, ti⟩ => ?_⟩
  subst er
  refine ⟨_, rfl, d, st1, rfl, hd1, ok1, fun H2 st2 r2 k2 hd2 ok2 ⟨s', ⟨b, er, is⟩, si⟩ => ?_⟩
  subst er
  refine ⟨_, rfl, d, _, st2, rfl, by decide, by decide, hd2, ok2, fun st3 r ok3 r0 r1 => ?_⟩
  refine ⟨rfl, (by show 3 ≤ sizeLine; decide), fun p hp => ?_⟩
  have sp' := same_new hp (.tup [.ref a, .ref b, .bl (decide (V.int r = V.int 0))])
  refine q _ st3 _ (k1.trans (k2.trans (keep_upd.trans (Keep.of sp')))) (sp' _ _ upd_same) ok3 ⟨⟨t, s', decide (V.int r = V.int 0)⟩, ⟨p, a, b, rfl, .inl (.inl upd_same), ?_, ?_⟩, ⟨⟨ti.ok, ti.nz, si.ok⟩, ⟨ti.bd, si.bd⟩, ti.mem⟩⟩
  · exact same_T sp' (keep_T (keep_T it hd1 k2) hd2 keep_upd)
  · exact same_T sp' (keep_T is hd2 keep_upd)
end
end My

namespace My
open PySem L2 Mth
abbrev s_law_copy : Stmt := topS 49
theorem sc_law_copy : FnScope ["_law_told_here"] ["_law_told_here"] (defScope s_law_copy) := ⟨rfl, rfl, rfl, by decide +kernel, rfl, by decide +kernel, by decide +kernel⟩
section
variable {P : Program} {w : World} {K : PySem.W.Frag} {mg : Str → Option Value} {base : Heap}
theorem ok_law_copy {f C fI : Addr} {fd fdI : FuncData} {mv ds : List Value} (TC : CopyI P w K mg base C fI fdI mv ds) (F : Fun K "_law_copy" "_law_copy" s_law_copy f fd) : FnOk P w K mg base CX0 6 f fd ["_law_told_here"] (sp_copyOf K C) := by
  refine F.ok sc_law_copy (fun vs H Q E h => ?_) (fun cdv A outer s H vs Q E hr h => ?_)
  · obtain ⟨vc, c, rfl, _⟩ := h
    rfl
  obtain ⟨vc, c, rfl, ⟨p, a, b, rfl, h1, h2, h3⟩, ok, q⟩ := h
  refine ⟨_, (pss_one (ps_ret (pe_makeK TC.mkC TC.ok (hr.mono (by decide)) (by rfl) TC.mgC TC.kb pass0 (pa_cons (pe_ix (r := rIxT K) ix_tup (pv 0) pe_int (fun _ _ => rfl)) (pa_cons (pe_ix (r := rIxT K) ix_tup (pv 0) pe_int (fun _ _ => rfl)) pa_nil)) (pk_cons (pe_ix (r := rIxT K) ix_tup (pv 0) pe_int (fun _ _ => rfl)) pk_nil)))), ?_⟩
  refine ⟨_, rfl, _, _, _, _, rfl, rfl, h1, by rfl, _, rfl, _, _, _, _, rfl, rfl, h1, by rfl, _, rfl, _, _, _, _, rfl, rfl, h1, by rfl, ?_⟩
  exact ⟨rfl, rfl, mk_of ⟨_, rfl, h2⟩ ⟨_, rfl, h3⟩ ok.t ok.n ok.s fun H' r s' i => q _ _ s' i⟩
end
end My

namespace My
open PySem L2 Mth
section
variable {P : Program} {w : World} {K : PySem.W.Frag} {mg : Str → Option Value} {base : Heap}
def sp_still (K : PySem.W.Frag) (C : Addr) : Sp := fun vs H Q _ => vs = [] ∧ ∀ H' r, Same H H' → IsC K C H' r still → Q r H'
/-- done so many times -/
structure AgIn (c : Cp) (n : Int) : Prop where
  ok : CpOk c
  lo : -100 ≤ n
  hi : n ≤ 100
  bc : BC 1900 c
  bs : BC 1900 (stp c n)
  ba : ∀ k, k < n.natAbs → BC 1900 (ag (stp c n) k)
def sp_again (K : PySem.W.Frag) (C : Addr) : Sp := fun vs H Q _ => ∃ vc c n, vs = [vc, .int n] ∧ IsC K C H vc c ∧ AgIn c n ∧ ∀ H' r, Same H H' → IsC K C H' r (agz c n) → Q r H'
structure MAg (P : Program) (w : World) (K : PySem.W.Frag) (mg : Str → Option Value) (base : Heap) (C : Addr) : Prop where
  cl : Cls K C
  ex : ∃ f fd, FnOk P w K mg base CX0 7 f fd ["self", "times"] (sp_again K C) ∧ Binds K fd ["self", "times"] [] ∧ Meth K C "again" f
theorem pe_again {X : Cx} {C : Addr} {o e : Expr} {to : TE} {t : TA} {apos pos : Pos} {pl : Sem Bool} (M : MAg X.prog X.w X.K X.mg X.base C) (hr : Room 7 X.A) (ho : PE X o to) (ha : PA X [e] t)
    (hs1 : starEach [e] X.env = (false, eval e X.env) :: starEach [] X.env := by rfl) (hs2 : (backTo pos (starEach [] X.env)).any (·.1) = false := by rfl)
    (ht : eval (.Call (.Attribute o "again" apos) [e] [] pos) X.env = (do
      let ov ← eval o X.env
      standAt apos.atName
      let (g, first) ← holding [ov] (getMethod ov "again" pl)
      callWith pos g first (backTo pos (starEach [e] X.env)) (backToKw pos (keywordEach [] X.env))) := by rfl) :
    PE X (.Call (.Attribute o "again" apos) [e] [] pos) (tMeth C "again" (sp_again X.K C) [] E0 to t) := by
  obtain ⟨f, fd, F, b, m⟩ := M.ex
  exact pe_meth ho M.cl m F hr b .nil pass0 ha hs1 hs2 ht
theorem cf_no {a b : Addr} {m : Bool} {x : Str} (h1 : (x == ("factor" : Str)) = false) (h2 : (x == ("offset" : Str)) = false) (h3 : (x == ("flips" : Str)) = false) : (cf a b m).lookup x = none := by
  unfold cf
  simp only [List.lookup, h1, h2, h3]
theorem again_of {C : Addr} {H : Hp} {Q : VK} {v : V} {c : Cp} (i : IsC K C H v c) {t : TA} {σ : L2.St} (q : t σ H fun vs H2 => sp_again K C (v :: (vs ++ [])) H2 Q E0) : ∃ a dx fs, v = .ref a ∧ H a = some (.ins C dx fs) ∧ fs.lookup ("again" : Str) = none ∧ t σ H fun vs H2 => sp_again K C (v :: (vs ++ [])) H2 Q E0 := by
  obtain ⟨p, dx, a, b, rfl, h1, _⟩ := i
  exact ⟨p, dx, _, rfl, h1, cf_no (by decide +kernel) (by decide +kernel) (by decide +kernel), q⟩
end
end My

namespace My
open PySem L2 Mth
abbrev s_still_copy : Stmt := topS 33
theorem sc_still_copy : FnScope [] [] (defScope s_still_copy) := ⟨rfl, rfl, rfl, by decide +kernel, rfl, by decide +kernel, by decide +kernel⟩
section
variable {P : Program} {w : World} {K : PySem.W.Frag} {mg : Str → Option Value} {base : Heap}
theorem ok_still_copy {f C fI aO aM : Addr} {fd fdI : FuncData} {mv ds : List Value} (TC : CopyI P w K mg base C fI fdI mv ds) (m_ONE : mg "ONE" = some (.ref aO)) (t_ONE : ∀ H, SqT K H aO (v3 (1, 0, 1))) (m_MIDDLE : mg "MIDDLE" = some (.ref aM)) (t_MIDDLE : ∀ H, SqT K H aM (v3 (0, 0, 1)))
    (F : Fun K "still_copy" "still_copy" s_still_copy f fd) : FnOk P w K mg base CX0 6 f fd [] (sp_still K C) := by
  refine F.ok sc_still_copy (fun vs H Q E h => ?_) (fun cdv A outer s H vs Q E hr h => ?_)
  · obtain ⟨rfl, _⟩ := h
    rfl
  obtain ⟨rfl, q⟩ := h
  refine ⟨_, (pss_one (ps_ret (pe_make TC.mkC TC.ok (hr.mono (by decide)) (by rfl) TC.mgC TC.bd TC.bv pass0 (pa_cons (pe_glob (v := .ref aO) (by rfl) m_ONE rfl) (pa_cons (pe_glob (v := .ref aM) (by rfl) m_MIDDLE rfl) pa_nil))))), ?_⟩
  exact mk_of2 ⟨_, rfl, t_ONE H⟩ ⟨_, rfl, t_MIDDLE H⟩ still_ok.t still_ok.n still_ok.s fun H1 x s1 i1 => ⟨rfl, q _ _ s1 i1⟩
end
end My

namespace My
open PySem L2 Mth
abbrev s_Copy_again : Stmt := inClass (topS 32) 9
theorem sc_Copy_again : FnScope ["self", "times", "step", "done", "number"] ["self", "times"] (defScope s_Copy_again) := ⟨rfl, rfl, rfl, by decide +kernel, rfl, by decide +kernel, by decide +kernel⟩
section
variable {P : Program} {w : World} {K : PySem.W.Frag} {mg : Str → Option Value} {base : Heap}
theorem ok_again {f C : Addr} {fd : FuncData} {t100 : Tok} (b_abs : mg "abs" = none) (b_range : mg "range" = none) (m_MOST : mg "MOST_TIMES" = some (.int 100 t100)) (m_rs : MRs P w K mg base C) (m_iv : MIv P w K mg base C)
    (d_is_whole : D P w K mg base "is_whole" 1 sp_whole) (d_still_copy : D P w K mg base "still_copy" 6 (sp_still K C)) (F : Fun K "again" "Copy.again" s_Copy_again f fd) : FnOk P w K mg base CX0 7 f fd ["self", "times"] (sp_again K C) := by
  refine F.ok sc_Copy_again (fun vs H Q E h => ?_) (fun cdv A outer s H vs Q E hr h => ?_)
  · obtain ⟨vc, c, n, rfl, _⟩ := h
    rfl
  obtain ⟨vc, c, n, rfl, ic, ⟨ok, lo, hi, bc, bs, ba⟩, q⟩ := h
  refine ⟨_, (pss_cons (ps_if (PW.pt (pw_or (pt_not (pt_val (pc d_is_whole (hr.mono (by decide)) (pa_cons (pv 1) pa_nil)))) (pw_or1 (pt_not (pt_chain op_le op_le (pe_un un_neg (pe_glob (v := .int 100) (by rfl) m_MOST ⟨_, rfl⟩)) (pv 1) (pe_glob (v := .int 100) (by rfl) m_MOST ⟨_, rfl⟩)))))) (pss_one ps_never) pss_nil)
    (pss_cons (ps_set (i := 2) sc_Copy_again.nd rfl (by first | exact Or.inl rfl | exact Or.inr rfl) (pe_ifExp (pt_cmpR (op_ge) (pv 1) pe_int (nomark _)) (pv 0) (pe_un (un_inv' m_iv (hr.mono (by decide))) (pv 0))))
    (pss_cons (ps_set (i := 3) sc_Copy_again.nd rfl (by first | exact Or.inl rfl | exact Or.inr rfl) (pc0 d_still_copy (hr.mono (by decide))))
    (pss_cons (ps_for PassesOwn.never rfl (pi_range1 (by rfl) b_range (pa_cons (pe_callB call_abs (by rfl) b_abs (by decide +kernel) (pa_cons (pv 1) pa_nil)) pa_nil)) (pg_name (i := 4) sc_Copy_again.nd rfl (by first | exact Or.inl rfl | exact Or.inr rfl)) (pss_one (ps_set (i := 3) sc_Copy_again.nd rfl (by first | exact Or.inl rfl | exact Or.inr rfl) (pe_op (op_rsh m_rs (hr.mono (by decide))) (pv 3) (pv 2)))))
    (pss_one (ps_ret (pv 3))))))), ?_⟩
  refine ⟨_, rfl, n, rfl, _, rfl, iteF ?_⟩
  refine ⟨_, rfl, _, rfl, _, _, rfl, rfl, _, rfl, ?_⟩
  refine (if_pos (decide_eq_true (show -(100 : Int) ≤ n from lo))).mpr ?_
  refine ⟨_, _, rfl, rfl, _, rfl, ?_⟩
  refine (if_neg (show ¬ (!decide (n ≤ 100)) = true by rw [decide_eq_true hi]; decide)).mpr ?_
  have loop : ∀ H1 vs', Same H H1 → IsC K C H1 vs' (stp c n) →
      tCl (sp_still K C) tNil [some vc, some (.int n), some vs', none, none] H1 (fun x H2 => gName 3 x [some vc, some (.int n), some vs', none, none] H2
        (tSeq (tFor (iRng1 (tCons (tCB (fun xs H Q => ∃ i, xs = [V.int i] ∧ Q (V.int (if i < 0 then -i else i)) H) (tCons (tVar 1) tNil)) tNil)) (gName 4)
          (tAsg (tOp (rOwn2 C (sp_jn K C)) (tVar 3) (tVar 2)) (gName 3))) (tRet (tVar 3)) { nx := fun _ H' => Q .non H', rt := Q })) := by
    intro H1 vs' s1 i1
    refine ⟨rfl, fun H2 r2 s2 i2 => ?_⟩
    have ea : (if n < 0 then -n else n) = ((n.natAbs : Nat) : Int) := by split <;> omega
    refine ⟨_, rfl, n, rfl, ?_⟩
    rw [ea]
    refine ⟨_, rfl, by omega, by omega, ?_⟩
    rw [Int.toNat_natCast]
    refine for_range (lo := 0) (n := n.natAbs) (fun i σ H' => Same H H' ∧ ∃ r x, σ = [some vc, some (.int n), some vs', some r, x] ∧ IsC K C H' vs' (stp c n) ∧ IsC K C H' r (ag (stp c n) i)) ⟨s1.trans s2, r2, none, rfl, i1.same s2, i2⟩ ?_ ?_
    · rintro i σ H' hi' ⟨s', r, x, rfl, j1, j2⟩
      refine ⟨_, rfl, _, rfl, jn_of j2 j1 (ag_ok (stp_ok ok n) i) (stp_ok ok n) (ba i hi') bs fun H3 r3 s3 i3 => ?_⟩
      exact ⟨s'.trans s3, r3, _, rfl, j1.same s3, i3⟩
    · rintro σ H' ⟨s', r, x, rfl, j1, j2⟩
      exact ⟨_, rfl, q _ _ s' j2⟩
  refine ⟨_, rfl, _, _, rfl, rfl, _, rfl, ?_⟩
  refine ite2 (fun c' => ?_) (fun c' => ?_)
  · have e : stp c n = c := if_pos (of_decide_eq_true c')
    refine ⟨_, rfl, ?_⟩
    exact loop H vc (Same.refl _) (by rw [e]; exact ic)
  · have e : stp c n = bk c := if_neg (by have := of_decide_eq_false (Bool.eq_false_iff.mpr c'); omega)
    refine ⟨_, rfl, bk_of ic ok bc fun H1 r1 s1 i1 => ?_⟩
    exact loop H1 r1 s1 (by rw [e]; exact i1)
end
end My

namespace My
open PySem L2 Mth
abbrev s_order : Stmt := topS 35
theorem sc_order : FnScope ["copy", "times"] ["copy"] (defScope s_order) := ⟨rfl, rfl, rfl, by decide +kernel, rfl, by decide +kernel, by decide +kernel⟩
section
variable {P : Program} {w : World} {K : PySem.W.Frag} {mg : Str → Option Value} {base : Heap}
theorem ag_BC {m : Nat} {c : Cp} (ok : CpOk c) (b : BC m c) : ∀ k, BC (3 + k * (2 * m + 2)) (ag c k)
  | 0 => still_BC.mono (by omega)
  | k + 1 => (jn_BC (ag_ok ok k) ok (ag_BC ok b k) b).mono (by have e : (k + 1) * (2 * m + 2) = k * (2 * m + 2) + (2 * m + 2) := Nat.succ_mul _ _; omega)
theorem agIn_of {m : Nat} {c : Cp} {n : Nat} (ok : CpOk c) (b : BC m c) (hn : n ≤ 100) (hm : 3 + n * (2 * m + 2) ≤ 1900) (hm2 : m ≤ 1900) : AgIn c (n : Int) := by
  have e : stp c (n : Int) = c := if_pos (by omega)
  refine ⟨ok, by omega, by omega, b.mono hm2, by rw [e]; exact b.mono hm2, fun k hk => ?_⟩
  rw [e]
  have h1 : k ≤ n := by omega
  have h2 : k * (2 * m + 2) ≤ n * (2 * m + 2) := Nat.mul_le_mul_right _ h1
  exact (ag_BC ok b k).mono (by omega)
theorem agz_nat (c : Cp) (n : Nat) : agz c (n : Int) = ag c n := by
  unfold agz stp
  rw [if_pos (by omega), Int.natAbs_natCast]
def oV : Option Nat → V
  | none => .non
  | some n => .int (n : Int)
def sp_order (K : PySem.W.Frag) (C : Addr) : Sp := fun vs H Q _ => ∃ vc c m, vs = [vc] ∧ IsC K C H vc c ∧ CpOk c ∧ BC m c ∧ m ≤ 200 ∧ ∀ H', Same H H' → Q (oV (ord c)) H'
theorem ok_order {f C : Addr} {fd : FuncData} (m_ag : MAg P w K mg base C) (m_eq : MEq P w K mg base C) (d_still_copy : D P w K mg base "still_copy" 6 (sp_still K C)) (F : Fun K "order" "order" s_order f fd) : FnOk P w K mg base CX0 8 f fd ["copy"] (sp_order K C) := by
  refine F.ok sc_order (fun vs H Q E h => ?_) (fun cdv A outer s H vs Q E hr h => ?_)
  · obtain ⟨vc, c, m, rfl, _⟩ := h
    rfl
  obtain ⟨vc, c, m, rfl, ic, ok, bc, hm, q⟩ := h
  refine ⟨_, (pss_cons (ps_for PassesOwn.never rfl (pi_tup (pe_tup (pa_cons pe_int (pa_cons pe_int (pa_cons pe_int pa_nil))))) (pg_name (i := 1) sc_order.nd rfl (by first | exact Or.inl rfl | exact Or.inr rfl)) (pss_one (ps_if (pt_cmpR (op_ceq m_eq (hr.mono (by decide))) (pe_again m_ag (hr.mono (by decide)) (pv 0) (pa_cons (pv 1) pa_nil)) (pc0 d_still_copy (hr.mono (by decide))) (nomark _)) (pss_one (ps_ret (pv 1))) pss_nil)))
    (pss_one (ps_ret pe_non))), ?_⟩
  refine ⟨(by show 3 ≤ sizeLine; decide), fun p hp => ?_⟩
  have s1 := same_new hp (.tup [.int 1, .int 2, .int 4])
  refine ⟨p, rfl, ⟨_, .inl (.inl upd_same)⟩, for_tup (K := K) (a := p) (xs := [.int 1, .int 2, .int 4]) (fun i σ H' => Same (upd H p (.tup [.int 1, .int 2, .int 4])) H' ∧ (∃ x, σ = [some vc, x]) ∧ (1 ≤ i → ag c 1 ≠ still) ∧ (2 ≤ i → ag c 2 ≠ still) ∧ (3 ≤ i → ag c 4 ≠ still))
    ⟨Same.refl _, ⟨_, rfl⟩, fun z => by omega, fun z => by omega, fun z => by omega⟩ ?_ ?_ ?_⟩
  · rintro i σ H' _ ⟨s', _⟩
    exact .inl (.inl (s' _ _ upd_same))
  · rintro i x σ H' hx ⟨s', ⟨y, rfl⟩, n1, n2, n4⟩
    have turn : ∀ n : Nat, n ≤ 4 → x = .int (n : Int) → (∀ H'', Same H H'' → ag c n = still → Q (.int (n : Int)) H'') →
        (ag c n ≠ still → (1 ≤ i + 1 → ag c 1 ≠ still) ∧ (2 ≤ i + 1 → ag c 2 ≠ still) ∧ (3 ≤ i + 1 → ag c 4 ≠ still)) →
        (gName 1) x [some vc, y] H' fun σ2 H2 => (tIfS (tTest (tOp (rOwn2 C (sp_ceq K C)) (tMeth C "again" (sp_again K C) [] E0 (tVar 0) (tCons (tVar 1) tNil)) (tCl (sp_still K C) tNil))) (tRet (tVar 1)) tNext)
          { nx := fun σ H' => Same (upd H p (.tup [.int 1, .int 2, .int 4])) H' ∧ (∃ x, σ = [some vc, x]) ∧ (1 ≤ i + 1 → ag c 1 ≠ still) ∧ (2 ≤ i + 1 → ag c 2 ≠ still) ∧ (3 ≤ i + 1 → ag c 4 ≠ still), rt := Q, ct := fun σ H' => Same (upd H p (.tup [.int 1, .int 2, .int 4])) H' ∧ (∃ x, σ = [some vc, x]) ∧ (1 ≤ i + 1 → ag c 1 ≠ still) ∧ (2 ≤ i + 1 → ag c 2 ≠ still) ∧ (3 ≤ i + 1 → ag c 4 ≠ still), bk := tRet (tC .non) { nx := fun _ H' => Q .non H', rt := Q } } σ2 H2 := by
      rintro n hn rfl yes no
      have i' := ic.same (s1.trans s')
      have h1 : n * (2 * m + 2) ≤ 4 * (2 * m + 2) := Nat.mul_le_mul_right _ hn
      refine ⟨_, rfl, again_of i' ⟨_, rfl, _, c, _, rfl, i', agIn_of ok bc (by omega) (by omega) (by omega), fun H2 r2 s2 i2 => ?_⟩⟩
      rw [agz_nat] at i2
      refine ⟨rfl, fun H3 r3 s3 i3 => ?_⟩
      refine own2_of (i2.same s3) i3 ⟨_, _, _, _, rfl, i2.same s3, i3, _, rfl, ?_⟩
      by_cases e : ag c n = still
      · rw [ceq_iff.mpr e]
        exact iteT ⟨_, rfl, yes _ (s1.trans (s'.trans (s2.trans s3))) e⟩
      · rw [Bool.eq_false_iff.mpr (fun z => e (ceq_iff.mp z))]
        exact iteF ⟨s'.trans (s2.trans s3), ⟨_, rfl⟩, no e⟩
    match i, hx with
    | 0, hx =>
      exact turn 1 (by decide) (Option.some.inj hx).symm (fun H'' s'' e => by have z := q H'' s''; unfold ord at z; rw [if_pos e] at z; exact z) fun e => ⟨fun _ => e, fun z => by omega, fun z => by omega⟩
    | 1, hx =>
      exact turn 2 (by decide) (Option.some.inj hx).symm (fun H'' s'' e => by have z := q H'' s''; unfold ord at z; rw [if_neg (n1 (by decide)), if_pos e] at z; exact z) fun e => ⟨fun _ => n1 (by decide), fun _ => e, fun z => by omega⟩
    | 2, hx =>
      exact turn 4 (by decide) (Option.some.inj hx).symm (fun H'' s'' e => by have z := q H'' s''; unfold ord at z; rw [if_neg (n1 (by decide)), if_neg (n2 (by decide)), if_pos e] at z; exact z) fun e => ⟨fun _ => n1 (by decide), fun _ => n2 (by decide), fun _ => e⟩
    | (k + 3), hx => simp at hx
  · rintro σ H' ⟨s', ⟨y, rfl⟩, n1, n2, n4⟩
    have z := q H' (s1.trans s')
    unfold ord at z
    rw [if_neg (n1 (by decide)), if_neg (n2 (by decide)), if_neg (n4 (by decide))] at z
    exact z
end
end My

namespace My
open PySem L2 Mth
section
variable {K : PySem.W.Frag}
/-- a fraction -/
def IsF (K : PySem.W.Frag) (H : Hp) (v : V) (f : Int × Int) : Prop := ∃ p, v = .ref p ∧ SqT K H p [.int f.1, .int f.2]
theorem IsF.same {H H' : Hp} {v : V} {f : Int × Int} (h : IsF K H v f) (e : Same H H') : IsF K H' v f := by
  obtain ⟨p, rfl, q⟩ := h
  exact ⟨p, rfl, same_T e q⟩
theorem IsF.keep {H H' : Hp} {v : V} {f : Int × Int} {d : Addr} {ys : List V} (h : IsF K H v f) (hd : H d = some (.lst ys)) (k : Keep d H H') : IsF K H' v f := by
  obtain ⟨p, rfl, q⟩ := h
  exact ⟨p, rfl, keep_T q hd k⟩
theorem IsF.new {H : Hp} {p : Addr} {a b : Int} : IsF K (upd H p (.tup [.int a, .int b])) (.ref p) (a, b) := ⟨p, rfl, .inl (.inl upd_same)⟩
def dF (f : Int × Int) : PyData := .tuple [.int f.1, .int f.2]
theorem IsF.dp {H : Hp} {v : V} {f : Int × Int} (h : IsF K H v f) : Dp K H v (dF f) := by
  obtain ⟨p, rfl, q⟩ := h
  exact .tup q (.cons (.int _) (.cons (.int _) .nil))
theorem shapedF (f : Int × Int) : SeqAt.shaped (dF f) = true := rfl
theorem deepF (n : Nat) (f : Int × Int) : Deep (n + 2) (dF f) := by
  refine ⟨(by show 2 ≤ 1000; decide), fun d hd => ?_⟩
  simp only [List.mem_cons, List.mem_nil_iff, or_false] at hd
  rcases hd with rfl | rfl <;> trivial
end
end My

namespace My
open PySem L2 Mth
abbrev s_law_still_told : Stmt := topS 48
theorem sc_law_still_told : FnScope ["_law_d", "_law_turn_here"] ["_law_d"] (defScope s_law_still_told) := ⟨rfl, rfl, rfl, by decide +kernel, rfl, by decide +kernel, by decide +kernel⟩
section
variable {P : Program} {w : World} {K : PySem.W.Frag} {mg : Str → Option Value} {base : Heap}
theorem turns6s : ∀ t ∈ [((1, 0, 1) : T3), (-1, 0, 1), (0, 1, 1), (0, -1, 1), (3, 4, 5), (-4, 3, 5)], TurnIn t := fun t ht => turns_in t (by
  have h : ∀ t ∈ [((1, 0, 1) : T3), (-1, 0, 1), (0, 1, 1), (0, -1, 1), (3, 4, 5), (-4, 3, 5)], t ∈ turns13 := by decide +kernel
  exact h t ht)
theorem ok_law_still_told {f : Addr} {fd : FuncData} (d_law_below : D P w K mg base "_law_below" 1 sp_below) (d_law_spot : D P w K mg base "_law_spot" 3 (sp_draw fun H r => ∃ t, IsT K H r t ∧ SpotIn t))
    (F : Fun K "_law_still_told" "_law_still_told" s_law_still_told f fd) : FnOk P w K mg base CX0 4 f fd ["_law_d"] (sp_draw fun H r => ∃ c, IsD K H r c ∧ CopyIn c) := by
  refine F.ok sc_law_still_told (fun vs H Q E h => ?_) (fun cdv A outer s H vs Q E hr h => ?_)
  · obtain ⟨d, st, rfl, _⟩ := h
    rfl
  obtain ⟨d, st, rfl, hd, ok, q⟩ := h
  refine ⟨_, (pss_cons (ps_set (i := 1) sc_law_still_told.nd rfl (by first | exact Or.inl rfl | exact Or.inr rfl) (pe_ix ix_list (pe_lst (paT (t := (1, 0, 1)) (pe_tup (pa_cons pe_int (pa_cons pe_int (pa_cons pe_int pa_nil)))) (fun σ H Q h => ⟨(by show 3 ≤ sizeLine; decide), fun p hp => h _ _ (same_new hp _) (.inl (.inl upd_same))⟩) (paT (t := (-1, 0, 1)) (pe_tup (pa_cons (pe_op op_sub pe_int pe_int) (pa_cons pe_int (pa_cons pe_int pa_nil)))) (fun σ H Q h => ⟨_, _, rfl, rfl, (by show 3 ≤ sizeLine; decide), fun p hp => h _ _ (same_new hp _) (.inl (.inl upd_same))⟩) (paT (t := (0, 1, 1)) (pe_tup (pa_cons pe_int (pa_cons pe_int (pa_cons pe_int pa_nil)))) (fun σ H Q h => ⟨(by show 3 ≤ sizeLine; decide), fun p hp => h _ _ (same_new hp _) (.inl (.inl upd_same))⟩) (paT (t := (0, -1, 1)) (pe_tup (pa_cons pe_int (pa_cons (pe_op op_sub pe_int pe_int) (pa_cons pe_int pa_nil)))) (fun σ H Q h => ⟨_, _, rfl, rfl, (by show 3 ≤ sizeLine; decide), fun p hp => h _ _ (same_new hp _) (.inl (.inl upd_same))⟩) (paT (t := (3, 4, 5)) (pe_tup (pa_cons pe_int (pa_cons pe_int (pa_cons pe_int pa_nil)))) (fun σ H Q h => ⟨(by show 3 ≤ sizeLine; decide), fun p hp => h _ _ (same_new hp _) (.inl (.inl upd_same))⟩) (paT (t := (-4, 3, 5)) (pe_tup (pa_cons (pe_op op_sub pe_int pe_int) (pa_cons pe_int (pa_cons pe_int pa_nil)))) (fun σ H Q h => ⟨_, _, rfl, rfl, (by show 3 ≤ sizeLine; decide), fun p hp => h _ _ (same_new hp _) (.inl (.inl upd_same))⟩) paT0))))))) (pc d_law_below (hr.mono (by decide)) (pa_cons (pv 0) (pa_cons pe_int pa_nil))) (fun _ _ => rfl)))
    (pss_one (ps_ret (pe_tup (pa_cons (pv 1) (pa_cons (pc d_law_spot (hr.mono (by decide)) (pa_cons (pv 0) pa_nil)) (pa_cons (pe_cmpR (op_eq) (pc d_law_below (hr.mono (by decide)) (pa_cons (pv 0) (pa_cons pe_int pa_nil))) pe_int (nomark _)) pa_nil))))))), ?_⟩
  intro H1 ps s1 h1
  have l1 : (ps.map V.ref).length = 6 := by rw [List.length_map, Paired.length h1]; rfl
  refine ⟨by rw [l1]; decide, fun b hb => ?_⟩
  have sb := same_new hb (.lst (ps.map V.ref))
  have sA := s1.trans sb
  refine ⟨_, rfl, d, _, st, rfl, by decide, by decide, sA _ _ hd, ok, fun st2 r ok2 r0 r1 => ?_⟩
  have hbd : b ≠ d := (ne_of_none (s1 _ _ hd) hb).symm
  have kd := keep_upd (d := d) (H := upd H1 b (.lst (ps.map V.ref))) (o := .lst (encD st2))
  obtain ⟨p, t, e1, e2, e3⟩ := paired_at h1 (i := r.toNat) (by show r.toNat < 6; omega)
  have ti := turns6s t e2
  refine ⟨b, _, _, _, rfl, rfl, .inl (.inl (kd _ _ hbd upd_same)), at_map e1 (by omega), gn_of ?_⟩
  have it := keep_T (same_T sb e3) (sA _ _ hd) kd
  have hd2 := upd_same (H := upd H1 b (.lst (ps.map V.ref))) (a := d) (o := .lst (encD st2))
  have k2 : Keep d H (upd (upd H1 b (.lst (ps.map V.ref))) d (.lst (encD st2))) := (Keep.of sA).trans kd
  generalize upd (upd H1 b (.lst (ps.map V.ref))) d (.lst (encD st2)) = H2 at *
  refine ⟨_, rfl, _, rfl, d, st2, rfl, hd2, ok2, fun H3 st3 r3 k3 hd3 ok3 ⟨s', ⟨b', er, is⟩, si⟩ => ?_⟩
  subst er
  refine ⟨_, rfl, d, _, st3, rfl, by decide, by decide, hd3, ok3, fun st4 r4 ok4 r40 r41 => ?_⟩
  refine ⟨rfl, (by show 3 ≤ sizeLine; decide), fun p4 hp4 => ?_⟩
  have sp' := same_new hp4 (.tup [.ref p, .ref b', .bl (decide (V.int r4 = V.int 0))])
  refine q _ st4 _ (k2.trans (k3.trans (keep_upd.trans (Keep.of sp')))) (sp' _ _ upd_same) ok4 ⟨⟨t, s', decide (V.int r4 = V.int 0)⟩, ⟨p4, p, b', rfl, .inl (.inl upd_same), ?_, ?_⟩, ⟨⟨ti.ok, ti.nz, si.ok⟩, ⟨ti.bd, si.bd⟩, ti.mem⟩⟩
  · exact same_T sp' (keep_T (keep_T it hd2 k3) hd3 keep_upd)
  · exact same_T sp' (keep_T is hd3 keep_upd)
end
end My

namespace My
open PySem L2 Mth
abbrev s_are_parallel : Stmt := topS 26
theorem sc_are_parallel : FnScope ["one", "other"] ["one", "other"] (defScope s_are_parallel) := ⟨rfl, rfl, rfl, by decide +kernel, rfl, by decide +kernel, by decide +kernel⟩
abbrev s_crossing : Stmt := topS 27
theorem sc_crossing : FnScope ["one", "other", "a", "b", "c", "p", "q", "r"] ["one", "other"] (defScope s_crossing) := ⟨rfl, rfl, rfl, by decide +kernel, rfl, by decide +kernel, by decide +kernel⟩
abbrev s_equations : Stmt := topS 28
theorem sc_equations : FnScope ["right", "up", "goal", "a", "p", "d", "b", "q", "e", "c", "r", "f"] ["right", "up", "goal"] (defScope s_equations) := ⟨rfl, rfl, rfl, by decide +kernel, rfl, by decide +kernel, by decide +kernel⟩
abbrev s_is_on_line : Stmt := topS 25
theorem sc_is_on_line : FnScope ["spot", "line", "x", "y", "d", "a", "b", "c"] ["spot", "line"] (defScope s_is_on_line) := ⟨rfl, rfl, rfl, by decide +kernel, rfl, by decide +kernel, by decide +kernel⟩
abbrev s_line_form : Stmt := topS 24
theorem sc_line_form : FnScope ["a", "b", "c", "divisor"] ["a", "b", "c"] (defScope s_line_form) := ⟨rfl, rfl, rfl, by decide +kernel, rfl, by decide +kernel, by decide +kernel⟩
section
variable {P : Program} {w : World} {K : PySem.W.Frag} {mg : Str → Option Value} {base : Heap}
/-! ### lines -/
theorem dv_lt {g a : Int} {n : Nat} (d : g ∣ a) (h : a ≠ 0) (b : a.natAbs < 2 ^ n) : g.natAbs < 2 ^ n := by
  obtain ⟨u, hu⟩ := d
  have hu0 : u ≠ 0 := fun z => by rw [z, Int.mul_zero] at hu; exact h hu
  have e : g.natAbs * u.natAbs = a.natAbs := by rw [← Int.natAbs_mul, ← hu]
  have h1 : 1 ≤ u.natAbs := by omega
  have h2 : g.natAbs * 1 ≤ g.natAbs * u.natAbs := Nat.mul_le_mul_left _ h1
  omega
theorem sgl_lt {r : T3} {n : Nat} (h : r.1 ≠ 0 ∨ r.2.1 ≠ 0) (b : B n r) : (sgl r.1 r.2.1 r.2.2).natAbs < 2 ^ n := by
  rcases h with h | h
  · exact dv_lt sgl_d1 h b.1
  · exact dv_lt sgl_d2 h b.2.1
def sp_line (K : PySem.W.Frag) : Sp := fun vs H Q _ => ∃ r : T3, vs = [.int r.1, .int r.2.1, .int r.2.2] ∧ (r.1 ≠ 0 ∨ r.2.1 ≠ 0) ∧ B 8000 r ∧ ∀ H' v, Same H H' → IsT K H' v (lf r) → Q v H'
theorem ok_line_form {f : Addr} {fd : FuncData} (d_common_divisor : D P w K mg base "common_divisor" 1 sp_gcd) (F : Fun K "line_form" "line_form" s_line_form f fd) : FnOk P w K mg base CX0 2 f fd ["a", "b", "c"] (sp_line K) := by
  refine F.ok sc_line_form (fun vs H Q E h => ?_) (fun cdv A outer s H vs Q E hr h => ?_)
  · obtain ⟨r, rfl, _⟩ := h
    rfl
  obtain ⟨r, rfl, hn, hb, q⟩ := h
  have hs := sgl_ne (c := r.2.2) hn
  have hl := sgl_lt hn hb
  obtain ⟨a, b, c⟩ := r
  dsimp only at *
  refine ⟨_, (pss_cons (ps_set (i := 3) sc_line_form.nd rfl (by first | exact Or.inl rfl | exact Or.inr rfl) (pc d_common_divisor (hr.mono (by decide)) (pa_cons (pc d_common_divisor (hr.mono (by decide)) (pa_cons (pv 0) (pa_cons (pv 1) pa_nil))) (pa_cons (pv 2) pa_nil))))
    (pss_cons (ps_if (PW.pt (pw_or (pt_cmpR (op_lt) (pv 0) pe_int (nomark _)) (pw_or1 (PW.pt (pw_and (pt_cmpR (op_eq) (pv 0) pe_int (nomark _)) (pw_and1 (pt_cmpR (op_lt) (pv 1) pe_int (nomark _)))))))) (pss_one (ps_set (i := 3) sc_line_form.nd rfl (by first | exact Or.inl rfl | exact Or.inr rfl) (pe_un un_neg (pv 3)))) pss_nil)
    (pss_one (ps_ret (pe_tup (pa_cons (pe_op op_fdivX (pv 0) (pv 3)) (pa_cons (pe_op op_fdivX (pv 1) (pv 3)) (pa_cons (pe_op op_fdivX (pv 2) (pv 3)) pa_nil)))))))), ?_⟩
  refine ⟨_, rfl, _, rfl, _, _, rfl, _, rfl, _, _, rfl, ?_⟩
  have hc : CDivX a (sgl a b c) ∧ CDivX b (sgl a b c) ∧ CDivX c (sgl a b c) := ⟨divX hs hl (by decide) (by decide), divX hs hl (by decide) (by decide), divX hs hl (by decide) (by decide)⟩
  have fin : ∀ H' v, Same H H' → IsT K H' v (a.fdiv (sgl a b c), b.fdiv (sgl a b c), c.fdiv (sgl a b c)) → Q v H' := q
  have neg : sgl a b c = -(g3 a b c) → (tAsg (tUn (rU fun i => .int (-i)) (tVar 3)) (gName 3)) { nx := tRet (tTup (tCons (tOp (rI CDivX fun i j => .int (i.fdiv j)) (tVar 0) (tVar 3)) (tCons (tOp (rI CDivX fun i j => .int (i.fdiv j)) (tVar 1) (tVar 3)) (tCons (tOp (rI CDivX fun i j => .int (i.fdiv j)) (tVar 2) (tVar 3)) tNil)))) { nx := fun _ H' => Q .non H', rt := Q }, rt := Q } [some (.int a), some (.int b), some (.int c), some (.int (g3 a b c))] H := fun es => by
    refine ⟨_, rfl, _, rfl, ?_⟩
    rw [es] at hc fin
    refine ⟨_, rfl, _, rfl, _, _, rfl, rfl, hc.1, _, rfl, _, rfl, _, _, rfl, rfl, hc.2.1, _, rfl, _, rfl, _, _, rfl, rfl, hc.2.2, (by show 3 ≤ sizeLine; decide), fun p hp => ?_⟩
    exact fin _ _ (same_new hp _) IsT.new
  have pos : sgl a b c = g3 a b c → (tRet (tTup (tCons (tOp (rI CDivX fun i j => .int (i.fdiv j)) (tVar 0) (tVar 3)) (tCons (tOp (rI CDivX fun i j => .int (i.fdiv j)) (tVar 1) (tVar 3)) (tCons (tOp (rI CDivX fun i j => .int (i.fdiv j)) (tVar 2) (tVar 3)) tNil))))) { nx := fun _ H' => Q .non H', rt := Q } [some (.int a), some (.int b), some (.int c), some (.int (g3 a b c))] H := fun es => by
    rw [es] at hc fin
    refine ⟨_, rfl, _, rfl, _, _, rfl, rfl, hc.1, _, rfl, _, rfl, _, _, rfl, rfl, hc.2.1, _, rfl, _, rfl, _, _, rfl, rfl, hc.2.2, (by show 3 ≤ sizeLine; decide), fun p hp => ?_⟩
    exact fin _ _ (same_new hp _) IsT.new
  refine ⟨_, rfl, _, _, rfl, rfl, _, rfl, ?_⟩
  refine ite2 (fun c1 => ?_) (fun c1 => ?_)
  · refine iteT (neg ?_)
    exact if_pos (.inl (of_decide_eq_true c1))
  · have n1 : ¬ a < 0 := of_decide_eq_false (Bool.eq_false_iff.mpr c1)
    refine ⟨_, rfl, rfl, _, rfl, ?_⟩
    refine ite2 (fun c2 => ?_) (fun c2 => ?_)
    · have e2 : a = 0 := V.int.inj (of_decide_eq_true c2)
      refine ⟨_, rfl, _, _, rfl, rfl, _, rfl, ?_⟩
      refine ite2 (fun c3 => ?_) (fun c3 => ?_)
      · exact neg (if_pos (.inr ⟨e2, of_decide_eq_true c3⟩))
      · exact pos (if_neg (by
          have := of_decide_eq_false (Bool.eq_false_iff.mpr c3)
          rintro (z | ⟨_, z⟩)
          · exact n1 z
          · exact this z))
    · have n2 : ¬ a = 0 := fun z => c2 (decide_eq_true (congrArg V.int z))
      refine iteF (pos (if_neg ?_))
      rintro (z | ⟨z, _⟩)
      · exact n1 z
      · exact n2 z
def sp_on (K : PySem.W.Frag) : Sp := fun vs H Q _ => ∃ vz vl z l, vs = [vz, vl] ∧ IsT K H vz z ∧ IsT K H vl l ∧ B 8000 z ∧ B 8000 l ∧ Q (.bl (decide (on l z))) H
theorem ok_is_on_line {f : Addr} {fd : FuncData} (F : Fun K "is_on_line" "is_on_line" s_is_on_line f fd) : FnOk P w K mg base CX0 1 f fd ["spot", "line"] (sp_on K) := by
  refine F.ok sc_is_on_line (fun vs H Q E h => ?_) (fun cdv A outer s H vs Q E hr h => ?_)
  · obtain ⟨vz, vl, z, l, rfl, _⟩ := h
    rfl
  obtain ⟨vz, vl, ⟨x, y, d⟩, ⟨a, b, c⟩, rfl, ⟨pz, rfl, tz⟩, ⟨pl, rfl, tl⟩, ⟨z1, z2, z3⟩, ⟨l1, l2, l3⟩, q⟩ := h
  refine ⟨_, (pss_cons (ps_asg (pv 0) (pg_tup rfl (pgs_cons (pg_name (i := 2) sc_is_on_line.nd rfl (by first | exact Or.inl rfl | exact Or.inr rfl)) (pgs_cons (pg_name (i := 3) sc_is_on_line.nd rfl (by first | exact Or.inl rfl | exact Or.inr rfl)) (pgs_cons (pg_name (i := 4) sc_is_on_line.nd rfl (by first | exact Or.inl rfl | exact Or.inr rfl)) pgs_nil)))))
    (pss_cons (ps_asg (pv 1) (pg_tup rfl (pgs_cons (pg_name (i := 5) sc_is_on_line.nd rfl (by first | exact Or.inl rfl | exact Or.inr rfl)) (pgs_cons (pg_name (i := 6) sc_is_on_line.nd rfl (by first | exact Or.inl rfl | exact Or.inr rfl)) (pgs_cons (pg_name (i := 7) sc_is_on_line.nd rfl (by first | exact Or.inl rfl | exact Or.inr rfl)) pgs_nil)))))
    (pss_one (ps_ret (pe_cmpR (op_eq) (pe_op op_add (pe_op op_mulW (pv 5) (pv 2)) (pe_op op_mulW (pv 6) (pv 3))) (pe_op op_mulW (pv 7) (pv 4)) (nomark _)))))), ?_⟩
  refine ⟨_, rfl, _, _, rfl, tz, rfl, _, _, rfl, _, _, rfl, _, _, rfl, rfl, ?_⟩
  refine ⟨_, rfl, _, _, rfl, tl, rfl, _, _, rfl, _, _, rfl, _, _, rfl, rfl, ?_⟩
  refine ⟨_, rfl, _, rfl, _, _, rfl, rfl, mulW l1 z1, _, rfl, _, rfl, _, _, rfl, rfl, mulW l2 z2, _, _, rfl, rfl, _, rfl, _, rfl, _, _, rfl, rfl, mulW l3 z3, rfl, ?_⟩
  rw [dI]
  exact q
def sp_par (K : PySem.W.Frag) : Sp := fun vs H Q _ => ∃ vl vm l m, vs = [vl, vm] ∧ IsT K H vl l ∧ IsT K H vm m ∧ B 8000 l ∧ B 8000 m ∧ Q (.bl (decide (l.1 * m.2.1 = m.1 * l.2.1))) H
theorem ok_are_parallel {f : Addr} {fd : FuncData} (F : Fun K "are_parallel" "are_parallel" s_are_parallel f fd) : FnOk P w K mg base CX0 1 f fd ["one", "other"] (sp_par K) := by
  refine F.ok sc_are_parallel (fun vs H Q E h => ?_) (fun cdv A outer s H vs Q E hr h => ?_)
  · obtain ⟨vl, vm, l, m, rfl, _⟩ := h
    rfl
  obtain ⟨vl, vm, ⟨a, b, c⟩, ⟨u, v, w'⟩, rfl, ⟨pl, rfl, tl⟩, ⟨pm, rfl, tm⟩, ⟨l1, l2, l3⟩, ⟨m1, m2, m3⟩, q⟩ := h
  refine ⟨_, (pss_one (ps_ret (pe_cmpR (op_eq) (pe_op op_mulW (pe_ix (r := rIxT K) ix_tup (pv 0) pe_int (fun _ _ => rfl)) (pe_ix (r := rIxT K) ix_tup (pv 1) pe_int (fun _ _ => rfl))) (pe_op op_mulW (pe_ix (r := rIxT K) ix_tup (pv 1) pe_int (fun _ _ => rfl)) (pe_ix (r := rIxT K) ix_tup (pv 0) pe_int (fun _ _ => rfl))) (nomark _)))), ?_⟩
  refine ⟨_, rfl, _, _, _, _, rfl, rfl, tl, by rfl, _, rfl, _, _, _, _, rfl, rfl, tm, by rfl, _, _, rfl, rfl, mulW l1 m2, _, rfl, _, _, _, _, rfl, rfl, tm, by rfl, _, rfl, _, _, _, _, rfl, rfl, tl, by rfl, _, _, rfl, rfl, mulW m1 l2, rfl, ?_⟩
  rw [dI]
  exact q
def sp_cross (K : PySem.W.Frag) : Sp := fun vs H Q _ => ∃ vl vm l m, vs = [vl, vm] ∧ IsT K H vl l ∧ IsT K H vm m ∧ B 4000 l ∧ B 4000 m ∧ l.1 * m.2.1 ≠ m.1 * l.2.1 ∧ ∀ H' v, Same H H' → IsT K H' v (cross l m) → Q v H'
theorem ok_crossing {f : Addr} {fd : FuncData} (d_spot_at : D P w K mg base "spot_at" 2 (sp_low K)) (F : Fun K "crossing" "crossing" s_crossing f fd) : FnOk P w K mg base CX0 3 f fd ["one", "other"] (sp_cross K) := by
  refine F.ok sc_crossing (fun vs H Q E h => ?_) (fun cdv A outer s H vs Q E hr h => ?_)
  · obtain ⟨vl, vm, l, m, rfl, _⟩ := h
    rfl
  obtain ⟨vl, vm, ⟨a, b, c⟩, ⟨u, v, w'⟩, rfl, ⟨pl, rfl, tl⟩, ⟨pm, rfl, tm⟩, ⟨l1, l2, l3⟩, ⟨m1, m2, m3⟩, hd, q⟩ := h
  dsimp only at hd
  refine ⟨_, (pss_cons (ps_asg (pv 0) (pg_tup rfl (pgs_cons (pg_name (i := 2) sc_crossing.nd rfl (by first | exact Or.inl rfl | exact Or.inr rfl)) (pgs_cons (pg_name (i := 3) sc_crossing.nd rfl (by first | exact Or.inl rfl | exact Or.inr rfl)) (pgs_cons (pg_name (i := 4) sc_crossing.nd rfl (by first | exact Or.inl rfl | exact Or.inr rfl)) pgs_nil)))))
    (pss_cons (ps_asg (pv 1) (pg_tup rfl (pgs_cons (pg_name (i := 5) sc_crossing.nd rfl (by first | exact Or.inl rfl | exact Or.inr rfl)) (pgs_cons (pg_name (i := 6) sc_crossing.nd rfl (by first | exact Or.inl rfl | exact Or.inr rfl)) (pgs_cons (pg_name (i := 7) sc_crossing.nd rfl (by first | exact Or.inl rfl | exact Or.inr rfl)) pgs_nil)))))
    (pss_one (ps_ret (pc d_spot_at (hr.mono (by decide)) (pa_cons (pe_op op_sub (pe_op op_mulW (pv 4) (pv 6)) (pe_op op_mulW (pv 7) (pv 3))) (pa_cons (pe_op op_sub (pe_op op_mulW (pv 2) (pv 7)) (pe_op op_mulW (pv 5) (pv 4))) (pa_cons (pe_op op_sub (pe_op op_mulW (pv 2) (pv 6)) (pe_op op_mulW (pv 5) (pv 3))) pa_nil)))))))), ?_⟩
  refine ⟨_, rfl, _, _, rfl, tl, rfl, _, _, rfl, _, _, rfl, _, _, rfl, rfl, ?_⟩
  refine ⟨_, rfl, _, _, rfl, tm, rfl, _, _, rfl, _, _, rfl, _, _, rfl, rfl, ?_⟩
  refine ⟨_, rfl, _, rfl, _, _, rfl, rfl, mulW l3 m2, _, rfl, _, rfl, _, _, rfl, rfl, mulW m3 l2, _, _, rfl, rfl, ?_⟩
  refine ⟨_, rfl, _, rfl, _, _, rfl, rfl, mulW l1 m3, _, rfl, _, rfl, _, _, rfl, rfl, mulW m1 l3, _, _, rfl, rfl, ?_⟩
  refine ⟨_, rfl, _, rfl, _, _, rfl, rfl, mulW l1 m2, _, rfl, _, rfl, _, _, rfl, rfl, mulW m1 l2, _, _, rfl, rfl, ?_⟩
  exact ⟨_, _, _, rfl, (fun z => hd (Int.sub_eq_zero.mp z)), up_lt (by decide) (sub_lt (mul_lt l1 m2) (mul_lt m1 l2)), q⟩
/-- a list of tuples of three ints -/
def IsTL (K : PySem.W.Frag) (H : Hp) (L : Addr) (ts : List T3) : Prop := ∃ ps : List Addr, H L = some (.lst (ps.map V.ref)) ∧ Paired (fun p t => SqT K H p (v3 t)) ps ts
theorem IsTL.same {H H' : Hp} {L : Addr} {ts : List T3} (h : IsTL K H L ts) (s : Same H H') : IsTL K H' L ts := by
  obtain ⟨ps, h1, h2⟩ := h
  exact ⟨ps, s _ _ h1, paired_imp (fun p t z => same_T s z) h2⟩
theorem m1000 {a b : Int} (ha : a.natAbs < 2 ^ 1000) (hb : b.natAbs < 2 ^ 1000) : (a * b).natAbs < 2 ^ (1999 + 1) := mul_lt (n := 1000) (m := 1000) ha hb
def sp_eqs (K : PySem.W.Frag) : Sp := fun vs H Q _ => ∃ vr vu vg R U G, vs = [vr, vu, vg] ∧ IsT K H vr R ∧ IsT K H vu U ∧ IsT K H vg G ∧ B 1000 R ∧ B 1000 U ∧ B 1000 G ∧ ∀ H' L, Same H H' → IsTL K H' L (eqs R U G) → Q (.ref L) H'
theorem ok_equations {f : Addr} {fd : FuncData} (F : Fun K "equations" "equations" s_equations f fd) : FnOk P w K mg base CX0 1 f fd ["right", "up", "goal"] (sp_eqs K) := by
  refine F.ok sc_equations (fun vs H Q E h => ?_) (fun cdv A outer s H vs Q E hr h => ?_)
  · obtain ⟨vr, vu, vg, R, U, G, rfl, _⟩ := h
    rfl
  obtain ⟨vr, vu, vg, ⟨a, p, d⟩, ⟨b, q', e⟩, ⟨c, r, f'⟩, rfl, ⟨pr, rfl, tr⟩, ⟨pu, rfl, tu⟩, ⟨pg, rfl, tg⟩, ⟨r1, r2, r3⟩, ⟨u1, u2, u3⟩, ⟨g1, g2, g3'⟩, q⟩ := h
  refine ⟨_, (pss_cons (ps_asg (pv 0) (pg_tup rfl (pgs_cons (pg_name (i := 3) sc_equations.nd rfl (by first | exact Or.inl rfl | exact Or.inr rfl)) (pgs_cons (pg_name (i := 4) sc_equations.nd rfl (by first | exact Or.inl rfl | exact Or.inr rfl)) (pgs_cons (pg_name (i := 5) sc_equations.nd rfl (by first | exact Or.inl rfl | exact Or.inr rfl)) pgs_nil)))))
    (pss_cons (ps_asg (pv 1) (pg_tup rfl (pgs_cons (pg_name (i := 6) sc_equations.nd rfl (by first | exact Or.inl rfl | exact Or.inr rfl)) (pgs_cons (pg_name (i := 7) sc_equations.nd rfl (by first | exact Or.inl rfl | exact Or.inr rfl)) (pgs_cons (pg_name (i := 8) sc_equations.nd rfl (by first | exact Or.inl rfl | exact Or.inr rfl)) pgs_nil)))))
    (pss_cons (ps_asg (pv 2) (pg_tup rfl (pgs_cons (pg_name (i := 9) sc_equations.nd rfl (by first | exact Or.inl rfl | exact Or.inr rfl)) (pgs_cons (pg_name (i := 10) sc_equations.nd rfl (by first | exact Or.inl rfl | exact Or.inr rfl)) (pgs_cons (pg_name (i := 11) sc_equations.nd rfl (by first | exact Or.inl rfl | exact Or.inr rfl)) pgs_nil)))))
    (pss_one (ps_ret (pe_lst (pa_cons (pe_tup (pa_cons (pe_op op_mulW (pe_op op_mulW (pv 3) (pv 8)) (pv 11)) (pa_cons (pe_op op_mulW (pe_op op_mulW (pv 6) (pv 5)) (pv 11)) (pa_cons (pe_op op_mulW (pe_op op_mulW (pv 9) (pv 5)) (pv 8)) pa_nil)))) (pa_cons (pe_tup (pa_cons (pe_op op_mulW (pe_op op_mulW (pv 4) (pv 8)) (pv 11)) (pa_cons (pe_op op_mulW (pe_op op_mulW (pv 7) (pv 5)) (pv 11)) (pa_cons (pe_op op_mulW (pe_op op_mulW (pv 10) (pv 5)) (pv 8)) pa_nil)))) pa_nil)))))))), ?_⟩
  refine ⟨_, rfl, _, _, rfl, tr, rfl, _, _, rfl, _, _, rfl, _, _, rfl, rfl, ?_⟩
  refine ⟨_, rfl, _, _, rfl, tu, rfl, _, _, rfl, _, _, rfl, _, _, rfl, rfl, ?_⟩
  refine ⟨_, rfl, _, _, rfl, tg, rfl, _, _, rfl, _, _, rfl, _, _, rfl, rfl, ?_⟩
  refine ⟨_, rfl, _, rfl, _, _, rfl, rfl, mulW r1 u3, _, rfl, _, _, rfl, rfl, mulW (a := 1999) (m1000 r1 u3) g3', ?_⟩
  refine ⟨_, rfl, _, rfl, _, _, rfl, rfl, mulW u1 r3, _, rfl, _, _, rfl, rfl, mulW (a := 1999) (m1000 u1 r3) g3', ?_⟩
  refine ⟨_, rfl, _, rfl, _, _, rfl, rfl, mulW g1 r3, _, rfl, _, _, rfl, rfl, mulW (a := 1999) (m1000 g1 r3) u3, (by show 3 ≤ sizeLine; decide), fun p1 hp1 => ?_⟩
  refine ⟨_, rfl, _, rfl, _, _, rfl, rfl, mulW r2 u3, _, rfl, _, _, rfl, rfl, mulW (a := 1999) (m1000 r2 u3) g3', ?_⟩
  refine ⟨_, rfl, _, rfl, _, _, rfl, rfl, mulW u2 r3, _, rfl, _, _, rfl, rfl, mulW (a := 1999) (m1000 u2 r3) g3', ?_⟩
  refine ⟨_, rfl, _, rfl, _, _, rfl, rfl, mulW g2 r3, _, rfl, _, _, rfl, rfl, mulW (a := 1999) (m1000 g2 r3) u3, (by show 3 ≤ sizeLine; decide), fun p2 hp2 => ?_⟩
  refine ⟨(by show 2 ≤ sizeLine; decide), fun L hL => ?_⟩
  have s1 := same_new hp1 (.tup [.int (a * e * f'), .int (b * d * f'), .int (c * d * e)])
  have s2 := same_new hp2 (.tup [.int (p * e * f'), .int (q' * d * f'), .int (r * d * e)])
  have s3 := same_new hL (.lst [.ref p1, .ref p2])
  exact q _ _ (s1.trans (s2.trans s3)) ⟨[p1, p2], upd_same, .cons (same_T (s2.trans s3) (.inl (.inl upd_same))) (.cons (same_T s3 (.inl (.inl upd_same))) .nil)⟩
end
end My

namespace My
open PySem L2 Mth
abbrev s_solution : Stmt := topS 29
theorem sc_solution : FnScope ["rows", "a", "b", "c", "lines", "first", "others", "line", "spot"] ["rows"] (defScope s_solution) := ⟨rfl, rfl, rfl, by decide +kernel, rfl, by decide +kernel, by decide +kernel⟩
section
variable {P : Program} {w : World} {K : PySem.W.Frag} {mg : Str → Option Value} {base : Heap}
/-- what is kept, as it is told -/
def IsK (K : PySem.W.Frag) (H : Hp) (v : V) : KS → Prop
  | .all => ∃ p, v = .ref p ∧ SqT K H p [.str "all"]
  | .none => ∃ p, v = .ref p ∧ SqT K H p [.str "none"]
  | .spot s => ∃ p q, v = .ref p ∧ SqT K H p [.str "spot", .ref q] ∧ SqT K H q (v3 s)
  | .line l => ∃ p, v = .ref p ∧ SqT K H p [.str "line", .int l.1, .int l.2.1, .int l.2.2]
theorem IsK.same {H H' : Hp} {v : V} {k : KS} (h : IsK K H v k) (s : Same H H') : IsK K H' v k := by
  cases k with
  | all => obtain ⟨p, e, h⟩ := h; exact ⟨p, e, same_T s h⟩
  | none => obtain ⟨p, e, h⟩ := h; exact ⟨p, e, same_T s h⟩
  | spot z => obtain ⟨p, q, e, h1, h2⟩ := h; exact ⟨p, q, e, same_T s h1, same_T s h2⟩
  | line l => obtain ⟨p, e, h⟩ := h; exact ⟨p, e, same_T s h⟩
/-- what a comprehension has made so far -/
def TLx (K : PySem.W.Frag) (L : Addr) (H H' : Hp) (ts : List T3) : Prop := Same H H' ∧ IsTL K H' L ts
theorem tl_start {L : Addr} {H : Hp} (hL : H L = none) : TLx K L H (upd H L (.lst [])) [] := ⟨same_new hL _, [], upd_same, .nil⟩
theorem tl_more {L p : Addr} {H H1 H2 : Hp} {ts : List T3} {t : T3} {ps : List Addr} (hL : H L = none) (s1 : Same H H1) (h1 : H1 L = some (.lst (ps.map V.ref))) (a : Paired (fun p t => SqT K H1 p (v3 t)) ps ts) (s2 : Same H1 H2) (i : SqT K H2 p (v3 t)) :
    TLx K L H (upd H2 L (.lst (ps.map V.ref ++ [.ref p]))) (ts ++ [t]) := by
  have h2 := s2 _ _ h1
  refine ⟨fun b o e => ?_, ps ++ [p], by rw [upd_same, List.map_append]; rfl, paired_app (paired_imp (fun p t z => keep_T (same_T s2 z) h2 keep_upd) a) (.cons (keep_T i h2 keep_upd) .nil)⟩
  rw [upd_ne (ne_of_none e hL)]
  exact s2 _ _ (s1 _ _ e)
theorem tl_at {ps : List Addr} {ts : List T3} {R : Addr → T3 → Prop} (h : Paired R ps ts) {i : Nat} {x : V} (e : (ps.map V.ref)[i]? = some x) : ∃ p t, x = .ref p ∧ ts[i]? = some t ∧ R p t := by
  rw [List.getElem?_map] at e
  cases e2 : ps[i]? with
  | none => rw [e2] at e; cases e
  | some p =>
    rw [e2] at e
    have hl := Paired.length h
    have hi : i < ps.length := (List.getElem?_eq_some_iff.mp e2).1
    obtain ⟨p', t, h1, h2⟩ := (show ∃ p' t, ps[i]? = some p' ∧ (ts[i]? = some t ∧ R p' t) from by
      clear e e2
      induction h generalizing i with
      | nil => cases hi
      | cons r _ ih =>
        cases i with
        | zero => exact ⟨_, _, rfl, rfl, r⟩
        | succ i =>
          obtain ⟨p', t, a, b⟩ := ih (i := i) (by simpa using hl) (by simpa using hi)
          exact ⟨p', t, by simpa using a, by simpa using b⟩)
    rw [e2] at h1
    cases Option.some.inj h1
    exact ⟨p, t, (Option.some.inj e).symm, h2.1, h2.2⟩
theorem bad_eq (r : T3) : (decide (V.int r.1 = V.int 0) && (decide (V.int r.2.1 = V.int 0) && !decide (V.int r.2.2 = V.int 0))) = bad r := by
  rw [dI, dI, dI]; rfl
theorem take_map {α β : Type} (f : α → β) {l : List α} {i : Nat} {x : α} (h : l[i]? = some x) : (l.take (i + 1)).map f = (l.take i).map f ++ [f x] := by
  rw [take_more h, List.map_append]; rfl
theorem take_filter {α : Type} (p : α → Bool) {l : List α} {i : Nat} {x : α} (h : l[i]? = some x) : (l.take (i + 1)).filter p = (l.take i).filter p ++ (if p x = true then [x] else []) := by
  rw [take_more h, List.filter_append]
  congr 1
  by_cases c : p x = true
  · rw [if_pos c]; simp [c]
  · rw [if_neg c]; simp [c]
def sp_sol (K : PySem.W.Frag) : Sp := fun vs H Q _ => ∃ L rows, vs = [.ref L] ∧ IsTL K H L rows ∧ (∀ r ∈ rows, B 3900 r) ∧ rows.length ≤ 100 ∧ ∀ H' v, Same H H' → IsK K H' v (sol rows) → Q v H'
theorem ok_solution {f : Addr} {fd : FuncData} (b_any : mg "any" = none) (b_all : mg "all" = none) (d_line_form : D P w K mg base "line_form" 2 (sp_line K)) (d_is_on_line : D P w K mg base "is_on_line" 1 (sp_on K)) (d_are_parallel : D P w K mg base "are_parallel" 1 (sp_par K)) (d_crossing : D P w K mg base "crossing" 3 (sp_cross K))
    (F : Fun K "solution" "solution" s_solution f fd) : FnOk P w K mg base CX0 4 f fd ["rows"] (sp_sol K) := by
  refine F.ok sc_solution (fun vs H Q E h => ?_) (fun cdv A outer s H vs Q E hr h => ?_)
  · obtain ⟨L, rows, rfl, _⟩ := h
    rfl
  obtain ⟨L, rows, rfl, ⟨ps, hL, hps⟩, hB, hlen, q⟩ := h
  refine ⟨_, (pss_cons (ps_if (pt_val (pe_callB (cr_any rfl) (by rfl) b_any (by decide +kernel) (pa_cons (pe_lc (own := [("a", 1), ("b", 2), ("c", 3)]) (g := gTup K 3 (gCons (gName 1) (gCons (gName 2) (gCons (gName 3) gNil)))) (tt := tYes) (by rfl) sc_solution.nd (pi_list (pv 0)) (blkOk_by (own := [("a", 1), ("b", 2), ("c", 3)]) (N := ["rows", "a", "b", "c", "lines", "first", "others", "line", "spot"]) (sc := defScope s_solution) (by decide +kernel)) (fun _ _ _ _ _ => (pg_tup rfl (pgs_cons (pg_name (i := 1) sc_solution.nd rfl (by first | exact Or.inl rfl | exact Or.inr rfl)) (pgs_cons (pg_name (i := 2) sc_solution.nd rfl (by first | exact Or.inl rfl | exact Or.inr rfl)) (pgs_cons (pg_name (i := 3) sc_solution.nd rfl (by first | exact Or.inl rfl | exact Or.inr rfl)) pgs_nil))))) (fun _ _ _ _ _ => pts_nil) (fun _ _ _ _ _ => (pe_and (pe_cmpR (op_eq) (pv 1) pe_int (nomark _)) (pe_and (pe_cmpR (op_eq) (pv 2) pe_int (nomark _)) (pe_one (pe_cmpR (op_ne) (pv 3) pe_int (nomark _))))))) pa_nil))) (pss_one (ps_ret (pe_tup (pa_cons pe_str pa_nil)))) pss_nil)
    (pss_cons (ps_setLc (i := 4) (own := [("a", 1), ("b", 2), ("c", 3)]) (g := gTup K 3 (gCons (gName 1) (gCons (gName 2) (gCons (gName 3) gNil)))) (by rfl) sc_solution.nd rfl rfl (sw_true rfl rfl rfl (by decide +kernel)) (pi_list (pv 0)) (blkOk_by (own := [("a", 1), ("b", 2), ("c", 3)]) (N := ["rows", "a", "b", "c", "lines", "first", "others", "line", "spot"]) (sc := defScope s_solution) (by decide +kernel)) (fun _ _ _ _ _ => (pg_tup rfl (pgs_cons (pg_name (i := 1) sc_solution.nd rfl (by first | exact Or.inl rfl | exact Or.inr rfl)) (pgs_cons (pg_name (i := 2) sc_solution.nd rfl (by first | exact Or.inl rfl | exact Or.inr rfl)) (pgs_cons (pg_name (i := 3) sc_solution.nd rfl (by first | exact Or.inl rfl | exact Or.inr rfl)) pgs_nil))))) (fun _ _ _ _ _ => (pts_one (PW.pt (pw_or (pt_cmpR (op_ne) (pv 1) pe_int (nomark _)) (pw_or1 (pt_cmpR (op_ne) (pv 2) pe_int (nomark _))))))) (fun _ _ _ _ _ => (pc d_line_form (hr.mono (by decide)) (pa_cons (pv 1) (pa_cons (pv 2) (pa_cons (pv 3) pa_nil))))))
    (pss_cons (ps_if (pt_not (pt_truth (pv 4) (by intro _; rfl))) (pss_one (ps_ret (pe_tup (pa_cons pe_str pa_nil)))) pss_nil)
    (pss_cons (ps_set (i := 5) sc_solution.nd rfl (by first | exact Or.inl rfl | exact Or.inr rfl) (pe_ix (r := rIxL K) ix_list (pv 4) pe_int (fun _ _ => rfl)))
    (pss_cons (ps_setLc (i := 6) (own := [("line", 7)]) (g := gName 7) (by rfl) sc_solution.nd rfl rfl (sw_true rfl rfl rfl (by decide +kernel)) (pi_list (pv 4)) (blkOk_by (own := [("line", 7)]) (N := ["rows", "a", "b", "c", "lines", "first", "others", "line", "spot"]) (sc := defScope s_solution) (by decide +kernel)) (fun _ _ _ _ _ => (pg_name (i := 7) sc_solution.nd rfl (by first | exact Or.inl rfl | exact Or.inr rfl))) (fun _ _ _ _ _ => (pts_one (pt_cmpR (r := rNeD K) (op_neD hr.units) (pv 7) (pv 5) (nomark _)))) (fun _ _ _ _ _ => (pv 7)))
    (pss_cons (ps_if (pt_not (pt_truth (pv 6) (by intro _; rfl))) (pss_one (ps_ret (pe_tup (pa_cons pe_str (StX.pa_star (pv 5) pa_nil))))) pss_nil)
    (pss_cons (ps_if (pt_val (pc d_are_parallel (hr.mono (by decide)) (pa_cons (pv 5) (pa_cons (pe_ix (r := rIxL K) ix_list (pv 6) pe_int (fun _ _ => rfl)) pa_nil)))) (pss_one (ps_ret (pe_tup (pa_cons pe_str pa_nil)))) pss_nil)
    (pss_cons (ps_set (i := 8) sc_solution.nd rfl (by first | exact Or.inl rfl | exact Or.inr rfl) (pc d_crossing (hr.mono (by decide)) (pa_cons (pv 5) (pa_cons (pe_ix (r := rIxL K) ix_list (pv 6) pe_int (fun _ _ => rfl)) pa_nil))))
    (pss_cons (ps_if (pt_val (pe_callB (cr_all rfl) (by rfl) b_all (by decide +kernel) (pa_cons (pe_lc (own := [("line", 7)]) (g := gName 7) (tt := tYes) (by rfl) sc_solution.nd (pi_list (pv 4)) (blkOk_by (own := [("line", 7)]) (N := ["rows", "a", "b", "c", "lines", "first", "others", "line", "spot"]) (sc := defScope s_solution) (by decide +kernel)) (fun _ _ _ _ _ => (pg_name (i := 7) sc_solution.nd rfl (by first | exact Or.inl rfl | exact Or.inr rfl))) (fun _ _ _ _ _ => pts_nil) (fun _ _ _ _ _ => (pc d_is_on_line (hr.mono (by decide)) (pa_cons (pv 8) (pa_cons (pv 7) pa_nil))))) pa_nil))) (pss_one (ps_ret (pe_tup (pa_cons pe_str (pa_cons (pv 8) pa_nil))))) pss_nil)
    (pss_one (ps_ret (pe_tup (pa_cons pe_str pa_nil))))))))))))), ?_⟩
  have hpl := Paired.length hps
  refine ⟨_, rfl, L, rfl, ⟨_, .inl (.inl hL)⟩, fun A1 hA1 => lc_list (K := K) (a := L) (xs := ps.map V.ref) (fun i H' => ∃ bs : List Bool, H' = upd H A1 (.lst (bs.map V.bl)) ∧ bs = (rows.take i).map bad) ⟨[], rfl, rfl⟩ ?_ ?_ ?_⟩
  · rintro i H' _ ⟨bs, rfl, _⟩
    exact .inl (.inl ((same_new hA1 _) _ _ hL))
  · rintro i x H' hx ⟨bs, rfl, eb⟩
    obtain ⟨p, r, rfl, hr', tr⟩ := tl_at hps hx
    have tr' := same_T (same_new hA1 (.lst (bs.map V.bl))) tr
    have fin : ∃ acc : List V, upd H A1 (.lst (bs.map V.bl)) A1 = some (.lst acc) ∧ acc.length < sizeLine ∧ ∃ bs', upd (upd H A1 (.lst (bs.map V.bl))) A1 (.lst (acc ++ [.bl (bad r)])) = upd H A1 (.lst (bs'.map V.bl)) ∧ bs' = (rows.take (i + 1)).map bad := by
      refine ⟨_, upd_same, ?_, bs ++ [bad r], ?_, ?_⟩
      · have := (List.getElem?_eq_some_iff.mp hr').1
        rw [List.length_map, eb, List.length_map, List.length_take]
        exact small1000 (by omega)
      · rw [upd_upd, List.map_append]; rfl
      · rw [take_map bad hr', eb]
    refine ⟨p, _, rfl, tr', rfl, _, _, rfl, _, _, rfl, _, _, rfl, rfl, rfl, ?_⟩
    refine yes_of ?_
    rw [← bad_eq] at fin
    refine ⟨_, rfl, rfl, _, rfl, ?_⟩
    cases c1 : decide (V.int r.1 = V.int 0) with
    | false =>
      rw [c1] at fin
      exact iteF fin
    | true =>
      rw [c1] at fin
      refine iteT ?_
      refine ⟨_, rfl, rfl, _, rfl, ?_⟩
      cases c2 : decide (V.int r.2.1 = V.int 0) with
      | false =>
        rw [c2] at fin
        exact iteF fin
      | true =>
        rw [c2] at fin
        refine iteT ?_
        exact ⟨_, rfl, rfl, fin⟩
  rintro H1 ⟨bs, rfl, eb⟩
  have eb : bs = rows.map bad := by
    rw [eb, List.length_map, hpl, List.take_length]
  have s1 := same_new hA1 (.lst (bs.map V.bl))
  refine ⟨A1, bs, rfl, .inl (.inl upd_same), ?_⟩
  have ea : bs.any id = rows.any bad := by rw [eb, List.any_map]; rfl
  refine ⟨_, rfl, ?_⟩
  rw [ea]
  by_cases hb : rows.any bad = true
  · rw [hb]
    refine iteT ⟨(by show 1 ≤ sizeLine; decide), fun p hp => ?_⟩
    have e : sol rows = .none := by unfold sol; rw [if_pos hb]
    refine q _ _ (s1.trans (same_new hp _)) ?_
    rw [e]
    exact ⟨p, rfl, .inl (.inl upd_same)⟩
  have hbf : rows.any bad = false := Bool.eq_false_iff.mpr hb
  rw [hbf]
  refine iteF ?_
  have hL1 := s1 _ _ hL
  have hps1 := paired_imp (fun p t z => same_T (K := K) s1 z) hps
  refine ⟨_, rfl, L, rfl, ⟨_, .inl (.inl hL1)⟩, fun A2 hA2 => lc_list (K := K) (a := L) (xs := ps.map V.ref) (fun i H' => TLx K A2 (upd H A1 (.lst (bs.map V.bl))) H' (((rows.take i).filter nz2).map lf)) (tl_start hA2) ?_ ?_ ?_⟩
  · rintro i H' _ ⟨s', _⟩
    exact .inl (.inl (s' _ _ hL1))
  · rintro i x H' hx ⟨s', qs, hq, hqs⟩
    obtain ⟨p, r, rfl, hr', tr⟩ := tl_at hps1 hx
    have hmem : r ∈ rows := List.mem_of_getElem? hr'
    have ef := take_filter nz2 hr'
    refine ⟨p, _, rfl, same_T s' tr, rfl, _, _, rfl, _, _, rfl, _, _, rfl, rfl, rfl, ?_⟩
    have yes : nz2 r = true → tCl (sp_line K) (tCons (tVar 1) (tCons (tVar 2) (tCons (tVar 3) tNil))) [some (.ref L), some (.int r.1), some (.int r.2.1), some (.int r.2.2), none, none, none, none, none] H' (fun y H4 => ∃ acc, H4 A2 = some (.lst acc) ∧ acc.length < sizeLine ∧ TLx K A2 (upd H A1 (.lst (bs.map V.bl))) (upd H4 A2 (.lst (acc ++ [y]))) (((rows.take (i + 1)).filter nz2).map lf)) := fun hn => by
      have hn' : r.1 ≠ 0 ∨ r.2.1 ≠ 0 := by unfold nz2 at hn; simpa using hn
      refine ⟨_, rfl, _, rfl, _, rfl, r, rfl, hn', (hB r hmem).mono (by decide), fun H2 v s2 ⟨pv, ev, tv⟩ => ?_⟩
      subst ev
      refine ⟨_, s2 _ _ hq, ?_, ?_⟩
      · have l1 := Paired.length hqs
        have l2 := List.length_filter_le nz2 (rows.take i)
        rw [List.length_map] at l1
        rw [List.length_take] at l2
        rw [List.length_map]
        exact small1000 (by omega)
      · rw [ef, if_pos hn, List.map_append]
        exact tl_more hA2 s' hq hqs s2 tv
    have no : nz2 r = false → TLx K A2 (upd H A1 (.lst (bs.map V.bl))) H' (((rows.take (i + 1)).filter nz2).map lf) := fun hn => by
      rw [ef, hn, if_neg (by decide), List.append_nil]
      exact ⟨s', qs, hq, hqs⟩
    refine ⟨_, rfl, rfl, _, rfl, ?_⟩
    cases c1 : decide (V.int r.1 = V.int 0) with
    | false =>
      have c1' : decide (r.1 = 0) = false := by rw [← dI]; exact c1
      refine iteT ?_
      refine (if_pos rfl).mpr (yes ?_)
      unfold nz2; rw [c1']; rfl
    | true =>
      have c1' : decide (r.1 = 0) = true := by rw [← dI]; exact c1
      refine iteF ?_
      refine ⟨_, rfl, rfl, _, rfl, ?_⟩
      cases c2 : decide (V.int r.2.1 = V.int 0) with
      | false =>
        have c2' : decide (r.2.1 = 0) = false := by rw [← dI]; exact c2
        refine (if_pos rfl).mpr (yes ?_)
        unfold nz2; rw [c1', c2']; rfl
      | true =>
        have c2' : decide (r.2.1 = 0) = true := by rw [← dI]; exact c2
        refine (if_neg (by decide)).mpr (no ?_)
        unfold nz2; rw [c1', c2']; rfl
  rintro H2 ⟨s2, qs, hq, hqs⟩
  have hqs : Paired (fun p t => SqT K H2 p (v3 t)) qs ((rows.filter nz2).map lf) := by
    rw [List.length_map, hpl, List.take_length] at hqs
    exact hqs
  have s12 := s1.trans s2
  have hBl : ∀ l ∈ (rows.filter nz2).map lf, B 3900 l := fun l hl => by
    obtain ⟨r, hr', rfl⟩ := List.mem_map.mp hl
    obtain ⟨hr1, hr2⟩ := List.mem_filter.mp hr'
    exact lf_B (by unfold nz2 at hr2; simpa using hr2) (hB r hr1)
  have hlen2 : ((rows.filter nz2).map lf).length ≤ 100 := by
    rw [List.length_map]
    exact Nat.le_trans (List.length_filter_le _ _) hlen
  have esol : sol rows = solL ((rows.filter nz2).map lf) := if_neg hb
  rw [esol] at q
  generalize (rows.filter nz2).map lf = lines at *
  refine ⟨_, rfl, !(qs.map V.ref).isEmpty, .inl ⟨_, .inl (.inl hq), rfl⟩, ?_⟩
  cases hqs with
  | nil =>
    refine (if_pos (by decide)).mpr ⟨(by show 1 ≤ sizeLine; decide), fun p hp => ?_⟩
    exact q _ _ (s12.trans (same_new hp _)) ⟨p, rfl, .inl (.inl upd_same)⟩
  | @cons pf fl qs ls tf hqs' =>
    refine iteF ?_
    refine ⟨_, rfl, A2, _, _, _, rfl, rfl, .inl (.inl hq), atI_nat (j := 0) rfl, ?_⟩
    have hall : Paired (fun p t => SqT K H2 p (v3 t)) (pf :: qs) (fl :: ls) := .cons tf hqs'
    have hfl := hBl fl (List.mem_cons_self ..)
    refine ⟨_, rfl, A2, rfl, ⟨_, .inl (.inl hq)⟩, fun A3 hA3 => lc_list (K := K) (a := A2) (xs := (pf :: qs).map V.ref) (fun i H' => TLx K A3 H2 H' (((fl :: ls).take i).filter (fun l => !decide (l = fl)))) (tl_start hA3) ?_ ?_ ?_⟩
    · rintro i H' _ ⟨s', _⟩
      exact .inl (.inl (s' _ _ hq))
    · rintro i x H' hx ⟨s', rs, hq3, hqs3⟩
      obtain ⟨p, l, rfl, hl', tl⟩ := tl_at hall hx
      have ef := take_filter (fun l => !decide (l = fl)) hl'
      refine ⟨rfl, ?_⟩
      refine ⟨_, rfl, _, rfl, _, _, Dp3 (same_T s' tl), Dp3 (same_T s' tf), shaped3 _, shaped3 _, _, rfl, ?_⟩
      rw [eqv3]
      by_cases c : l = fl
      · rw [decide_eq_true c]
        refine iteF ?_
        rw [ef, if_neg (by rw [decide_eq_true c]; decide), List.append_nil]
        exact ⟨s', rs, hq3, hqs3⟩
      · rw [decide_eq_false c]
        refine iteT ?_
        refine ⟨_, rfl, _, hq3, ?_, ?_⟩
        · have l1 := Paired.length hqs3
          have l2 := List.length_filter_le (fun l => !decide (l = fl)) ((fl :: ls).take i)
          rw [List.length_take] at l2
          rw [List.length_map]
          exact small1000 (by omega)
        · rw [ef, if_pos (by rw [decide_eq_false c]; rfl)]
          exact tl_more hA3 s' hq3 hqs3 (Same.refl _) (same_T s' tl)
    rintro H3 ⟨s3, rs, hq3, hqs3⟩
    have hqs3 : Paired (fun p t => SqT K H3 p (v3 t)) rs ((fl :: ls).filter (fun l => !decide (l = fl))) := by
      have e : ((fl :: ls).take ((pf :: qs).map V.ref).length) = fl :: ls := by
        rw [List.length_map, Paired.length hall, List.take_length]
      rw [e] at hqs3
      exact hqs3
    have s13 := s12.trans s3
    have qL : ∀ H' v, Same H H' → IsK K H' v (match (fl :: ls).filter (fun l => !decide (l = fl)) with | [] => .line fl | o :: _ => if fl.1 * o.2.1 = o.1 * fl.2.1 then .none else if (fl :: ls).all (fun l => decide (on l (cross fl o))) = true then .spot (cross fl o) else .none) → Q v H' := q
    have om : ∀ o ∈ (fl :: ls).filter (fun l => !decide (l = fl)), B 3900 o := fun o ho => hBl o (List.mem_filter.mp ho).1
    generalize (fl :: ls).filter (fun l => !decide (l = fl)) = oth at *
    refine ⟨_, rfl, !(rs.map V.ref).isEmpty, .inl ⟨_, .inl (.inl hq3), rfl⟩, ?_⟩
    cases hqs3 with
    | nil =>
      refine (if_pos (by decide)).mpr ?_
      refine ⟨_, rfl, pf, _, rfl, .inl (same_T s3 tf), (by show 4 ≤ sizeLine; decide), fun p hp => ?_⟩
      exact qL _ _ (s13.trans (same_new hp _)) ⟨p, rfl, .inl (.inl upd_same)⟩
    | @cons po o rs os to hqs3 =>
      refine iteF ?_
      have ob := om o (List.mem_cons_self ..)
      refine ⟨_, rfl, _, rfl, A3, _, _, _, rfl, rfl, .inl (.inl hq3), atI_nat (j := 0) rfl, ?_⟩
      refine ⟨_, _, fl, o, rfl, ⟨_, rfl, same_T s3 tf⟩, ⟨_, rfl, to⟩, hfl.mono (by decide), ob.mono (by decide), _, rfl, ?_⟩
      by_cases hp : fl.1 * o.2.1 = o.1 * fl.2.1
      · rw [decide_eq_true hp]
        refine iteT ⟨(by show 1 ≤ sizeLine; decide), fun p hpp => ?_⟩
        refine qL _ _ (s13.trans (same_new hpp _)) ?_
        dsimp only
        rw [if_pos hp]
        exact ⟨p, rfl, .inl (.inl upd_same)⟩
      · rw [decide_eq_false hp]
        refine iteF ?_
        refine ⟨_, rfl, _, rfl, A3, _, _, _, rfl, rfl, .inl (.inl hq3), atI_nat (j := 0) rfl, ?_⟩
        refine ⟨_, _, fl, o, rfl, ⟨_, rfl, same_T s3 tf⟩, ⟨_, rfl, to⟩, hfl.mono (by decide), ob.mono (by decide), hp, fun H4 v s4 ⟨pc', ev, tc⟩ => ?_⟩
        subst ev
        have hq4 := (s3.trans s4) _ _ hq
        have hall4 := paired_imp (fun p t z => same_T (K := K) (s3.trans s4) z) hall
        have cB : B 8000 (cross fl o) := B.mono (n := 3900 + 3900 + 1) (low_B (fun z => hp (Int.sub_eq_zero.mp z)) (sub_lt (mul_lt hfl.2.2 ob.2.1) (mul_lt ob.2.2 hfl.2.1)) (sub_lt (mul_lt hfl.1 ob.2.2) (mul_lt ob.1 hfl.2.2)) (sub_lt (mul_lt hfl.1 ob.2.1) (mul_lt ob.1 hfl.2.1))) (by decide)
        refine ⟨_, rfl, A2, rfl, ⟨_, .inl (.inl hq4)⟩, fun A5 hA5 => lc_list (K := K) (a := A2) (xs := (pf :: qs).map V.ref) (fun i H' => ∃ bs' : List Bool, H' = upd H4 A5 (.lst (bs'.map V.bl)) ∧ bs' = ((fl :: ls).take i).map (fun l => decide (on l (cross fl o)))) ⟨[], rfl, rfl⟩ ?_ ?_ ?_⟩
        · rintro i H' _ ⟨bs', rfl, _⟩
          exact .inl (.inl ((same_new hA5 _) _ _ hq4))
        · rintro i x H' hx ⟨bs', rfl, eb'⟩
          obtain ⟨p, l, rfl, hl', tl⟩ := tl_at hall4 hx
          have s5 := same_new hA5 (.lst (bs'.map V.bl))
          refine ⟨rfl, ?_⟩
          refine yes_of ?_
          refine ⟨_, rfl, _, rfl, _, _, cross fl o, l, rfl, ⟨_, rfl, same_T s5 tc⟩, ⟨_, rfl, same_T s5 tl⟩, cB, (hBl l (List.mem_of_getElem? hl')).mono (by decide), ?_⟩
          refine ⟨_, upd_same, ?_, bs' ++ [decide (on l (cross fl o))], ?_, ?_⟩
          · rw [List.length_map, eb', List.length_map, List.length_take]
            exact small1000 (by omega)
          · rw [upd_upd, List.map_append]; rfl
          · rw [take_map (fun l => decide (on l (cross fl o))) hl', eb']
        rintro H5 ⟨bs', rfl, eb'⟩
        have eb' : bs' = (fl :: ls).map (fun l => decide (on l (cross fl o))) := by
          have e : ((fl :: ls).take ((pf :: qs).map V.ref).length) = fl :: ls := by
            rw [List.length_map, Paired.length hall, List.take_length]
          rw [eb', e]
        have s5 := same_new hA5 (.lst (bs'.map V.bl))
        refine ⟨A5, bs', rfl, .inl (.inl upd_same), ?_⟩
        have ea' : bs'.all id = (fl :: ls).all (fun l => decide (on l (cross fl o))) := by rw [eb', List.all_map]; rfl
        refine ⟨_, rfl, ?_⟩
        rw [ea']
        have s15 := s13.trans (s4.trans s5)
        by_cases hA : (fl :: ls).all (fun l => decide (on l (cross fl o))) = true
        · rw [hA]
          refine iteT ⟨_, rfl, (by show 2 ≤ sizeLine; decide), fun p hpp => ?_⟩
          have s6 := same_new hpp (.tup [.str "spot", .ref pc'])
          refine qL _ _ (s15.trans s6) ?_
          dsimp only
          rw [if_neg hp, if_pos hA]
          exact ⟨p, pc', rfl, .inl (.inl upd_same), same_T (s5.trans s6) tc⟩
        · rw [Bool.eq_false_iff.mpr hA]
          refine iteF ⟨(by show 1 ≤ sizeLine; decide), fun p hpp => ?_⟩
          refine qL _ _ (s15.trans (same_new hpp _)) ?_
          dsimp only
          rw [if_neg hp, if_neg hA]
          exact ⟨p, rfl, .inl (.inl upd_same)⟩
end
end My

namespace My
open PySem L2 Mth
abbrev s_gap : Stmt := topS 37
theorem sc_gap : FnScope ["one", "other", "spot"] ["one", "other", "spot"] (defScope s_gap) := ⟨rfl, rfl, rfl, by decide +kernel, rfl, by decide +kernel, by decide +kernel⟩
abbrev s_meeting : Stmt := topS 36
theorem sc_meeting : FnScope ["one", "other", "at_middle", "right", "up"] ["one", "other"] (defScope s_meeting) := ⟨rfl, rfl, rfl, by decide +kernel, rfl, by decide +kernel, by decide +kernel⟩
section
variable {P : Program} {w : World} {K : PySem.W.Frag} {mg : Str → Option Value} {base : Heap}
theorem gap_B {a b : Cp} {z : T3} (ha : CpOk a) (hb : CpOk b) (hz : Ok z) (ba : BC 120 a) (bb : BC 120 b) (bz : B 3 z) : B 491 (gap a b z) := (minus_B (ap_ok ha hz) (ap_ok hb hz) (ap_B ha hz ba bz) (ap_B hb hz bb bz)).mono (by decide)
def sp_gap (K : PySem.W.Frag) (C : Addr) : Sp := fun vs H Q _ => ∃ va vb vz a b z, vs = [va, vb, vz] ∧ IsC K C H va a ∧ IsC K C H vb b ∧ IsT K H vz z ∧ CpOk a ∧ CpOk b ∧ Ok z ∧ BC 120 a ∧ BC 120 b ∧ B 3 z ∧ ∀ H' v, Same H H' → IsT K H' v (gap a b z) → Q v H'
theorem ok_gap {f C : Addr} {fd : FuncData} (m_ca : MCa P w K mg base C) (d_minus : D P w K mg base "minus" 4 (sp_two K minus)) (F : Fun K "gap" "gap" s_gap f fd) : FnOk P w K mg base CX0 6 f fd ["one", "other", "spot"] (sp_gap K C) := by
  refine F.ok sc_gap (fun vs H Q E h => ?_) (fun cdv A outer s H vs Q E hr h => ?_)
  · obtain ⟨va, vb, vz, a, b, z, rfl, _⟩ := h
    rfl
  obtain ⟨va, vb, vz, a, b, z, rfl, ia, ib, iz, oa, ob, oz, ba, bb, bz, q⟩ := h
  obtain ⟨pa, _, _, _, ea, _⟩ := id ia
  obtain ⟨pb, _, _, _, eb, _⟩ := id ib
  subst ea eb
  refine ⟨_, (pss_one (ps_ret (pc d_minus (hr.mono (by decide)) (pa_cons (pe_ap m_ca (hr.mono (by decide)) (pv 0) (pa_cons (pv 2) pa_nil)) (pa_cons (pe_ap m_ca (hr.mono (by decide)) (pv 1) (pa_cons (pv 2) pa_nil)) pa_nil))))), ?_⟩
  refine ⟨_, rfl, _, rfl, _, rfl, ?_⟩
  refine ap_of ia oa (ba.mono (by decide)) iz oz (bz.mono (by decide)) fun H1 r1 s1 i1 => ?_
  refine ⟨_, rfl, _, rfl, _, rfl, ?_⟩
  refine ap_of (ib.same s1) ob (bb.mono (by decide)) (iz.same s1) oz (bz.mono (by decide)) fun H2 r2 s2 i2 => ?_
  exact ⟨_, _, _, _, rfl, i1.same s2, i2, ap_ok oa oz, ap_ok ob oz, (ap_B oa oz ba bz).mono (by decide), (ap_B ob oz bb bz).mono (by decide), fun H3 r3 s3 i3 => q _ _ (s1.trans (s2.trans s3)) i3⟩
def sp_meet (K : PySem.W.Frag) (C : Addr) : Sp := fun vs H Q _ => ∃ va vb a b, vs = [va, vb] ∧ IsC K C H va a ∧ IsC K C H vb b ∧ CpOk a ∧ CpOk b ∧ BC 120 a ∧ BC 120 b ∧ ∀ H' v, Same H H' → IsK K H' v (meet a b) → Q v H'
theorem ok_meeting {f C aM aO aU : Addr} {fd : FuncData} (m_ONE : mg "ONE" = some (.ref aO)) (t_ONE : ∀ H, SqT K H aO (v3 (1, 0, 1))) (m_MIDDLE : mg "MIDDLE" = some (.ref aM)) (t_MIDDLE : ∀ H, SqT K H aM (v3 (0, 0, 1))) (m_UP : mg "UP" = some (.ref aU)) (t_UP : ∀ H, SqT K H aU (v3 (0, 1, 1)))
    (d_gap : D P w K mg base "gap" 6 (sp_gap K C)) (d_minus : D P w K mg base "minus" 4 (sp_two K minus)) (d_negative : D P w K mg base "negative" 1 (sp_one K neg)) (d_equations : D P w K mg base "equations" 1 (sp_eqs K)) (d_solution : D P w K mg base "solution" 4 (sp_sol K))
    (F : Fun K "meeting" "meeting" s_meeting f fd) : FnOk P w K mg base CX0 7 f fd ["one", "other"] (sp_meet K C) := by
  refine F.ok sc_meeting (fun vs H Q E h => ?_) (fun cdv A outer s H vs Q E hr h => ?_)
  · obtain ⟨va, vb, a, b, rfl, _⟩ := h
    rfl
  obtain ⟨va, vb, a, b, rfl, ia, ib, oa, ob, ba, bb, q⟩ := h
  refine ⟨_, (pss_cons (ps_set (i := 2) sc_meeting.nd rfl (by first | exact Or.inl rfl | exact Or.inr rfl) (pc d_gap (hr.mono (by decide)) (pa_cons (pv 0) (pa_cons (pv 1) (pa_cons (pe_glob (v := .ref aM) (by rfl) m_MIDDLE rfl) pa_nil)))))
    (pss_cons (ps_set (i := 3) sc_meeting.nd rfl (by first | exact Or.inl rfl | exact Or.inr rfl) (pc d_minus (hr.mono (by decide)) (pa_cons (pc d_gap (hr.mono (by decide)) (pa_cons (pv 0) (pa_cons (pv 1) (pa_cons (pe_glob (v := .ref aO) (by rfl) m_ONE rfl) pa_nil)))) (pa_cons (pv 2) pa_nil))))
    (pss_cons (ps_set (i := 4) sc_meeting.nd rfl (by first | exact Or.inl rfl | exact Or.inr rfl) (pc d_minus (hr.mono (by decide)) (pa_cons (pc d_gap (hr.mono (by decide)) (pa_cons (pv 0) (pa_cons (pv 1) (pa_cons (pe_glob (v := .ref aU) (by rfl) m_UP rfl) pa_nil)))) (pa_cons (pv 2) pa_nil))))
    (pss_one (ps_ret (pc d_solution (hr.mono (by decide)) (pa_cons (pc d_equations (hr.mono (by decide)) (pa_cons (pv 3) (pa_cons (pv 4) (pa_cons (pc d_negative (hr.mono (by decide)) (pa_cons (pv 2) pa_nil)) pa_nil)))) pa_nil))))))), ?_⟩
  have z0 : B 3 (0, 0, 1) := by decide
  have z1 : B 3 (1, 0, 1) := by decide
  have zi : B 3 (0, 1, 1) := by decide
  have g0 := gap_ok oa ob ok_0
  have g1 := gap_ok oa ob ok_1
  have gi := gap_ok oa ob ok_i
  have b0 := gap_B oa ob ok_0 ba bb z0
  have b1 := gap_B oa ob ok_1 ba bb z1
  have bi := gap_B oa ob ok_i ba bb zi
  refine ⟨_, rfl, _, rfl, _, _, _, a, b, (0, 0, 1), rfl, ia, ib, ⟨_, rfl, t_MIDDLE H⟩, oa, ob, ok_0, ba, bb, z0, fun H1 r1 s1 i1 => ?_⟩
  refine ⟨_, rfl, _, rfl, _, _, _, a, b, (1, 0, 1), rfl, ia.same s1, ib.same s1, ⟨_, rfl, t_ONE H1⟩, oa, ob, ok_1, ba, bb, z1, fun H2 r2 s2 i2 => ?_⟩
  refine ⟨_, rfl, _, _, _, _, rfl, i2, i1.same s2, g1, g0, b1.mono (by decide), b0.mono (by decide), fun H3 r3 s3 i3 => ?_⟩
  have s13 := s1.trans (s2.trans s3)
  refine ⟨_, rfl, _, rfl, _, _, _, a, b, (0, 1, 1), rfl, ia.same s13, ib.same s13, ⟨_, rfl, t_UP H3⟩, oa, ob, ok_i, ba, bb, zi, fun H4 r4 s4 i4 => ?_⟩
  refine ⟨_, rfl, _, _, _, _, rfl, i4, i1.same (s2.trans (s3.trans s4)), gi, g0, bi.mono (by decide), b0.mono (by decide), fun H5 r5 s5 i5 => ?_⟩
  have s15 := s2.trans (s3.trans (s4.trans s5))
  refine ⟨_, rfl, _, rfl, _, rfl, _, _, rfl, i1.same s15, fun H6 r6 s6 i6 => ?_⟩
  have bR : B 983 (minus (gap a b (1, 0, 1)) (gap a b (0, 0, 1))) := minus_B g1 g0 b1 b0
  have bU : B 983 (minus (gap a b (0, 1, 1)) (gap a b (0, 0, 1))) := minus_B gi g0 bi b0
  have bG : B 983 (neg (gap a b (0, 0, 1))) := (neg_B b0).mono (by decide)
  refine ⟨_, _, _, _, _, _, rfl, i3.same (s4.trans (s5.trans s6)), i5.same s6, i6, bR.mono (by decide), bU.mono (by decide), bG.mono (by decide), fun H7 L s7 i7 => ?_⟩
  refine ⟨L, _, rfl, i7, fun r hr' => (eqs_B bR bU bG r hr').mono (by decide), (by show 2 ≤ 100; decide), fun H8 v s8 i8 => ?_⟩
  exact q _ _ (s1.trans (s15.trans (s6.trans (s7.trans s8)))) i8
end
end My

namespace My
open PySem L2 Mth
abbrev s_kept : Stmt := topS 34
theorem sc_kept : FnScope ["copy"] ["copy"] (defScope s_kept) := ⟨rfl, rfl, rfl, by decide +kernel, rfl, by decide +kernel, by decide +kernel⟩
section
variable {P : Program} {w : World} {K : PySem.W.Frag} {mg : Str → Option Value} {base : Heap}
def sp_kept (K : PySem.W.Frag) (C : Addr) : Sp := fun vs H Q _ => ∃ va a, vs = [va] ∧ IsC K C H va a ∧ CpOk a ∧ BC 120 a ∧ ∀ H' v, Same H H' → IsK K H' v (meet a still) → Q v H'
theorem ok_kept {f C : Addr} {fd : FuncData} (d_meeting : D P w K mg base "meeting" 7 (sp_meet K C)) (d_still_copy : D P w K mg base "still_copy" 6 (sp_still K C)) (F : Fun K "kept" "kept" s_kept f fd) : FnOk P w K mg base CX0 8 f fd ["copy"] (sp_kept K C) := by
  refine F.ok sc_kept (fun vs H Q E h => ?_) (fun cdv A outer s H vs Q E hr h => ?_)
  · obtain ⟨va, a, rfl, _⟩ := h
    rfl
  obtain ⟨va, a, rfl, ia, oa, ba, q⟩ := h
  refine ⟨_, (pss_one (ps_ret (pc d_meeting (hr.mono (by decide)) (pa_cons (pv 0) (pa_cons (pc0 d_still_copy (hr.mono (by decide))) pa_nil))))), ?_⟩
  refine ⟨_, rfl, rfl, fun H1 r1 s1 i1 => ?_⟩
  exact ⟨_, _, a, still, rfl, ia.same s1, i1, oa, still_ok, ba, still_BC.mono (by decide), fun H2 v s2 i2 => q _ _ (s1.trans s2) i2⟩
end
end My

namespace My
open PySem L2 Mth
section
variable {K : PySem.W.Frag}
theorem IsK.keep {H H' : Hp} {v : V} {k : KS} {d : Addr} {ys : List V} (h : IsK K H v k) (hd : H d = some (.lst ys)) (s : Keep d H H') : IsK K H' v k := by
  cases k with
  | all => obtain ⟨p, e, h⟩ := h; exact ⟨p, e, keep_T h hd s⟩
  | none => obtain ⟨p, e, h⟩ := h; exact ⟨p, e, keep_T h hd s⟩
  | spot z => obtain ⟨p, q, e, h1, h2⟩ := h; exact ⟨p, q, e, keep_T h1 hd s, keep_T h2 hd s⟩
  | line l => obtain ⟨p, e, h⟩ := h; exact ⟨p, e, keep_T h hd s⟩
theorem IsTL.keep {H H' : Hp} {L d : Addr} {ts : List T3} {ys : List V} (h : IsTL K H L ts) (hne : L ≠ d) (hd : H d = some (.lst ys)) (s : Keep d H H') : IsTL K H' L ts := by
  obtain ⟨ps, h1, h2⟩ := h
  exact ⟨ps, s _ _ hne h1, paired_imp (fun p t z => keep_T z hd s) h2⟩
def kstr : KS → Str
  | .all => "all"
  | .none => "none"
  | .spot _ => "spot"
  | .line _ => "line"
def krest (q : Addr) : KS → List V
  | .spot _ => [.ref q]
  | .line l => [.int l.1, .int l.2.1, .int l.2.2]
  | _ => []
theorem IsK.head {H : Hp} {v : V} {k : KS} (h : IsK K H v k) : ∃ p q, v = .ref p ∧ SqT K H p (.str (kstr k) :: krest q k) ∧ ∀ s, k = .spot s → SqT K H q (v3 s) := by
  cases k with
  | all => obtain ⟨p, e, h⟩ := h; exact ⟨p, 0, e, h, fun s z => by cases z⟩
  | none => obtain ⟨p, e, h⟩ := h; exact ⟨p, 0, e, h, fun s z => by cases z⟩
  | spot z => obtain ⟨p, q, e, h1, h2⟩ := h; exact ⟨p, q, e, h1, fun s z => by cases z; exact h2⟩
  | line l => obtain ⟨p, e, h⟩ := h; exact ⟨p, 0, e, h, fun s z => by cases z⟩
theorem dS (x y : Str) : decide (V.str x = V.str y) = decide (x = y) := by
  by_cases h : x = y
  · rw [h]; simp
  · rw [decide_eq_false h, decide_eq_false (fun z => h (V.str.inj z))]
theorem dB (x y : Bool) : decide (V.bl x = V.bl y) = decide (x = y) := by cases x <;> cases y <;> rfl
theorem k_all (k : KS) : decide (kstr k = ("all" : Str)) = match k with | .all => true | _ => false := by
  cases k with
  | all => exact decide_eq_true rfl
  | none => exact decide_eq_false (by decide +kernel)
  | spot s => exact decide_eq_false (show ¬ (("spot" : Str) = "all") by decide +kernel)
  | line l => exact decide_eq_false (show ¬ (("line" : Str) = "all") by decide +kernel)
theorem k_spot (k : KS) : decide (kstr k = ("spot" : Str)) = match k with | .spot _ => true | _ => false := by
  cases k with
  | all => exact decide_eq_false (by decide +kernel)
  | none => exact decide_eq_false (by decide +kernel)
  | spot s => exact decide_eq_true rfl
  | line l => exact decide_eq_false (show ¬ (("line" : Str) = "spot") by decide +kernel)
theorem k_line (k : KS) : decide (kstr k = ("line" : Str)) = match k with | .line _ => true | _ => false := by
  cases k with
  | all => exact decide_eq_false (by decide +kernel)
  | none => exact decide_eq_false (by decide +kernel)
  | spot s => exact decide_eq_false (show ¬ (("spot" : Str) = "line") by decide +kernel)
  | line l => exact decide_eq_true rfl
/-- spots that a comprehension over range(n) draws -/
def DrawnS (K : PySem.W.Frag) (d L : Addr) (H H' : Hp) (n : Nat) : Prop := ∃ st ps zs, Keep d H H' ∧ H' d = some (.lst (encD st)) ∧ SrcOk st ∧ H' L = some (.lst (ps.map V.ref)) ∧ ps.length = n ∧ Paired (fun p t => SqT K H' p (v3 t)) ps zs ∧ ∀ z ∈ zs, SpotIn z
theorem drawnS_start {d L : Addr} {H : Hp} {st : Src} (hd : H d = some (.lst (encD st))) (ok : SrcOk st) (hL : H L = none) : DrawnS K d L H (upd H L (.lst [])) 0 :=
  ⟨st, [], [], Keep.of (same_new hL _), (same_new hL _) _ _ hd, ok, upd_same, rfl, .nil, fun c hc => by cases hc⟩
theorem drawnS_more {d L p : Addr} {H H1 H2 : Hp} {n : Nat} {st st2 : Src} {z : T3} {ps : List Addr} {zs : List T3} (hL : H L = none) (hdL : L ≠ d) (k1 : Keep d H H1) (hd1 : H1 d = some (.lst (encD st))) (h1 : H1 L = some (.lst (ps.map V.ref))) (hn : ps.length = n) (a : Paired (fun p t => SqT K H1 p (v3 t)) ps zs) (g : ∀ z ∈ zs, SpotIn z)
    (k2 : Keep d H1 H2) (hd2 : H2 d = some (.lst (encD st2))) (ok2 : SrcOk st2) (i : SqT K H2 p (v3 z)) (iz : SpotIn z) : DrawnS K d L H (upd H2 L (.lst (ps.map V.ref ++ [.ref p]))) (n + 1) := by
  have h2 : H2 L = some (.lst (ps.map V.ref)) := k2 _ _ hdL h1
  refine ⟨st2, ps ++ [p], zs ++ [z], fun b o nb e => ?_, ?_, ok2, by rw [upd_same, List.map_append]; rfl, by rw [List.length_append, hn]; rfl, paired_app (paired_imp (fun p t q => keep_T (keep_T q hd1 k2) h2 keep_upd) a) (.cons (keep_T i h2 keep_upd) .nil), fun x hx => ?_⟩
  · rw [upd_ne (ne_of_none e hL)]
    exact k2 _ _ nb (k1 _ _ nb e)
  · rw [upd_ne (Ne.symm hdL)]; exact hd2
  · rcases List.mem_append.mp hx with h | h
    · exact g x h
    · rw [List.mem_singleton.mp h]; exact iz
/-- all are spots of some size -/
def SpotsW (zs : List T3) : Prop := zs.length ≤ 100 ∧ ∀ z ∈ zs, Ok z ∧ B 1900 z
/-- whether a spot is among what is told, as the law finds it -/
def hereV (k : KS) (z : T3) : Bool := match k with
  | .all => true
  | .none => false
  | .spot s => decide (z = s)
  | .line l => decide (on l z)
theorem here_iff (k : KS) (z : T3) : hereV k z = true ↔ Mem k z := by
  cases k with
  | all => exact ⟨fun _ => trivial, fun _ => rfl⟩
  | none => exact ⟨fun h => Bool.noConfusion h, fun h => False.elim h⟩
  | spot s => exact ⟨fun h => of_decide_eq_true (p := z = s) h, fun h => decide_eq_true (p := z = s) h⟩
  | line l => exact ⟨fun h => of_decide_eq_true (p := on l z) h, fun h => decide_eq_true (p := on l z) h⟩
end
end My

namespace My
open PySem L2 Mth
section
variable {K : PySem.W.Frag}
/-! ### pairs of spots -/
def IsPr (K : PySem.W.Frag) (H : Hp) (v : V) (p : Pr) : Prop := ∃ t a b, v = .ref t ∧ SqT K H t [.ref a, .ref b] ∧ SqT K H a (v3 p.1) ∧ SqT K H b (v3 p.2)
theorem IsPr.same {H H' : Hp} {v : V} {p : Pr} (h : IsPr K H v p) (s : Same H H') : IsPr K H' v p := by
  obtain ⟨t, a, b, rfl, h1, h2, h3⟩ := h
  exact ⟨t, a, b, rfl, same_T s h1, same_T s h2, same_T s h3⟩
theorem IsPr.keep {H H' : Hp} {v : V} {p : Pr} {d : Addr} {ys : List V} (h : IsPr K H v p) (hd : H d = some (.lst ys)) (s : Keep d H H') : IsPr K H' v p := by
  obtain ⟨t, a, b, rfl, h1, h2, h3⟩ := h
  exact ⟨t, a, b, rfl, keep_T h1 hd s, keep_T h2 hd s, keep_T h3 hd s⟩
def AllPr (K : PySem.W.Frag) (H : Hp) (vs : List V) (ps : List Pr) : Prop := Paired (IsPr K H) vs ps
theorem AllPr.same {H H' : Hp} {vs : List V} {ps : List Pr} (h : AllPr K H vs ps) (s : Same H H') : AllPr K H' vs ps := pimp (fun _ _ i => i.same s) h
theorem AllPr.keep {H H' : Hp} {vs : List V} {ps : List Pr} {d : Addr} {ys : List V} (h : AllPr K H vs ps) (hd : H d = some (.lst ys)) (s : Keep d H H') : AllPr K H' vs ps := pimp (fun _ _ i => i.keep hd s) h
structure PrIn (p : Pr) : Prop where
  ok : PrOk p
  ba : B 20 p.1
  bb : B 20 p.2
end
end My

namespace My
open PySem L2 Mth
abbrev s_carriers : Stmt := topS 38
theorem sc_carriers : FnScope ["pairs", "pair", "spot", "others", "one", "found", "mirrored"] ["pairs"] (defScope s_carriers) := ⟨rfl, rfl, rfl, by decide +kernel, rfl, by decide +kernel, by decide +kernel⟩
abbrev s_carriers_by : Stmt := topS 39
theorem sc_carriers_by : FnScope ["pairs", "other", "mirrored", "source", "goal", "start", "turn", "shift", "one", "image"] ["pairs", "other", "mirrored"] (defScope s_carriers_by) := ⟨rfl, rfl, rfl, by decide +kernel, rfl, by decide +kernel, by decide +kernel⟩
section
variable {P : Program} {w : World} {K : PySem.W.Frag} {mg : Str → Option Value} {base : Heap}
theorem crC_BC {h o : Pr} {m : Bool} (ph : PrIn h) (po : PrIn o) (hn : o.1 ≠ h.1) : BC 167 (crC h.1 h.2 o m) := by
  have n1 := st_nz (m := m) ph.ok po.ok hn
  have bt : B 125 (crC h.1 h.2 o m).t := times_B (minus_ok po.ok.b ph.ok.b) (inv_ok n1) (minus_B po.ok.b ph.ok.b po.bb ph.bb) (inv_B n1 (face_B (minus_B po.ok.a ph.ok.a po.ba ph.ba) m))
  exact ⟨bt.mono (by decide), (minus_B ph.ok.b (times_ok (crC_t ph.ok po.ok hn) (face_ok ph.ok.a m)) ph.bb (times_B (crC_t ph.ok po.ok hn) (face_ok ph.ok.a m) bt (face_B ph.ba m))).mono (by decide)⟩
def sp_crb (K : PySem.W.Frag) (C : Addr) : Sp := fun vs H Q _ => ∃ t us vo m h ps o, vs = [.ref t, vo, .bl m] ∧ SqT K H t us ∧ AllPr K H us (h :: ps) ∧ IsPr K H vo o ∧ (∀ p ∈ h :: ps, PrIn p) ∧ PrIn o ∧ o.1 ≠ h.1 ∧ (h :: ps).length ≤ 20 ∧
  ∀ H' L ws, Same H H' → H L = none → H' L = some (.lst ws) → AllC K C H' ws (crb (h :: ps) h o m) → Q (.ref L) H'
theorem ok_carriers_by {f C fI aM : Addr} {fd fdI : FuncData} {mv ds : List Value} (TC : CopyI P w K mg base C fI fdI mv ds) (b_any : mg "any" = none) (m_MIDDLE : mg "MIDDLE" = some (.ref aM)) (t_MIDDLE : ∀ H, SqT K H aM (v3 (0, 0, 1)))
    (d_minus : D P w K mg base "minus" 4 (sp_two K minus)) (d_product : D P w K mg base "product" 3 (sp_two K times)) (d_inverse : D P w K mg base "inverse" 3 (sp_inv K)) (d_faced : D P w K mg base "faced" 1 (sp_face K)) (d_carried : D P w K mg base "carried" 4 (sp_car K))
    (F : Fun K "carriers_by" "carriers_by" s_carriers_by f fd) : FnOk P w K mg base CX0 6 f fd ["pairs", "other", "mirrored"] (sp_crb K C) := by
  refine F.ok sc_carriers_by (fun vs H Q E h => ?_) (fun cdv A outer s H vs Q E hr h => ?_)
  · obtain ⟨t, us, vo, m, h, ps, o, rfl, _⟩ := h
    rfl
  obtain ⟨t, us, vo, m, h, ps, o, rfl, hT, hA, ⟨to', oa, ob, rfl, o1, o2, o3⟩, hin, po, hn, hl, q⟩ := h
  refine ⟨_, (pss_cons (ps_asg (pe_ix (r := rIxT K) ix_tup (pv 0) pe_int (fun _ _ => rfl)) (pg_tup rfl (pgs_cons (pg_name (i := 3) sc_carriers_by.nd rfl (by first | exact Or.inl rfl | exact Or.inr rfl)) (pgs_cons (pg_name (i := 4) sc_carriers_by.nd rfl (by first | exact Or.inl rfl | exact Or.inr rfl)) pgs_nil))))
    (pss_cons (ps_set (i := 5) sc_carriers_by.nd rfl (by first | exact Or.inl rfl | exact Or.inr rfl) (pc d_faced (hr.mono (by decide)) (pa_cons (pc d_minus (hr.mono (by decide)) (pa_cons (pe_ix (r := rIxT K) ix_tup (pv 1) pe_int (fun _ _ => rfl)) (pa_cons (pv 3) pa_nil))) (pa_cons (pv 2) pa_nil))))
    (pss_cons (ps_set (i := 6) sc_carriers_by.nd rfl (by first | exact Or.inl rfl | exact Or.inr rfl) (pc d_product (hr.mono (by decide)) (pa_cons (pc d_minus (hr.mono (by decide)) (pa_cons (pe_ix (r := rIxT K) ix_tup (pv 1) pe_int (fun _ _ => rfl)) (pa_cons (pv 4) pa_nil))) (pa_cons (pc d_inverse (hr.mono (by decide)) (pa_cons (pv 5) pa_nil)) pa_nil))))
    (pss_cons (ps_if (pt_cmpR (r := rEqD K) (op_eqD hr.units) (pv 6) (pe_glob (v := .ref aM) (by rfl) m_MIDDLE rfl) (nomark _)) (pss_one (ps_ret (pe_lst pa_nil))) pss_nil)
    (pss_cons (ps_set (i := 7) sc_carriers_by.nd rfl (by first | exact Or.inl rfl | exact Or.inr rfl) (pc d_minus (hr.mono (by decide)) (pa_cons (pv 4) (pa_cons (pc d_product (hr.mono (by decide)) (pa_cons (pv 6) (pa_cons (pc d_faced (hr.mono (by decide)) (pa_cons (pv 3) (pa_cons (pv 2) pa_nil))) pa_nil))) pa_nil))))
    (pss_cons (ps_if (pt_val (pe_callB (cr_any rfl) (by rfl) b_any (by decide +kernel) (pa_cons (pe_lc (own := [("one", 8), ("image", 9)]) (g := gTup K 2 (gCons (gName 8) (gCons (gName 9) gNil))) (tt := tYes) (by rfl) sc_carriers_by.nd (pi_tup (pv 0)) (blkOk_by (own := [("one", 8), ("image", 9)]) (N := ["pairs", "other", "mirrored", "source", "goal", "start", "turn", "shift", "one", "image"]) (sc := defScope s_carriers_by) (by decide +kernel)) (fun _ _ _ _ _ => (pg_tup rfl (pgs_cons (pg_name (i := 8) sc_carriers_by.nd rfl (by first | exact Or.inl rfl | exact Or.inr rfl)) (pgs_cons (pg_name (i := 9) sc_carriers_by.nd rfl (by first | exact Or.inl rfl | exact Or.inr rfl)) pgs_nil)))) (fun _ _ _ _ _ => pts_nil) (fun _ _ _ _ _ => (pe_cmpR (r := rNeD K) (op_neD hr.units) (pc d_carried (hr.mono (by decide)) (pa_cons (pv 6) (pa_cons (pv 7) (pa_cons (pv 2) (pa_cons (pv 8) pa_nil))))) (pv 9) (nomark _)))) pa_nil))) (pss_one (ps_ret (pe_lst pa_nil))) pss_nil)
    (pss_one (ps_ret (pe_lst (pa_cons (pe_makeK TC.mkC TC.ok (hr.mono (by decide)) (by rfl) TC.mgC TC.kb pass0 (pa_cons (pv 6) (pa_cons (pv 7) pa_nil)) (pk_cons (pv 2) pk_nil)) pa_nil)))))))))), ?_⟩
  have ph := hin h (List.mem_cons_self ..)
  have hlen := Paired.length hA
  have hA0 := hA
  obtain ⟨u0, ur, rfl, ⟨t0, a0, b0, rfl, s1, s2, s3⟩⟩ : ∃ u ur, us = u :: ur ∧ IsPr K H u h := by
    cases hA with
    | cons r _ => exact ⟨_, _, rfl, r⟩
  refine ⟨_, rfl, t, _, _, _, rfl, rfl, hT, atI_nat (j := 0) rfl, t0, _, rfl, s1, rfl, _, _, rfl, _, _, rfl, rfl, ?_⟩
  have n1 := st_nz (m := m) ph.ok po.ok hn
  have om := minus_ok po.ok.a ph.ok.a
  have bm := minus_B po.ok.a ph.ok.a po.ba ph.ba
  refine ⟨_, rfl, to', _, _, _, rfl, rfl, o1, by rfl, _, rfl, _, _, _, _, rfl, ⟨_, rfl, o2⟩, ⟨_, rfl, s2⟩, po.ok.a, ph.ok.a, po.ba.mono (by decide), ph.ba.mono (by decide), fun H1 r1 k1 i1 => ?_⟩
  refine ⟨_, rfl, _, _, _, rfl, i1, fun H2 r2 k2 i2 => ?_⟩
  have k12 := k1.trans k2
  refine ⟨_, rfl, to', _, _, _, rfl, rfl, same_T k12 o1, by rfl, _, rfl, _, _, _, _, rfl, ⟨_, rfl, same_T k12 o3⟩, ⟨_, rfl, same_T k12 s3⟩, po.ok.b, ph.ok.b, po.bb.mono (by decide), ph.bb.mono (by decide), fun H3 r3 k3 i3 => ?_⟩
  refine ⟨_, rfl, _, _, rfl, i2.same k3, n1, (face_B bm m).mono (by decide), fun H4 r4 k4 i4 => ?_⟩
  refine ⟨_, _, _, _, rfl, i3.same k4, i4, minus_ok po.ok.b ph.ok.b, inv_ok n1, (minus_B po.ok.b ph.ok.b po.bb ph.bb).mono (by decide), (inv_B n1 (face_B bm m)).mono (by decide), fun H5 r5 k5 i5 => ?_⟩
  have k15 := k12.trans (k3.trans (k4.trans k5))
  have i5 : IsT K H5 r5 (crC h.1 h.2 o m).t := i5
  obtain ⟨p5, e5, t5⟩ := id i5
  subst e5
  refine ⟨_, rfl, _, _, Dp3 t5, Dp3 (t_MIDDLE H5), shaped3 _, shaped3 _, _, rfl, ?_⟩
  rw [eqv3]
  unfold crb at q
  by_cases z : (crC h.1 h.2 o m).t = (0, 0, 1)
  · rw [decide_eq_true z]
    rw [if_pos z] at q
    refine iteT ⟨(by show 0 ≤ sizeLine; decide), fun L hL => ?_⟩
    exact q _ L [] (k15.trans (same_new hL _)) (k15.free hL) upd_same .nil
  rw [decide_eq_false z]
  rw [if_neg z] at q
  refine iteF ?_
  have oc := crC_ok ph.ok po.ok hn z
  have bc := crC_BC (m := m) ph po hn
  refine ⟨_, rfl, _, rfl, _, rfl, _, rfl, _, _, _, rfl, ⟨_, rfl, same_T k15 s2⟩, fun H6 r6 k6 i6 => ?_⟩
  refine ⟨_, _, _, _, rfl, i5.same k6, i6, oc.t, face_ok ph.ok.a m, bc.1.mono (by decide), (face_B ph.ba m).mono (by decide), fun H7 r7 k7 i7 => ?_⟩
  have k17 := k15.trans (k6.trans k7)
  refine ⟨_, _, _, _, rfl, ⟨_, rfl, same_T k17 s3⟩, i7, ph.ok.b, times_ok oc.t (face_ok ph.ok.a m), ph.bb.mono (by decide), (times_B oc.t (face_ok ph.ok.a m) bc.1 (face_B ph.ba m)).mono (by decide), fun H8 r8 k8 i8 => ?_⟩
  have k18 := k17.trans k8
  have i8 : IsT K H8 r8 (crC h.1 h.2 o m).s := i8
  have i58 := i5.same (k6.trans (k7.trans k8))
  have oa8 := hA0.same k18
  have hT8 := same_T k18 hT
  have mC : (crC h.1 h.2 o m).m = m := rfl
  generalize hC : crC h.1 h.2 o m = c at *
  refine ⟨_, rfl, t, rfl, ⟨_, hT8⟩, fun A9 hA9 => lc_tup (K := K) (a := t) (xs := .ref t0 :: ur) (fun i H' => ∃ bs : List Bool, Same H8 H' ∧ H' A9 = some (.lst (bs.map V.bl)) ∧ bs = ((h :: ps).take i).map fun p => !decide (ap c p.1 = p.2)) ⟨[], same_new hA9 _, upd_same, rfl⟩ ?_ ?_ ?_⟩
  · rintro i H' _ ⟨bs, s', _⟩
    exact same_T s' hT8
  · rintro i x H' hx ⟨bs, s', hb, eb⟩
    obtain ⟨p, e1, e2⟩ := pget oa8 hx
    have np := hin p (List.mem_of_getElem? e1)
    obtain ⟨tp, pa, pb, rfl, g1, g2, g3⟩ := e2.same s'
    have li := (List.getElem?_eq_some_iff.mp e1).1
    refine ⟨tp, _, rfl, g1, rfl, _, _, rfl, _, _, rfl, rfl, rfl, ?_⟩
    refine yes_of ?_
    refine ⟨_, rfl, _, rfl, _, rfl, _, rfl, ?_⟩
    refine ⟨_, _, m, _, c.t, c.s, p.1, rfl, i58.same s', i8.same s', ⟨_, rfl, g2⟩, oc.t, oc.s, np.ok.a, bc.1.mono (by decide), bc.2.mono (by decide), np.ba.mono (by decide), fun H9 r9 k9 i9 => ?_⟩
    obtain ⟨p9, e9, t9⟩ := i9
    subst e9
    refine ⟨_, rfl, _, _, Dp3 t9, Dp3 (same_T k9 g3), shaped3 _, shaped3 _, ?_⟩
    rw [eqv3]
    have eap : car c.t c.s m p.1 = ap c p.1 := by unfold ap; rw [mC]
    rw [eap]
    have hb9 := k9 _ _ hb
    refine ⟨_, hb9, ?_, bs ++ [!decide (ap c p.1 = p.2)], fun b o' e => ?_, ?_, ?_⟩
    · rw [List.length_map, eb, List.length_map, List.length_take]; exact small1000 (by omega)
    · rw [upd_ne (ne_of_none e hA9)]; exact k9 _ _ (s' _ _ e)
    · rw [upd_same, List.map_append]; rfl
    · rw [take_more e1, List.map_append, eb]; rfl
  rintro H9 ⟨bs, s9, hb, eb⟩
  have eb : bs = (h :: ps).map fun p => !decide (ap c p.1 = p.2) := by
    rw [eb, hlen, List.take_length]
  refine ⟨A9, bs, rfl, .inl (.inl hb), ?_⟩
  have ea : bs.any id = (h :: ps).any fun p => !decide (ap c p.1 = p.2) := by rw [eb, List.any_map]; rfl
  refine ⟨_, rfl, ?_⟩
  rw [ea]
  have k19 := k18.trans s9
  by_cases hb : ((h :: ps).any fun p => !decide (ap c p.1 = p.2)) = true
  · rw [hb]
    rw [if_pos hb] at q
    refine iteT ⟨(by show 0 ≤ sizeLine; decide), fun L hL => ?_⟩
    exact q _ L [] (k19.trans (same_new hL _)) (k19.free hL) upd_same .nil
  · rw [Bool.eq_false_iff.mpr hb]
    rw [if_neg hb] at q
    refine iteF ?_
    refine ⟨_, rfl, _, rfl, _, rfl, rfl, rfl, ?_⟩
    refine mk_of2 (m := m) (t := c.t) (s := c.s) (i58.same s9) (i8.same s9) oc.t oc.n oc.s fun H10 x k10 i10 => ⟨rfl, ?_⟩
    refine ⟨(by show 1 ≤ sizeLine; decide), fun L hL => ?_⟩
    have kL := same_new hL (.lst [.ref x])
    have i10 : IsC K C H10 (.ref x) c := by rw [← hC]; rw [← hC] at i10; exact i10
    exact q _ L [.ref x] (k19.trans (k10.trans kL)) ((k19.trans k10).free hL) upd_same (.cons (i10.same kL) .nil)
def sp_carr (K : PySem.W.Frag) (C : Addr) : Sp := fun vs H Q _ => ∃ t us h ps o os, vs = [.ref t] ∧ SqT K H t us ∧ AllPr K H us (h :: ps) ∧ (∀ p ∈ h :: ps, PrIn p) ∧ oth (h :: ps) h = o :: os ∧ (h :: ps).length ≤ 20 ∧
  ∀ H' L ws, Same H H' → H L = none → H' L = some (.lst ws) → AllC K C H' ws (crs (h :: ps) h o) → Q (.ref L) H'
theorem oth_take {l : List Pr} {i : Nat} {p h : Pr} (e : l[i]? = some p) : oth (l.take (i + 1)) h = oth (l.take i) h ++ (if (!decide (p.1 = h.1)) = true then [p] else []) := tk_filter (fun p : Pr => !decide (p.1 = h.1)) e
theorem ok_carriers {f C : Addr} {fd : FuncData} (d_check_spot : D P w K mg base "check_spot" 3 (sp_check K)) (d_carriers_by : D P w K mg base "carriers_by" 6 (sp_crb K C))
    (F : Fun K "carriers" "carriers" s_carriers f fd) : FnOk P w K mg base CX0 7 f fd ["pairs"] (sp_carr K C) := by
  refine F.ok sc_carriers (fun vs H Q E h => ?_) (fun cdv A outer s H vs Q E hr h => ?_)
  · obtain ⟨t, us, h, ps, o, os, rfl, _⟩ := h
    rfl
  obtain ⟨t, us, h, ps, o, os, rfl, hT, hA, hin, ho, hl, q⟩ := h
  refine ⟨_, (pss_cons (ps_for PassesOwn.never rfl (pi_tup (pv 0)) (pg_name (i := 1) sc_carriers.nd rfl (by first | exact Or.inl rfl | exact Or.inr rfl)) (pss_one (ps_for PassesOwn.never rfl (pi_tup (pv 1)) (pg_name (i := 2) sc_carriers.nd rfl (by first | exact Or.inl rfl | exact Or.inr rfl)) (pss_one (ps_expr (pc d_check_spot (hr.mono (by decide)) (pa_cons (pv 2) pa_nil)))))))
    (pss_cons (ps_setLc (i := 3) (own := [("one", 4)]) (g := gName 4) (by rfl) sc_carriers.nd rfl rfl (sw_true rfl rfl rfl (by decide +kernel)) (pi_tup (pv 0)) (blkOk_by (own := [("one", 4)]) (N := ["pairs", "pair", "spot", "others", "one", "found", "mirrored"]) (sc := defScope s_carriers) (by decide +kernel)) (fun _ _ _ _ _ => (pg_name (i := 4) sc_carriers.nd rfl (by first | exact Or.inl rfl | exact Or.inr rfl))) (fun _ _ _ _ _ => (pts_one (pt_cmpR (r := rNeD K) (op_neD hr.units) (pe_ix (r := rIxT K) ix_tup (pv 4) pe_int (fun _ _ => rfl)) (pe_ix (r := rIxT K) ix_tup (pe_ix (r := rIxT K) ix_tup (pv 0) pe_int (fun _ _ => rfl)) pe_int (fun _ _ => rfl)) (nomark _)))) (fun _ _ _ _ _ => (pv 4)))
    (pss_cons (ps_if (pt_not (pt_truth (pv 3) (by intro _; rfl))) (pss_one ps_never) pss_nil)
    (pss_cons (ps_set (i := 5) sc_carriers.nd rfl (by first | exact Or.inl rfl | exact Or.inr rfl) (pe_lst pa_nil))
    (pss_cons (ps_for PassesOwn.never rfl (pi_tup (pe_tup (pa_cons pe_bl (pa_cons pe_bl pa_nil)))) (pg_name (i := 6) sc_carriers.nd rfl (by first | exact Or.inl rfl | exact Or.inr rfl)) (pss_one (ps_expr (pe_bm PySem.F.plainAttrs_list PySem.F.slot_list_extend PySem.F.type_list_extend mt_extend (pv 5) (pa_cons (pc d_carriers_by (hr.mono (by decide)) (pa_cons (pv 0) (pa_cons (pe_ix (r := rIxL K) ix_list (pv 3) pe_int (fun _ _ => rfl)) (pa_cons (pv 6) pa_nil)))) pa_nil)))))
    (pss_one (ps_ret (pv 5)))))))), ?_⟩
  have hlen := Paired.length hA
  have ph := hin h (List.mem_cons_self ..)
  have mo : o ∈ h :: ps ∧ o.1 ≠ h.1 := by
    have : o ∈ oth (h :: ps) h := by rw [ho]; exact List.mem_cons_self ..
    obtain ⟨a, b⟩ := List.mem_filter.mp this
    exact ⟨a, by simpa using b⟩
  have po := hin o mo.1
  refine ⟨_, rfl, t, rfl, ⟨_, hT⟩, for_tup (K := K) (a := t) (xs := us) (fun i σ H' => (∃ x y, σ = [some (.ref t), x, y, none, none, none, none]) ∧ Same H H') ⟨⟨_, _, rfl⟩, Same.refl _⟩ ?_ ?_ ?_⟩
  · rintro i σ H' _ ⟨_, s'⟩
    exact same_T s' hT
  · rintro i x σ H' hx ⟨⟨y, z, rfl⟩, s'⟩
    obtain ⟨p, e1, e2⟩ := pget hA hx
    have np := hin p (List.mem_of_getElem? e1)
    obtain ⟨tp, pa, pb, rfl, g1, g2, g3⟩ := e2.same s'
    refine ⟨_, rfl, tp, rfl, ⟨_, g1⟩, for_tup (K := K) (a := tp) (xs := [.ref pa, .ref pb]) (fun j σ H2 => (∃ y, σ = [some (.ref t), some (.ref tp), y, none, none, none, none]) ∧ Same H' H2) ⟨⟨_, rfl⟩, Same.refl _⟩ ?_ ?_ ?_⟩
    · rintro j σ H2 _ ⟨_, s2⟩
      exact same_T s2 g1
    · rintro j x σ H2 hx ⟨⟨y, rfl⟩, s2⟩
      match j, hx with
      | 0, hx =>
        cases hx
        exact ⟨_, rfl, _, _, rfl, ⟨_, rfl, same_T s2 g2⟩, np.ok.a, fun H3 s3 => ⟨⟨_, rfl⟩, s2.trans s3⟩⟩
      | 1, hx =>
        cases hx
        exact ⟨_, rfl, _, _, rfl, ⟨_, rfl, same_T s2 g3⟩, np.ok.b, fun H3 s3 => ⟨⟨_, rfl⟩, s2.trans s3⟩⟩
      | (n + 2), hx => simp at hx
    · rintro σ H2 ⟨⟨y, rfl⟩, s2⟩
      exact ⟨⟨_, _, rfl⟩, s'.trans s2⟩
  rintro σ H1 ⟨⟨x1, x2, rfl⟩, s1⟩
  have hT1 := same_T s1 hT
  have hA1 := hA.same s1
  have hA1' := hA1
  obtain ⟨u0, ur, eu, ⟨t0, a0, b0, eu0, c1, c2, c3⟩⟩ : ∃ u ur, us = u :: ur ∧ IsPr K H1 u h := by
    cases hA1' with
    | cons r _ => exact ⟨_, _, rfl, r⟩
  refine ⟨_, rfl, t, rfl, ⟨_, hT1⟩, fun A2 hA2 => lc_tup (K := K) (a := t) (xs := us) (fun i H' => ∃ ws, H' = upd H1 A2 (.lst ws) ∧ AllPr K H1 ws (oth ((h :: ps).take i) h)) ⟨[], rfl, .nil⟩ ?_ ?_ ?_⟩
  · rintro i H' _ ⟨ws, rfl, _⟩
    exact same_T (same_new hA2 _) hT1
  · rintro i x H' hx ⟨ws, rfl, aw⟩
    obtain ⟨p, e1, e2⟩ := pget hA1 hx
    have g0 := e2
    have sn := same_new hA2 (.lst ws)
    obtain ⟨tp, pa, pb, rfl, g1, g2, g3⟩ := e2
    refine ⟨rfl, ?_⟩
    refine ⟨_, rfl, tp, _, _, _, rfl, rfl, same_T sn g1, by rfl, _, rfl, t, _, _, _, rfl, rfl, same_T sn hT1, (by rw [eu]; exact atI_nat (j := 0) rfl), ?_⟩
    subst eu0
    refine ⟨t0, _, _, _, rfl, rfl, same_T sn c1, by rfl, _, _, Dp3 (same_T sn g2), Dp3 (same_T sn c2), shaped3 _, shaped3 _, _, rfl, ?_⟩
    rw [eqv3]
    have et := oth_take (h := h) e1
    by_cases c : p.1 = h.1
    · rw [decide_eq_true c]
      refine iteF ?_
      rw [et, if_neg (by rw [decide_eq_true c]; decide), List.append_nil]
      exact ⟨ws, rfl, aw⟩
    · rw [decide_eq_false c]
      refine iteT ?_
      have lw := Paired.length aw
      have lf := List.length_filter_le (fun p : Pr => !decide (p.1 = h.1)) ((h :: ps).take i)
      rw [List.length_take] at lf
      have lw2 : ws.length ≤ 20 := by have : (oth ((h :: ps).take i) h).length = (((h :: ps).take i).filter fun p => !decide (p.1 = h.1)).length := rfl; omega
      refine ⟨_, rfl, ws, upd_same, small1000 (by omega), ws ++ [.ref tp], upd_upd, ?_⟩
      rw [et, if_pos (by rw [decide_eq_false c]; rfl)]
      exact papp aw (.cons g0 .nil)
  rintro H2 ⟨ws, rfl, aw⟩
  have et : oth ((h :: ps).take us.length) h = o :: os := by rw [hlen, List.take_length]; exact ho
  rw [et] at aw
  have s2 := same_new hA2 (.lst ws)
  have hw2 : upd H1 A2 (.lst ws) A2 = some (.lst ws) := upd_same
  have aw0 := aw
  obtain ⟨vo, wr, ew, io⟩ : ∃ v wr, ws = v :: wr ∧ IsPr K H1 v o := by
    cases aw0 with
    | cons r _ => exact ⟨_, _, rfl, r⟩
  have s12 := s1.trans s2
  have hT2 := same_T s2 hT1
  have hA2' := hA1.same s2
  have io2 := io.same s2
  generalize upd H1 A2 (.lst ws) = H2 at *
  refine ⟨_, rfl, !ws.isEmpty, .inl ⟨_, .inl (.inl hw2), rfl⟩, ?_⟩
  rw [ew]
  refine iteF ?_
  refine ⟨(by show 0 ≤ sizeLine; decide), fun L hL => ?_⟩
  have sL := same_new hL (.lst [])
  refine ⟨(by show 2 ≤ sizeLine; decide), fun p3 hp3 => ?_⟩
  have s3 := same_new hp3 (.tup [.bl false, .bl true])
  have s23 := sL.trans s3
  have hp3' : upd (upd H2 L (.lst [])) p3 (.tup [.bl false, .bl true]) p3 = some (.tup [.bl false, .bl true]) := upd_same
  have hL3 := s3 _ _ (upd_same (H := H2) (a := L) (o := .lst []))
  have nLp : p3 ≠ L := ne_of hp3' hL3 (by intro z; cases z)
  generalize upd (upd H2 L (.lst [])) p3 (.tup [.bl false, .bl true]) = H3 at *
  refine ⟨p3, rfl, ⟨_, .inl (.inl hp3')⟩, for_tup (K := K) (a := p3) (xs := [.bl false, .bl true]) (fun i σ H' => ∃ y zs, σ = [some (.ref t), x1, x2, some (.ref A2), none, some (.ref L), y] ∧ Keep L H3 H' ∧ H' L = some (.lst zs) ∧ zs.length ≤ i ∧ AllC K C H' zs (([crb (h :: ps) h o false, crb (h :: ps) h o true].take i).flatten)) ⟨none, [], rfl, Keep.of (Same.refl _), hL3, by decide, .nil⟩ ?_ ?_ ?_⟩
  · rintro i σ H' _ ⟨y, zs, rfl, k', _⟩
    exact .inl (.inl (k' _ _ nLp hp3'))
  · rintro i x σ H' hx ⟨y, zs, rfl, k', hz, lz, az⟩
    have n2 : ∀ b o', H2 b = some o' → H' b = some o' := fun b o' e => k' _ _ (ne_of_none e hL) (s23 _ _ e)
    have oneM : ∃ m : Bool, x = .bl m ∧ ([crb (h :: ps) h o false, crb (h :: ps) h o true].take (i + 1)).flatten = ([crb (h :: ps) h o false, crb (h :: ps) h o true].take i).flatten ++ crb (h :: ps) h o m := by
      match i, hx with
      | 0, hx => exact ⟨false, (Option.some.inj hx).symm, by simp⟩
      | 1, hx => exact ⟨true, (Option.some.inj hx).symm, by simp⟩
      | n + 2, hx => simp at hx
    obtain ⟨m, rfl, em⟩ := oneM
    have s2' : Same H2 H' := n2
    refine ⟨_, rfl, .inl ⟨rfl, _, .inl (.inl hz)⟩, ?_⟩
    refine ⟨_, rfl, _, rfl, A2, _, _, _, rfl, rfl, .inl (.inl (n2 _ _ hw2)), (by rw [ew]; exact atI_nat (j := 0) rfl), _, rfl, ?_⟩
    refine ⟨t, us, vo, m, h, ps, o, rfl, same_T s2' hT2, hA2'.same s2', io2.same s2', hin, po, mo.2, hl, fun H4 L4 w4 s4 n4 h4 a4 => ?_⟩
    have lc := Paired.length a4
    have lc1 := crb_len (m := m) ph.ok po.ok mo.2 (prs := h :: ps)
    have hz4 := s4 _ _ hz
    have li : i < 2 := (List.getElem?_eq_some_iff.mp hx).1
    refine ⟨L, L4, zs, w4, rfl, rfl, hz4, h4, small (by omega), ?_⟩
    have kk := keep_upd (d := L) (H := H4) (o := .lst (zs ++ w4))
    refine ⟨_, _, rfl, k'.trans ((Keep.of s4).trans kk), upd_same, by rw [List.length_append]; omega, ?_⟩
    rw [em]
    exact papp ((az.same s4).keep hz4 kk) (a4.keep hz4 kk)
  · rintro σ H' ⟨y, zs, rfl, k', hz, lz, az⟩
    refine ⟨_, rfl, q _ L zs (fun b o' e => ?_) (s12.free hL) hz ?_⟩
    · have e2 := s12 _ _ e
      exact k' _ _ (ne_of_none e2 hL) (s23 _ _ e2)
    · have : ([crb (h :: ps) h o false, crb (h :: ps) h o true].take 2).flatten = crs (h :: ps) h o := by unfold crs; simp
      rw [← this]
      exact az
end
end My

namespace My
open PySem L2 Mth
abbrev s_law_shown : Stmt := topS 50
theorem sc_law_shown : FnScope ["_law_copy_here"] ["_law_copy_here"] (defScope s_law_shown) := ⟨rfl, rfl, rfl, by decide +kernel, rfl, by decide +kernel, by decide +kernel⟩
section
variable {P : Program} {w : World} {K : PySem.W.Frag} {mg : Str → Option Value} {base : Heap}
def sp_shown (K : PySem.W.Frag) (C : Addr) : Sp := fun vs H Q _ => ∃ v c, vs = [v] ∧ IsC K C H v c ∧ ∀ H' r, Same H H' → IsD K H' r c → Q r H'
theorem ok_law_shown {f C : Addr} {fd : FuncData} (m_pt : MPt P w K mg base C) (m_ps : MPs P w K mg base C) (m_pm : MPm P w K mg base C) (F : Fun K "_law_shown" "_law_shown" s_law_shown f fd) : FnOk P w K mg base CX0 3 f fd ["_law_copy_here"] (sp_shown K C) := by
  refine F.ok sc_law_shown (fun vs H Q E h => ?_) (fun cdv A outer s H vs Q E hr h => ?_)
  · obtain ⟨v, c, rfl, _⟩ := h
    rfl
  obtain ⟨v, c, rfl, ic, q⟩ := h
  refine ⟨_, (pss_one (ps_ret (pe_tup (pa_cons (pe_turn m_pt (hr.mono (by decide)) (pv 0)) (pa_cons (pe_shift m_ps (hr.mono (by decide)) (pv 0)) (pa_cons (pe_mirr m_pm (hr.mono (by decide)) (pv 0)) pa_nil)))))), ?_⟩
  refine ⟨_, rfl, prop_of ic ⟨_, _, rfl, ic, fun r1 i1 => ?_⟩⟩
  refine ⟨_, rfl, prop_of ic ⟨_, _, rfl, ic, fun r2 i2 => ?_⟩⟩
  refine ⟨_, rfl, prop_of ic ⟨_, _, rfl, ic, fun r3 i3 => ?_⟩⟩
  subst i3
  obtain ⟨p1, rfl, t1⟩ := i1
  obtain ⟨p2, rfl, t2⟩ := i2
  refine ⟨(by show 3 ≤ sizeLine; decide), fun p hp => ?_⟩
  have s1 := same_new hp (.tup [.ref p1, .ref p2, .bl c.m])
  exact q _ _ s1 ⟨p, p1, p2, rfl, .inl (.inl upd_same), same_T s1 t1, same_T s1 t2⟩
/-! ### shuffled pairs -/
def dPr (p : Pr) : PyData := .tuple [d3 p.1, d3 p.2]
theorem IsPr.dp {H : Hp} {v : V} {p : Pr} (h : IsPr K H v p) : Dp K H v (dPr p) := by
  obtain ⟨t, a, b, rfl, h1, h2, h3⟩ := h
  exact .tup h1 (.cons (Dp3 h2) (.cons (Dp3 h3) .nil))
theorem AllPr.dp {H : Hp} : ∀ {vs : List V} {ps : List Pr}, AllPr K H vs ps → DpAll K H vs (ps.map dPr)
  | _, _, .nil => .nil
  | _, _, .cons r t => .cons r.dp (AllPr.dp t)
theorem shapedPr (ps : List Pr) : SeqAt.shaped (.list (ps.map dPr)) = true := shapedL fun x hx => by
  obtain ⟨p, _, rfl⟩ := List.mem_map.mp hx
  exact ⟨rfl, by show 2 ≤ 60; decide⟩
def sp_shuf (K : PySem.W.Frag) : Sp := fun vs H Q _ => ∃ d L us ps st, vs = [.ref d, .ref L] ∧ SqL K H L us ∧ AllPr K H us ps ∧ us.length ≤ 20 ∧ H d = some (.lst (encD st)) ∧ SrcOk st ∧
  ∀ H' R ws st', Keep d H H' → H' d = some (.lst (encD st')) → SrcOk st' → H' R = some (.lst ws) → ws.Perm us → Q (.ref R) H'
theorem erase_perm {α : Type} : ∀ {l : List α} {k : Nat} (h : k < l.length), (l[k] :: l.eraseIdx k).Perm l
  | x :: l, 0, _ => List.Perm.refl _
  | x :: l, k + 1, h => by
    have h' : k < l.length := by simpa using h
    have z := erase_perm h'
    show (l[k] :: x :: l.eraseIdx k).Perm (x :: l)
    exact (List.Perm.swap _ _ _).trans (z.cons x)
theorem perm_step {us pl rl : List V} {k : Nat} {y : V} (e : pl[k]? = some y) (h : (pl ++ rl).Perm us) : (pl.eraseIdx k ++ (rl ++ [y])).Perm us := by
  refine List.Perm.trans ?_ h
  have h1 : (y :: pl.eraseIdx k).Perm pl := by
    obtain ⟨hk, ey⟩ := List.getElem?_eq_some_iff.mp e
    subst ey
    exact erase_perm hk
  have h2 : (pl.eraseIdx k ++ (rl ++ [y])).Perm (y :: (pl.eraseIdx k ++ rl)) := by
    rw [← List.append_assoc]
    exact List.perm_append_comm.trans (List.Perm.refl _)
  exact h2.trans (h1.append_right rl)
end
end My

namespace My
open PySem L2 Mth
section
variable {X : Cx} {C : Addr} {fe e : Expr} {es : List Expr} {te tf : TE} {t : TA} {pos : Pos} {K : PySem.W.Frag}
theorem pe_apK (hK : X.K = K) (M : MCa X.prog X.w X.K X.mg X.base C) (hr : Room 5 X.A) (hf : PE X fe tf) (ha : PA X (e :: es) t)
    (ht : eval (.Call fe (e :: es) [] pos) X.env = (do callWith pos (← eval fe X.env) [] (backTo pos (starEach (e :: es) X.env)) (backToKw pos (keywordEach [] X.env))) := by rfl)
    (he : starEach (e :: es) X.env = (false, eval e X.env) :: starEach es X.env := by rfl) (hpl : (backTo pos (starEach es X.env)).any (·.1) = false := by rfl) : PE X (.Call fe (e :: es) [] pos) (tAp K C tf t) := by
  subst hK
  exact pe_ap M hr hf ha ht he hpl
end
end My

namespace My
open PySem L2 Mth
section
/-! ### one copy not among others -/
variable {X : Cx} {C : Addr}
theorem op_cnotin (M : MEq X.prog X.w X.K X.mg X.base C) (hr : Room 2 X.A) : OpR X (compareOp .NotIn) (rNotInO C (sp_ceq X.K C)) := by
  obtain ⟨f, F, hs, hf⟩ := M.ex
  exact op_notInO F hr hs hf
variable {K : PySem.W.Frag}
/-- one of them is it -/
theorem cnotin_of {H : Hp} {Q : VK} {x : V} {l : Addr} {xs : List V} {a : Cp} {cs : List Cp} (ix : IsC K C H x a) (hl : H l = some (.lst xs)) (hx : AllC K C H xs cs) (ha : a ∈ cs) (q : Q (.bl false) H) : rNotInO C (sp_ceq K C) x (.ref l) H Q := by
  obtain ⟨pa, dx, ua, ub, rfl, h1, h2⟩ := id ix
  have lx := Paired.length hx
  let eb : V → Cp → Bool := fun z c => decide (z = .ref pa) || ceq c a
  refine ⟨l, xs, pa, dx, _, (xs.zip cs).map (fun p => eb p.1 p.2), rfl, rfl, hl, h1, by rw [List.length_map, List.length_zip]; omega, fun i z hz => ?_, ?_⟩
  · obtain ⟨c, e1, e2⟩ := pget hx hz
    obtain ⟨p, dy, u, v, rfl, g1, g2⟩ := id e2
    have ez : (xs.zip cs)[i]? = some (.ref p, c) := List.getElem?_zip_eq_some.mpr ⟨hz, e1⟩
    refine ⟨p, dy, _, eb (.ref p) c, rfl, by rw [List.getElem?_map, ez]; rfl, g1, fun e => ?_, ?_⟩
    · rw [e]; show (decide (V.ref pa = V.ref pa) || _) = true; rw [decide_eq_true rfl]; rfl
    · by_cases hp : p = pa
      · subst hp
        refine ⟨_, a, _, a, rfl, ix, ix, ?_, rfl⟩
        show V.bl (ceq a a) = .bl (decide (V.ref p = V.ref p) || _)
        rw [decide_eq_true rfl, ceq_iff.mpr rfl]; rfl
      · refine ⟨_, c, _, a, rfl, e2, ix, ?_, rfl⟩
        show V.bl (ceq c a) = .bl (decide (V.ref p = V.ref pa) || ceq c a)
        rw [decide_eq_false (fun z => hp (V.ref.inj z))]; rfl
  · have : ((xs.zip cs).map (fun p => eb p.1 p.2)).any id = true := by
      rw [List.any_eq_true]
      obtain ⟨i, hi⟩ := List.mem_iff_getElem?.mp ha
      have il := (List.getElem?_eq_some_iff.mp hi).1
      have ex : xs[i]? = some xs[i] := List.getElem?_eq_getElem (by omega)
      refine ⟨true, List.mem_map.mpr ⟨(xs[i], a), List.mem_of_getElem? (i := i) (List.getElem?_zip_eq_some.mpr ⟨ex, hi⟩), ?_⟩, rfl⟩
      show (_ || ceq a a) = true
      rw [ceq_iff.mpr rfl, Bool.or_true]
    rw [this]
    exact q
end
end My

namespace My
open PySem L2 Mth
abbrev s_law : Stmt := topS 51
theorem sc_law : FnScope ["_law_script", "_law_d", "_law_told_here", "_law_other", "_law_still", "_law_one", "_law_two", "_law_seat", "_law_seen", "_law_here", "_law_there", "_law_a", "_law_b", "_law_c", "_law_k", "_law_spot_here", "_law_aside", "_law_spots", "_law_pairs", "_law_moved", "_law_pair", "_law_found", "_law_back", "_law_some", "_law_copy_here"] ["_law_script"] (defScope s_law) := ⟨rfl, rfl, rfl, by decide +kernel, rfl, by decide +kernel, by decide +kernel⟩
section
variable {P : Program} {w : World} {K : PySem.W.Frag} {mg : Str → Option Value} {base : Heap}
def spLaw (K : PySem.W.Frag) : Sp := fun vs H Q _ => ∃ (a : Addr) (ns : List Int), vs = [.ref a] ∧ SqL K H a (ns.map V.int) ∧ ns.length ≤ 63 ∧ ∀ H', Q (.bl true) H'
def l3 (z : T3) : List Int := [z.1, z.2.1, z.2.2]
theorem l3_inj {a b : T3} (h : l3 a = l3 b) : a = b := by
  obtain ⟨x, y, d⟩ := a
  obtain ⟨u, v, e⟩ := b
  simp only [l3, List.cons.injEq, and_true] at h
  obtain ⟨rfl, rfl, rfl⟩ := h
  rfl
theorem many_oth {prs : List Pr} {h : Pr} {L : List (List Int)} (sub : ∀ l ∈ L, ∃ p ∈ prs, l = l3 p.1) (nd : L.Nodup) (many : ¬ L.length < 2) : ∃ o os, oth prs h = o :: os := by
  cases e : oth prs h with
  | cons o os => exact ⟨o, os, rfl⟩
  | nil =>
    exfalso
    have al : ∀ p ∈ prs, p.1 = h.1 := fun p hp => Classical.byContradiction fun n => by
      have : p ∈ oth prs h := List.mem_filter.mpr ⟨hp, by simpa using n⟩
      rw [e] at this
      cases this
    match L, nd, many, sub with
    | [], _, m, _ => exact m (by decide)
    | [x], _, m, _ => exact m (by show 1 < 2; decide)
    | x :: y :: r, nd, _, sub =>
      obtain ⟨p, hp, e1⟩ := sub x (List.mem_cons_self ..)
      obtain ⟨q, hq, e2⟩ := sub y (List.mem_cons_of_mem _ (List.mem_cons_self ..))
      have : x = y := by rw [e1, e2, al p hp, al q hq]
      rw [this] at nd
      exact (List.nodup_cons.mp nd).1 (List.mem_cons_self ..)
def dC (c : Cp) : PyData := .tuple [d3 c.t, d3 c.s, .bool c.m]
theorem IsD.dp {H : Hp} {v : V} {c : Cp} (h : IsD K H v c) : Dp K H v (dC c) := by
  obtain ⟨p, a, b, rfl, h1, h2, h3⟩ := h
  exact .tup h1 (.cons (Dp3 h2) (.cons (Dp3 h3) (.cons (.bl _) .nil)))
theorem dCs {H : Hp} {vs : List V} {cs : List Cp} (h : AllD K H vs cs) : DpAll K H vs (cs.map dC) := by
  induction h with
  | nil => exact .nil
  | cons r _ ih => exact .cons (IsD.dp r) ih
theorem eqvCC (c : Cp) : PyData.eqv (dC c) (dC c) = true := by
  show (PyData.eqv (d3 c.t) (d3 c.t) && (PyData.eqv (d3 c.s) (d3 c.s) && ((c.m == c.m) && true))) = true
  rw [eqv3, eqv3, decide_eq_true rfl, decide_eq_true rfl]
  cases c.m <;> rfl
theorem eqvAll_refl : ∀ (xs : List PyData), (∀ x ∈ xs, PyData.eqv x x = true) → PyData.eqvAll xs xs = true
  | [], _ => rfl
  | x :: xs, h => by
    show (PyData.eqv x x && PyData.eqvAll xs xs) = true
    rw [h x List.mem_cons_self, eqvAll_refl xs fun y hy => h y (List.mem_cons_of_mem _ hy)]
    rfl
theorem eqvL_refl (xs : List PyData) (h : ∀ x ∈ xs, ∃ c, x = dC c) : PyData.eqv (.list xs) (.list xs) = true := eqvAll_refl xs fun x hx => by
  obtain ⟨c, rfl⟩ := h x hx
  exact eqvCC c
theorem shapedCs (xs : List PyData) (h : ∀ x ∈ xs, ∃ c, x = dC c) : SeqAt.shaped (.list xs) = true := shapedL fun x hx => by
  obtain ⟨c, rfl⟩ := h x hx
  exact ⟨rfl, by show 2 ≤ 60; decide⟩
theorem memC (cs : List Cp) : ∀ x ∈ cs.map dC, ∃ c, x = dC c := fun x hx => by
  obtain ⟨c, _, e⟩ := List.mem_map.mp hx
  exact ⟨c, e.symm⟩
theorem alikeC (cs : List Cp) : PySem.W.AllAlike (cs.map dC) := fun x hx y hy => by
  obtain ⟨c, rfl⟩ := memC cs x hx
  obtain ⟨e, rfl⟩ := memC cs y hy
  rfl
theorem sortC (cs : List Cp) : PySem.W.Sortable (cs.map dC) := .inl fun x hx => by
  obtain ⟨c, rfl⟩ := memC cs x hx
  exact ⟨_, _, rfl⟩
theorem depC (cs : List Cp) : ∀ x ∈ cs.map dC, x.depth ≤ 60 := fun x hx => by
  obtain ⟨c, rfl⟩ := memC cs x hx
  show 2 ≤ 60
  decide
/-- what stands while the law runs -/
structure S53 (K : PySem.W.Frag) (C d p1 p2 p3 : Addr) (c1 c2 e : Cp) (Ls r1 r2 : Addr) (H : Hp) : Prop where
  hd : ∃ st, H d = some (.lst (encD st)) ∧ SrcOk st
  i1 : IsC K C H (.ref p1) c1
  i2 : IsC K C H (.ref p2) c2
  i3 : IsC K C H (.ref p3) e
  hl : H Ls = some (.lst [.ref r1, .ref r2])
  j1 : IsC K C H (.ref r1) (cj e c1)
  j2 : IsC K C H (.ref r2) (cj e c2)
theorem S53.same {C d p1 p2 p3 Ls r1 r2 : Addr} {c1 c2 e : Cp} {H H' : Hp} (S : S53 K C d p1 p2 p3 c1 c2 e Ls r1 r2 H) (s : Same H H') : S53 K C d p1 p2 p3 c1 c2 e Ls r1 r2 H' := by
  obtain ⟨⟨st, h1, h2⟩, i1, i2, i3, hl, j1, j2⟩ := S
  exact ⟨⟨st, s _ _ h1, h2⟩, i1.same s, i2.same s, i3.same s, s _ _ hl, j1.same s, j2.same s⟩
theorem S53.keep {C d p1 p2 p3 Ls r1 r2 : Addr} {c1 c2 e : Cp} {H H' : Hp} {st' : Src} (S : S53 K C d p1 p2 p3 c1 c2 e Ls r1 r2 H) (n : Ls ≠ d) (k : Keep d H H') (h' : H' d = some (.lst (encD st'))) (o' : SrcOk st') : S53 K C d p1 p2 p3 c1 c2 e Ls r1 r2 H' := by
  obtain ⟨⟨st, h1, h2⟩, i1, i2, i3, hl, j1, j2⟩ := S
  exact ⟨⟨st', h', o'⟩, i1.keep h1 k, i2.keep h1 k, i3.keep h1 k, k _ _ n hl, j1.keep h1 k, j2.keep h1 k⟩
theorem KB.mono {n m n' m' : Nat} {k : KS} (h : KB n m k) (a : n ≤ n') (b : m ≤ m') : KB n' m' k := by
  cases k with
  | all => exact h
  | none => exact h
  | spot s => exact B.mono (show B n s from h) a
  | line l => exact B.mono (show B m l from h) b
theorem cj_BC {c e : Cp} (nc : CopyIn c) (ne : CopyIn e) : BC 27 (cj e c) := (jn_BC (jn_ok (bk_ok ne.ok) nc.ok) ne.ok (jn_BC (bk_ok ne.ok) nc.ok (bk_BC ne.ok ne.bd) nc.bd) ne.bd).mono (by decide)
theorem ok_law {f C fI : Addr} {fd fdI : FuncData} {mv ds : List Value} (TC : CopyI P w K mg base C fI fdI mv ds) (m_rs : MRs P w K mg base C) (m_iv : MIv P w K mg base C) (m_eq : MEq P w K mg base C) (m_ca : MCa P w K mg base C) (m_pm : MPm P w K mg base C) (m_pg : MPg P w K mg base C)
    (b_range : mg "range" = none) (b_tuple : mg "tuple" = none) (b_set : mg "set" = none) (b_sorted : mg "sorted" = none) (b_len : mg "len" = none)
    (d_law_random : D P w K mg base "_law_random" 1 (sp_random K)) (d_law_below : D P w K mg base "_law_below" 1 sp_below) (d_law_told : D P w K mg base "_law_told" 4 (sp_draw fun H r => ∃ c, IsD K H r c ∧ CopyIn c)) (d_law_still_told : D P w K mg base "_law_still_told" 4 (sp_draw fun H r => ∃ c, IsD K H r c ∧ CopyIn c))
    (d_law_copy : D P w K mg base "_law_copy" 6 (sp_copyOf K C)) (d_law_spot : D P w K mg base "_law_spot" 3 (sp_draw fun H r => ∃ t, IsT K H r t ∧ SpotIn t)) (d_law_lowest : D P w K mg base "_law_lowest" 2 (sp_low K)) (d_law_shown : D P w K mg base "_law_shown" 3 (sp_shown K C))
    (d_kept : D P w K mg base "kept" 8 (sp_kept K C)) (d_meeting : D P w K mg base "meeting" 7 (sp_meet K C)) (d_order : D P w K mg base "order" 8 (sp_order K C)) (d_carriers : D P w K mg base "carriers" 7 (sp_carr K C))
    (F : Fun K "law" "law" s_law f fd) : FnOk P w K mg base CX0 10 f fd ["_law_script"] (spLaw K) := by
  refine F.ok sc_law (fun vs H Q E h => ?_) (fun cdv A outer s H vs Q E hr h => ?_)
  · obtain ⟨a, ns, rfl, _⟩ := h
    rfl
  obtain ⟨a, ns, rfl, hS, h63, q⟩ := h
  refine ⟨_, (pss_cons (ps_set (i := 1) sc_law.nd rfl (by first | exact Or.inl rfl | exact Or.inr rfl) (pc d_law_random (hr.mono (by decide)) (pa_cons (pv 0) (pa_cons pe_int pa_nil))))
    (pss_cons (ps_par3 (i := 2) (j := 3) (l := 4) (by rfl) sc_law.nd rfl rfl rfl (by decide) (by decide) (by decide) rfl rfl rfl (pa_cons (pc d_law_told (hr.mono (by decide)) (pa_cons (pv 1) pa_nil)) (pa_cons (pc d_law_told (hr.mono (by decide)) (pa_cons (pv 1) pa_nil)) (pa_cons (pc d_law_told (hr.mono (by decide)) (pa_cons (pv 1) pa_nil)) pa_nil))) (by rfl))
    (pss_cons (ps_if (pt_cmpR (op_eq) (pc d_law_below (hr.mono (by decide)) (pa_cons (pv 1) (pa_cons pe_int pa_nil))) pe_int (nomark _)) (pss_one (ps_set (i := 2) sc_law.nd rfl (by first | exact Or.inl rfl | exact Or.inr rfl) (pc d_law_still_told (hr.mono (by decide)) (pa_cons (pv 1) pa_nil)))) pss_nil)
    (pss_cons (ps_asg (pe_tup (pa_cons (pc d_law_copy (hr.mono (by decide)) (pa_cons (pv 2) pa_nil)) (pa_cons (pc d_law_copy (hr.mono (by decide)) (pa_cons (pv 3) pa_nil)) (pa_cons (pc d_law_copy (hr.mono (by decide)) (pa_cons (pv 4) pa_nil)) pa_nil)))) (pg_tup rfl (pgs_cons (pg_name (i := 5) sc_law.nd rfl (by first | exact Or.inl rfl | exact Or.inr rfl)) (pgs_cons (pg_name (i := 6) sc_law.nd rfl (by first | exact Or.inl rfl | exact Or.inr rfl)) (pgs_cons (pg_name (i := 7) sc_law.nd rfl (by first | exact Or.inl rfl | exact Or.inr rfl)) pgs_nil)))))
    (pss_cons (ps_set (i := 8) sc_law.nd rfl (by first | exact Or.inl rfl | exact Or.inr rfl) (pe_lst (pa_cons (pe_op (r := rOwn2 C (sp_jn K C)) (op_rsh m_rs (hr.mono (by decide))) (pe_op (r := rOwn2 C (sp_jn K C)) (op_rsh m_rs (hr.mono (by decide))) (pe_un (r := rOwn1 C (sp_bk K C)) (un_inv' m_iv (hr.mono (by decide))) (pv 7)) (pv 5)) (pv 7)) (pa_cons (pe_op (r := rOwn2 C (sp_jn K C)) (op_rsh m_rs (hr.mono (by decide))) (pe_op (r := rOwn2 C (sp_jn K C)) (op_rsh m_rs (hr.mono (by decide))) (pe_un (r := rOwn1 C (sp_bk K C)) (un_inv' m_iv (hr.mono (by decide))) (pv 7)) (pv 6)) (pv 7)) pa_nil))))
    (pss_cons (ps_for PassesOwn.never rfl (pi_list (pe_lst (pa_cons (pe_tup (pa_cons (pc d_kept (hr.mono (by decide)) (pa_cons (pv 5) pa_nil)) (pa_cons (pc d_kept (hr.mono (by decide)) (pa_cons (pe_ix (r := rIxL K) ix_list (pv 8) pe_int (fun _ _ => rfl)) pa_nil)) pa_nil))) (pa_cons (pe_tup (pa_cons (pc d_meeting (hr.mono (by decide)) (pa_cons (pv 5) (pa_cons (pv 6) pa_nil))) (pa_cons (pc d_meeting (hr.mono (by decide)) (pa_cons (pe_ix (r := rIxL K) ix_list (pv 8) pe_int (fun _ _ => rfl)) (pa_cons (pe_ix (r := rIxL K) ix_list (pv 8) pe_int (fun _ _ => rfl)) pa_nil))) pa_nil))) pa_nil)))) (pg_tup rfl (pgs_cons (pg_name (i := 9) sc_law.nd rfl (by first | exact Or.inl rfl | exact Or.inr rfl)) (pgs_cons (pg_name (i := 10) sc_law.nd rfl (by first | exact Or.inl rfl | exact Or.inr rfl)) pgs_nil))) (pss_cons (ps_if (PW.pt (pw_or (pt_cmpR (op_ne) (pe_ix (r := rIxT K) ix_tup (pv 9) pe_int (fun _ _ => rfl)) (pe_ix (r := rIxT K) ix_tup (pv 10) pe_int (fun _ _ => rfl)) (nomark _)) (pw_or1 (PW.pt (pw_and (pt_cmpR (op_eq) (pe_ix (r := rIxT K) ix_tup (pv 9) pe_int (fun _ _ => rfl)) pe_str (nomark _)) (pw_and1 (pt_cmpR (r := rNeD K) (op_neD hr.units) (pe_apK (K := K) rfl m_ca (hr.mono (by decide)) (pv 7) (pa_cons (pe_ix (r := rIxT K) ix_tup (pv 9) pe_int (fun _ _ => rfl)) pa_nil)) (pe_ix (r := rIxT K) ix_tup (pv 10) pe_int (fun _ _ => rfl)) (nomark _)))))))) (pss_one (ps_ret pe_bl)) pss_nil)
    (pss_one (ps_if (pt_cmpR (op_eq) (pe_ix (r := rIxT K) ix_tup (pv 9) pe_int (fun _ _ => rfl)) pe_str (nomark _)) (pss_cons (ps_asg (pe_slice (r := rSlT K) sl_tup (pv 9) (po_some pe_int) po_none) (pg_tup rfl (pgs_cons (pg_name (i := 11) sc_law.nd rfl (by first | exact Or.inl rfl | exact Or.inr rfl)) (pgs_cons (pg_name (i := 12) sc_law.nd rfl (by first | exact Or.inl rfl | exact Or.inr rfl)) (pgs_cons (pg_name (i := 13) sc_law.nd rfl (by first | exact Or.inl rfl | exact Or.inr rfl)) pgs_nil)))))
    (pss_one (ps_for PassesOwn.never rfl (pi_tup (pe_tup (pa_cons pe_int (pa_cons pe_int pa_nil)))) (pg_name (i := 14) sc_law.nd rfl (by first | exact Or.inl rfl | exact Or.inr rfl)) (pss_cons (ps_set (i := 15) sc_law.nd rfl (by first | exact Or.inl rfl | exact Or.inr rfl) (pe_apK (K := K) rfl m_ca (hr.mono (by decide)) (pv 7) (pa_cons (pc d_law_lowest (hr.mono (by decide)) (pa_cons (pe_op op_add (pe_op op_mulW (pv 11) (pv 13)) (pe_op op_mulW (pv 14) (pv 12))) (pa_cons (pe_op op_sub (pe_op op_mulW (pv 12) (pv 13)) (pe_op op_mulW (pv 14) (pv 11))) (pa_cons (pe_op op_add (pe_op op_mulW (pv 11) (pv 11)) (pe_op op_mulW (pv 12) (pv 12))) pa_nil)))) pa_nil)))
    (pss_cons (ps_set (i := 16) sc_law.nd rfl (by first | exact Or.inl rfl | exact Or.inr rfl) (pe_op op_add (pe_op op_mulW (pe_ix (r := rIxT K) ix_tup (pv 10) pe_int (fun _ _ => rfl)) (pe_ix (r := rIxT K) ix_tup (pv 15) pe_int (fun _ _ => rfl))) (pe_op op_mulW (pe_ix (r := rIxT K) ix_tup (pv 10) pe_int (fun _ _ => rfl)) (pe_ix (r := rIxT K) ix_tup (pv 15) pe_int (fun _ _ => rfl)))))
    (pss_one (ps_if (pt_cmpR (op_ne) (pv 16) (pe_op op_mulW (pe_ix (r := rIxT K) ix_tup (pv 10) pe_int (fun _ _ => rfl)) (pe_ix (r := rIxT K) ix_tup (pv 15) pe_int (fun _ _ => rfl))) (nomark _)) (pss_one (ps_ret pe_bl)) pss_nil))))))) pss_nil))))
    (pss_cons (ps_if (PW.pt (pw_or (pt_cmpR (op_ne) (pc d_order (hr.mono (by decide)) (pa_cons (pv 5) pa_nil)) (pc d_order (hr.mono (by decide)) (pa_cons (pe_ix (r := rIxL K) ix_list (pv 8) pe_int (fun _ _ => rfl)) pa_nil)) (nomark _)) (pw_or (pt_cmpR (r := rNeD K) (op_neD hr.units) (pe_grow m_pg (hr.mono (by decide)) (pv 5)) (pe_grow m_pg (hr.mono (by decide)) (pe_ix (r := rIxL K) ix_list (pv 8) pe_int (fun _ _ => rfl))) (nomark _)) (pw_or1 (pt_cmpR (op_ne) (pe_mirr m_pm (hr.mono (by decide)) (pv 5)) (pe_mirr m_pm (hr.mono (by decide)) (pe_ix (r := rIxL K) ix_list (pv 8) pe_int (fun _ _ => rfl))) (nomark _)))))) (pss_one (ps_ret pe_bl)) pss_nil)
    (pss_cons (ps_setLc (i := 17) (own := [("_law_k", 14)]) (g := gName 14) (tt := tYes) (by rfl) sc_law.nd rfl rfl (sw_true rfl rfl rfl (by decide +kernel)) (pi_range1 (by rfl) b_range (pa_cons pe_int pa_nil)) (blkOk_by (own := [("_law_k", 14)]) (N := ["_law_script", "_law_d", "_law_told_here", "_law_other", "_law_still", "_law_one", "_law_two", "_law_seat", "_law_seen", "_law_here", "_law_there", "_law_a", "_law_b", "_law_c", "_law_k", "_law_spot_here", "_law_aside", "_law_spots", "_law_pairs", "_law_moved", "_law_pair", "_law_found", "_law_back", "_law_some", "_law_copy_here"]) (sc := defScope s_law) (by decide +kernel)) (fun _ _ _ _ _ => (pg_name (i := 14) sc_law.nd rfl (by first | exact Or.inl rfl | exact Or.inr rfl))) (fun _ _ _ _ _ => pts_nil) (fun _ _ _ _ _ => (pc d_law_spot (hr.mono (by decide)) (pa_cons (pv 1) pa_nil))))
    (pss_cons (ps_set (i := 18) sc_law.nd rfl (by first | exact Or.inl rfl | exact Or.inr rfl) (pe_callTy call_tuple_of (by rfl) b_tuple (by decide +kernel) (pa_cons (pe_lc (own := [("_law_spot_here", 15)]) (g := gName 15) (tt := tYes) (by rfl) sc_law.nd (pi_list (pv 17)) (blkOk_by (own := [("_law_spot_here", 15)]) (N := ["_law_script", "_law_d", "_law_told_here", "_law_other", "_law_still", "_law_one", "_law_two", "_law_seat", "_law_seen", "_law_here", "_law_there", "_law_a", "_law_b", "_law_c", "_law_k", "_law_spot_here", "_law_aside", "_law_spots", "_law_pairs", "_law_moved", "_law_pair", "_law_found", "_law_back", "_law_some", "_law_copy_here"]) (sc := defScope s_law) (by decide +kernel)) (fun _ _ _ _ _ => (pg_name (i := 15) sc_law.nd rfl (by first | exact Or.inl rfl | exact Or.inr rfl))) (fun _ _ _ _ _ => pts_nil) (fun _ _ _ _ _ => (pe_tup (pa_cons (pv 15) (pa_cons (pe_apK (K := K) rfl m_ca (hr.mono (by decide)) (pv 5) (pa_cons (pv 15) pa_nil)) pa_nil))))) pa_nil)))
    (pss_cons (ps_if (pt_cmpR (op_lt) (pe_callB call_len_seq (by rfl) b_len PySem.boot_len (pa_cons (pe_callB (r := rSortedN K P w) (cr_sortedN rfl) (by rfl) b_sorted (by decide +kernel) (pa_cons (pe_callTy (r := rSetOfT K P w) (cr_setOfT rfl hr.units) (by rfl) b_set (by decide +kernel) (pa_cons (pv 17) pa_nil)) pa_nil)) pa_nil)) pe_int (nomark _)) (pss_one (ps_ret pe_bl)) pss_nil)
    (pss_cons (ps_set (i := 19) sc_law.nd rfl (by first | exact Or.inl rfl | exact Or.inr rfl) (pe_callTy call_tuple_of (by rfl) b_tuple (by decide +kernel) (pa_cons (pe_lc (own := [("_law_pair", 20)]) (g := gName 20) (tt := tYes) (by rfl) sc_law.nd (pi_tup (pv 18)) (blkOk_by (own := [("_law_pair", 20)]) (N := ["_law_script", "_law_d", "_law_told_here", "_law_other", "_law_still", "_law_one", "_law_two", "_law_seat", "_law_seen", "_law_here", "_law_there", "_law_a", "_law_b", "_law_c", "_law_k", "_law_spot_here", "_law_aside", "_law_spots", "_law_pairs", "_law_moved", "_law_pair", "_law_found", "_law_back", "_law_some", "_law_copy_here"]) (sc := defScope s_law) (by decide +kernel)) (fun _ _ _ _ _ => (pg_name (i := 20) sc_law.nd rfl (by first | exact Or.inl rfl | exact Or.inr rfl))) (fun _ _ _ _ _ => pts_nil) (fun _ _ _ _ _ => (pe_tup (pa_cons (pe_apK (K := K) rfl m_ca (hr.mono (by decide)) (pv 7) (pa_cons (pe_ix (r := rIxT K) ix_tup (pv 20) pe_int (fun _ _ => rfl)) pa_nil)) (pa_cons (pe_apK (K := K) rfl m_ca (hr.mono (by decide)) (pv 7) (pa_cons (pe_ix (r := rIxT K) ix_tup (pv 20) pe_int (fun _ _ => rfl)) pa_nil)) pa_nil))))) pa_nil)))
    (pss_cons (ps_par (i := 21) (j := 22) (by rfl) sc_law.nd rfl rfl (by decide) rfl rfl (pa_cons (pc d_carriers (hr.mono (by decide)) (pa_cons (pv 18) pa_nil)) (pa_cons (pc d_carriers (hr.mono (by decide)) (pa_cons (pe_callTy call_tuple_of (by rfl) b_tuple (by decide +kernel) (pa_cons (pe_lc (own := [("_law_pair", 20)]) (g := gName 20) (tt := tYes) (by rfl) sc_law.nd (pi_tup (pv 18)) (blkOk_by (own := [("_law_pair", 20)]) (N := ["_law_script", "_law_d", "_law_told_here", "_law_other", "_law_still", "_law_one", "_law_two", "_law_seat", "_law_seen", "_law_here", "_law_there", "_law_a", "_law_b", "_law_c", "_law_k", "_law_spot_here", "_law_aside", "_law_spots", "_law_pairs", "_law_moved", "_law_pair", "_law_found", "_law_back", "_law_some", "_law_copy_here"]) (sc := defScope s_law) (by decide +kernel)) (fun _ _ _ _ _ => (pg_name (i := 20) sc_law.nd rfl (by first | exact Or.inl rfl | exact Or.inr rfl))) (fun _ _ _ _ _ => pts_nil) (fun _ _ _ _ _ => (pe_tup (pa_cons (pe_ix (r := rIxT K) ix_tup (pv 20) pe_int (fun _ _ => rfl)) (pa_cons (pe_ix (r := rIxT K) ix_tup (pv 20) pe_int (fun _ _ => rfl)) pa_nil))))) pa_nil)) pa_nil)) pa_nil)) (by rfl))
    (pss_cons (ps_setLc (i := 23) (own := [("_law_copy_here", 24)]) (g := gName 24) (tt := tYes) (by rfl) sc_law.nd rfl rfl (sw_true rfl rfl rfl (by decide +kernel)) (pi_list (pv 21)) (blkOk_by (own := [("_law_copy_here", 24)]) (N := ["_law_script", "_law_d", "_law_told_here", "_law_other", "_law_still", "_law_one", "_law_two", "_law_seat", "_law_seen", "_law_here", "_law_there", "_law_a", "_law_b", "_law_c", "_law_k", "_law_spot_here", "_law_aside", "_law_spots", "_law_pairs", "_law_moved", "_law_pair", "_law_found", "_law_back", "_law_some", "_law_copy_here"]) (sc := defScope s_law) (by decide +kernel)) (fun _ _ _ _ _ => (pg_name (i := 24) sc_law.nd rfl (by first | exact Or.inl rfl | exact Or.inr rfl))) (fun _ _ _ _ _ => pts_nil) (fun _ _ _ _ _ => (pc d_law_shown (hr.mono (by decide)) (pa_cons (pe_op (r := rOwn2 C (sp_jn K C)) (op_rsh m_rs (hr.mono (by decide))) (pe_op (r := rOwn2 C (sp_jn K C)) (op_rsh m_rs (hr.mono (by decide))) (pe_un (r := rOwn1 C (sp_bk K C)) (un_inv' m_iv (hr.mono (by decide))) (pv 7)) (pv 24)) (pv 7)) pa_nil))))
    (pss_cons (ps_if (PW.pt (pw_or (pt_cmpR (r := rNeD K) (op_neD hr.units) (pe_callB (r := rSortedD K) (cr_sortedD (u65 hr)) (by rfl) b_sorted (by decide +kernel) (pa_cons (pv 23) pa_nil)) (pe_callB (r := rSortedD K) (cr_sortedD (u65 hr)) (by rfl) b_sorted (by decide +kernel) (pa_cons (pe_lc (own := [("_law_copy_here", 24)]) (g := gName 24) (tt := tYes) (by rfl) sc_law.nd (pi_list (pc d_carriers (hr.mono (by decide)) (pa_cons (pv 19) pa_nil))) (blkOk_by (own := [("_law_copy_here", 24)]) (N := ["_law_script", "_law_d", "_law_told_here", "_law_other", "_law_still", "_law_one", "_law_two", "_law_seat", "_law_seen", "_law_here", "_law_there", "_law_a", "_law_b", "_law_c", "_law_k", "_law_spot_here", "_law_aside", "_law_spots", "_law_pairs", "_law_moved", "_law_pair", "_law_found", "_law_back", "_law_some", "_law_copy_here"]) (sc := defScope s_law) (by decide +kernel)) (fun _ _ _ _ _ => (pg_name (i := 24) sc_law.nd rfl (by first | exact Or.inl rfl | exact Or.inr rfl))) (fun _ _ _ _ _ => pts_nil) (fun _ _ _ _ _ => (pc d_law_shown (hr.mono (by decide)) (pa_cons (pv 24) pa_nil)))) pa_nil)) (nomark _)) (pw_or1 (pt_cmpR (r := rNotInO C (sp_ceq K C)) (op_cnotin m_eq (hr.mono (by decide))) (pv 5) (pv 21) (by rfl))))) (pss_one (ps_ret pe_bl)) pss_nil)
    (pss_one (ps_ret (pe_cmpR (r := rEqD K) (op_eqD hr.units) (pe_lc (own := [("_law_copy_here", 24)]) (g := gName 24) (tt := tYes) (by rfl) sc_law.nd (pi_list (pv 21)) (blkOk_by (own := [("_law_copy_here", 24)]) (N := ["_law_script", "_law_d", "_law_told_here", "_law_other", "_law_still", "_law_one", "_law_two", "_law_seat", "_law_seen", "_law_here", "_law_there", "_law_a", "_law_b", "_law_c", "_law_k", "_law_spot_here", "_law_aside", "_law_spots", "_law_pairs", "_law_moved", "_law_pair", "_law_found", "_law_back", "_law_some", "_law_copy_here"]) (sc := defScope s_law) (by decide +kernel)) (fun _ _ _ _ _ => (pg_name (i := 24) sc_law.nd rfl (by first | exact Or.inl rfl | exact Or.inr rfl))) (fun _ _ _ _ _ => pts_nil) (fun _ _ _ _ _ => (pc d_law_shown (hr.mono (by decide)) (pa_cons (pe_un (r := rOwn1 C (sp_bk K C)) (un_inv' m_iv (hr.mono (by decide))) (pv 24)) pa_nil)))) (pe_lc (own := [("_law_copy_here", 24)]) (g := gName 24) (tt := tYes) (by rfl) sc_law.nd (pi_list (pv 22)) (blkOk_by (own := [("_law_copy_here", 24)]) (N := ["_law_script", "_law_d", "_law_told_here", "_law_other", "_law_still", "_law_one", "_law_two", "_law_seat", "_law_seen", "_law_here", "_law_there", "_law_a", "_law_b", "_law_c", "_law_k", "_law_spot_here", "_law_aside", "_law_spots", "_law_pairs", "_law_moved", "_law_pair", "_law_found", "_law_back", "_law_some", "_law_copy_here"]) (sc := defScope s_law) (by decide +kernel)) (fun _ _ _ _ _ => (pg_name (i := 24) sc_law.nd rfl (by first | exact Or.inl rfl | exact Or.inr rfl))) (fun _ _ _ _ _ => pts_nil) (fun _ _ _ _ _ => (pc d_law_shown (hr.mono (by decide)) (pa_cons (pv 24) pa_nil)))) (nomark _)))))))))))))))))), ?_⟩
  refine ⟨_, rfl, a, ns, 53, rfl, hS, h63, by decide, by decide, fun H1 d st1 s1 hd1 ok1 => ?_⟩
  refine gn_of ?_
  dsimp only
  refine ⟨_, rfl, d, st1, rfl, hd1, ok1, fun H2 st2 v2 k2 hd2 ok2 ⟨c2, i2, n2⟩ => ?_⟩
  refine ⟨_, rfl, d, st2, rfl, hd2, ok2, fun H3 st3 v3 k3 hd3 ok3 ⟨c3, i3, n3⟩ => ?_⟩
  refine ⟨_, rfl, d, st3, rfl, hd3, ok3, fun H4 st4 v4 k4 hd4 ok4 ⟨c4, i4, n4⟩ => ⟨_, _, _, rfl, ?_⟩⟩
  have i2 := (i2.keep hd2 k3).keep hd3 k4
  have i3 := i3.keep hd3 k4
  dsimp only
  refine seq_join (fun σ' H' => ∃ v c, σ' = [some (.ref a), some (.ref d), some v, some v3, some v4, none, none, none, none, none, none, none, none, none, none, none, none, none, none, none, none, none, none, none, none] ∧ (∃ st, H' d = some (.lst (encD st)) ∧ SrcOk st) ∧ IsD K H' v c ∧ CopyIn c ∧ IsD K H' v3 c3 ∧ IsD K H' v4 c4) ?_ ?_
  · rintro σ' H5 ⟨v, c, rfl, ⟨st5, hd5, ok5⟩, i5, n5, i53, i54⟩
    refine ⟨_, rfl, _, c, rfl, i5, n5.ok, fun H6 w6 s6 j6 => ?_⟩
    refine ⟨_, rfl, _, c3, rfl, i53.same s6, n3.ok, fun H7 w7 s7 j7 => ?_⟩
    refine ⟨_, rfl, _, c4, rfl, i54.same (s6.trans s7), n4.ok, fun H8 w8 s8 j8 => ?_⟩
    obtain ⟨p1, _, _, _, e1, _⟩ := id j6
    obtain ⟨p2, _, _, _, e2, _⟩ := id j7
    obtain ⟨p3, _, _, _, e3, _⟩ := id j8
    subst e1 e2 e3
    refine ⟨(by show 3 ≤ sizeLine; decide), fun px hpx => ?_⟩
    have sx := same_new hpx (.tup [.ref p1, .ref p2, .ref p3])
    refine ⟨px, _, rfl, .inl (.inl upd_same), rfl, _, _, rfl, _, _, rfl, _, _, rfl, rfl, ?_⟩
    have i1 := j6.same (s7.trans (s8.trans sx))
    have i2 := j7.same (s8.trans sx)
    have i3 := j8.same sx
    have hd8 := (s6.trans (s7.trans (s8.trans sx))) _ _ hd5
    generalize upd H8 px (.tup [.ref p1, .ref p2, .ref p3]) = H9 at *
    dsimp only
    have b4 := bk_BC n4.ok n4.bd
    have o4 := bk_ok n4.ok
    refine ⟨_, rfl, bk_of i3 n4.ok (n4.bd.mono (by decide)) fun H10 r10 s10 j10 => ?_⟩
    refine ⟨_, rfl, jn_of j10 (i1.same s10) o4 n5.ok (b4.mono (by decide)) (n5.bd.mono (by decide)) fun H11 r11 s11 j11 => ?_⟩
    refine ⟨_, rfl, jn_of j11 (i3.same (s10.trans s11)) (jn_ok o4 n5.ok) n4.ok ((jn_BC o4 n5.ok b4 n5.bd).mono (by decide)) (n4.bd.mono (by decide)) fun H12 r12 s12 j12 => ?_⟩
    have sA := s10.trans (s11.trans s12)
    refine ⟨_, rfl, bk_of (i3.same sA) n4.ok (n4.bd.mono (by decide)) fun H13 r13 s13 j13 => ?_⟩
    refine ⟨_, rfl, jn_of j13 (i2.same (sA.trans s13)) o4 n3.ok (b4.mono (by decide)) (n3.bd.mono (by decide)) fun H14 r14 s14 j14 => ?_⟩
    refine ⟨_, rfl, jn_of j14 (i3.same (sA.trans (s13.trans s14))) (jn_ok o4 n3.ok) n4.ok ((jn_BC o4 n3.ok b4 n3.bd).mono (by decide)) (n4.bd.mono (by decide)) fun H15 r15 s15 j15 => ?_⟩
    obtain ⟨q1, _, _, _, e1, _⟩ := id j12
    obtain ⟨q2, _, _, _, e2, _⟩ := id j15
    subst e1 e2
    refine ⟨(by show 2 ≤ sizeLine; decide), fun Ls hLs => ?_⟩
    have sL := same_new hLs (.lst [.ref q1, .ref q2])
    have sB := sA.trans (s13.trans (s14.trans (s15.trans sL)))
    have S : S53 K C d p1 p2 p3 c c3 c4 Ls q1 q2 (upd H15 Ls (.lst [.ref q1, .ref q2])) := ⟨⟨st5, sB _ _ hd8, ok5⟩, i1.same sB, i2.same sB, i3.same sB, upd_same, j12.same (s13.trans (s14.trans (s15.trans sL))), j15.same sL⟩
    have nLd : Ls ≠ d := (ne_of_none ((sA.trans (s13.trans (s14.trans s15))) _ _ hd8) hLs).symm
    generalize upd H15 Ls (.lst [.ref q1, .ref q2]) = H16 at *
    clear sB sL s15 s14 s13 sA s12 s11 s10 j10 j11 j12 j13 j14 j15 i1 i2 i3 j6 j7 j8
    refine gn_of ?_
    dsimp only
    have B1 := cj_BC n5 n4
    have B2 := cj_BC n3 n4
    have O1 := cj_ok n4.ok n5.ok
    have O2 := cj_ok n4.ok n3.ok
    refine ⟨_, rfl, _, c, rfl, S.i1, n5.ok, n5.bd.mono (by decide), fun H17 vk1 s17 ik1 => ?_⟩
    refine ⟨_, rfl, Ls, _, _, _, rfl, rfl, .inl (.inl (s17 _ _ S.hl)), at0, _, _, rfl, S.j1.same s17, O1, B1.mono (by decide), fun H18 vk2 s18 ik2 => ?_⟩
    have S := S.same (s17.trans s18)
    refine ⟨(by show 2 ≤ sizeLine; decide), fun t1 ht1 => ?_⟩
    have st := same_new ht1 (.tup [vk1, vk2])
    have S := S.same st
    refine ⟨_, rfl, _, rfl, _, _, c, c3, rfl, S.i1, S.i2, n5.ok, n3.ok, n5.bd.mono (by decide), n3.bd.mono (by decide), fun H19 vm1 s19 im1 => ?_⟩
    refine ⟨_, rfl, Ls, _, _, _, rfl, rfl, .inl (.inl (s19 _ _ S.hl)), at0, _, rfl, Ls, _, _, _, rfl, rfl, .inl (.inl (s19 _ _ S.hl)), at1, _, _, _, _, rfl, S.j1.same s19, S.j2.same s19, O1, O2, B1.mono (by decide), B2.mono (by decide), fun H20 vm2 s20 im2 => ?_⟩
    refine ⟨(by show 2 ≤ sizeLine; decide), fun t2 ht2 => ⟨(by show 2 ≤ sizeLine; decide), fun Lq hLq => ?_⟩⟩
    have su := same_new ht2 (.tup [vm1, vm2])
    have sq := same_new hLq (.lst [.ref t1, .ref t2])
    have sC := s20.trans (su.trans sq)
    have sD := s19.trans sC
    have S := S.same sD
    have T1 : SqT K (upd (upd H20 t2 (.tup [vm1, vm2])) Lq (.lst [.ref t1, .ref t2])) t1 [vk1, vk2] := same_T sD (.inl (.inl upd_same))
    have T2 : SqT K (upd (upd H20 t2 (.tup [vm1, vm2])) Lq (.lst [.ref t1, .ref t2])) t2 [vm1, vm2] := same_T sq (.inl (.inl upd_same))
    have hLq' := upd_same (H := upd H20 t2 (.tup [vm1, vm2])) (a := Lq) (o := .lst [.ref t1, .ref t2])
    have ik1 := ik1.same (s18.trans (st.trans sD))
    have ik2 := ik2.same (st.trans sD)
    have im1 := im1.same sC
    have im2 := im2.same (su.trans sq)
    generalize upd (upd H20 t2 (.tup [vm1, vm2])) Lq (.lst [.ref t1, .ref t2]) = H21 at *
    have M1 := moved n4.ok (meet_ok c still) (meet_ok (cj c4 c) still) (fun z hz => kept_cj n4.ok n5.ok hz)
    have M2 := moved n4.ok (meet_ok c c3) (meet_ok (cj c4 c) (cj c4 c3)) (fun z hz => meet_cj n4.ok n5.ok n3.ok hz)
    have E1 := meet_KB n5.ok still_ok n5.bd.1 n5.bd.2 still_BC.1 still_BC.2
    have E2 := meet_KB O1 still_ok B1.1 B1.2 still_BC.1 still_BC.2
    have E3 := meet_KB n5.ok n3.ok n5.bd.1 n5.bd.2 n3.bd.1 n3.bd.2
    have E4 := meet_KB O1 O2 B1.1 B1.2 B2.1 B2.2
    have nth : ∀ (i : Nat) (x : V), [V.ref t1, .ref t2][i]? = some x → ∃ (t : Addr) (vh vt : V) (k k' : KS), x = .ref t ∧ SqT K H21 t [vh, vt] ∧ IsK K H21 vh k ∧ IsK K H21 vt k' ∧ Moved c4 k k' ∧ KOk k ∧ KB 235 117 k ∧ KB 1387 693 k' := by
      intro i x hx
      match i, hx with
      | 0, hx => cases hx; exact ⟨t1, _, _, _, _, rfl, T1, ik1, ik2, M1, meet_ok _ _, KB.mono E1 (by decide) (by decide), KB.mono E2 (by decide) (by decide)⟩
      | 1, hx => cases hx; exact ⟨t2, _, _, _, _, rfl, T2, im1, im2, M2, meet_ok _ _, KB.mono E3 (by decide) (by decide), KB.mono E4 (by decide) (by decide)⟩
      | n + 2, hx => simp at hx
    refine ⟨Lq, rfl, ⟨_, .inl (.inl hLq')⟩, for_list (K := K) (a := Lq) (xs := [.ref t1, .ref t2]) (fun i σ H' => (∃ y9 y10 y11 y12 y13 y14 y15 y16, σ = [some (.ref a), some (.ref d), some v, some v3, some v4, some (.ref p1), some (.ref p2), some (.ref p3), some (.ref Ls), y9, y10, y11, y12, y13, y14, y15, y16, none, none, none, none, none, none, none, none]) ∧ Same H21 H') ⟨⟨_, _, _, _, _, _, _, _, rfl⟩, Same.refl _⟩ ?_ ?_ ?_⟩
    · rintro i σ H' _ ⟨_, s'⟩
      exact .inl (.inl (s' _ _ hLq'))
    · rintro i x σ H' hx ⟨⟨y9, y10, y11, y12, y13, y14, y15, y16, rfl⟩, s'⟩
      obtain ⟨t, vh, vt, k, k', rfl, tt, ih, iv, M, kok, kb, kb'⟩ := nth i x hx
      refine ⟨t, _, rfl, same_T s' tt, rfl, _, _, rfl, _, _, rfl, rfl, ?_⟩
      obtain ⟨pk, pq, ek, tk, tq⟩ := (ih.same s').head
      obtain ⟨pk', pq', ek', tk', tq'⟩ := (iv.same s').head
      subst ek ek'
      have S := S.same s'
      dsimp only
      cases k with
      | all =>
        have := M.al rfl
        subst this
        refine ⟨_, rfl, pk, _, _, _, rfl, rfl, tk, by rfl, _, rfl, pk', _, _, _, rfl, rfl, tk', by rfl, rfl, _, rfl, ?_⟩
        rw [decide_eq_true rfl]
        refine iteF ⟨_, rfl, pk, _, _, _, rfl, rfl, tk, by rfl, rfl, _, rfl, ?_⟩
        rw [dS, k_spot]
        refine iteF ⟨_, rfl, pk, _, _, _, rfl, rfl, tk, by rfl, rfl, _, rfl, ?_⟩
        rw [dS, k_line]
        exact iteF ⟨⟨_, _, _, _, _, _, _, _, rfl⟩, s'⟩
      | none =>
        have := M.no rfl
        subst this
        refine ⟨_, rfl, pk, _, _, _, rfl, rfl, tk, by rfl, _, rfl, pk', _, _, _, rfl, rfl, tk', by rfl, rfl, _, rfl, ?_⟩
        rw [decide_eq_true rfl]
        refine iteF ⟨_, rfl, pk, _, _, _, rfl, rfl, tk, by rfl, rfl, _, rfl, ?_⟩
        rw [dS, k_spot]
        refine iteF ⟨_, rfl, pk, _, _, _, rfl, rfl, tk, by rfl, rfl, _, rfl, ?_⟩
        rw [dS, k_line]
        exact iteF ⟨⟨_, _, _, _, _, _, _, _, rfl⟩, s'⟩
      | spot sp =>
        have := M.sp sp rfl
        subst this
        have kok : Ok sp := kok
        have kb : B 235 sp := kb
        refine ⟨_, rfl, pk, _, _, _, rfl, rfl, tk, by rfl, _, rfl, pk', _, _, _, rfl, rfl, tk', by rfl, rfl, _, rfl, ?_⟩
        rw [show (decide (V.str (kstr (KS.spot sp)) = V.str (kstr (KS.spot (ap c4 sp))))) = true from decide_eq_true rfl]
        refine iteF ⟨_, rfl, pk, _, _, _, rfl, rfl, tk, by rfl, rfl, _, rfl, ?_⟩
        rw [dS, k_spot]
        refine iteT ⟨_, rfl, _, rfl, _, rfl, pk, _, _, _, rfl, rfl, tk, by rfl, ?_⟩
        refine ap_of S.i3 n4.ok (n4.bd.mono (by decide)) ⟨_, rfl, tq sp rfl⟩ kok (kb.mono (by decide)) fun H23 r23 s23 i23 => ?_
        obtain ⟨p23, rfl, t23⟩ := i23
        refine ⟨_, rfl, pk', _, _, _, rfl, rfl, same_T s23 tk', by rfl, _, _, Dp3 t23, Dp3 (same_T s23 (tq' _ rfl)), shaped3 _, shaped3 _, _, rfl, ?_⟩
        rw [eqv3, decide_eq_true rfl]
        refine iteF ⟨_, rfl, pk, _, _, _, rfl, rfl, same_T s23 tk, by rfl, rfl, _, rfl, ?_⟩
        rw [dS, k_line]
        exact iteF ⟨⟨_, _, _, _, _, _, _, _, rfl⟩, s'.trans s23⟩
      | line l =>
        obtain ⟨l', e', Ml⟩ := M.ln l rfl
        subst e'
        have kln : Ln l := kok
        have kb : B 117 l := kb
        have kb' : B 693 l' := kb'
        refine ⟨_, rfl, pk, _, _, _, rfl, rfl, tk, by rfl, _, rfl, pk', _, _, _, rfl, rfl, tk', by rfl, rfl, _, rfl, ?_⟩
        rw [show (decide (V.str (kstr (KS.line l)) = V.str (kstr (KS.line l')))) = true from decide_eq_true rfl]
        refine iteF ⟨_, rfl, pk, _, _, _, rfl, rfl, tk, by rfl, rfl, _, rfl, ?_⟩
        rw [dS, k_spot]
        refine iteF ⟨_, rfl, pk, _, _, _, rfl, rfl, tk, by rfl, rfl, _, rfl, ?_⟩
        rw [dS, k_line]
        refine iteT ?_
        have tk : SqT K H' pk [.str "line", .int l.1, .int l.2.1, .int l.2.2] := tk
        refine ⟨_, rfl, _, rfl, pk, _, rfl, tk, (fun z => absurd z.1 (show ¬ (1 : Nat) = 0 by decide)), fun u hu => ?_⟩
        have su := same_new hu (.tup (cutV [.str "line", .int l.1, .int l.2.1, .int l.2.2] (some 1) none))
        refine ⟨u, [.int l.1, .int l.2.1, .int l.2.2], rfl, .inl (.inl upd_same), rfl, _, _, rfl, _, _, rfl, _, _, rfl, rfl, ?_⟩
        have tk' := same_T su tk'
        have S := S.same su
        have s'' := s'.trans su
        generalize upd H' u (.tup (cutV [.str "line", .int l.1, .int l.2.1, .int l.2.2] (some 1) none)) = H23 at *
        have sqn := ln_sq kln
        have sqB : (l.1 * l.1 + l.2.1 * l.2.1).natAbs < 2 ^ 235 := add_lt (mul_lt kb.1 kb.1) (mul_lt kb.2.1 kb.2.1)
        dsimp only
        refine ⟨(by show 2 ≤ sizeLine; decide), fun z0 hz0 => ?_⟩
        have sz := same_new hz0 (.tup [.int 0, .int 1])
        have tk' := same_T sz tk'
        have S := S.same sz
        have s'' := s''.trans sz
        have tz : SqT K (upd H23 z0 (.tup [.int 0, .int 1])) z0 [.int 0, .int 1] := .inl (.inl upd_same)
        generalize upd H23 z0 (.tup [.int 0, .int 1]) = H24 at *
        refine ⟨z0, rfl, ⟨_, tz⟩, for_tup (K := K) (a := z0) (xs := [.int 0, .int 1]) (fun i σ H' => (∃ y14 y15 y16, σ = [some (.ref a), some (.ref d), some v, some v3, some v4, some (.ref p1), some (.ref p2), some (.ref p3), some (.ref Ls), some (.ref pk), some (.ref pk'), some (.int l.1), some (.int l.2.1), some (.int l.2.2), y14, y15, y16, none, none, none, none, none, none, none, none]) ∧ Same H24 H') ⟨⟨_, _, _, rfl⟩, Same.refl _⟩ ?_ ?_ ?_⟩
        · rintro i σ H' _ ⟨_, s2⟩
          exact same_T s2 tz
        · rintro i x σ H25 hx ⟨⟨y14, y15, y16, rfl⟩, s25⟩
          obtain ⟨j, rfl, j4⟩ : ∃ j : Int, x = .int j ∧ j.natAbs < 2 ^ 2 := by
            match i, hx with
            | 0, hx => cases hx; exact ⟨0, rfl, by decide⟩
            | 1, hx => cases hx; exact ⟨1, rfl, by decide⟩
            | n + 2, hx => simp at hx
          refine gn_of ?_
          dsimp only
          have S := S.same s25
          have tk' := same_T s25 tk'
          refine ⟨_, rfl, _, rfl, _, rfl, _, rfl, _, _, rfl, rfl, mulW kb.1 kb.2.2, _, rfl, _, rfl, _, _, rfl, rfl, mulW (a := 1) j4 kb.2.1, _, _, rfl, rfl, ?_⟩
          refine ⟨_, rfl, _, rfl, _, _, rfl, rfl, mulW kb.2.1 kb.2.2, _, rfl, _, rfl, _, _, rfl, rfl, mulW (a := 1) j4 kb.1, _, _, rfl, rfl, ?_⟩
          refine ⟨_, rfl, _, rfl, _, _, rfl, rfl, mulW kb.1 kb.1, _, rfl, _, rfl, _, _, rfl, rfl, mulW kb.2.1 kb.2.1, _, _, rfl, rfl, ?_⟩
          refine ⟨_, _, _, rfl, sqn, up_lt (by decide) sqB, fun H26 v26 s26 i26 => ?_⟩
          have b1 : (l.1 * l.2.2 + j * l.2.1).natAbs < 2 ^ 235 := add_lt (mul_lt kb.1 kb.2.2) (up_lt (by decide) (mul_lt j4 kb.2.1))
          have b2 : (l.2.1 * l.2.2 - j * l.1).natAbs < 2 ^ 235 := by rw [Int.sub_eq_add_neg]; exact add_lt (mul_lt kb.2.1 kb.2.2) (neg_lt (up_lt (by decide) (mul_lt j4 kb.1)))
          have bal : B 235 (along l j) := low_B sqn b1 b2 sqB
          have i26 : IsT K H26 v26 (along l j) := i26
          have oal := along_ok kln j
          refine ap_of (S.i3.same s26) n4.ok (n4.bd.mono (by decide)) i26 oal (bal.mono (by decide)) fun H27 r27 s27 i27 => gn_of ?_
          obtain ⟨p27, rfl, t27⟩ := i27
          have tk' := same_T (s26.trans s27) tk'
          have bw : B 243 (ap c4 (along l j)) := (ap_B n4.ok oal n4.bd bal).mono (by decide)
          have won := Ml _ oal (along_on kln j)
          generalize ap c4 (along l j) = wz at *
          dsimp only
          refine ⟨_, rfl, pk', _, _, _, rfl, rfl, tk', by rfl, _, rfl, p27, _, _, _, rfl, rfl, t27, by rfl, _, _, rfl, rfl, mulW kb'.1 (bw.mono (m := 693) (by decide)).1, ?_⟩
          refine ⟨_, rfl, pk', _, _, _, rfl, rfl, tk', by rfl, _, rfl, p27, _, _, _, rfl, rfl, t27, by rfl, _, _, rfl, rfl, mulW kb'.2.1 (bw.mono (m := 693) (by decide)).2.1, _, _, rfl, rfl, gn_of ?_⟩
          refine ⟨_, rfl, _, rfl, pk', _, _, _, rfl, rfl, tk', by rfl, _, rfl, p27, _, _, _, rfl, rfl, t27, by rfl, _, _, rfl, rfl, mulW kb'.2.2 (bw.mono (m := 693) (by decide)).2.2, rfl, _, rfl, ?_⟩
          rw [dI, decide_eq_true (show l'.1 * wz.1 + l'.2.1 * wz.2.1 = l'.2.2 * wz.2.2 from won)]
          exact iteF ⟨⟨_, _, _, rfl⟩, s25.trans (s26.trans s27)⟩
        · rintro σ H25 ⟨⟨y14, y15, y16, rfl⟩, s25⟩
          exact ⟨⟨_, _, _, _, _, _, _, _, rfl⟩, s''.trans s25⟩
    · rintro σ H22 ⟨⟨y9, y10, y11, y12, y13, y14, y15, y16, rfl⟩, s22⟩
      have S := S.same s22
      dsimp only
      refine ⟨_, rfl, _, c, 3, rfl, S.i1, n5.ok, n5.bd, by decide, fun H23 s23 => ?_⟩
      refine ⟨_, rfl, Ls, _, _, _, rfl, rfl, .inl (.inl (s23 _ _ S.hl)), at0, _, cj c4 c, 27, rfl, S.j1.same s23, O1, B1, by decide, fun H24 s24 => ⟨(by cases ord c <;> cases ord (cj c4 c) <;> rfl), _, rfl, ?_⟩⟩
      rw [ord_cj n4.ok n5.ok, decide_eq_true rfl]
      refine iteF ?_
      have S := S.same (s23.trans s24)
      refine ⟨_, rfl, prop_of S.i1 ⟨_, _, rfl, S.i1, n5.ok, n5.bd.1.mono (by decide), fun H25 g1 s25 t25 => ?_⟩⟩
      refine ⟨_, rfl, Ls, _, _, _, rfl, rfl, .inl (.inl (s25 _ _ S.hl)), at0, prop_of (S.j1.same s25) ⟨_, _, rfl, S.j1.same s25, O1, B1.1.mono (by decide), fun H26 g2 s26 t26 => ?_⟩⟩
      rw [gr_cj n4.ok n5.ok] at t26
      refine ⟨dF (gr c.t), dF (gr c.t), IsF.dp ⟨_, rfl, same_T s26 t25⟩, IsF.dp ⟨_, rfl, t26⟩, shapedF _, shapedF _, _, rfl, ?_⟩
      rw [show PyData.eqv (dF (gr c.t)) (dF (gr c.t)) = true from eqv2 _ _]
      refine iteF ?_
      have S := S.same (s25.trans s26)
      refine ⟨_, rfl, prop_of S.i1 ⟨_, _, rfl, S.i1, fun r1 er1 => ?_⟩⟩
      refine ⟨_, rfl, Ls, _, _, _, rfl, rfl, .inl (.inl S.hl), at0, prop_of S.j1 ⟨_, _, rfl, S.j1, fun r2 er2 => ?_⟩⟩
      subst er1 er2
      refine ⟨rfl, _, rfl, ?_⟩
      rw [cj_m, decide_eq_true rfl]
      refine iteF ?_
      obtain ⟨st26, hd26, ok26⟩ := id S.hd
      refine ⟨3, rfl, by decide, by decide, fun L hL => lc_range (lo := 0) (n := 3) (fun i H' => DrawnS K d L H26 H' i) (drawnS_start hd26 ok26 hL) ?_ ?_⟩
      · rintro i H6 hi ⟨st, ps, zs, k6, hd6, ok6, hl6, hn, a6, g6⟩
        refine ⟨rfl, ?_⟩
        refine yes_of ?_
        refine ⟨_, rfl, d, st, rfl, hd6, ok6, fun H7 st7 r7 k7 hd7 ok7 ⟨z, ⟨pz, er, iz⟩, nz⟩ => ?_⟩
        subst er
        have hld : L ≠ d := (ne_of_none hd26 hL).symm
        exact ⟨_, k7 _ _ hld hl6, by rw [List.length_map, hn]; exact small1000 (by omega), drawnS_more hL hld k6 hd6 hl6 hn a6 g6 k7 hd7 ok7 iz nz⟩
      rintro H27 ⟨st27, qs, zs, k27, hd27, ok27, hl27, hn27, a27, g27⟩
      have S := S.keep nLd k27 hd27 ok27
      have lz0 := Paired.length a27
      refine gn_of ?_
      dsimp only
      refine ⟨_, rfl, L, rfl, ⟨_, .inl (.inl hl27)⟩, fun Lp hLp => lc_list (K := K) (a := L) (xs := qs.map V.ref) (fun i H' => ∃ ws, Same H27 H' ∧ H' Lp = some (.lst ws) ∧ AllPr K H' ws ((zs.take i).map fun y => (y, ap c y))) ⟨[], same_new hLp _, upd_same, .nil⟩ ?_ ?_ ?_⟩
      · rintro i H' _ ⟨ws, s', _⟩
        exact .inl (.inl (s' _ _ hl27))
      · rintro i x H' hx ⟨ws, s', hw, aw⟩
        obtain ⟨py, y, rfl, e1, ty⟩ := tl_at a27 hx
        have ny := g27 y (List.mem_of_getElem? e1)
        have ty := same_T s' ty
        have li := (List.getElem?_eq_some_iff.mp e1).1
        refine ⟨rfl, ?_⟩
        refine yes_of ?_
        refine ⟨_, rfl, _, rfl, _, rfl, _, rfl, ?_⟩
        refine ap_of (S.i1.same s') n5.ok (n5.bd.mono (by decide)) ⟨_, rfl, ty⟩ ny.ok (ny.bd.mono (by decide)) fun H6 r6 s6 i6 => ?_
        obtain ⟨p6, rfl, t6⟩ := i6
        refine ⟨(by show 2 ≤ sizeLine; decide), fun p7 hp7 => ?_⟩
        have s7 := same_new hp7 (.tup [.ref py, .ref p6])
        have s67 := s6.trans s7
        have hw7 := s67 _ _ hw
        have kk := keep_upd (d := Lp) (H := upd H6 p7 (.tup [.ref py, .ref p6])) (o := .lst (ws ++ [.ref p7]))
        have lw := Paired.length aw
        rw [List.length_map, List.length_take] at lw
        refine ⟨ws, hw7, small1000 (by omega), ws ++ [.ref p7], fun b o e => ?_, upd_same, ?_⟩
        · rw [upd_ne (ne_of_none e hLp)]; exact s67 _ _ (s' _ _ e)
        · rw [tk_map (fun y => (y, ap c y)) e1]
          exact papp ((aw.same s67).keep hw7 kk) (.cons (IsPr.keep (H := upd H6 p7 (.tup [.ref py, .ref p6])) ⟨p7, py, p6, rfl, .inl (.inl upd_same), same_T s67 ty, same_T s7 t6⟩ hw7 kk) .nil)
      rintro H28 ⟨ws, s28, hw28, aw⟩
      rw [List.length_map, lz0, List.take_length] at aw
      refine ⟨Lp, ws, rfl, .inl ⟨.inl (.inl hw28), fun tp htp => ?_⟩⟩
      have s29 := same_new htp (.tup ws)
      have s2729 := s28.trans s29
      have S := S.same s2729
      have aw := aw.same s29
      have hT : SqT K (upd H28 tp (.tup ws)) tp ws := .inl (.inl upd_same)
      have hl29 := s2729 _ _ hl27
      have a29 := paired_imp (fun p t z => same_T s2729 z) a27
      generalize upd H28 tp (.tup ws) = H29 at *
      have inP : ∀ p ∈ zs.map (fun y => (y, ap c y)), PrIn p ∧ ap c p.1 = p.2 ∧ B 3 p.1 ∧ B 11 p.2 ∧ p.1 ∈ zs := fun p hp => by
        obtain ⟨y, hy, rfl⟩ := List.mem_map.mp hp
        have ny := g27 y hy
        have bb := ap_B n5.ok ny.ok n5.bd ny.bd
        exact ⟨⟨⟨ny.ok, ap_ok n5.ok ny.ok⟩, ny.bd.mono (by decide), bb.mono (by decide)⟩, rfl, ny.bd, bb, hy⟩
      have pz : ∀ z ∈ zs, (z, ap c z) ∈ zs.map (fun y => (y, ap c y)) := fun z hz => List.mem_map.mpr ⟨z, hz, rfl⟩
      have lps : (zs.map (fun y => (y, ap c y))).length = 3 := by rw [List.length_map]; omega
      generalize zs.map (fun y => (y, ap c y)) = ps at *
      refine gn_of ?_
      dsimp only
      have ek : (qs.zip (zs.map l3)).map (fun k => V.ref k.1) = qs.map V.ref := by
        have := List.map_fst_zip (l₁ := qs) (l₂ := zs.map l3) (by rw [List.length_map]; omega)
        show (qs.zip (zs.map l3)).map (V.ref ∘ Prod.fst) = _
        rw [← List.map_map, this]
      have hk : ∀ k ∈ qs.zip (zs.map l3), ∃ z ∈ zs, k.2 = l3 z ∧ SqT K H29 k.1 (k.2.map V.int) := fun k hk => by
        obtain ⟨i, hi⟩ := List.mem_iff_getElem?.mp hk
        obtain ⟨h1, h2⟩ := List.getElem?_zip_eq_some.mp hi
        obtain ⟨z, hz, sz⟩ := pget a29 h1
        rw [List.getElem?_map, hz] at h2
        have e2 : k.2 = l3 z := (Option.some.inj h2).symm
        refine ⟨z, List.mem_of_getElem? hz, e2, ?_⟩
        rw [e2]
        exact sz
      have lk : (qs.zip (zs.map l3)).length = 3 := by rw [List.length_zip, List.length_map]; omega
      have ek2 : (qs.zip (zs.map l3)).map (·.2) = zs.map l3 := List.map_snd_zip (by rw [List.length_map]; omega)
      generalize qs.zip (zs.map l3) = ks at *
      refine ⟨_, rfl, L, ks, rfl, .inl (.inl (by rw [ek]; exact hl29)), fun k hk' => (hk k hk').elim fun z h => h.2.2, by omega, fun sa Lk hsa sub all => ?_⟩
      have s30 := same_new hsa (SetTO P w sa Lk)
      have bd : ∀ k ∈ ks, k.2.length = 2 + 1 ∧ SdS (2 ^ 30) k.2 := fun k hk' => by
        obtain ⟨z, hz, e2, _⟩ := hk k hk'
        have b := (g27 z hz).bd
        have b1 : z.1.natAbs < 8 := b.1
        have b2 : z.2.1.natAbs < 8 := b.2.1
        have b3 : z.2.2.natAbs < 8 := b.2.2
        rw [e2]
        refine ⟨rfl, fun m hm => ?_⟩
        simp only [l3, List.mem_cons, List.mem_nil_iff, or_false] at hm
        have e30 : (2 : Int) ^ 30 = 1073741824 := by decide
        rw [e30]
        rcases hm with rfl | rfl | rfl <;> constructor <;> omega
      refine ⟨sa, Lk, 2, 2 ^ 30, rfl, upd_same, fun k hk' => ⟨same_T s30 ((hk k (sub k hk')).elim fun z h => h.2.2), bd k (sub k hk')⟩, fun nd few ns p12 ln hp12 => ?_⟩
      have s31 := same_new hp12 (.lst ns)
      have S := S.same (s30.trans s31)
      have hT := same_T (s30.trans s31) hT
      have aw := aw.same (s30.trans s31)
      refine ⟨_, _, rfl, .inl (.inl (.inl upd_same)), ?_⟩
      generalize upd (upd H29 sa (SetTO P w sa Lk)) p12 (.lst ns) = H31 at *
      refine ⟨_, _, rfl, rfl, _, rfl, ?_⟩
      by_cases fw : (ns.length : Int) < 2
      · rw [decide_eq_true fw]
        exact iteT (q _)
      rw [decide_eq_false fw]
      refine iteF ?_
      obtain ⟨h, pt, ep⟩ : ∃ h pt, ps = h :: pt := by
        match ps, lps with
        | x :: r, _ => exact ⟨x, r, rfl⟩
      subst ep
      have hh : h ∈ h :: pt := List.mem_cons_self ..
      have subs : ∀ l ∈ Lk.map (·.2), ∃ p ∈ h :: pt, l = l3 p.1 := fun l hl => by
        obtain ⟨k, hk1, rfl⟩ := List.mem_map.mp hl
        obtain ⟨z, hz, e2, _⟩ := hk k (sub k hk1)
        exact ⟨(z, ap c z), pz z hz, e2⟩
      obtain ⟨o, os, eo⟩ := many_oth (h := h) subs nd (by rw [List.length_map]; omega)
      have mo : o ∈ h :: pt ∧ o.1 ≠ h.1 := by
        have : o ∈ oth (h :: pt) h := by rw [eo]; exact List.mem_cons_self ..
        obtain ⟨a, b⟩ := List.mem_filter.mp this
        exact ⟨a, by simpa using b⟩
      have okp : ∀ p ∈ h :: pt, PrOk p := fun p hp => (inP p hp).1.ok
      have ph := inP h hh
      have po := inP o mo.1
      have mo2 : o.2 ≠ h.2 := fun e => mo.2 (ap_inj n5.ok po.1.ok.a ph.1.ok.a (by rw [po.2.1, ph.2.1, e]))
      have lpt : (h :: pt).length ≤ 20 := by omega
      have lws := Paired.length aw
      refine ⟨_, rfl, tp, rfl, ⟨_, hT⟩, fun Lm hLm => lc_tup (K := K) (a := tp) (xs := ws) (fun i H' => ∃ us, Same H31 H' ∧ H' Lm = some (.lst us) ∧ AllPr K H' us (((h :: pt).take i).map (prm c4))) ⟨[], same_new hLm _, upd_same, .nil⟩ ?_ ?_ ?_⟩
      · rintro i H' _ ⟨us, s', _⟩
        exact same_T s' hT
      · rintro i x H' hx ⟨us, s', hu, au⟩
        obtain ⟨pr, e1, e2⟩ := pget aw hx
        obtain ⟨npr, _, b3, b11, _⟩ := inP pr (List.mem_of_getElem? e1)
        obtain ⟨tq, pa, pb, rfl, g1, g2, g3⟩ := e2.same s'
        have li := (List.getElem?_eq_some_iff.mp e1).1
        refine ⟨rfl, ?_⟩
        refine yes_of ?_
        refine ⟨_, rfl, _, rfl, _, rfl, tq, _, _, _, rfl, rfl, g1, by rfl, ?_⟩
        refine ap_of (S.i3.same s') n4.ok (n4.bd.mono (by decide)) ⟨_, rfl, g2⟩ npr.ok.a (b3.mono (by decide)) fun H6 r6 s6 i6 => ?_
        refine ⟨_, rfl, _, rfl, _, rfl, tq, _, _, _, rfl, rfl, same_T s6 g1, by rfl, ?_⟩
        refine ap_of (S.i3.same (s'.trans s6)) n4.ok (n4.bd.mono (by decide)) ⟨_, rfl, same_T s6 g3⟩ npr.ok.b (b11.mono (by decide)) fun H7 r7 s7 i7 => ?_
        obtain ⟨q6, rfl, t6⟩ := i6.same s7
        obtain ⟨q7, rfl, t7⟩ := i7
        refine ⟨(by show 2 ≤ sizeLine; decide), fun q8 hq8 => ?_⟩
        have s8 := same_new hq8 (.tup [.ref q6, .ref q7])
        have s68 := s6.trans (s7.trans s8)
        have hu8 := s68 _ _ hu
        have kk := keep_upd (d := Lm) (H := upd H7 q8 (.tup [.ref q6, .ref q7])) (o := .lst (us ++ [.ref q8]))
        have lu := Paired.length au
        rw [List.length_map, List.length_take] at lu
        refine ⟨us, hu8, small1000 (by omega), us ++ [.ref q8], fun b o e => ?_, upd_same, ?_⟩
        · rw [upd_ne (ne_of_none e hLm)]; exact s68 _ _ (s' _ _ e)
        · rw [tk_map (prm c4) e1]
          exact papp ((au.same s68).keep hu8 kk) (.cons (IsPr.keep (H := upd H7 q8 (.tup [.ref q6, .ref q7])) ⟨q8, q6, q7, rfl, .inl (.inl upd_same), same_T s8 t6, same_T s8 t7⟩ hu8 kk) .nil)
      rintro H32 ⟨um, s32, hum, aum⟩
      rw [lws, List.take_length] at aum
      refine ⟨Lm, um, rfl, .inl ⟨.inl (.inl hum), fun tm htm => ?_⟩⟩
      have s33 := same_new htm (.tup um)
      have s3133 := s32.trans s33
      have S := S.same s3133
      have hT := same_T s3133 hT
      have aw := aw.same s3133
      have aum := aum.same s33
      have hTm : SqT K (upd H32 tm (.tup um)) tm um := .inl (.inl upd_same)
      generalize upd H32 tm (.tup um) = H33 at *
      refine gn_of ?_
      dsimp only
      refine ⟨_, rfl, tp, ws, h, pt, o, os, rfl, hT, aw, (fun p hp => (inP p hp).1), eo, lpt, fun H34 Lc wc s34 _ hLc aC => ?_⟩
      have S := S.same s34
      have hT := same_T s34 hT
      have aw := aw.same s34
      have aum := aum.same s34
      have hTm := same_T s34 hTm
      refine ⟨_, rfl, tp, rfl, ⟨_, hT⟩, fun Lb hLb => lc_tup (K := K) (a := tp) (xs := ws) (fun i H' => ∃ us, Same H34 H' ∧ H' Lb = some (.lst us) ∧ AllPr K H' us (((h :: pt).take i).map prw)) ⟨[], same_new hLb _, upd_same, .nil⟩ ?_ ?_ ?_⟩
      · rintro i H' _ ⟨us, s', _⟩
        exact same_T s' hT
      · rintro i x H' hx ⟨us, s', hu, au⟩
        obtain ⟨pr, e1, e2⟩ := pget aw hx
        obtain ⟨tq, pa, pb, rfl, g1, g2, g3⟩ := e2.same s'
        have li := (List.getElem?_eq_some_iff.mp e1).1
        refine ⟨rfl, ?_⟩
        refine yes_of ?_
        refine ⟨_, rfl, tq, _, _, _, rfl, rfl, g1, by rfl, _, rfl, tq, _, _, _, rfl, rfl, g1, by rfl, (by show 2 ≤ sizeLine; decide), fun q8 hq8 => ?_⟩
        have s8 := same_new hq8 (.tup [.ref pb, .ref pa])
        have hu8 := s8 _ _ hu
        have kk := keep_upd (d := Lb) (H := upd H' q8 (.tup [.ref pb, .ref pa])) (o := .lst (us ++ [.ref q8]))
        have lu := Paired.length au
        rw [List.length_map, List.length_take] at lu
        refine ⟨us, hu8, small1000 (by omega), us ++ [.ref q8], fun b o e => ?_, upd_same, ?_⟩
        · rw [upd_ne (ne_of_none e hLb)]; exact s8 _ _ (s' _ _ e)
        · rw [tk_map prw e1]
          exact papp ((au.same s8).keep hu8 kk) (.cons (IsPr.keep (H := upd H' q8 (.tup [.ref pb, .ref pa])) ⟨q8, pb, pa, rfl, .inl (.inl upd_same), same_T s8 g3, same_T s8 g2⟩ hu8 kk) .nil)
      rintro H35 ⟨ub, s35, hub, aub⟩
      rw [lws, List.take_length] at aub
      refine ⟨Lb, ub, rfl, .inl ⟨.inl (.inl hub), fun tb htb => ?_⟩⟩
      have s36 := same_new htb (.tup ub)
      have s3436 := s35.trans s36
      have S := S.same s3436
      have aum := aum.same s3436
      have hTm := same_T s3436 hTm
      have hLc := s3436 _ _ hLc
      have aC := aC.same s3436
      have aub := aub.same s36
      have hTb : SqT K (upd H35 tb (.tup ub)) tb ub := .inl (.inl upd_same)
      generalize upd H35 tb (.tup ub) = H36 at *
      have inB : ∀ p ∈ prw h :: pt.map prw, PrIn p := fun p hp => by
        have hp : p ∈ (h :: pt).map prw := hp
        obtain ⟨r, hr', rfl⟩ := List.mem_map.mp hp
        have := (inP r hr').1
        exact ⟨prw_ok this.ok, this.bb, this.ba⟩
      have othB : oth (prw h :: pt.map prw) (prw h) = prw o :: os.map prw := oth_map (f := prw) (prs := h :: pt) (fun p hp => by
        have np := inP p hp
        show p.2 = h.2 ↔ p.1 = h.1
        exact ⟨fun e => ap_inj n5.ok np.1.ok.a ph.1.ok.a (by rw [np.2.1, ph.2.1, e]), fun e => by rw [← np.2.1, ← ph.2.1, e]⟩) eo
      refine ⟨tb, ub, prw h, pt.map prw, prw o, os.map prw, rfl, hTb, aub, inB, othB, by rw [List.length_cons, List.length_map]; exact lpt, fun H37 Ld wd s37 _ hLd aD => ⟨_, _, rfl, ?_⟩⟩
      have S := S.same s37
      have aum := aum.same s37
      have hTm := same_T s37 hTm
      have hLc := s37 _ _ hLc
      have aC := aC.same s37
      have ecj := crs_cj ph.1.ok po.1.ok mo.2 hh mo.1 okp n4.ok
      have ebk := crs_bk ph.1.ok po.1.ok mo.2 hh mo.1 okp mo2
      have aD : AllC K C H37 wd ((crs (h :: pt) h o).map bk) := by rw [ebk]; exact aD
      have cin : ∀ e ∈ crs (h :: pt) h o, CpOk e ∧ BC 167 e := fun e he => by
        refine ⟨((crs_mem ph.1.ok po.1.ok mo.2 hh mo.1).mp he).1, ?_⟩
        have hb : ∀ m, e ∈ crb (h :: pt) h o m → BC 167 e := fun m hm => by
          unfold crb at hm
          split at hm
          · cases hm
          · split at hm
            · cases hm
            · rw [List.mem_singleton.mp hm]; exact crC_BC ph.1 po.1 mo.2
        rcases List.mem_append.mp he with z | z
        · exact hb _ z
        · exact hb _ z
      have hin : c ∈ crs (h :: pt) h o := (crs_mem ph.1.ok po.1.ok mo.2 hh mo.1).mpr ⟨n5.ok, fun p hp => (inP p hp).2.1⟩
      have clen : (crs (h :: pt) h o).length ≤ 2 := by
        unfold crs
        have l1 := crb_len (m := false) ph.1.ok po.1.ok mo.2 (prs := h :: pt)
        have l2 := crb_len (m := true) ph.1.ok po.1.ok mo.2 (prs := h :: pt)
        rw [List.length_append]; omega
      generalize crs (h :: pt) h o = cs at *
      have lwc := Paired.length aC
      have lwd := Paired.length aD
      rw [List.length_map] at lwd
      dsimp only
      refine ⟨_, rfl, Lc, rfl, ⟨_, .inl (.inl hLc)⟩, fun Le hLe => lc_list (K := K) (a := Lc) (xs := wc) (fun i H' => ∃ fs, Same H37 H' ∧ H' Le = some (.lst fs) ∧ AllD K H' fs ((cs.take i).map (cj c4))) ⟨[], same_new hLe _, upd_same, .nil⟩ ?_ ?_ ?_⟩
      · rintro i H' _ ⟨fs, s', _⟩
        exact .inl (.inl (s' _ _ hLc))
      · rintro i x H' hx ⟨fs, s', hf, af⟩
        obtain ⟨e, e1, e2⟩ := pget aC hx
        obtain ⟨oe, be⟩ := cin e (List.mem_of_getElem? e1)
        have li := (List.getElem?_eq_some_iff.mp e1).1
        have S := S.same s'
        refine ⟨rfl, ?_⟩
        refine yes_of ?_
        refine ⟨_, rfl, bk_of S.i3 n4.ok (n4.bd.mono (by decide)) fun H10 r10 s10 j10 => ?_⟩
        refine ⟨_, rfl, jn_of j10 (e2.same (s'.trans s10)) o4 oe (b4.mono (by decide)) (be.mono (by decide)) fun H11 r11 s11 j11 => ?_⟩
        refine ⟨_, rfl, jn_of j11 (S.i3.same (s10.trans s11)) (jn_ok o4 oe) n4.ok ((jn_BC o4 oe b4 be).mono (by decide)) (n4.bd.mono (by decide)) fun H12 r12 s12 j12 => ?_⟩
        refine ⟨_, _, rfl, j12, fun H13 r13 s13 i13 => ?_⟩
        have sA := s10.trans (s11.trans (s12.trans s13))
        have hf2 := sA _ _ hf
        have kk := keep_upd (d := Le) (H := H13) (o := .lst (fs ++ [r13]))
        have lf := Paired.length af
        rw [List.length_map, List.length_take] at lf
        refine ⟨fs, hf2, small1000 (by omega), fs ++ [r13], fun b o e => ?_, upd_same, ?_⟩
        · rw [upd_ne (ne_of_none e hLe)]; exact sA _ _ (s' _ _ e)
        · rw [tk_map (cj c4) e1]
          exact papp ((af.same sA).keep hf2 kk) (.cons (i13.keep hf2 kk) .nil)
      rintro H38 ⟨fs, s38, hf, af⟩
      rw [lwc, List.take_length] at af
      have S := S.same s38
      have aum := aum.same s38
      have hTm := same_T s38 hTm
      have hLc := s38 _ _ hLc
      have hLd := s38 _ _ hLd
      have aC := aC.same s38
      have aD := aD.same s38
      refine gn_of ?_
      dsimp only
      have memX : ∀ x ∈ ((cs.map (cj c4)).map dC).mergeSort leD, ∃ c, x = dC c := fun x hx => memC _ x (List.mem_mergeSort.mp hx)
      refine ⟨_, rfl, Le, fs, _, rfl, .inl (.inl hf), dCs af, alikeC _, sortC _, depC _, fun ys1 p39 hp39 dy1 => ?_⟩
      have s39 := same_new hp39 (.lst ys1)
      have S := S.same s39
      have aum := aum.same s39
      have hTm := same_T s39 hTm
      have hLc := s39 _ _ hLc
      have hLd := s39 _ _ hLd
      have aC := aC.same s39
      have aD := aD.same s39
      have dy1 := DpAll.same s39 dy1
      have h39 := upd_same (H := H38) (a := p39) (o := .lst ys1)
      generalize upd H38 p39 (.lst ys1) = H39 at *
      have inM : ∀ p ∈ prm c4 h :: pt.map (prm c4), PrIn p := fun p hp => by
        have hp : p ∈ (h :: pt).map (prm c4) := hp
        obtain ⟨r, hr', rfl⟩ := List.mem_map.mp hp
        obtain ⟨n, _, b3, b11, _⟩ := inP r hr'
        exact ⟨prm_ok n4.ok n.ok, (ap_B n4.ok n.ok.a n4.bd b3).mono (by decide), (ap_B n4.ok n.ok.b n4.bd b11).mono (by decide)⟩
      have othM : oth (prm c4 h :: pt.map (prm c4)) (prm c4 h) = prm c4 o :: os.map (prm c4) := oth_map (f := prm c4) (prs := h :: pt) (fun p hp => by
        have np := inP p hp
        show ap c4 p.1 = ap c4 h.1 ↔ p.1 = h.1
        exact ⟨fun e => ap_inj n4.ok np.1.ok.a ph.1.ok.a e, fun e => by rw [e]⟩) eo
      refine ⟨_, rfl, tm, um, prm c4 h, pt.map (prm c4), prm c4 o, os.map (prm c4), rfl, hTm, aum, inM, othM, by rw [List.length_cons, List.length_map]; exact lpt, fun H40 Lg wg s40 _ hLg aG => ?_⟩
      have aG : AllC K C H40 wg (cs.map (cj c4)) := by rw [ecj]; exact aG
      have lwg := Paired.length aG
      rw [List.length_map] at lwg
      refine ⟨Lg, rfl, ⟨_, .inl (.inl hLg)⟩, fun Lh hLh => lc_list (K := K) (a := Lg) (xs := wg) (fun i H' => ∃ gs, Same H40 H' ∧ H' Lh = some (.lst gs) ∧ AllD K H' gs ((cs.map (cj c4)).take i)) ⟨[], same_new hLh _, upd_same, .nil⟩ ?_ ?_ ?_⟩
      · rintro i H' _ ⟨gs, s', _⟩
        exact .inl (.inl (s' _ _ hLg))
      · rintro i x H' hx ⟨gs, s', hg, ag⟩
        obtain ⟨e, e1, e2⟩ := pget aG hx
        have li := (List.getElem?_eq_some_iff.mp e1).1
        rw [List.length_map] at li
        refine ⟨rfl, ?_⟩
        refine yes_of ?_
        refine ⟨_, rfl, _, _, rfl, e2.same s', fun H13 r13 s13 i13 => ?_⟩
        have hg2 := s13 _ _ hg
        have kk := keep_upd (d := Lh) (H := H13) (o := .lst (gs ++ [r13]))
        have lg := Paired.length ag
        rw [List.length_take, List.length_map] at lg
        refine ⟨gs, hg2, small1000 (by omega), gs ++ [r13], fun b o e => ?_, upd_same, ?_⟩
        · rw [upd_ne (ne_of_none e hLh)]; exact s13 _ _ (s' _ _ e)
        · rw [take_more e1]
          exact papp ((ag.same s13).keep hg2 kk) (.cons (i13.keep hg2 kk) .nil)
      rintro H41 ⟨gs, s41, hg, ag⟩
      rw [List.take_of_length_le (by rw [List.length_map]; omega)] at ag
      refine ⟨Lh, gs, _, rfl, .inl (.inl hg), dCs ag, alikeC _, sortC _, depC _, fun ys2 p42 hp42 dy2 => ?_⟩
      have s42 := same_new hp42 (.lst ys2)
      have s3942 := s40.trans (s41.trans s42)
      refine ⟨.list (((cs.map (cj c4)).map dC).mergeSort leD), .list (((cs.map (cj c4)).map dC).mergeSort leD), .lst (.inl (.inl (s3942 _ _ h39))) (DpAll.same s3942 dy1), .lst (.inl (.inl upd_same)) (DpAll.same s42 dy2), shapedCs _ memX, shapedCs _ memX, _, rfl, ?_⟩
      rw [eqvL_refl _ memX]
      refine iteF ?_
      have S := S.same s3942
      have hLc := s3942 _ _ hLc
      have hLd := s3942 _ _ hLd
      have aC := aC.same s3942
      have aD := aD.same s3942
      generalize upd H41 p42 (.lst ys2) = H42 at *
      refine ⟨_, rfl, _, rfl, cnotin_of S.i1 hLc aC hin ⟨_, rfl, iteF ?_⟩⟩
      refine ⟨_, rfl, Lc, rfl, ⟨_, .inl (.inl hLc)⟩, fun Li hLi => lc_list (K := K) (a := Lc) (xs := wc) (fun i H' => ∃ gs, Same H42 H' ∧ H' Li = some (.lst gs) ∧ AllD K H' gs ((cs.take i).map bk)) ⟨[], same_new hLi _, upd_same, .nil⟩ ?_ ?_ ?_⟩
      · rintro i H' _ ⟨gs, s', _⟩
        exact .inl (.inl (s' _ _ hLc))
      · rintro i x H' hx ⟨gs, s', hg, ag⟩
        obtain ⟨e, e1, e2⟩ := pget aC hx
        obtain ⟨oe, be⟩ := cin e (List.mem_of_getElem? e1)
        have li := (List.getElem?_eq_some_iff.mp e1).1
        refine ⟨rfl, ?_⟩
        refine yes_of ?_
        refine ⟨_, rfl, bk_of (e2.same s') oe (be.mono (by decide)) fun H12 r12 s12 j12 => ?_⟩
        refine ⟨_, _, rfl, j12, fun H13 r13 s13 i13 => ?_⟩
        have sA := s12.trans s13
        have hg2 := sA _ _ hg
        have kk := keep_upd (d := Li) (H := H13) (o := .lst (gs ++ [r13]))
        have lg := Paired.length ag
        rw [List.length_map, List.length_take] at lg
        refine ⟨gs, hg2, small1000 (by omega), gs ++ [r13], fun b o e => ?_, upd_same, ?_⟩
        · rw [upd_ne (ne_of_none e hLi)]; exact sA _ _ (s' _ _ e)
        · rw [tk_map bk e1]
          exact papp ((ag.same sA).keep hg2 kk) (.cons (i13.keep hg2 kk) .nil)
      rintro H43 ⟨gi, s43, hgi, agi⟩
      rw [lwc, List.take_length] at agi
      have hLd := s43 _ _ hLd
      have aD := aD.same s43
      refine ⟨_, rfl, Ld, rfl, ⟨_, .inl (.inl hLd)⟩, fun Lj hLj => lc_list (K := K) (a := Ld) (xs := wd) (fun i H' => ∃ gs, Same H43 H' ∧ H' Lj = some (.lst gs) ∧ AllD K H' gs ((cs.map bk).take i)) ⟨[], same_new hLj _, upd_same, .nil⟩ ?_ ?_ ?_⟩
      · rintro i H' _ ⟨gs, s', _⟩
        exact .inl (.inl (s' _ _ hLd))
      · rintro i x H' hx ⟨gs, s', hg, ag⟩
        obtain ⟨e, e1, e2⟩ := pget aD hx
        have li := (List.getElem?_eq_some_iff.mp e1).1
        rw [List.length_map] at li
        refine ⟨rfl, ?_⟩
        refine yes_of ?_
        refine ⟨_, rfl, _, _, rfl, e2.same s', fun H13 r13 s13 i13 => ?_⟩
        have hg2 := s13 _ _ hg
        have kk := keep_upd (d := Lj) (H := H13) (o := .lst (gs ++ [r13]))
        have lg := Paired.length ag
        rw [List.length_take, List.length_map] at lg
        refine ⟨gs, hg2, small1000 (by omega), gs ++ [r13], fun b o e => ?_, upd_same, ?_⟩
        · rw [upd_ne (ne_of_none e hLj)]; exact s13 _ _ (s' _ _ e)
        · rw [take_more e1]
          exact papp ((ag.same s13).keep hg2 kk) (.cons (i13.keep hg2 kk) .nil)
      rintro H44 ⟨gj, s44, hgj, agj⟩
      rw [List.take_of_length_le (by rw [List.length_map]; omega)] at agj
      refine ⟨.list ((cs.map bk).map dC), .list ((cs.map bk).map dC), .lst (.inl (.inl (s44 _ _ hgi))) (dCs (agi.same s44)), .lst (.inl (.inl hgj)) (dCs agj), shapedCs _ (memC _), shapedCs _ (memC _), ?_⟩
      rw [eqvL_refl _ (memC _)]
      exact q _
  · intro D' hD kD
    refine ⟨_, rfl, d, _, st4, rfl, by decide, by decide, hd4, ok4, fun st5 r5 ok5 r50 r51 => ?_⟩
    have kd := keep_upd (d := d) (H := H4) (o := .lst (encD st5))
    have i2 := i2.keep hd4 kd
    have i3 := i3.keep hd4 kd
    have i4 := i4.keep hd4 kd
    have hd5 := upd_same (H := H4) (a := d) (o := .lst (encD st5))
    generalize upd H4 d (.lst (encD st5)) = H5 at *
    refine ⟨rfl, _, rfl, ?_⟩
    refine ite2 (fun _ => ?_) (fun _ => ?_)
    · refine ⟨_, rfl, d, st5, rfl, hd5, ok5, fun H6 st6 v6 k6 hd6 ok6 ⟨c6, i6, n6⟩ => ?_⟩
      exact kD _ _ ⟨v6, c6, rfl, ⟨st6, hd6, ok6⟩, i6, n6, i3.keep hd5 k6, i4.keep hd5 k6⟩
    · exact kD _ _ ⟨v2, c2, rfl, ⟨st5, hd5, ok5⟩, i2, n2, i3, i4⟩
end
end My

namespace My
open PySem L2 Mth
theorem all_mk {l : PySem.W.OpenLaw} {w : World} {K : PySem.W.Frag} {h : Heap} {mg : Str → Option Value} {fa : Addr} (X : K.In h) (G : h.Ns mainGlobals mg) (hfa : mg "law" = some (.ref fa))
    {a_tMIDDLE : Addr} {dd_MIDDLE : Option Addr} {t1_MIDDLE t2_MIDDLE t3_MIDDLE : Tok} {n_MIDDLE : Nat} {sl_tMIDDLE : Array (Option Value)}
    {a_tONE : Addr} {dd_ONE : Option Addr} {t1_ONE t2_ONE t3_ONE : Tok} {n_ONE : Nat} {sl_tONE : Array (Option Value)}
    {a_tUP : Addr} {dd_UP : Option Addr} {t1_UP t2_UP t3_UP : Tok} {n_UP : Nat} {sl_tUP : Array (Option Value)}
    {tk_MOST_TIMES : Tok}
    {f_common_divisor : Addr} {od_common_divisor an_common_divisor : Option Addr} {sl_common_divisor : Array (Option Value)} {oc_common_divisor kV_common_divisor dc_common_divisor pm_common_divisor cd_common_divisor ct_common_divisor : Value}
    {f_is_whole : Addr} {od_is_whole an_is_whole : Option Addr} {sl_is_whole : Array (Option Value)} {oc_is_whole kV_is_whole dc_is_whole pm_is_whole cd_is_whole ct_is_whole : Value}
    {f_is_spot : Addr} {od_is_spot an_is_spot : Option Addr} {sl_is_spot : Array (Option Value)} {oc_is_spot kV_is_spot dc_is_spot pm_is_spot cd_is_spot ct_is_spot : Value}
    {f_check_spot : Addr} {od_check_spot an_check_spot : Option Addr} {sl_check_spot : Array (Option Value)} {oc_check_spot kV_check_spot dc_check_spot pm_check_spot cd_check_spot ct_check_spot : Value}
    {f_check_turn : Addr} {od_check_turn an_check_turn : Option Addr} {sl_check_turn : Array (Option Value)} {oc_check_turn kV_check_turn dc_check_turn pm_check_turn cd_check_turn ct_check_turn : Value}
    {f_spot_at : Addr} {od_spot_at an_spot_at : Option Addr} {sl_spot_at : Array (Option Value)} {oc_spot_at kV_spot_at dc_spot_at pm_spot_at cd_spot_at ct_spot_at : Value}
    {f_fraction : Addr} {od_fraction an_fraction : Option Addr} {sl_fraction : Array (Option Value)} {oc_fraction kV_fraction dc_fraction pm_fraction cd_fraction ct_fraction : Value}
    {f_plus : Addr} {od_plus an_plus : Option Addr} {sl_plus : Array (Option Value)} {oc_plus kV_plus dc_plus pm_plus cd_plus ct_plus : Value}
    {f_negative : Addr} {od_negative an_negative : Option Addr} {sl_negative : Array (Option Value)} {oc_negative kV_negative dc_negative pm_negative cd_negative ct_negative : Value}
    {f_minus : Addr} {od_minus an_minus : Option Addr} {sl_minus : Array (Option Value)} {oc_minus kV_minus dc_minus pm_minus cd_minus ct_minus : Value}
    {f_product : Addr} {od_product an_product : Option Addr} {sl_product : Array (Option Value)} {oc_product kV_product dc_product pm_product cd_product ct_product : Value}
    {f_inverse : Addr} {od_inverse an_inverse : Option Addr} {sl_inverse : Array (Option Value)} {oc_inverse kV_inverse dc_inverse pm_inverse cd_inverse ct_inverse : Value}
    {f_faced : Addr} {od_faced an_faced : Option Addr} {sl_faced : Array (Option Value)} {oc_faced kV_faced dc_faced pm_faced cd_faced ct_faced : Value}
    {f_carried : Addr} {od_carried an_carried : Option Addr} {sl_carried : Array (Option Value)} {oc_carried kV_carried dc_carried pm_carried cd_carried ct_carried : Value}
    {f_line_form : Addr} {od_line_form an_line_form : Option Addr} {sl_line_form : Array (Option Value)} {oc_line_form kV_line_form dc_line_form pm_line_form cd_line_form ct_line_form : Value}
    {f_is_on_line : Addr} {od_is_on_line an_is_on_line : Option Addr} {sl_is_on_line : Array (Option Value)} {oc_is_on_line kV_is_on_line dc_is_on_line pm_is_on_line cd_is_on_line ct_is_on_line : Value}
    {f_are_parallel : Addr} {od_are_parallel an_are_parallel : Option Addr} {sl_are_parallel : Array (Option Value)} {oc_are_parallel kV_are_parallel dc_are_parallel pm_are_parallel cd_are_parallel ct_are_parallel : Value}
    {f_crossing : Addr} {od_crossing an_crossing : Option Addr} {sl_crossing : Array (Option Value)} {oc_crossing kV_crossing dc_crossing pm_crossing cd_crossing ct_crossing : Value}
    {f_equations : Addr} {od_equations an_equations : Option Addr} {sl_equations : Array (Option Value)} {oc_equations kV_equations dc_equations pm_equations cd_equations ct_equations : Value}
    {f_solution : Addr} {od_solution an_solution : Option Addr} {sl_solution : Array (Option Value)} {oc_solution kV_solution dc_solution pm_solution cd_solution ct_solution : Value}
    {C : Addr}
    {kD_Copy___init__ : Addr}
    {f_Copy___init__ : Addr} {od_Copy___init__ an_Copy___init__ : Option Addr} {sl_Copy___init__ : Array (Option Value)} {oc_Copy___init__ dc_Copy___init__ pm_Copy___init__ cd_Copy___init__ ct_Copy___init__ : Value}
    {f_Copy___rshift__ : Addr} {od_Copy___rshift__ an_Copy___rshift__ : Option Addr} {sl_Copy___rshift__ : Array (Option Value)} {oc_Copy___rshift__ kV_Copy___rshift__ dc_Copy___rshift__ pm_Copy___rshift__ cd_Copy___rshift__ ct_Copy___rshift__ : Value}
    {f_Copy___invert__ : Addr} {od_Copy___invert__ an_Copy___invert__ : Option Addr} {sl_Copy___invert__ : Array (Option Value)} {oc_Copy___invert__ kV_Copy___invert__ dc_Copy___invert__ pm_Copy___invert__ cd_Copy___invert__ ct_Copy___invert__ : Value}
    {f_Copy___eq__ : Addr} {od_Copy___eq__ an_Copy___eq__ : Option Addr} {sl_Copy___eq__ : Array (Option Value)} {oc_Copy___eq__ kV_Copy___eq__ dc_Copy___eq__ pm_Copy___eq__ cd_Copy___eq__ ct_Copy___eq__ : Value}
    {f_Copy___call__ : Addr} {od_Copy___call__ an_Copy___call__ : Option Addr} {sl_Copy___call__ : Array (Option Value)} {oc_Copy___call__ kV_Copy___call__ dc_Copy___call__ pm_Copy___call__ cd_Copy___call__ ct_Copy___call__ : Value}
    {f_Copy_again : Addr} {od_Copy_again an_Copy_again : Option Addr} {sl_Copy_again : Array (Option Value)} {oc_Copy_again kV_Copy_again dc_Copy_again pm_Copy_again cd_Copy_again ct_Copy_again : Value}
    {q_Copy_turn : Addr} {rs_Copy_turn : List Value}
    {f_Copy_turn : Addr} {od_Copy_turn an_Copy_turn : Option Addr} {sl_Copy_turn : Array (Option Value)} {oc_Copy_turn kV_Copy_turn dc_Copy_turn pm_Copy_turn cd_Copy_turn ct_Copy_turn : Value}
    {q_Copy_shift : Addr} {rs_Copy_shift : List Value}
    {f_Copy_shift : Addr} {od_Copy_shift an_Copy_shift : Option Addr} {sl_Copy_shift : Array (Option Value)} {oc_Copy_shift kV_Copy_shift dc_Copy_shift pm_Copy_shift cd_Copy_shift ct_Copy_shift : Value}
    {q_Copy_mirrored : Addr} {rs_Copy_mirrored : List Value}
    {f_Copy_mirrored : Addr} {od_Copy_mirrored an_Copy_mirrored : Option Addr} {sl_Copy_mirrored : Array (Option Value)} {oc_Copy_mirrored kV_Copy_mirrored dc_Copy_mirrored pm_Copy_mirrored cd_Copy_mirrored ct_Copy_mirrored : Value}
    {q_Copy_growth : Addr} {rs_Copy_growth : List Value}
    {f_Copy_growth : Addr} {od_Copy_growth an_Copy_growth : Option Addr} {sl_Copy_growth : Array (Option Value)} {oc_Copy_growth kV_Copy_growth dc_Copy_growth pm_Copy_growth cd_Copy_growth ct_Copy_growth : Value}
    {f_still_copy : Addr} {od_still_copy an_still_copy : Option Addr} {sl_still_copy : Array (Option Value)} {oc_still_copy kV_still_copy dc_still_copy pm_still_copy cd_still_copy ct_still_copy : Value}
    {f_order : Addr} {od_order an_order : Option Addr} {sl_order : Array (Option Value)} {oc_order kV_order dc_order pm_order cd_order ct_order : Value}
    {f_gap : Addr} {od_gap an_gap : Option Addr} {sl_gap : Array (Option Value)} {oc_gap kV_gap dc_gap pm_gap cd_gap ct_gap : Value}
    {f_meeting : Addr} {od_meeting an_meeting : Option Addr} {sl_meeting : Array (Option Value)} {oc_meeting kV_meeting dc_meeting pm_meeting cd_meeting ct_meeting : Value}
    {f_kept : Addr} {od_kept an_kept : Option Addr} {sl_kept : Array (Option Value)} {oc_kept kV_kept dc_kept pm_kept cd_kept ct_kept : Value}
    {f_carriers_by : Addr} {od_carriers_by an_carriers_by : Option Addr} {sl_carriers_by : Array (Option Value)} {oc_carriers_by kV_carriers_by dc_carriers_by pm_carriers_by cd_carriers_by ct_carriers_by : Value}
    {f_carriers : Addr} {od_carriers an_carriers : Option Addr} {sl_carriers : Array (Option Value)} {oc_carriers kV_carriers dc_carriers pm_carriers cd_carriers ct_carriers : Value}
    {f_law_random : Addr} {od_law_random an_law_random : Option Addr} {sl_law_random : Array (Option Value)} {oc_law_random kV_law_random dc_law_random pm_law_random cd_law_random ct_law_random : Value}
    {f_law_below : Addr} {od_law_below an_law_below : Option Addr} {sl_law_below : Array (Option Value)} {oc_law_below kV_law_below dc_law_below pm_law_below cd_law_below ct_law_below : Value}
    {f_law_turn : Addr} {od_law_turn an_law_turn : Option Addr} {sl_law_turn : Array (Option Value)} {oc_law_turn kV_law_turn dc_law_turn pm_law_turn cd_law_turn ct_law_turn : Value}
    {f_law_common : Addr} {od_law_common an_law_common : Option Addr} {sl_law_common : Array (Option Value)} {oc_law_common kV_law_common dc_law_common pm_law_common cd_law_common ct_law_common : Value}
    {f_law_lowest : Addr} {od_law_lowest an_law_lowest : Option Addr} {sl_law_lowest : Array (Option Value)} {oc_law_lowest kV_law_lowest dc_law_lowest pm_law_lowest cd_law_lowest ct_law_lowest : Value}
    {f_law_spot : Addr} {od_law_spot an_law_spot : Option Addr} {sl_law_spot : Array (Option Value)} {oc_law_spot kV_law_spot dc_law_spot pm_law_spot cd_law_spot ct_law_spot : Value}
    {f_law_told : Addr} {od_law_told an_law_told : Option Addr} {sl_law_told : Array (Option Value)} {oc_law_told kV_law_told dc_law_told pm_law_told cd_law_told ct_law_told : Value}
    {f_law_still_told : Addr} {od_law_still_told an_law_still_told : Option Addr} {sl_law_still_told : Array (Option Value)} {oc_law_still_told kV_law_still_told dc_law_still_told pm_law_still_told cd_law_still_told ct_law_still_told : Value}
    {f_law_copy : Addr} {od_law_copy an_law_copy : Option Addr} {sl_law_copy : Array (Option Value)} {oc_law_copy kV_law_copy dc_law_copy pm_law_copy cd_law_copy ct_law_copy : Value}
    {f_law_shown : Addr} {od_law_shown an_law_shown : Option Addr} {sl_law_shown : Array (Option Value)} {oc_law_shown kV_law_shown dc_law_shown pm_law_shown cd_law_shown ct_law_shown : Value}
    {f_law : Addr} {od_law an_law : Option Addr} {sl_law : Array (Option Value)} {oc_law kV_law dc_law pm_law cd_law ct_law : Value}
    (z_abs : PySem.W.nsIn K mainGlobals "abs" = some none)
    (z_len : PySem.W.nsIn K mainGlobals "len" = some none)
    (z_isinstance : PySem.W.nsIn K mainGlobals "isinstance" = some none)
    (z_int : PySem.W.nsIn K mainGlobals "int" = some none)
    (z_bool : PySem.W.nsIn K mainGlobals "bool" = some none)
    (z_tuple : PySem.W.nsIn K mainGlobals "tuple" = some none)
    (z_all : PySem.W.nsIn K mainGlobals "all" = some none)
    (z_any : PySem.W.nsIn K mainGlobals "any" = some none)
    (z_range : PySem.W.nsIn K mainGlobals "range" = some none)
    (z_set : PySem.W.nsIn K mainGlobals "set" = some none)
    (z_sorted : PySem.W.nsIn K mainGlobals "sorted" = some none)
    (m_MIDDLE : PySem.W.nsIn K mainGlobals "MIDDLE" = some (some (.ref a_tMIDDLE)))
    (u_MIDDLE : K.lookup a_tMIDDLE = some ⟨.type "tuple", dd_MIDDLE, .seq #[.int 0 t1_MIDDLE, .int 0 t2_MIDDLE, .int 1 t3_MIDDLE] n_MIDDLE, sl_tMIDDLE⟩)
    (m_ONE : PySem.W.nsIn K mainGlobals "ONE" = some (some (.ref a_tONE)))
    (u_ONE : K.lookup a_tONE = some ⟨.type "tuple", dd_ONE, .seq #[.int 1 t1_ONE, .int 0 t2_ONE, .int 1 t3_ONE] n_ONE, sl_tONE⟩)
    (m_UP : PySem.W.nsIn K mainGlobals "UP" = some (some (.ref a_tUP)))
    (u_UP : K.lookup a_tUP = some ⟨.type "tuple", dd_UP, .seq #[.int 0 t1_UP, .int 1 t2_UP, .int 1 t3_UP] n_UP, sl_tUP⟩)
    (mi_MOST_TIMES : PySem.W.nsIn K mainGlobals "MOST_TIMES" = some (some (.int 100 tk_MOST_TIMES)))
    (a_common_divisor : PySem.W.nsIn K mainGlobals "common_divisor" = some (some (.ref f_common_divisor)))
    (l_common_divisor : K.lookup f_common_divisor = some ⟨oc_common_divisor, od_common_divisor, .func (PySem.W.fnOf "common_divisor" "common_divisor" (defArgs s_common_divisor) (defBody s_common_divisor) (defScope s_common_divisor) .none kV_common_divisor dc_common_divisor pm_common_divisor an_common_divisor cd_common_divisor ct_common_divisor), sl_common_divisor⟩)
    (c_common_divisor : PySem.W.codeIn K cd_common_divisor "common_divisor" = true)
    (k_common_divisor : PySem.W.keepIn K (.ref f_common_divisor) = true)
    (a_is_whole : PySem.W.nsIn K mainGlobals "is_whole" = some (some (.ref f_is_whole)))
    (l_is_whole : K.lookup f_is_whole = some ⟨oc_is_whole, od_is_whole, .func (PySem.W.fnOf "is_whole" "is_whole" (defArgs s_is_whole) (defBody s_is_whole) (defScope s_is_whole) .none kV_is_whole dc_is_whole pm_is_whole an_is_whole cd_is_whole ct_is_whole), sl_is_whole⟩)
    (c_is_whole : PySem.W.codeIn K cd_is_whole "is_whole" = true)
    (k_is_whole : PySem.W.keepIn K (.ref f_is_whole) = true)
    (a_is_spot : PySem.W.nsIn K mainGlobals "is_spot" = some (some (.ref f_is_spot)))
    (l_is_spot : K.lookup f_is_spot = some ⟨oc_is_spot, od_is_spot, .func (PySem.W.fnOf "is_spot" "is_spot" (defArgs s_is_spot) (defBody s_is_spot) (defScope s_is_spot) .none kV_is_spot dc_is_spot pm_is_spot an_is_spot cd_is_spot ct_is_spot), sl_is_spot⟩)
    (c_is_spot : PySem.W.codeIn K cd_is_spot "is_spot" = true)
    (k_is_spot : PySem.W.keepIn K (.ref f_is_spot) = true)
    (a_check_spot : PySem.W.nsIn K mainGlobals "check_spot" = some (some (.ref f_check_spot)))
    (l_check_spot : K.lookup f_check_spot = some ⟨oc_check_spot, od_check_spot, .func (PySem.W.fnOf "check_spot" "check_spot" (defArgs s_check_spot) (defBody s_check_spot) (defScope s_check_spot) .none kV_check_spot dc_check_spot pm_check_spot an_check_spot cd_check_spot ct_check_spot), sl_check_spot⟩)
    (c_check_spot : PySem.W.codeIn K cd_check_spot "check_spot" = true)
    (k_check_spot : PySem.W.keepIn K (.ref f_check_spot) = true)
    (a_check_turn : PySem.W.nsIn K mainGlobals "check_turn" = some (some (.ref f_check_turn)))
    (l_check_turn : K.lookup f_check_turn = some ⟨oc_check_turn, od_check_turn, .func (PySem.W.fnOf "check_turn" "check_turn" (defArgs s_check_turn) (defBody s_check_turn) (defScope s_check_turn) .none kV_check_turn dc_check_turn pm_check_turn an_check_turn cd_check_turn ct_check_turn), sl_check_turn⟩)
    (c_check_turn : PySem.W.codeIn K cd_check_turn "check_turn" = true)
    (k_check_turn : PySem.W.keepIn K (.ref f_check_turn) = true)
    (a_spot_at : PySem.W.nsIn K mainGlobals "spot_at" = some (some (.ref f_spot_at)))
    (l_spot_at : K.lookup f_spot_at = some ⟨oc_spot_at, od_spot_at, .func (PySem.W.fnOf "spot_at" "spot_at" (defArgs s_spot_at) (defBody s_spot_at) (defScope s_spot_at) .none kV_spot_at dc_spot_at pm_spot_at an_spot_at cd_spot_at ct_spot_at), sl_spot_at⟩)
    (c_spot_at : PySem.W.codeIn K cd_spot_at "spot_at" = true)
    (k_spot_at : PySem.W.keepIn K (.ref f_spot_at) = true)
    (a_fraction : PySem.W.nsIn K mainGlobals "fraction" = some (some (.ref f_fraction)))
    (l_fraction : K.lookup f_fraction = some ⟨oc_fraction, od_fraction, .func (PySem.W.fnOf "fraction" "fraction" (defArgs s_fraction) (defBody s_fraction) (defScope s_fraction) .none kV_fraction dc_fraction pm_fraction an_fraction cd_fraction ct_fraction), sl_fraction⟩)
    (c_fraction : PySem.W.codeIn K cd_fraction "fraction" = true)
    (k_fraction : PySem.W.keepIn K (.ref f_fraction) = true)
    (a_plus : PySem.W.nsIn K mainGlobals "plus" = some (some (.ref f_plus)))
    (l_plus : K.lookup f_plus = some ⟨oc_plus, od_plus, .func (PySem.W.fnOf "plus" "plus" (defArgs s_plus) (defBody s_plus) (defScope s_plus) .none kV_plus dc_plus pm_plus an_plus cd_plus ct_plus), sl_plus⟩)
    (c_plus : PySem.W.codeIn K cd_plus "plus" = true)
    (k_plus : PySem.W.keepIn K (.ref f_plus) = true)
    (a_negative : PySem.W.nsIn K mainGlobals "negative" = some (some (.ref f_negative)))
    (l_negative : K.lookup f_negative = some ⟨oc_negative, od_negative, .func (PySem.W.fnOf "negative" "negative" (defArgs s_negative) (defBody s_negative) (defScope s_negative) .none kV_negative dc_negative pm_negative an_negative cd_negative ct_negative), sl_negative⟩)
    (c_negative : PySem.W.codeIn K cd_negative "negative" = true)
    (k_negative : PySem.W.keepIn K (.ref f_negative) = true)
    (a_minus : PySem.W.nsIn K mainGlobals "minus" = some (some (.ref f_minus)))
    (l_minus : K.lookup f_minus = some ⟨oc_minus, od_minus, .func (PySem.W.fnOf "minus" "minus" (defArgs s_minus) (defBody s_minus) (defScope s_minus) .none kV_minus dc_minus pm_minus an_minus cd_minus ct_minus), sl_minus⟩)
    (c_minus : PySem.W.codeIn K cd_minus "minus" = true)
    (k_minus : PySem.W.keepIn K (.ref f_minus) = true)
    (a_product : PySem.W.nsIn K mainGlobals "product" = some (some (.ref f_product)))
    (l_product : K.lookup f_product = some ⟨oc_product, od_product, .func (PySem.W.fnOf "product" "product" (defArgs s_product) (defBody s_product) (defScope s_product) .none kV_product dc_product pm_product an_product cd_product ct_product), sl_product⟩)
    (c_product : PySem.W.codeIn K cd_product "product" = true)
    (k_product : PySem.W.keepIn K (.ref f_product) = true)
    (a_inverse : PySem.W.nsIn K mainGlobals "inverse" = some (some (.ref f_inverse)))
    (l_inverse : K.lookup f_inverse = some ⟨oc_inverse, od_inverse, .func (PySem.W.fnOf "inverse" "inverse" (defArgs s_inverse) (defBody s_inverse) (defScope s_inverse) .none kV_inverse dc_inverse pm_inverse an_inverse cd_inverse ct_inverse), sl_inverse⟩)
    (c_inverse : PySem.W.codeIn K cd_inverse "inverse" = true)
    (k_inverse : PySem.W.keepIn K (.ref f_inverse) = true)
    (a_faced : PySem.W.nsIn K mainGlobals "faced" = some (some (.ref f_faced)))
    (l_faced : K.lookup f_faced = some ⟨oc_faced, od_faced, .func (PySem.W.fnOf "faced" "faced" (defArgs s_faced) (defBody s_faced) (defScope s_faced) .none kV_faced dc_faced pm_faced an_faced cd_faced ct_faced), sl_faced⟩)
    (c_faced : PySem.W.codeIn K cd_faced "faced" = true)
    (k_faced : PySem.W.keepIn K (.ref f_faced) = true)
    (a_carried : PySem.W.nsIn K mainGlobals "carried" = some (some (.ref f_carried)))
    (l_carried : K.lookup f_carried = some ⟨oc_carried, od_carried, .func (PySem.W.fnOf "carried" "carried" (defArgs s_carried) (defBody s_carried) (defScope s_carried) .none kV_carried dc_carried pm_carried an_carried cd_carried ct_carried), sl_carried⟩)
    (c_carried : PySem.W.codeIn K cd_carried "carried" = true)
    (k_carried : PySem.W.keepIn K (.ref f_carried) = true)
    (a_line_form : PySem.W.nsIn K mainGlobals "line_form" = some (some (.ref f_line_form)))
    (l_line_form : K.lookup f_line_form = some ⟨oc_line_form, od_line_form, .func (PySem.W.fnOf "line_form" "line_form" (defArgs s_line_form) (defBody s_line_form) (defScope s_line_form) .none kV_line_form dc_line_form pm_line_form an_line_form cd_line_form ct_line_form), sl_line_form⟩)
    (c_line_form : PySem.W.codeIn K cd_line_form "line_form" = true)
    (k_line_form : PySem.W.keepIn K (.ref f_line_form) = true)
    (a_is_on_line : PySem.W.nsIn K mainGlobals "is_on_line" = some (some (.ref f_is_on_line)))
    (l_is_on_line : K.lookup f_is_on_line = some ⟨oc_is_on_line, od_is_on_line, .func (PySem.W.fnOf "is_on_line" "is_on_line" (defArgs s_is_on_line) (defBody s_is_on_line) (defScope s_is_on_line) .none kV_is_on_line dc_is_on_line pm_is_on_line an_is_on_line cd_is_on_line ct_is_on_line), sl_is_on_line⟩)
    (c_is_on_line : PySem.W.codeIn K cd_is_on_line "is_on_line" = true)
    (k_is_on_line : PySem.W.keepIn K (.ref f_is_on_line) = true)
    (a_are_parallel : PySem.W.nsIn K mainGlobals "are_parallel" = some (some (.ref f_are_parallel)))
    (l_are_parallel : K.lookup f_are_parallel = some ⟨oc_are_parallel, od_are_parallel, .func (PySem.W.fnOf "are_parallel" "are_parallel" (defArgs s_are_parallel) (defBody s_are_parallel) (defScope s_are_parallel) .none kV_are_parallel dc_are_parallel pm_are_parallel an_are_parallel cd_are_parallel ct_are_parallel), sl_are_parallel⟩)
    (c_are_parallel : PySem.W.codeIn K cd_are_parallel "are_parallel" = true)
    (k_are_parallel : PySem.W.keepIn K (.ref f_are_parallel) = true)
    (a_crossing : PySem.W.nsIn K mainGlobals "crossing" = some (some (.ref f_crossing)))
    (l_crossing : K.lookup f_crossing = some ⟨oc_crossing, od_crossing, .func (PySem.W.fnOf "crossing" "crossing" (defArgs s_crossing) (defBody s_crossing) (defScope s_crossing) .none kV_crossing dc_crossing pm_crossing an_crossing cd_crossing ct_crossing), sl_crossing⟩)
    (c_crossing : PySem.W.codeIn K cd_crossing "crossing" = true)
    (k_crossing : PySem.W.keepIn K (.ref f_crossing) = true)
    (a_equations : PySem.W.nsIn K mainGlobals "equations" = some (some (.ref f_equations)))
    (l_equations : K.lookup f_equations = some ⟨oc_equations, od_equations, .func (PySem.W.fnOf "equations" "equations" (defArgs s_equations) (defBody s_equations) (defScope s_equations) .none kV_equations dc_equations pm_equations an_equations cd_equations ct_equations), sl_equations⟩)
    (c_equations : PySem.W.codeIn K cd_equations "equations" = true)
    (k_equations : PySem.W.keepIn K (.ref f_equations) = true)
    (a_solution : PySem.W.nsIn K mainGlobals "solution" = some (some (.ref f_solution)))
    (l_solution : K.lookup f_solution = some ⟨oc_solution, od_solution, .func (PySem.W.fnOf "solution" "solution" (defArgs s_solution) (defBody s_solution) (defScope s_solution) .none kV_solution dc_solution pm_solution an_solution cd_solution ct_solution), sl_solution⟩)
    (c_solution : PySem.W.codeIn K cd_solution "solution" = true)
    (k_solution : PySem.W.keepIn K (.ref f_solution) = true)
    (aC : PySem.W.nsIn K mainGlobals "Copy" = some (some (.ref C)))
    (inI : PySem.W.findIn K (.ref C) "__init__" = some (some (.ref f_Copy___init__)))
    (l_Copy___init__ : K.lookup f_Copy___init__ = some ⟨oc_Copy___init__, od_Copy___init__, .func (PySem.W.fnOf "__init__" "Copy.__init__" (defArgs s_Copy___init__) (defBody s_Copy___init__) (defScope s_Copy___init__) .none (.ref kD_Copy___init__) dc_Copy___init__ pm_Copy___init__ an_Copy___init__ cd_Copy___init__ ct_Copy___init__), sl_Copy___init__⟩)
    (c_Copy___init__ : PySem.W.codeIn K cd_Copy___init__ "Copy.__init__" = true)
    (k_Copy___init__ : PySem.W.keepIn K (.ref f_Copy___init__) = true)
    (kw_init : PySem.W.nsIn K kD_Copy___init__ "mirrored" = some (some (.bool false)))
    (pg : PySem.W.plainGet K C Str.empty = true)
    (hdC : PySem.W.hasDictIn K C = true)
    (po : PySem.W.plainOver K C = true)
    (sa : PySem.W.findIn K (.ref C) "__setattr__" = some (some (.builtin "object.__setattr__")))
    (mkC : PySem.W.makesIn K C = true)
    (kc : PySem.W.keepIn K (.ref C) = true)
    (isI : PySem.W.isFn K (.ref f_Copy___init__) = true)
    (nF : PySem.W.findIn K (.ref C) "factor" = some none)
    (nO : PySem.W.findIn K (.ref C) "offset" = some none)
    (nL : PySem.W.findIn K (.ref C) "flips" = some none)
    (ha : PySem.W.findIn K (.ref C) "__class__" = some (some (.builtin "object.__class__")))
    (hn : PySem.W.specialIn K (.builtin "object.__class__") "__get__" = some (some (.builtin "getset_descriptor.__get__")))
    (htk : PySem.W.takesIn K (.builtin "object.__class__") = some true)
    (hmo : PySem.W.mroIn K C (.type "object") = some true)
    (sf : PySem.W.selfFirst K C = true)
    (a_Copy___rshift__ : PySem.W.findIn K (.ref C) "__rshift__" = some (some (.ref f_Copy___rshift__)))
    (i_Copy___rshift__ : PySem.W.isFn K (.ref f_Copy___rshift__) = true)
    (l_Copy___rshift__ : K.lookup f_Copy___rshift__ = some ⟨oc_Copy___rshift__, od_Copy___rshift__, .func (PySem.W.fnOf "__rshift__" "Copy.__rshift__" (defArgs s_Copy___rshift__) (defBody s_Copy___rshift__) (defScope s_Copy___rshift__) .none kV_Copy___rshift__ dc_Copy___rshift__ pm_Copy___rshift__ an_Copy___rshift__ cd_Copy___rshift__ ct_Copy___rshift__), sl_Copy___rshift__⟩)
    (c_Copy___rshift__ : PySem.W.codeIn K cd_Copy___rshift__ "Copy.__rshift__" = true)
    (k_Copy___rshift__ : PySem.W.keepIn K (.ref f_Copy___rshift__) = true)
    (a_Copy___invert__ : PySem.W.findIn K (.ref C) "__invert__" = some (some (.ref f_Copy___invert__)))
    (i_Copy___invert__ : PySem.W.isFn K (.ref f_Copy___invert__) = true)
    (l_Copy___invert__ : K.lookup f_Copy___invert__ = some ⟨oc_Copy___invert__, od_Copy___invert__, .func (PySem.W.fnOf "__invert__" "Copy.__invert__" (defArgs s_Copy___invert__) (defBody s_Copy___invert__) (defScope s_Copy___invert__) .none kV_Copy___invert__ dc_Copy___invert__ pm_Copy___invert__ an_Copy___invert__ cd_Copy___invert__ ct_Copy___invert__), sl_Copy___invert__⟩)
    (c_Copy___invert__ : PySem.W.codeIn K cd_Copy___invert__ "Copy.__invert__" = true)
    (k_Copy___invert__ : PySem.W.keepIn K (.ref f_Copy___invert__) = true)
    (a_Copy___eq__ : PySem.W.findIn K (.ref C) "__eq__" = some (some (.ref f_Copy___eq__)))
    (i_Copy___eq__ : PySem.W.isFn K (.ref f_Copy___eq__) = true)
    (l_Copy___eq__ : K.lookup f_Copy___eq__ = some ⟨oc_Copy___eq__, od_Copy___eq__, .func (PySem.W.fnOf "__eq__" "Copy.__eq__" (defArgs s_Copy___eq__) (defBody s_Copy___eq__) (defScope s_Copy___eq__) .none kV_Copy___eq__ dc_Copy___eq__ pm_Copy___eq__ an_Copy___eq__ cd_Copy___eq__ ct_Copy___eq__), sl_Copy___eq__⟩)
    (c_Copy___eq__ : PySem.W.codeIn K cd_Copy___eq__ "Copy.__eq__" = true)
    (k_Copy___eq__ : PySem.W.keepIn K (.ref f_Copy___eq__) = true)
    (a_Copy___call__ : PySem.W.findIn K (.ref C) "__call__" = some (some (.ref f_Copy___call__)))
    (i_Copy___call__ : PySem.W.isFn K (.ref f_Copy___call__) = true)
    (l_Copy___call__ : K.lookup f_Copy___call__ = some ⟨oc_Copy___call__, od_Copy___call__, .func (PySem.W.fnOf "__call__" "Copy.__call__" (defArgs s_Copy___call__) (defBody s_Copy___call__) (defScope s_Copy___call__) .none kV_Copy___call__ dc_Copy___call__ pm_Copy___call__ an_Copy___call__ cd_Copy___call__ ct_Copy___call__), sl_Copy___call__⟩)
    (c_Copy___call__ : PySem.W.codeIn K cd_Copy___call__ "Copy.__call__" = true)
    (k_Copy___call__ : PySem.W.keepIn K (.ref f_Copy___call__) = true)
    (a_Copy_again : PySem.W.findIn K (.ref C) "again" = some (some (.ref f_Copy_again)))
    (i_Copy_again : PySem.W.isFn K (.ref f_Copy_again) = true)
    (l_Copy_again : K.lookup f_Copy_again = some ⟨oc_Copy_again, od_Copy_again, .func (PySem.W.fnOf "again" "Copy.again" (defArgs s_Copy_again) (defBody s_Copy_again) (defScope s_Copy_again) .none kV_Copy_again dc_Copy_again pm_Copy_again an_Copy_again cd_Copy_again ct_Copy_again), sl_Copy_again⟩)
    (c_Copy_again : PySem.W.codeIn K cd_Copy_again "Copy.again" = true)
    (k_Copy_again : PySem.W.keepIn K (.ref f_Copy_again) = true)
    (fi_call : PySem.W.fnIn K f_Copy___call__ = true)
    (a_Copy_turn : PySem.W.findIn K (.ref C) "turn" = some (some (.ref q_Copy_turn)))
    (g_Copy_turn : PySem.W.specialIn K (.ref q_Copy_turn) "__get__" = some (some (.builtin "property.__get__")))
    (t_Copy_turn : PySem.W.takesIn K (.ref q_Copy_turn) = some true)
    (r_Copy_turn : PySem.W.recIn K q_Copy_turn "property" = some (.ref f_Copy_turn :: rs_Copy_turn))
    (l_Copy_turn : K.lookup f_Copy_turn = some ⟨oc_Copy_turn, od_Copy_turn, .func (PySem.W.fnOf "turn" "Copy.turn" (defArgs s_Copy_turn) (defBody s_Copy_turn) (defScope s_Copy_turn) .none kV_Copy_turn dc_Copy_turn pm_Copy_turn an_Copy_turn cd_Copy_turn ct_Copy_turn), sl_Copy_turn⟩)
    (c_Copy_turn : PySem.W.codeIn K cd_Copy_turn "Copy.turn" = true)
    (k_Copy_turn : PySem.W.keepIn K (.ref f_Copy_turn) = true)
    (a_Copy_shift : PySem.W.findIn K (.ref C) "shift" = some (some (.ref q_Copy_shift)))
    (g_Copy_shift : PySem.W.specialIn K (.ref q_Copy_shift) "__get__" = some (some (.builtin "property.__get__")))
    (t_Copy_shift : PySem.W.takesIn K (.ref q_Copy_shift) = some true)
    (r_Copy_shift : PySem.W.recIn K q_Copy_shift "property" = some (.ref f_Copy_shift :: rs_Copy_shift))
    (l_Copy_shift : K.lookup f_Copy_shift = some ⟨oc_Copy_shift, od_Copy_shift, .func (PySem.W.fnOf "shift" "Copy.shift" (defArgs s_Copy_shift) (defBody s_Copy_shift) (defScope s_Copy_shift) .none kV_Copy_shift dc_Copy_shift pm_Copy_shift an_Copy_shift cd_Copy_shift ct_Copy_shift), sl_Copy_shift⟩)
    (c_Copy_shift : PySem.W.codeIn K cd_Copy_shift "Copy.shift" = true)
    (k_Copy_shift : PySem.W.keepIn K (.ref f_Copy_shift) = true)
    (a_Copy_mirrored : PySem.W.findIn K (.ref C) "mirrored" = some (some (.ref q_Copy_mirrored)))
    (g_Copy_mirrored : PySem.W.specialIn K (.ref q_Copy_mirrored) "__get__" = some (some (.builtin "property.__get__")))
    (t_Copy_mirrored : PySem.W.takesIn K (.ref q_Copy_mirrored) = some true)
    (r_Copy_mirrored : PySem.W.recIn K q_Copy_mirrored "property" = some (.ref f_Copy_mirrored :: rs_Copy_mirrored))
    (l_Copy_mirrored : K.lookup f_Copy_mirrored = some ⟨oc_Copy_mirrored, od_Copy_mirrored, .func (PySem.W.fnOf "mirrored" "Copy.mirrored" (defArgs s_Copy_mirrored) (defBody s_Copy_mirrored) (defScope s_Copy_mirrored) .none kV_Copy_mirrored dc_Copy_mirrored pm_Copy_mirrored an_Copy_mirrored cd_Copy_mirrored ct_Copy_mirrored), sl_Copy_mirrored⟩)
    (c_Copy_mirrored : PySem.W.codeIn K cd_Copy_mirrored "Copy.mirrored" = true)
    (k_Copy_mirrored : PySem.W.keepIn K (.ref f_Copy_mirrored) = true)
    (a_Copy_growth : PySem.W.findIn K (.ref C) "growth" = some (some (.ref q_Copy_growth)))
    (g_Copy_growth : PySem.W.specialIn K (.ref q_Copy_growth) "__get__" = some (some (.builtin "property.__get__")))
    (t_Copy_growth : PySem.W.takesIn K (.ref q_Copy_growth) = some true)
    (r_Copy_growth : PySem.W.recIn K q_Copy_growth "property" = some (.ref f_Copy_growth :: rs_Copy_growth))
    (l_Copy_growth : K.lookup f_Copy_growth = some ⟨oc_Copy_growth, od_Copy_growth, .func (PySem.W.fnOf "growth" "Copy.growth" (defArgs s_Copy_growth) (defBody s_Copy_growth) (defScope s_Copy_growth) .none kV_Copy_growth dc_Copy_growth pm_Copy_growth an_Copy_growth cd_Copy_growth ct_Copy_growth), sl_Copy_growth⟩)
    (c_Copy_growth : PySem.W.codeIn K cd_Copy_growth "Copy.growth" = true)
    (k_Copy_growth : PySem.W.keepIn K (.ref f_Copy_growth) = true)
    (a_still_copy : PySem.W.nsIn K mainGlobals "still_copy" = some (some (.ref f_still_copy)))
    (l_still_copy : K.lookup f_still_copy = some ⟨oc_still_copy, od_still_copy, .func (PySem.W.fnOf "still_copy" "still_copy" (defArgs s_still_copy) (defBody s_still_copy) (defScope s_still_copy) .none kV_still_copy dc_still_copy pm_still_copy an_still_copy cd_still_copy ct_still_copy), sl_still_copy⟩)
    (c_still_copy : PySem.W.codeIn K cd_still_copy "still_copy" = true)
    (k_still_copy : PySem.W.keepIn K (.ref f_still_copy) = true)
    (a_order : PySem.W.nsIn K mainGlobals "order" = some (some (.ref f_order)))
    (l_order : K.lookup f_order = some ⟨oc_order, od_order, .func (PySem.W.fnOf "order" "order" (defArgs s_order) (defBody s_order) (defScope s_order) .none kV_order dc_order pm_order an_order cd_order ct_order), sl_order⟩)
    (c_order : PySem.W.codeIn K cd_order "order" = true)
    (k_order : PySem.W.keepIn K (.ref f_order) = true)
    (a_gap : PySem.W.nsIn K mainGlobals "gap" = some (some (.ref f_gap)))
    (l_gap : K.lookup f_gap = some ⟨oc_gap, od_gap, .func (PySem.W.fnOf "gap" "gap" (defArgs s_gap) (defBody s_gap) (defScope s_gap) .none kV_gap dc_gap pm_gap an_gap cd_gap ct_gap), sl_gap⟩)
    (c_gap : PySem.W.codeIn K cd_gap "gap" = true)
    (k_gap : PySem.W.keepIn K (.ref f_gap) = true)
    (a_meeting : PySem.W.nsIn K mainGlobals "meeting" = some (some (.ref f_meeting)))
    (l_meeting : K.lookup f_meeting = some ⟨oc_meeting, od_meeting, .func (PySem.W.fnOf "meeting" "meeting" (defArgs s_meeting) (defBody s_meeting) (defScope s_meeting) .none kV_meeting dc_meeting pm_meeting an_meeting cd_meeting ct_meeting), sl_meeting⟩)
    (c_meeting : PySem.W.codeIn K cd_meeting "meeting" = true)
    (k_meeting : PySem.W.keepIn K (.ref f_meeting) = true)
    (a_kept : PySem.W.nsIn K mainGlobals "kept" = some (some (.ref f_kept)))
    (l_kept : K.lookup f_kept = some ⟨oc_kept, od_kept, .func (PySem.W.fnOf "kept" "kept" (defArgs s_kept) (defBody s_kept) (defScope s_kept) .none kV_kept dc_kept pm_kept an_kept cd_kept ct_kept), sl_kept⟩)
    (c_kept : PySem.W.codeIn K cd_kept "kept" = true)
    (k_kept : PySem.W.keepIn K (.ref f_kept) = true)
    (a_carriers_by : PySem.W.nsIn K mainGlobals "carriers_by" = some (some (.ref f_carriers_by)))
    (l_carriers_by : K.lookup f_carriers_by = some ⟨oc_carriers_by, od_carriers_by, .func (PySem.W.fnOf "carriers_by" "carriers_by" (defArgs s_carriers_by) (defBody s_carriers_by) (defScope s_carriers_by) .none kV_carriers_by dc_carriers_by pm_carriers_by an_carriers_by cd_carriers_by ct_carriers_by), sl_carriers_by⟩)
    (c_carriers_by : PySem.W.codeIn K cd_carriers_by "carriers_by" = true)
    (k_carriers_by : PySem.W.keepIn K (.ref f_carriers_by) = true)
    (a_carriers : PySem.W.nsIn K mainGlobals "carriers" = some (some (.ref f_carriers)))
    (l_carriers : K.lookup f_carriers = some ⟨oc_carriers, od_carriers, .func (PySem.W.fnOf "carriers" "carriers" (defArgs s_carriers) (defBody s_carriers) (defScope s_carriers) .none kV_carriers dc_carriers pm_carriers an_carriers cd_carriers ct_carriers), sl_carriers⟩)
    (c_carriers : PySem.W.codeIn K cd_carriers "carriers" = true)
    (k_carriers : PySem.W.keepIn K (.ref f_carriers) = true)
    (a_law_random : PySem.W.nsIn K mainGlobals "_law_random" = some (some (.ref f_law_random)))
    (l_law_random : K.lookup f_law_random = some ⟨oc_law_random, od_law_random, .func (PySem.W.fnOf "_law_random" "_law_random" (defArgs s_law_random) (defBody s_law_random) (defScope s_law_random) .none kV_law_random dc_law_random pm_law_random an_law_random cd_law_random ct_law_random), sl_law_random⟩)
    (c_law_random : PySem.W.codeIn K cd_law_random "_law_random" = true)
    (k_law_random : PySem.W.keepIn K (.ref f_law_random) = true)
    (a_law_below : PySem.W.nsIn K mainGlobals "_law_below" = some (some (.ref f_law_below)))
    (l_law_below : K.lookup f_law_below = some ⟨oc_law_below, od_law_below, .func (PySem.W.fnOf "_law_below" "_law_below" (defArgs s_law_below) (defBody s_law_below) (defScope s_law_below) .none kV_law_below dc_law_below pm_law_below an_law_below cd_law_below ct_law_below), sl_law_below⟩)
    (c_law_below : PySem.W.codeIn K cd_law_below "_law_below" = true)
    (k_law_below : PySem.W.keepIn K (.ref f_law_below) = true)
    (a_law_turn : PySem.W.nsIn K mainGlobals "_law_turn" = some (some (.ref f_law_turn)))
    (l_law_turn : K.lookup f_law_turn = some ⟨oc_law_turn, od_law_turn, .func (PySem.W.fnOf "_law_turn" "_law_turn" (defArgs s_law_turn) (defBody s_law_turn) (defScope s_law_turn) .none kV_law_turn dc_law_turn pm_law_turn an_law_turn cd_law_turn ct_law_turn), sl_law_turn⟩)
    (c_law_turn : PySem.W.codeIn K cd_law_turn "_law_turn" = true)
    (k_law_turn : PySem.W.keepIn K (.ref f_law_turn) = true)
    (a_law_common : PySem.W.nsIn K mainGlobals "_law_common" = some (some (.ref f_law_common)))
    (l_law_common : K.lookup f_law_common = some ⟨oc_law_common, od_law_common, .func (PySem.W.fnOf "_law_common" "_law_common" (defArgs s_law_common) (defBody s_law_common) (defScope s_law_common) .none kV_law_common dc_law_common pm_law_common an_law_common cd_law_common ct_law_common), sl_law_common⟩)
    (c_law_common : PySem.W.codeIn K cd_law_common "_law_common" = true)
    (k_law_common : PySem.W.keepIn K (.ref f_law_common) = true)
    (a_law_lowest : PySem.W.nsIn K mainGlobals "_law_lowest" = some (some (.ref f_law_lowest)))
    (l_law_lowest : K.lookup f_law_lowest = some ⟨oc_law_lowest, od_law_lowest, .func (PySem.W.fnOf "_law_lowest" "_law_lowest" (defArgs s_law_lowest) (defBody s_law_lowest) (defScope s_law_lowest) .none kV_law_lowest dc_law_lowest pm_law_lowest an_law_lowest cd_law_lowest ct_law_lowest), sl_law_lowest⟩)
    (c_law_lowest : PySem.W.codeIn K cd_law_lowest "_law_lowest" = true)
    (k_law_lowest : PySem.W.keepIn K (.ref f_law_lowest) = true)
    (a_law_spot : PySem.W.nsIn K mainGlobals "_law_spot" = some (some (.ref f_law_spot)))
    (l_law_spot : K.lookup f_law_spot = some ⟨oc_law_spot, od_law_spot, .func (PySem.W.fnOf "_law_spot" "_law_spot" (defArgs s_law_spot) (defBody s_law_spot) (defScope s_law_spot) .none kV_law_spot dc_law_spot pm_law_spot an_law_spot cd_law_spot ct_law_spot), sl_law_spot⟩)
    (c_law_spot : PySem.W.codeIn K cd_law_spot "_law_spot" = true)
    (k_law_spot : PySem.W.keepIn K (.ref f_law_spot) = true)
    (a_law_told : PySem.W.nsIn K mainGlobals "_law_told" = some (some (.ref f_law_told)))
    (l_law_told : K.lookup f_law_told = some ⟨oc_law_told, od_law_told, .func (PySem.W.fnOf "_law_told" "_law_told" (defArgs s_law_told) (defBody s_law_told) (defScope s_law_told) .none kV_law_told dc_law_told pm_law_told an_law_told cd_law_told ct_law_told), sl_law_told⟩)
    (c_law_told : PySem.W.codeIn K cd_law_told "_law_told" = true)
    (k_law_told : PySem.W.keepIn K (.ref f_law_told) = true)
    (a_law_still_told : PySem.W.nsIn K mainGlobals "_law_still_told" = some (some (.ref f_law_still_told)))
    (l_law_still_told : K.lookup f_law_still_told = some ⟨oc_law_still_told, od_law_still_told, .func (PySem.W.fnOf "_law_still_told" "_law_still_told" (defArgs s_law_still_told) (defBody s_law_still_told) (defScope s_law_still_told) .none kV_law_still_told dc_law_still_told pm_law_still_told an_law_still_told cd_law_still_told ct_law_still_told), sl_law_still_told⟩)
    (c_law_still_told : PySem.W.codeIn K cd_law_still_told "_law_still_told" = true)
    (k_law_still_told : PySem.W.keepIn K (.ref f_law_still_told) = true)
    (a_law_copy : PySem.W.nsIn K mainGlobals "_law_copy" = some (some (.ref f_law_copy)))
    (l_law_copy : K.lookup f_law_copy = some ⟨oc_law_copy, od_law_copy, .func (PySem.W.fnOf "_law_copy" "_law_copy" (defArgs s_law_copy) (defBody s_law_copy) (defScope s_law_copy) .none kV_law_copy dc_law_copy pm_law_copy an_law_copy cd_law_copy ct_law_copy), sl_law_copy⟩)
    (c_law_copy : PySem.W.codeIn K cd_law_copy "_law_copy" = true)
    (k_law_copy : PySem.W.keepIn K (.ref f_law_copy) = true)
    (a_law_shown : PySem.W.nsIn K mainGlobals "_law_shown" = some (some (.ref f_law_shown)))
    (l_law_shown : K.lookup f_law_shown = some ⟨oc_law_shown, od_law_shown, .func (PySem.W.fnOf "_law_shown" "_law_shown" (defArgs s_law_shown) (defBody s_law_shown) (defScope s_law_shown) .none kV_law_shown dc_law_shown pm_law_shown an_law_shown cd_law_shown ct_law_shown), sl_law_shown⟩)
    (c_law_shown : PySem.W.codeIn K cd_law_shown "_law_shown" = true)
    (k_law_shown : PySem.W.keepIn K (.ref f_law_shown) = true)
    (a_law : PySem.W.nsIn K mainGlobals "law" = some (some (.ref f_law)))
    (l_law : K.lookup f_law = some ⟨oc_law, od_law, .func (PySem.W.fnOf "law" "law" (defArgs s_law) (defBody s_law) (defScope s_law) .none kV_law dc_law pm_law an_law cd_law ct_law), sl_law⟩)
    (c_law : PySem.W.codeIn K cd_law "law" = true)
    (k_law : PySem.W.keepIn K (.ref f_law) = true)
    : ∃ fd : FuncData, (∀ (s : Shared) (v : Value), BindsTo s fd ⟨[v], []⟩ [("_law_script", v)]) ∧ ∀ base : Heap, K.In base → base.Ns mainGlobals mg → FnOk l.prog w K mg base CX0 10 fa fd ["_law_script"] (spLaw K) := by
  have e := hfa.symm.trans (PySem.W.mg_of X G a_law)
  cases e
  have b_abs := PySem.W.mg_none_of X G z_abs
  have b_len := PySem.W.mg_none_of X G z_len
  have b_isinstance := PySem.W.mg_none_of X G z_isinstance
  have b_int := PySem.W.mg_none_of X G z_int
  have b_bool := PySem.W.mg_none_of X G z_bool
  have b_tuple := PySem.W.mg_none_of X G z_tuple
  have b_all := PySem.W.mg_none_of X G z_all
  have b_any := PySem.W.mg_none_of X G z_any
  have b_range := PySem.W.mg_none_of X G z_range
  have b_set := PySem.W.mg_none_of X G z_set
  have b_sorted := PySem.W.mg_none_of X G z_sorted
  have m_MIDDLE := PySem.W.mg_of X G m_MIDDLE
  have t_MIDDLE : ∀ H, SqT K H a_tMIDDLE (v3 (0, 0, 1)) := fun H => .inr ⟨_, _, _, u_MIDDLE, rfl, rfl, (by show 3 ≤ sizeLine; decide), .cons ⟨_, rfl⟩ (.cons ⟨_, rfl⟩ (.cons ⟨_, rfl⟩ .nil))⟩
  have m_ONE := PySem.W.mg_of X G m_ONE
  have t_ONE : ∀ H, SqT K H a_tONE (v3 (1, 0, 1)) := fun H => .inr ⟨_, _, _, u_ONE, rfl, rfl, (by show 3 ≤ sizeLine; decide), .cons ⟨_, rfl⟩ (.cons ⟨_, rfl⟩ (.cons ⟨_, rfl⟩ .nil))⟩
  have m_UP := PySem.W.mg_of X G m_UP
  have t_UP : ∀ H, SqT K H a_tUP (v3 (0, 1, 1)) := fun H => .inr ⟨_, _, _, u_UP, rfl, rfl, (by show 3 ≤ sizeLine; decide), .cons ⟨_, rfl⟩ (.cons ⟨_, rfl⟩ (.cons ⟨_, rfl⟩ .nil))⟩
  have m_MOST_TIMES := PySem.W.mg_of X G mi_MOST_TIMES
  have F_common_divisor := fun_mk (st := s_common_divisor) l_common_divisor c_common_divisor k_common_divisor
  have B_common_divisor := F_common_divisor.binds (ps := ["one", "other"]) fun _ _ _ _ _ _ us hl => match us, hl with | [_, _], _ => rfl
  have F_is_whole := fun_mk (st := s_is_whole) l_is_whole c_is_whole k_is_whole
  have B_is_whole := F_is_whole.binds (ps := ["value"]) fun _ _ _ _ _ _ us hl => match us, hl with | [_], _ => rfl
  have F_is_spot := fun_mk (st := s_is_spot) l_is_spot c_is_spot k_is_spot
  have B_is_spot := F_is_spot.binds (ps := ["value"]) fun _ _ _ _ _ _ us hl => match us, hl with | [_], _ => rfl
  have F_check_spot := fun_mk (st := s_check_spot) l_check_spot c_check_spot k_check_spot
  have B_check_spot := F_check_spot.binds (ps := ["value"]) fun _ _ _ _ _ _ us hl => match us, hl with | [_], _ => rfl
  have F_check_turn := fun_mk (st := s_check_turn) l_check_turn c_check_turn k_check_turn
  have B_check_turn := F_check_turn.binds (ps := ["value"]) fun _ _ _ _ _ _ us hl => match us, hl with | [_], _ => rfl
  have F_spot_at := fun_mk (st := s_spot_at) l_spot_at c_spot_at k_spot_at
  have B_spot_at := F_spot_at.binds (ps := ["x", "y", "d"]) fun _ _ _ _ _ _ us hl => match us, hl with | [_, _, _], _ => rfl
  have F_fraction := fun_mk (st := s_fraction) l_fraction c_fraction k_fraction
  have B_fraction := F_fraction.binds (ps := ["p", "q"]) fun _ _ _ _ _ _ us hl => match us, hl with | [_, _], _ => rfl
  have F_plus := fun_mk (st := s_plus) l_plus c_plus k_plus
  have B_plus := F_plus.binds (ps := ["one", "other"]) fun _ _ _ _ _ _ us hl => match us, hl with | [_, _], _ => rfl
  have F_negative := fun_mk (st := s_negative) l_negative c_negative k_negative
  have B_negative := F_negative.binds (ps := ["number"]) fun _ _ _ _ _ _ us hl => match us, hl with | [_], _ => rfl
  have F_minus := fun_mk (st := s_minus) l_minus c_minus k_minus
  have B_minus := F_minus.binds (ps := ["one", "other"]) fun _ _ _ _ _ _ us hl => match us, hl with | [_, _], _ => rfl
  have F_product := fun_mk (st := s_product) l_product c_product k_product
  have B_product := F_product.binds (ps := ["one", "other"]) fun _ _ _ _ _ _ us hl => match us, hl with | [_, _], _ => rfl
  have F_inverse := fun_mk (st := s_inverse) l_inverse c_inverse k_inverse
  have B_inverse := F_inverse.binds (ps := ["number"]) fun _ _ _ _ _ _ us hl => match us, hl with | [_], _ => rfl
  have F_faced := fun_mk (st := s_faced) l_faced c_faced k_faced
  have B_faced := F_faced.binds (ps := ["number", "mirrored"]) fun _ _ _ _ _ _ us hl => match us, hl with | [_, _], _ => rfl
  have F_carried := fun_mk (st := s_carried) l_carried c_carried k_carried
  have B_carried := F_carried.binds (ps := ["turn", "shift", "mirrored", "spot"]) fun _ _ _ _ _ _ us hl => match us, hl with | [_, _, _, _], _ => rfl
  have F_line_form := fun_mk (st := s_line_form) l_line_form c_line_form k_line_form
  have B_line_form := F_line_form.binds (ps := ["a", "b", "c"]) fun _ _ _ _ _ _ us hl => match us, hl with | [_, _, _], _ => rfl
  have F_is_on_line := fun_mk (st := s_is_on_line) l_is_on_line c_is_on_line k_is_on_line
  have B_is_on_line := F_is_on_line.binds (ps := ["spot", "line"]) fun _ _ _ _ _ _ us hl => match us, hl with | [_, _], _ => rfl
  have F_are_parallel := fun_mk (st := s_are_parallel) l_are_parallel c_are_parallel k_are_parallel
  have B_are_parallel := F_are_parallel.binds (ps := ["one", "other"]) fun _ _ _ _ _ _ us hl => match us, hl with | [_, _], _ => rfl
  have F_crossing := fun_mk (st := s_crossing) l_crossing c_crossing k_crossing
  have B_crossing := F_crossing.binds (ps := ["one", "other"]) fun _ _ _ _ _ _ us hl => match us, hl with | [_, _], _ => rfl
  have F_equations := fun_mk (st := s_equations) l_equations c_equations k_equations
  have B_equations := F_equations.binds (ps := ["right", "up", "goal"]) fun _ _ _ _ _ _ us hl => match us, hl with | [_, _, _], _ => rfl
  have F_solution := fun_mk (st := s_solution) l_solution c_solution k_solution
  have B_solution := F_solution.binds (ps := ["rows"]) fun _ _ _ _ _ _ us hl => match us, hl with | [_], _ => rfl
  have TX : CTxt K C := ⟨⟨pg, hdC, po, sa⟩, nF, nO, nL, ha, hn, htk, hmo⟩
  have mgC := PySem.W.mg_of X G aC
  have FI : FunD K "__init__" "Copy.__init__" (defArgs s_Copy___init__) (defBody s_Copy___init__) (defScope s_Copy___init__) [] [("mirrored", .bl false)] f_Copy___init__ _ := ⟨⟨_, _, _, _, _, _, _, _, _, _, rfl, l_Copy___init__, c_Copy___init__, .inl ⟨rfl, rfl⟩, .inr ⟨_, rfl, fun q hq => by cases List.mem_singleton.mp hq; exact ⟨_, kw_init, rfl⟩⟩⟩, k_Copy___init__⟩
  obtain ⟨⟨ds, bv, bd⟩, mv, kb⟩ := bind_init FI
  have F_Copy___rshift__ := fun_mk (st := s_Copy___rshift__) l_Copy___rshift__ c_Copy___rshift__ k_Copy___rshift__
  have B_Copy___rshift__ := F_Copy___rshift__.binds (ps := ["self", "other"]) fun _ _ _ _ _ _ us hl => match us, hl with | [_, _], _ => rfl
  have F_Copy___invert__ := fun_mk (st := s_Copy___invert__) l_Copy___invert__ c_Copy___invert__ k_Copy___invert__
  have B_Copy___invert__ := F_Copy___invert__.binds (ps := ["self"]) fun _ _ _ _ _ _ us hl => match us, hl with | [_], _ => rfl
  have F_Copy___eq__ := fun_mk (st := s_Copy___eq__) l_Copy___eq__ c_Copy___eq__ k_Copy___eq__
  have B_Copy___eq__ := F_Copy___eq__.binds (ps := ["self", "other"]) fun _ _ _ _ _ _ us hl => match us, hl with | [_, _], _ => rfl
  have F_Copy___call__ := fun_mk (st := s_Copy___call__) l_Copy___call__ c_Copy___call__ k_Copy___call__
  have B_Copy___call__ := F_Copy___call__.binds (ps := ["self", "spot"]) fun _ _ _ _ _ _ us hl => match us, hl with | [_, _], _ => rfl
  have F_Copy_again := fun_mk (st := s_Copy_again) l_Copy_again c_Copy_again k_Copy_again
  have B_Copy_again := F_Copy_again.binds (ps := ["self", "times"]) fun _ _ _ _ _ _ us hl => match us, hl with | [_, _], _ => rfl
  have F_Copy_turn := fun_mk (st := s_Copy_turn) l_Copy_turn c_Copy_turn k_Copy_turn
  have B_Copy_turn := F_Copy_turn.binds (ps := ["self"]) fun _ _ _ _ _ _ us hl => match us, hl with | [_], _ => rfl
  have F_Copy_shift := fun_mk (st := s_Copy_shift) l_Copy_shift c_Copy_shift k_Copy_shift
  have B_Copy_shift := F_Copy_shift.binds (ps := ["self"]) fun _ _ _ _ _ _ us hl => match us, hl with | [_], _ => rfl
  have F_Copy_mirrored := fun_mk (st := s_Copy_mirrored) l_Copy_mirrored c_Copy_mirrored k_Copy_mirrored
  have B_Copy_mirrored := F_Copy_mirrored.binds (ps := ["self"]) fun _ _ _ _ _ _ us hl => match us, hl with | [_], _ => rfl
  have F_Copy_growth := fun_mk (st := s_Copy_growth) l_Copy_growth c_Copy_growth k_Copy_growth
  have B_Copy_growth := F_Copy_growth.binds (ps := ["self"]) fun _ _ _ _ _ _ us hl => match us, hl with | [_], _ => rfl
  have F_still_copy := fun_mk (st := s_still_copy) l_still_copy c_still_copy k_still_copy
  have B_still_copy := F_still_copy.binds (ps := []) fun _ _ _ _ _ _ us hl => match us, hl with | [], _ => rfl
  have F_order := fun_mk (st := s_order) l_order c_order k_order
  have B_order := F_order.binds (ps := ["copy"]) fun _ _ _ _ _ _ us hl => match us, hl with | [_], _ => rfl
  have F_gap := fun_mk (st := s_gap) l_gap c_gap k_gap
  have B_gap := F_gap.binds (ps := ["one", "other", "spot"]) fun _ _ _ _ _ _ us hl => match us, hl with | [_, _, _], _ => rfl
  have F_meeting := fun_mk (st := s_meeting) l_meeting c_meeting k_meeting
  have B_meeting := F_meeting.binds (ps := ["one", "other"]) fun _ _ _ _ _ _ us hl => match us, hl with | [_, _], _ => rfl
  have F_kept := fun_mk (st := s_kept) l_kept c_kept k_kept
  have B_kept := F_kept.binds (ps := ["copy"]) fun _ _ _ _ _ _ us hl => match us, hl with | [_], _ => rfl
  have F_carriers_by := fun_mk (st := s_carriers_by) l_carriers_by c_carriers_by k_carriers_by
  have B_carriers_by := F_carriers_by.binds (ps := ["pairs", "other", "mirrored"]) fun _ _ _ _ _ _ us hl => match us, hl with | [_, _, _], _ => rfl
  have F_carriers := fun_mk (st := s_carriers) l_carriers c_carriers k_carriers
  have B_carriers := F_carriers.binds (ps := ["pairs"]) fun _ _ _ _ _ _ us hl => match us, hl with | [_], _ => rfl
  have F_law_random := fun_mk (st := s_law_random) l_law_random c_law_random k_law_random
  have B_law_random := F_law_random.binds (ps := ["_law_script", "_law_salt"]) fun _ _ _ _ _ _ us hl => match us, hl with | [_, _], _ => rfl
  have F_law_below := fun_mk (st := s_law_below) l_law_below c_law_below k_law_below
  have B_law_below := F_law_below.binds (ps := ["_law_d", "_law_limit"]) fun _ _ _ _ _ _ us hl => match us, hl with | [_, _], _ => rfl
  have F_law_turn := fun_mk (st := s_law_turn) l_law_turn c_law_turn k_law_turn
  have B_law_turn := F_law_turn.binds (ps := ["_law_d"]) fun _ _ _ _ _ _ us hl => match us, hl with | [_], _ => rfl
  have F_law_common := fun_mk (st := s_law_common) l_law_common c_law_common k_law_common
  have B_law_common := F_law_common.binds (ps := ["_law_one", "_law_other"]) fun _ _ _ _ _ _ us hl => match us, hl with | [_, _], _ => rfl
  have F_law_lowest := fun_mk (st := s_law_lowest) l_law_lowest c_law_lowest k_law_lowest
  have B_law_lowest := F_law_lowest.binds (ps := ["_law_x", "_law_y", "_law_q"]) fun _ _ _ _ _ _ us hl => match us, hl with | [_, _, _], _ => rfl
  have F_law_spot := fun_mk (st := s_law_spot) l_law_spot c_law_spot k_law_spot
  have B_law_spot := F_law_spot.binds (ps := ["_law_d"]) fun _ _ _ _ _ _ us hl => match us, hl with | [_], _ => rfl
  have F_law_told := fun_mk (st := s_law_told) l_law_told c_law_told k_law_told
  have B_law_told := F_law_told.binds (ps := ["_law_d"]) fun _ _ _ _ _ _ us hl => match us, hl with | [_], _ => rfl
  have F_law_still_told := fun_mk (st := s_law_still_told) l_law_still_told c_law_still_told k_law_still_told
  have B_law_still_told := F_law_still_told.binds (ps := ["_law_d"]) fun _ _ _ _ _ _ us hl => match us, hl with | [_], _ => rfl
  have F_law_copy := fun_mk (st := s_law_copy) l_law_copy c_law_copy k_law_copy
  have B_law_copy := F_law_copy.binds (ps := ["_law_told_here"]) fun _ _ _ _ _ _ us hl => match us, hl with | [_], _ => rfl
  have F_law_shown := fun_mk (st := s_law_shown) l_law_shown c_law_shown k_law_shown
  have B_law_shown := F_law_shown.binds (ps := ["_law_copy_here"]) fun _ _ _ _ _ _ us hl => match us, hl with | [_], _ => rfl
  have F_law := fun_mk (st := s_law) l_law c_law k_law
  have B_law := F_law.binds (ps := ["_law_script"]) fun _ _ _ _ _ _ us hl => match us, hl with | [_], _ => rfl
  refine ⟨PySem.W.fnOf "law" "law" (defArgs s_law) (defBody s_law) (defScope s_law) .none kV_law dc_law pm_law an_law cd_law ct_law, fun s v => .of_eq rfl, fun base _ _ => ?_⟩
  have d_common_divisor : D l.prog w K mg base "common_divisor" 1 sp_gcd := ⟨_, rOf (ok_common_divisor b_abs F_common_divisor) B_common_divisor, k_common_divisor, PySem.W.mg_of X G a_common_divisor⟩
  have d_is_whole : D l.prog w K mg base "is_whole" 1 sp_whole := ⟨_, rOf (ok_is_whole b_isinstance b_int b_bool F_is_whole) B_is_whole, k_is_whole, PySem.W.mg_of X G a_is_whole⟩
  have d_is_spot : D l.prog w K mg base "is_spot" 2 (sp_isspot K) := ⟨_, rOf (ok_is_spot b_isinstance b_tuple b_len b_all d_common_divisor d_is_whole F_is_spot) B_is_spot, k_is_spot, PySem.W.mg_of X G a_is_spot⟩
  have d_check_spot : D l.prog w K mg base "check_spot" 3 (sp_check K) := ⟨_, rOf (ok_check_spot d_is_spot F_check_spot) B_check_spot, k_check_spot, PySem.W.mg_of X G a_check_spot⟩
  have d_check_turn : D l.prog w K mg base "check_turn" 3 (sp_checkT K) := ⟨_, rOf (ok_check_turn d_is_spot m_MIDDLE t_MIDDLE F_check_turn) B_check_turn, k_check_turn, PySem.W.mg_of X G a_check_turn⟩
  have d_spot_at : D l.prog w K mg base "spot_at" 2 (sp_low K) := ⟨_, rOf (ok_spot_at d_common_divisor F_spot_at) B_spot_at, k_spot_at, PySem.W.mg_of X G a_spot_at⟩
  have d_fraction : D l.prog w K mg base "fraction" 2 (sp_fr K) := ⟨_, rOf (ok_fraction d_common_divisor F_fraction) B_fraction, k_fraction, PySem.W.mg_of X G a_fraction⟩
  have d_plus : D l.prog w K mg base "plus" 3 (sp_two K plus) := ⟨_, rOf (ok_plus d_spot_at F_plus) B_plus, k_plus, PySem.W.mg_of X G a_plus⟩
  have d_negative : D l.prog w K mg base "negative" 1 (sp_one K neg) := ⟨_, rOf (ok_negative F_negative) B_negative, k_negative, PySem.W.mg_of X G a_negative⟩
  have d_minus : D l.prog w K mg base "minus" 4 (sp_two K minus) := ⟨_, rOf (ok_minus d_plus d_negative F_minus) B_minus, k_minus, PySem.W.mg_of X G a_minus⟩
  have d_product : D l.prog w K mg base "product" 3 (sp_two K times) := ⟨_, rOf (ok_product d_spot_at F_product) B_product, k_product, PySem.W.mg_of X G a_product⟩
  have d_inverse : D l.prog w K mg base "inverse" 3 (sp_inv K) := ⟨_, rOf (ok_inverse d_spot_at F_inverse) B_inverse, k_inverse, PySem.W.mg_of X G a_inverse⟩
  have d_faced : D l.prog w K mg base "faced" 1 (sp_face K) := ⟨_, rOf (ok_faced F_faced) B_faced, k_faced, PySem.W.mg_of X G a_faced⟩
  have d_carried : D l.prog w K mg base "carried" 4 (sp_car K) := ⟨_, rOf (ok_carried d_plus d_product d_faced F_carried) B_carried, k_carried, PySem.W.mg_of X G a_carried⟩
  have d_line_form : D l.prog w K mg base "line_form" 2 (sp_line K) := ⟨_, rOf (ok_line_form d_common_divisor F_line_form) B_line_form, k_line_form, PySem.W.mg_of X G a_line_form⟩
  have d_is_on_line : D l.prog w K mg base "is_on_line" 1 (sp_on K) := ⟨_, rOf (ok_is_on_line F_is_on_line) B_is_on_line, k_is_on_line, PySem.W.mg_of X G a_is_on_line⟩
  have d_are_parallel : D l.prog w K mg base "are_parallel" 1 (sp_par K) := ⟨_, rOf (ok_are_parallel F_are_parallel) B_are_parallel, k_are_parallel, PySem.W.mg_of X G a_are_parallel⟩
  have d_crossing : D l.prog w K mg base "crossing" 3 (sp_cross K) := ⟨_, rOf (ok_crossing d_spot_at F_crossing) B_crossing, k_crossing, PySem.W.mg_of X G a_crossing⟩
  have d_equations : D l.prog w K mg base "equations" 1 (sp_eqs K) := ⟨_, rOf (ok_equations F_equations) B_equations, k_equations, PySem.W.mg_of X G a_equations⟩
  have d_solution : D l.prog w K mg base "solution" 4 (sp_sol K) := ⟨_, rOf (ok_solution b_any b_all d_line_form d_is_on_line d_are_parallel d_crossing F_solution) B_solution, k_solution, PySem.W.mg_of X G a_solution⟩
  have TC : CopyI l.prog w K mg base C f_Copy___init__ _ mv ds := ⟨TX, ⟨mkC, inI, isI, kc⟩, ok_init TX d_check_turn d_check_spot FI, mgC, bv, bd, kb⟩
  have m_ca : MCa l.prog w K mg base C := ⟨⟨_, rOf (ok_call TX d_check_spot d_carried F_Copy___call__) B_Copy___call__, ⟨a_Copy___call__, i_Copy___call__, fi_call⟩⟩⟩
  have m_rs : MRs l.prog w K mg base C := ⟨sf, ⟨_, rOf (ok_rshift TC d_product d_faced d_carried F_Copy___rshift__) B_Copy___rshift__, a_Copy___rshift__, i_Copy___rshift__⟩⟩
  have m_iv : MIv l.prog w K mg base C := ⟨⟨_, rOf (ok_invert TC d_product d_inverse d_negative d_faced F_Copy___invert__) B_Copy___invert__, a_Copy___invert__, i_Copy___invert__⟩⟩
  have m_eq : MEq l.prog w K mg base C := ⟨⟨_, rOf (ok_eq TX mgC b_isinstance F_Copy___eq__) B_Copy___eq__, a_Copy___eq__, i_Copy___eq__⟩⟩
  have m_pt : MPt l.prog w K mg base C := ⟨TX.cl, _, _, _, ok_turn TX F_Copy_turn, B_Copy_turn, ⟨a_Copy_turn, g_Copy_turn, t_Copy_turn, ⟨_, r_Copy_turn⟩⟩⟩
  have m_ps : MPs l.prog w K mg base C := ⟨TX.cl, _, _, _, ok_shift TX F_Copy_shift, B_Copy_shift, ⟨a_Copy_shift, g_Copy_shift, t_Copy_shift, ⟨_, r_Copy_shift⟩⟩⟩
  have m_pm : MPm l.prog w K mg base C := ⟨TX.cl, _, _, _, ok_mirrored TX F_Copy_mirrored, B_Copy_mirrored, ⟨a_Copy_mirrored, g_Copy_mirrored, t_Copy_mirrored, ⟨_, r_Copy_mirrored⟩⟩⟩
  have m_pg : MPg l.prog w K mg base C := ⟨TX.cl, _, _, _, ok_growth TX d_fraction F_Copy_growth, B_Copy_growth, ⟨a_Copy_growth, g_Copy_growth, t_Copy_growth, ⟨_, r_Copy_growth⟩⟩⟩
  have d_still_copy : D l.prog w K mg base "still_copy" 6 (sp_still K C) := ⟨_, rOf (ok_still_copy TC m_ONE t_ONE m_MIDDLE t_MIDDLE F_still_copy) B_still_copy, k_still_copy, PySem.W.mg_of X G a_still_copy⟩
  have m_ag : MAg l.prog w K mg base C := ⟨TX.cl, _, _, ok_again b_abs b_range m_MOST_TIMES m_rs m_iv d_is_whole d_still_copy F_Copy_again, B_Copy_again, ⟨a_Copy_again, i_Copy_again, k_Copy_again⟩⟩
  have d_order : D l.prog w K mg base "order" 8 (sp_order K C) := ⟨_, rOf (ok_order m_ag m_eq d_still_copy F_order) B_order, k_order, PySem.W.mg_of X G a_order⟩
  have d_gap : D l.prog w K mg base "gap" 6 (sp_gap K C) := ⟨_, rOf (ok_gap m_ca d_minus F_gap) B_gap, k_gap, PySem.W.mg_of X G a_gap⟩
  have d_meeting : D l.prog w K mg base "meeting" 7 (sp_meet K C) := ⟨_, rOf (ok_meeting m_ONE t_ONE m_MIDDLE t_MIDDLE m_UP t_UP d_gap d_minus d_negative d_equations d_solution F_meeting) B_meeting, k_meeting, PySem.W.mg_of X G a_meeting⟩
  have d_kept : D l.prog w K mg base "kept" 8 (sp_kept K C) := ⟨_, rOf (ok_kept d_meeting d_still_copy F_kept) B_kept, k_kept, PySem.W.mg_of X G a_kept⟩
  have d_carriers_by : D l.prog w K mg base "carriers_by" 6 (sp_crb K C) := ⟨_, rOf (ok_carriers_by TC b_any m_MIDDLE t_MIDDLE d_minus d_product d_inverse d_faced d_carried F_carriers_by) B_carriers_by, k_carriers_by, PySem.W.mg_of X G a_carriers_by⟩
  have d_carriers : D l.prog w K mg base "carriers" 7 (sp_carr K C) := ⟨_, rOf (ok_carriers d_check_spot d_carriers_by F_carriers) B_carriers, k_carriers, PySem.W.mg_of X G a_carriers⟩
  have d_law_random : D l.prog w K mg base "_law_random" 1 (sp_random K) := ⟨_, rOf (ok_law_random b_abs F_law_random) B_law_random, k_law_random, PySem.W.mg_of X G a_law_random⟩
  have d_law_below : D l.prog w K mg base "_law_below" 1 sp_below := ⟨_, rOf (ok_law_below b_len F_law_below) B_law_below, k_law_below, PySem.W.mg_of X G a_law_below⟩
  have d_law_turn : D l.prog w K mg base "_law_turn" 2 (sp_draw fun H r => ∃ t, IsT K H r t ∧ TurnIn t) := ⟨_, rOf (ok_law_turn d_law_below F_law_turn) B_law_turn, k_law_turn, PySem.W.mg_of X G a_law_turn⟩
  have d_law_common : D l.prog w K mg base "_law_common" 1 sp_gcd := ⟨_, rOf (ok_law_common b_abs F_law_common) B_law_common, k_law_common, PySem.W.mg_of X G a_law_common⟩
  have d_law_lowest : D l.prog w K mg base "_law_lowest" 2 (sp_low K) := ⟨_, rOf (ok_law_lowest d_law_common F_law_lowest) B_law_lowest, k_law_lowest, PySem.W.mg_of X G a_law_lowest⟩
  have d_law_spot : D l.prog w K mg base "_law_spot" 3 (sp_draw fun H r => ∃ t, IsT K H r t ∧ SpotIn t) := ⟨_, rOf (ok_law_spot d_law_below d_law_lowest F_law_spot) B_law_spot, k_law_spot, PySem.W.mg_of X G a_law_spot⟩
  have d_law_told : D l.prog w K mg base "_law_told" 4 (sp_draw fun H r => ∃ c, IsD K H r c ∧ CopyIn c) := ⟨_, rOf (ok_law_told d_law_below d_law_turn d_law_spot F_law_told) B_law_told, k_law_told, PySem.W.mg_of X G a_law_told⟩
  have d_law_still_told : D l.prog w K mg base "_law_still_told" 4 (sp_draw fun H r => ∃ c, IsD K H r c ∧ CopyIn c) := ⟨_, rOf (ok_law_still_told d_law_below d_law_spot F_law_still_told) B_law_still_told, k_law_still_told, PySem.W.mg_of X G a_law_still_told⟩
  have d_law_copy : D l.prog w K mg base "_law_copy" 6 (sp_copyOf K C) := ⟨_, rOf (ok_law_copy TC F_law_copy) B_law_copy, k_law_copy, PySem.W.mg_of X G a_law_copy⟩
  have d_law_shown : D l.prog w K mg base "_law_shown" 3 (sp_shown K C) := ⟨_, rOf (ok_law_shown m_pt m_ps m_pm F_law_shown) B_law_shown, k_law_shown, PySem.W.mg_of X G a_law_shown⟩
  exact ok_law TC m_rs m_iv m_eq m_ca m_pm m_pg b_range b_tuple b_set b_sorted b_len d_law_random d_law_below d_law_told d_law_still_told d_law_copy d_law_spot d_law_lowest d_law_shown d_kept d_meeting d_order d_carriers F_law
theorem walk {l : PySem.W.OpenLaw} {q : Program} {loose : List Str} {XP : (Str → Option Value) → Heap → Prop} {YP : World → Heap → Prop} {d : DefRec} {K : Params → PySem.W.Frag} (hn : l.most = some 63) (hdf : d.params.defaults = [])
    (hY : ∀ (w : World) (h : Heap), YP w h → (K w.params).In h)
    (F : ∀ (w : World) (mg : Str → Option Value) (fa : Addr) (h : Heap), (K w.params).In h → h.Ns mainGlobals mg → mg d.name = some (.ref fa) →
      ∃ fd : FuncData, (∀ (s : Shared) (u : Value), BindsTo s fd ⟨[u], []⟩ [("_law_script", u)]) ∧ ∀ base : Heap, (K w.params).In base → base.Ns mainGlobals mg → FnOk l.prog w (K w.params) mg base CX0 10 fa fd ["_law_script"] (spLaw (K w.params))) :
    PySem.W.WalkO q loose XP YP l.row.toRowW d [] (fun f vs => PySem.call f vs) :=
  L2.walk_of (n := 63) (k := 10) (x := "_law_script") (CX := fun _ => CX0) (sp := fun w => spLaw (K w.params)) hn (by decide) hdf ⟨rfl, by decide, by decide⟩ hY F (fun _ _ a ns hl _ hS => ⟨a, ns, rfl, hS, hl, fun _ => rfl⟩) fun _ _ _ _ _ z => z
end My
open PySem PySem.W PyProof.Rows in
set_option maxRecDepth 100000 in
set_option maxHeartbeats 0 in
theorem PySem.Challenge.cw_copyarms_k53_whole_kept_spots_seen_from_holds : PySem.Challenge.rw_copyarms_k53_whole_kept_spots_seen_from.Holds := by
  w_on; o_law; k_head; (case hw => w_witness2)
  k_fill
  refine My.walk (l := PySem.Challenge.rw_copyarms_k53_whole_kept_spots_seen_from) rfl rfl (fun w h Y => PySem.W.kIn_of Y) ?F
  case F =>
    intro w mg fa h KX G hmg
    refine' My.all_mk KX G hmg ?z_abs ?z_len ?z_isinstance ?z_int ?z_bool ?z_tuple ?z_all ?z_any ?z_range ?z_set ?z_sorted ?m_MIDDLE ?u_MIDDLE ?m_ONE ?u_ONE ?m_UP ?u_UP ?mi_MOST_TIMES ?a_common_divisor ?l_common_divisor ?c_common_divisor ?k_common_divisor ?a_is_whole ?l_is_whole ?c_is_whole ?k_is_whole ?a_is_spot ?l_is_spot ?c_is_spot ?k_is_spot ?a_check_spot ?l_check_spot ?c_check_spot ?k_check_spot ?a_check_turn ?l_check_turn ?c_check_turn ?k_check_turn ?a_spot_at ?l_spot_at ?c_spot_at ?k_spot_at ?a_fraction ?l_fraction ?c_fraction ?k_fraction ?a_plus ?l_plus ?c_plus ?k_plus ?a_negative ?l_negative ?c_negative ?k_negative ?a_minus ?l_minus ?c_minus ?k_minus ?a_product ?l_product ?c_product ?k_product ?a_inverse ?l_inverse ?c_inverse ?k_inverse ?a_faced ?l_faced ?c_faced ?k_faced ?a_carried ?l_carried ?c_carried ?k_carried ?a_line_form ?l_line_form ?c_line_form ?k_line_form ?a_is_on_line ?l_is_on_line ?c_is_on_line ?k_is_on_line ?a_are_parallel ?l_are_parallel ?c_are_parallel ?k_are_parallel ?a_crossing ?l_crossing ?c_crossing ?k_crossing ?a_equations ?l_equations ?c_equations ?k_equations ?a_solution ?l_solution ?c_solution ?k_solution ?aC ?inI ?l_Copy___init__ ?c_Copy___init__ ?k_Copy___init__ ?kw_init ?pg ?hdC ?po ?sa ?mkC ?kc ?isI ?nF ?nO ?nL ?ha ?hn ?htk ?hmo ?sf ?a_Copy___rshift__ ?i_Copy___rshift__ ?l_Copy___rshift__ ?c_Copy___rshift__ ?k_Copy___rshift__ ?a_Copy___invert__ ?i_Copy___invert__ ?l_Copy___invert__ ?c_Copy___invert__ ?k_Copy___invert__ ?a_Copy___eq__ ?i_Copy___eq__ ?l_Copy___eq__ ?c_Copy___eq__ ?k_Copy___eq__ ?a_Copy___call__ ?i_Copy___call__ ?l_Copy___call__ ?c_Copy___call__ ?k_Copy___call__ ?a_Copy_again ?i_Copy_again ?l_Copy_again ?c_Copy_again ?k_Copy_again ?fi_call ?a_Copy_turn ?g_Copy_turn ?t_Copy_turn ?r_Copy_turn ?l_Copy_turn ?c_Copy_turn ?k_Copy_turn ?a_Copy_shift ?g_Copy_shift ?t_Copy_shift ?r_Copy_shift ?l_Copy_shift ?c_Copy_shift ?k_Copy_shift ?a_Copy_mirrored ?g_Copy_mirrored ?t_Copy_mirrored ?r_Copy_mirrored ?l_Copy_mirrored ?c_Copy_mirrored ?k_Copy_mirrored ?a_Copy_growth ?g_Copy_growth ?t_Copy_growth ?r_Copy_growth ?l_Copy_growth ?c_Copy_growth ?k_Copy_growth ?a_still_copy ?l_still_copy ?c_still_copy ?k_still_copy ?a_order ?l_order ?c_order ?k_order ?a_gap ?l_gap ?c_gap ?k_gap ?a_meeting ?l_meeting ?c_meeting ?k_meeting ?a_kept ?l_kept ?c_kept ?k_kept ?a_carriers_by ?l_carriers_by ?c_carriers_by ?k_carriers_by ?a_carriers ?l_carriers ?c_carriers ?k_carriers ?a_law_random ?l_law_random ?c_law_random ?k_law_random ?a_law_below ?l_law_below ?c_law_below ?k_law_below ?a_law_turn ?l_law_turn ?c_law_turn ?k_law_turn ?a_law_common ?l_law_common ?c_law_common ?k_law_common ?a_law_lowest ?l_law_lowest ?c_law_lowest ?k_law_lowest ?a_law_spot ?l_law_spot ?c_law_spot ?k_law_spot ?a_law_told ?l_law_told ?c_law_told ?k_law_told ?a_law_still_told ?l_law_still_told ?c_law_still_told ?k_law_still_told ?a_law_copy ?l_law_copy ?c_law_copy ?k_law_copy ?a_law_shown ?l_law_shown ?c_law_shown ?k_law_shown ?a_law ?l_law ?c_law ?k_law
    (case z_abs => k_is)
    (case z_len => k_is)
    (case z_isinstance => k_is)
    (case z_int => k_is)
    (case z_bool => k_is)
    (case z_tuple => k_is)
    (case z_all => k_is)
    (case z_any => k_is)
    (case z_range => k_is)
    (case z_set => k_is)
    (case z_sorted => k_is)
    (case m_MIDDLE => k_is)
    (case u_MIDDLE => k_is)
    (case m_ONE => k_is)
    (case u_ONE => k_is)
    (case m_UP => k_is)
    (case u_UP => k_is)
    (case mi_MOST_TIMES => k_is)
    (case a_common_divisor => k_is)
    (case l_common_divisor => k_is)
    (case c_common_divisor => k_is)
    (case k_common_divisor => k_is)
    (case a_is_whole => k_is)
    (case l_is_whole => k_is)
    (case c_is_whole => k_is)
    (case k_is_whole => k_is)
    (case a_is_spot => k_is)
    (case l_is_spot => k_is)
    (case c_is_spot => k_is)
    (case k_is_spot => k_is)
    (case a_check_spot => k_is)
    (case l_check_spot => k_is)
    (case c_check_spot => k_is)
    (case k_check_spot => k_is)
    (case a_check_turn => k_is)
    (case l_check_turn => k_is)
    (case c_check_turn => k_is)
    (case k_check_turn => k_is)
    (case a_spot_at => k_is)
    (case l_spot_at => k_is)
    (case c_spot_at => k_is)
    (case k_spot_at => k_is)
    (case a_fraction => k_is)
    (case l_fraction => k_is)
    (case c_fraction => k_is)
    (case k_fraction => k_is)
    (case a_plus => k_is)
    (case l_plus => k_is)
    (case c_plus => k_is)
    (case k_plus => k_is)
    (case a_negative => k_is)
    (case l_negative => k_is)
    (case c_negative => k_is)
    (case k_negative => k_is)
    (case a_minus => k_is)
    (case l_minus => k_is)
    (case c_minus => k_is)
    (case k_minus => k_is)
    (case a_product => k_is)
    (case l_product => k_is)
    (case c_product => k_is)
    (case k_product => k_is)
    (case a_inverse => k_is)
    (case l_inverse => k_is)
    (case c_inverse => k_is)
    (case k_inverse => k_is)
    (case a_faced => k_is)
    (case l_faced => k_is)
    (case c_faced => k_is)
    (case k_faced => k_is)
    (case a_carried => k_is)
    (case l_carried => k_is)
    (case c_carried => k_is)
    (case k_carried => k_is)
    (case a_line_form => k_is)
    (case l_line_form => k_is)
    (case c_line_form => k_is)
    (case k_line_form => k_is)
    (case a_is_on_line => k_is)
    (case l_is_on_line => k_is)
    (case c_is_on_line => k_is)
    (case k_is_on_line => k_is)
    (case a_are_parallel => k_is)
    (case l_are_parallel => k_is)
    (case c_are_parallel => k_is)
    (case k_are_parallel => k_is)
    (case a_crossing => k_is)
    (case l_crossing => k_is)
    (case c_crossing => k_is)
    (case k_crossing => k_is)
    (case a_equations => k_is)
    (case l_equations => k_is)
    (case c_equations => k_is)
    (case k_equations => k_is)
    (case a_solution => k_is)
    (case l_solution => k_is)
    (case c_solution => k_is)
    (case k_solution => k_is)
    (case aC => k_is)
    (case inI => k_is)
    (case l_Copy___init__ => k_is)
    (case c_Copy___init__ => k_is)
    (case k_Copy___init__ => k_is)
    (case kw_init => k_is)
    (case pg => k_is)
    (case hdC => k_is)
    (case po => k_is)
    (case sa => k_is)
    (case mkC => k_is)
    (case kc => k_is)
    (case isI => k_is)
    (case nF => k_is)
    (case nO => k_is)
    (case nL => k_is)
    (case ha => k_is)
    (case hn => k_is)
    (case htk => k_is)
    (case hmo => k_is)
    (case sf => k_is)
    (case a_Copy___rshift__ => k_is)
    (case i_Copy___rshift__ => k_is)
    (case l_Copy___rshift__ => k_is)
    (case c_Copy___rshift__ => k_is)
    (case k_Copy___rshift__ => k_is)
    (case a_Copy___invert__ => k_is)
    (case i_Copy___invert__ => k_is)
    (case l_Copy___invert__ => k_is)
    (case c_Copy___invert__ => k_is)
    (case k_Copy___invert__ => k_is)
    (case a_Copy___eq__ => k_is)
    (case i_Copy___eq__ => k_is)
    (case l_Copy___eq__ => k_is)
    (case c_Copy___eq__ => k_is)
    (case k_Copy___eq__ => k_is)
    (case a_Copy___call__ => k_is)
    (case i_Copy___call__ => k_is)
    (case l_Copy___call__ => k_is)
    (case c_Copy___call__ => k_is)
    (case k_Copy___call__ => k_is)
    (case a_Copy_again => k_is)
    (case i_Copy_again => k_is)
    (case l_Copy_again => k_is)
    (case c_Copy_again => k_is)
    (case k_Copy_again => k_is)
    (case fi_call => k_is)
    (case a_Copy_turn => k_is)
    (case g_Copy_turn => k_is)
    (case t_Copy_turn => k_is)
    (case r_Copy_turn => k_is)
    (case l_Copy_turn => k_is)
    (case c_Copy_turn => k_is)
    (case k_Copy_turn => k_is)
    (case a_Copy_shift => k_is)
    (case g_Copy_shift => k_is)
    (case t_Copy_shift => k_is)
    (case r_Copy_shift => k_is)
    (case l_Copy_shift => k_is)
    (case c_Copy_shift => k_is)
    (case k_Copy_shift => k_is)
    (case a_Copy_mirrored => k_is)
    (case g_Copy_mirrored => k_is)
    (case t_Copy_mirrored => k_is)
    (case r_Copy_mirrored => k_is)
    (case l_Copy_mirrored => k_is)
    (case c_Copy_mirrored => k_is)
    (case k_Copy_mirrored => k_is)
    (case a_Copy_growth => k_is)
    (case g_Copy_growth => k_is)
    (case t_Copy_growth => k_is)
    (case r_Copy_growth => k_is)
    (case l_Copy_growth => k_is)
    (case c_Copy_growth => k_is)
    (case k_Copy_growth => k_is)
    (case a_still_copy => k_is)
    (case l_still_copy => k_is)
    (case c_still_copy => k_is)
    (case k_still_copy => k_is)
    (case a_order => k_is)
    (case l_order => k_is)
    (case c_order => k_is)
    (case k_order => k_is)
    (case a_gap => k_is)
    (case l_gap => k_is)
    (case c_gap => k_is)
    (case k_gap => k_is)
    (case a_meeting => k_is)
    (case l_meeting => k_is)
    (case c_meeting => k_is)
    (case k_meeting => k_is)
    (case a_kept => k_is)
    (case l_kept => k_is)
    (case c_kept => k_is)
    (case k_kept => k_is)
    (case a_carriers_by => k_is)
    (case l_carriers_by => k_is)
    (case c_carriers_by => k_is)
    (case k_carriers_by => k_is)
    (case a_carriers => k_is)
    (case l_carriers => k_is)
    (case c_carriers => k_is)
    (case k_carriers => k_is)
    (case a_law_random => k_is)
    (case l_law_random => k_is)
    (case c_law_random => k_is)
    (case k_law_random => k_is)
    (case a_law_below => k_is)
    (case l_law_below => k_is)
    (case c_law_below => k_is)
    (case k_law_below => k_is)
    (case a_law_turn => k_is)
    (case l_law_turn => k_is)
    (case c_law_turn => k_is)
    (case k_law_turn => k_is)
    (case a_law_common => k_is)
    (case l_law_common => k_is)
    (case c_law_common => k_is)
    (case k_law_common => k_is)
    (case a_law_lowest => k_is)
    (case l_law_lowest => k_is)
    (case c_law_lowest => k_is)
    (case k_law_lowest => k_is)
    (case a_law_spot => k_is)
    (case l_law_spot => k_is)
    (case c_law_spot => k_is)
    (case k_law_spot => k_is)
    (case a_law_told => k_is)
    (case l_law_told => k_is)
    (case c_law_told => k_is)
    (case k_law_told => k_is)
    (case a_law_still_told => k_is)
    (case l_law_still_told => k_is)
    (case c_law_still_told => k_is)
    (case k_law_still_told => k_is)
    (case a_law_copy => k_is)
    (case l_law_copy => k_is)
    (case c_law_copy => k_is)
    (case k_law_copy => k_is)
    (case a_law_shown => k_is)
    (case l_law_shown => k_is)
    (case c_law_shown => k_is)
    (case k_law_shown => k_is)
    (case a_law => k_is)
    (case l_law => k_is)
    (case c_law => k_is)
    (case k_law => k_is)
#print axioms PySem.Challenge.cw_copyarms_k53_whole_kept_spots_seen_from_holds
