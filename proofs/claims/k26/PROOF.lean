import PyProof.Rows.All
import Wide.All
import OpenK.AllK
import Wide.FinOn
import HandS.ForMost
import HandS.ForExc
import HandS.Flow
import HandS.Style
import HandS.Wide
import HandS.Property
import HandS.Star
import HandS.MakeKw
import HandS.MakeKwOnly
import HandS.OwnEq
import HandS.IsInst
import HandS.Defaults
import HandS.TryOnly
import HandS.NoneIn
import HandS.Lambda
import HandS.EndTab
import HandS.EndOwn
import HandS.ExcOwn
import HandS.ExcIs
import HandS.TupSets
import HandS.Deep
import KE.KDictZip
import HandS.Zip
import HandS.Conv
import HandS.ExcInit
import HandS.ExcField
import KE.KRevSl
import HandS.TupAny
import KE.SortKeyHeap
import KE.GoesMore
import OpenK.KOps
import OpenK.KMeth
import KE.KDflt
import KE.KDictWalk
import HandS.Dict
import HandS.Iter
import HandS.DictComp
import HandS.TupLe
import KE.KeyNested
import PyProof.StrOps2
import HandS.SetFor
import HandS.Strs
import KE.KStateDown
import Lean
import HandS.Head0
import HandS.Head1
import HandS.Head2
import PySem.Challenge.RW_copyarms_k26_pieces_that_hang_together
set_option Elab.async false
set_option linter.all false
set_option maxRecDepth 100000
set_option maxHeartbeats 4000000
set_option exponentiation.threshold 100000
namespace My
def loose0 : List PySem.Str := [("_wall" : PySem.Str), ("CopyError" : PySem.Str), ("InvalidSpot" : PySem.Str), ("InvalidStroke" : PySem.Str), ("TooMany" : PySem.Str), ("is_whole" : PySem.Str), ("common_divisor" : PySem.Str), ("is_spot" : PySem.Str), ("check_spot" : PySem.Str), ("spot_at" : PySem.Str), ("precedes" : PySem.Str), ("parting_scale" : PySem.Str), ("scaled" : PySem.Str), ("line_form" : PySem.Str), ("line_through" : PySem.Str), ("is_on_line" : PySem.Str), ("are_parallel" : PySem.Str), ("crossing" : PySem.Str), ("MOST_SPOTS" : PySem.Str), ("MOST_STROKES" : PySem.Str)]
def loose1 : List PySem.Str := [("Drawing" : PySem.Str), ("parts_of" : PySem.Str), ("is_stroke" : PySem.Str), ("check_strokes" : PySem.Str), ("dots_of" : PySem.Str), ("stretches_of" : PySem.Str), ("in_order" : PySem.Str), ("ink_of" : PySem.Str), ("ink_from" : PySem.Str), ("longest" : PySem.Str), ("joined" : PySem.Str), ("is_between" : PySem.Str), ("is_on_any" : PySem.Str), ("is_covered" : PySem.Str), ("overlap" : PySem.Str), ("pieces" : PySem.Str), ("line_groups" : PySem.Str), ("with_line" : PySem.Str), ("touches" : PySem.Str), ("_law_random" : PySem.Str)]
def loose2 : List PySem.Str := [("_law_below" : PySem.Str), ("_law_step" : PySem.Str), ("_law_common" : PySem.Str), ("_law_lowest" : PySem.Str), ("_law_spot" : PySem.Str), ("_law_stroke" : PySem.Str), ("_law_strokes" : PySem.Str), ("_law_drawing" : PySem.Str), ("_law_plus" : PySem.Str), ("_law_minus" : PySem.Str), ("_law_times" : PySem.Str), ("_law_over" : PySem.Str), ("_law_ratio" : PySem.Str), ("_law_cross" : PySem.Str), ("_law_equal" : PySem.Str)]
def loose : List PySem.Str := loose0 ++ loose1 ++ loose2
abbrev R : PySem.W.OpenRow := PySem.W.OpenLaw.row PySem.Challenge.rw_copyarms_k26_pieces_that_hang_together
abbrev qv : PySem.Program := PySem.W.view R.prog [15, 16, 62]
end My
namespace My
section
local macro_rules | `(tactic| o_head $_) => `(tactic| assumption)
theorem fragHere (h : R.Holds) : R.Holds := by
  k_head
end
noncomputable abbrev KF : PySem.Params → PySem.W.Frag := fragHere.heap_1
noncomputable def addrs : List Nat := (KF { strHash := fun _ => 0, shareClass := fun _ => 0, mergeTok := fun t => t, idOf := fun _ => 0, idOfShared := fun _ _ => 0, followText := fun _ => false, idOfImm := fun _ => 0 }).map (·.1)
theorem addrs_eq (P : PySem.Params) : addrs = (KF P).map (·.1) := by kernel_rfl
noncomputable def ob (s : PySem.W.SharedT) : (PySem.W.kHook KF addrs addrs_eq).α := addrs.map (HandSHeadRun.getT s)
theorem ob_eq (s : PySem.W.SharedT) : ob s = (PySem.W.kHook KF addrs addrs_eq).obs s.abs := List.map_congr_left fun a _ => HandSHeadRun.getT_eq s a
theorem run (w : PySem.World) : HandSHeadRun.RunEq R qv (PySem.W.kHook KF addrs addrs_eq) ob 20000 loose w := by
  intro os
  kernel_rfl
end My
namespace Mth
/-! ### numbers of two parts, in lowest terms -/
abbrev T3 := Int × Int × Int
def g3 (x y d : Int) : Int := ((Int.gcd ((Int.gcd x y : Nat) : Int) d : Nat) : Int)
def sg (x y d : Int) : Int := if d < 0 then -(g3 x y d) else g3 x y d
def low (x y d : Int) : T3 := (x.fdiv (sg x y d), y.fdiv (sg x y d), d.fdiv (sg x y d))
def Ok (s : T3) : Prop := 0 < s.2.2 ∧ g3 s.1 s.2.1 s.2.2 = 1
def re (s : T3) : Rat := (s.1 : Rat) / (s.2.2 : Rat)
def im (s : T3) : Rat := (s.2.1 : Rat) / (s.2.2 : Rat)
theorem g3_pos {x y d : Int} (hd : d ≠ 0) : 0 < g3 x y d := by
  unfold g3
  have : 0 < Int.gcd ((Int.gcd x y : Nat) : Int) d := Int.gcd_pos_of_ne_zero_right _ hd
  omega
theorem g3_dx {x y d : Int} : g3 x y d ∣ x := Int.dvd_trans (Int.gcd_dvd_left _ _) (Int.gcd_dvd_left _ _)
theorem g3_dy {x y d : Int} : g3 x y d ∣ y := Int.dvd_trans (Int.gcd_dvd_left _ _) (Int.gcd_dvd_right _ _)
theorem g3_dd {x y d : Int} : g3 x y d ∣ d := Int.gcd_dvd_right _ _
theorem g3_great {x y d c : Int} (h1 : c ∣ x) (h2 : c ∣ y) (h3 : c ∣ d) : c ∣ g3 x y d := Int.dvd_coe_gcd (Int.dvd_coe_gcd h1 h2) h3
theorem sg_ne {x y d : Int} (hd : d ≠ 0) : sg x y d ≠ 0 := by
  have := g3_pos (x := x) (y := y) hd
  unfold sg; split <;> omega
theorem sg_of {x y d : Int} : sg x y d = g3 x y d ∨ sg x y d = -g3 x y d := by unfold sg; split <;> simp
theorem sg_dx {x y d : Int} : sg x y d ∣ x := by rcases @sg_of x y d with h | h <;> rw [h]; exact g3_dx; exact Int.neg_dvd.mpr g3_dx
theorem sg_dy {x y d : Int} : sg x y d ∣ y := by rcases @sg_of x y d with h | h <;> rw [h]; exact g3_dy; exact Int.neg_dvd.mpr g3_dy
theorem sg_dd {x y d : Int} : sg x y d ∣ d := by rcases @sg_of x y d with h | h <;> rw [h]; exact g3_dd; exact Int.neg_dvd.mpr g3_dd
/-- the three parts, times the divisor -/
theorem low_mul (x y d : Int) : x = sg x y d * (low x y d).1 ∧ y = sg x y d * (low x y d).2.1 ∧ d = sg x y d * (low x y d).2.2 := by
  unfold low
  refine ⟨?_, ?_, ?_⟩ <;> dsimp only
  · rw [Int.fdiv_eq_ediv_of_dvd sg_dx]; exact (Int.mul_ediv_cancel' sg_dx).symm
  · rw [Int.fdiv_eq_ediv_of_dvd sg_dy]; exact (Int.mul_ediv_cancel' sg_dy).symm
  · rw [Int.fdiv_eq_ediv_of_dvd sg_dd]; exact (Int.mul_ediv_cancel' sg_dd).symm
theorem low_pos {x y d : Int} (hd : d ≠ 0) : 0 < (low x y d).2.2 := by
  have h := (low_mul x y d).2.2
  have hg := g3_pos (x := x) (y := y) hd
  generalize (low x y d).2.2 = z at h ⊢
  unfold sg at h
  rcases Int.lt_trichotomy z 0 with hz | hz | hz
  · exfalso
    split at h
    · have : 0 < (g3 x y d) * (-z) := Int.mul_pos hg (by omega)
      have e : g3 x y d * -z = - g3 x y d * z := by grind
      omega
    · have : 0 < (g3 x y d) * (-z) := Int.mul_pos hg (by omega)
      have e : g3 x y d * -z = - (g3 x y d * z) := by grind
      omega
  · subst hz; simp at h; exact absurd h hd
  · exact hz
theorem low_ok {x y d : Int} (hd : d ≠ 0) : Ok (low x y d) := by
  refine ⟨low_pos hd, ?_⟩
  obtain ⟨h1, h2, h3⟩ := low_mul x y d
  have hs := sg_ne (x := x) (y := y) hd
  have hp := low_pos (x := x) (y := y) hd
  generalize (low x y d).1 = a at *
  generalize (low x y d).2.1 = b at *
  generalize (low x y d).2.2 = c at *
  have hg := g3_pos (x := a) (y := b) (d := c) (by omega)
  have k1 : sg x y d * g3 a b c ∣ x := by
    obtain ⟨u, hu⟩ := @g3_dx a b c
    exact ⟨u, by rw [Int.mul_assoc, ← hu, ← h1]⟩
  have k2 : sg x y d * g3 a b c ∣ y := by
    obtain ⟨u, hu⟩ := @g3_dy a b c
    exact ⟨u, by rw [Int.mul_assoc, ← hu, ← h2]⟩
  have k3 : sg x y d * g3 a b c ∣ d := by
    obtain ⟨u, hu⟩ := @g3_dd a b c
    exact ⟨u, by rw [Int.mul_assoc, ← hu, ← h3]⟩
  have k := g3_great k1 k2 k3
  have k' : sg x y d * g3 a b c ∣ sg x y d := by
    rcases @sg_of x y d with h | h
    · rw [h] at k ⊢; exact k
    · rw [h]; rw [h] at k; exact (Int.dvd_neg).mpr k
  obtain ⟨u, hu⟩ := k'
  have e : g3 a b c * u = 1 := by
    have : sg x y d * (g3 a b c * u) = sg x y d * 1 := by rw [← Int.mul_assoc, ← hu, Int.mul_one]
    exact Int.eq_of_mul_eq_mul_left hs this
  exact Int.eq_one_of_dvd_one (by omega) ⟨u, e.symm⟩
theorem cast_ne {d : Int} (h : d ≠ 0) : (d : Rat) ≠ 0 := by simpa using h
theorem low_re {x y d : Int} (hd : d ≠ 0) : re (low x y d) = (x : Rat) / (d : Rat) := by
  obtain ⟨h1, h2, h3⟩ := low_mul x y d
  have hs := cast_ne (sg_ne (x := x) (y := y) hd)
  have hp := cast_ne (show (low x y d).2.2 ≠ 0 by have := low_pos (x := x) (y := y) hd; omega)
  unfold re
  have e1 : (x : Rat) = (sg x y d : Rat) * ((low x y d).1 : Rat) := by rw [← Rat.intCast_mul, ← h1]
  have e3 : (d : Rat) = (sg x y d : Rat) * ((low x y d).2.2 : Rat) := by rw [← Rat.intCast_mul, ← h3]
  generalize (sg x y d : Rat) = s at *
  generalize ((low x y d).1 : Rat) = a at *
  generalize ((low x y d).2.2 : Rat) = c at *
  grind
theorem low_im {x y d : Int} (hd : d ≠ 0) : im (low x y d) = (y : Rat) / (d : Rat) := by
  obtain ⟨h1, h2, h3⟩ := low_mul x y d
  have hs := cast_ne (sg_ne (x := x) (y := y) hd)
  have hp := cast_ne (show (low x y d).2.2 ≠ 0 by have := low_pos (x := x) (y := y) hd; omega)
  unfold im
  have e1 : (y : Rat) = (sg x y d : Rat) * ((low x y d).2.1 : Rat) := by rw [← Rat.intCast_mul, ← h2]
  have e3 : (d : Rat) = (sg x y d : Rat) * ((low x y d).2.2 : Rat) := by rw [← Rat.intCast_mul, ← h3]
  generalize (sg x y d : Rat) = s at *
  generalize ((low x y d).2.1 : Rat) = a at *
  generalize ((low x y d).2.2 : Rat) = c at *
  grind
theorem div_eq {a b c d : Int} (hb : b ≠ 0) (hd : d ≠ 0) (h : (a : Rat) / (b : Rat) = (c : Rat) / (d : Rat)) : a * d = c * b := by
  have h1 := cast_ne hb
  have h2 := cast_ne hd
  have : (a : Rat) * (d : Rat) = (c : Rat) * (b : Rat) := by grind
  rw [← Rat.intCast_mul, ← Rat.intCast_mul] at this
  exact Rat.intCast_inj.mp this
theorem dvd_of {s t : T3} (hs : Ok s) (ht : Ok t) (h1 : s.1 * t.2.2 = t.1 * s.2.2) (h2 : s.2.1 * t.2.2 = t.2.1 * s.2.2) : s.2.2 ∣ t.2.2 := by
  have a : s.2.2 ∣ s.1 * t.2.2 := ⟨t.1, by rw [h1, Int.mul_comm]⟩
  have b : s.2.2 ∣ s.2.1 * t.2.2 := ⟨t.2.1, by rw [h2, Int.mul_comm]⟩
  have c := Int.dvd_coe_gcd a b
  rw [Int.gcd_mul_right] at c
  have d : s.2.2 ∣ s.2.2 * ((t.2.2.natAbs : Nat) : Int) := ⟨_, rfl⟩
  have c' : s.2.2 ∣ ((Int.gcd s.1 s.2.1 : Nat) : Int) * ((t.2.2.natAbs : Nat) : Int) := by rw [← Int.natCast_mul]; exact c
  have e := Int.dvd_coe_gcd c' d
  rw [Int.gcd_mul_right] at e
  have g := hs.2
  unfold g3 at g
  have g' : Int.gcd ((Int.gcd s.1 s.2.1 : Nat) : Int) s.2.2 = 1 := by omega
  rw [g'] at e
  have ht2 := ht.1
  have e2 : (((1 * ((t.2.2.natAbs : Nat) : Int).natAbs : Nat)) : Int) = t.2.2 := by omega
  rw [e2] at e
  exact e
theorem ext {s t : T3} (hs : Ok s) (ht : Ok t) (h1 : re s = re t) (h2 : im s = im t) : s = t := by
  have ps := hs.1
  have pt := ht.1
  have e1 := div_eq (by omega) (by omega) h1
  have e2 := div_eq (by omega) (by omega) h2
  have d1 := dvd_of hs ht e1 e2
  have d2 := dvd_of ht hs e1.symm e2.symm
  have e3 : s.2.2 = t.2.2 := Int.le_antisymm (Int.le_of_dvd pt d1) (Int.le_of_dvd ps d2)
  obtain ⟨a, b, c⟩ := s
  obtain ⟨u, v, w⟩ := t
  dsimp only at *
  subst e3
  have q1 := Int.eq_of_mul_eq_mul_right (by omega) e1
  have q2 := Int.eq_of_mul_eq_mul_right (by omega) e2
  rw [q1, q2]
/-! ### reckoning -/
def plus (a b : T3) : T3 := low (a.1 * b.2.2 + b.1 * a.2.2) (a.2.1 * b.2.2 + b.2.1 * a.2.2) (a.2.2 * b.2.2)
def times (a b : T3) : T3 := low (a.1 * b.1 - a.2.1 * b.2.1) (a.1 * b.2.1 + a.2.1 * b.1) (a.2.2 * b.2.2)
def over (a : T3) : T3 := (a.1, -a.2.1, a.2.2)
def neg (a : T3) : T3 := (-a.1, -a.2.1, a.2.2)
def inv (a : T3) : T3 := low (a.1 * a.2.2) (-a.2.1 * a.2.2) (a.1 * a.1 + a.2.1 * a.2.1)
def face (a : T3) (m : Bool) : T3 := if m = true then over a else a
def car (t s : T3) (m : Bool) (z : T3) : T3 := plus (times t (face z m)) s
theorem Ok.ne {a : T3} (h : Ok a) : a.2.2 ≠ 0 := by have := h.1; omega
theorem mul_ne {a b : Int} (ha : a ≠ 0) (hb : b ≠ 0) : a * b ≠ 0 := fun h => (Int.mul_eq_zero.mp h).elim ha hb
theorem plus_ok {a b : T3} (ha : Ok a) (hb : Ok b) : Ok (plus a b) := low_ok (mul_ne ha.ne hb.ne)
theorem times_ok {a b : T3} (ha : Ok a) (hb : Ok b) : Ok (times a b) := low_ok (mul_ne ha.ne hb.ne)
theorem over_ok {a : T3} (ha : Ok a) : Ok (over a) := by
  refine ⟨ha.1, ?_⟩
  have h := ha.2
  unfold g3 over at *
  dsimp only at *
  rw [Int.gcd_neg]; exact h
theorem neg_ok {a : T3} (ha : Ok a) : Ok (neg a) := by
  refine ⟨ha.1, ?_⟩
  have h := ha.2
  unfold g3 neg at *
  dsimp only at *
  rw [Int.gcd_neg, Int.neg_gcd]; exact h
theorem face_ok {a : T3} (ha : Ok a) (m : Bool) : Ok (face a m) := by
  unfold face; split
  · exact over_ok ha
  · exact ha
theorem car_ok {t s z : T3} {m : Bool} (ht : Ok t) (hs : Ok s) (hz : Ok z) : Ok (car t s m z) := plus_ok (times_ok ht (face_ok hz m)) hs
def Nz (a : T3) : Prop := a.1 ≠ 0 ∨ a.2.1 ≠ 0
theorem sq_ne {a : T3} (h : Nz a) : a.1 * a.1 + a.2.1 * a.2.1 ≠ 0 := by
  have h1 : 0 ≤ a.1 * a.1 := by rcases Int.le_total 0 a.1 with h | h; exact Int.mul_nonneg h h; exact Int.mul_nonneg_of_nonpos_of_nonpos h h
  have h2 : 0 ≤ a.2.1 * a.2.1 := by rcases Int.le_total 0 a.2.1 with h | h; exact Int.mul_nonneg h h; exact Int.mul_nonneg_of_nonpos_of_nonpos h h
  rcases h with h | h
  · have := mul_ne h h; omega
  · have := mul_ne h h; omega
theorem inv_ok {a : T3} (h : Nz a) : Ok (inv a) := low_ok (sq_ne h)
theorem re_plus {a b : T3} (ha : Ok a) (hb : Ok b) : re (plus a b) = re a + re b := by
  unfold plus
  rw [low_re (mul_ne ha.ne hb.ne)]
  have h1 := cast_ne ha.ne
  have h2 := cast_ne hb.ne
  unfold re
  simp only [Rat.intCast_add, Rat.intCast_mul]
  grind
theorem im_plus {a b : T3} (ha : Ok a) (hb : Ok b) : im (plus a b) = im a + im b := by
  unfold plus
  rw [low_im (mul_ne ha.ne hb.ne)]
  have h1 := cast_ne ha.ne
  have h2 := cast_ne hb.ne
  unfold im
  simp only [Rat.intCast_add, Rat.intCast_mul]
  grind
theorem re_times {a b : T3} (ha : Ok a) (hb : Ok b) : re (times a b) = re a * re b - im a * im b := by
  unfold times
  rw [low_re (mul_ne ha.ne hb.ne)]
  have h1 := cast_ne ha.ne
  have h2 := cast_ne hb.ne
  unfold re im
  simp only [Rat.intCast_sub, Rat.intCast_mul]
  grind
theorem im_times {a b : T3} (ha : Ok a) (hb : Ok b) : im (times a b) = re a * im b + im a * re b := by
  unfold times
  rw [low_im (mul_ne ha.ne hb.ne)]
  have h1 := cast_ne ha.ne
  have h2 := cast_ne hb.ne
  unfold re im
  simp only [Rat.intCast_add, Rat.intCast_mul]
  grind
theorem re_over (a : T3) : re (over a) = re a := rfl
theorem im_over (a : T3) : im (over a) = - im a := by
  unfold im over
  simp only [Rat.intCast_neg]
  grind
theorem re_neg (a : T3) : re (neg a) = - re a := by
  unfold re neg
  simp only [Rat.intCast_neg]
  grind
theorem im_neg (a : T3) : im (neg a) = - im a := by
  unfold im neg
  simp only [Rat.intCast_neg]
  grind
theorem re_face (a : T3) (m : Bool) : re (face a m) = re a := by
  unfold face; split <;> first | exact re_over a | rfl
theorem im_face (a : T3) (m : Bool) : im (face a m) = (if m = true then -1 else 1) * im a := by
  unfold face; split
  · rw [im_over]; grind
  · grind
/-- the square of the size -/
def nn (a : T3) : Rat := re a * re a + im a * im a
theorem nn_eq {a : T3} (ha : Ok a) : nn a * ((a.2.2 : Rat) * (a.2.2 : Rat)) = ((a.1 * a.1 + a.2.1 * a.2.1 : Int) : Rat) := by
  have h1 := cast_ne ha.ne
  unfold nn re im
  simp only [Rat.intCast_add, Rat.intCast_mul]
  grind
theorem nn_ne {a : T3} (ha : Ok a) (h : Nz a) : nn a ≠ 0 := by
  intro e
  have q := nn_eq ha
  rw [e] at q
  have : ((a.1 * a.1 + a.2.1 * a.2.1 : Int) : Rat) = 0 := by rw [← q]; grind
  exact cast_ne (sq_ne h) this
theorem re_inv {a : T3} (ha : Ok a) (h : Nz a) : re (inv a) = re a / nn a := by
  have q := nn_eq ha
  have n := nn_ne ha h
  have h1 := cast_ne ha.ne
  have h2 := cast_ne (sq_ne h)
  unfold inv
  rw [low_re (sq_ne h), ← q]
  unfold re
  simp only [Rat.intCast_mul]
  rw [← q] at h2
  generalize nn a = k at *
  grind
theorem im_inv {a : T3} (ha : Ok a) (h : Nz a) : im (inv a) = - im a / nn a := by
  have q := nn_eq ha
  have n := nn_ne ha h
  have h1 := cast_ne ha.ne
  have h2 := cast_ne (sq_ne h)
  unfold inv
  rw [low_im (sq_ne h), ← q]
  unfold im
  simp only [Rat.intCast_mul, Rat.intCast_neg]
  rw [← q] at h2
  generalize nn a = k at *
  grind
theorem nz_iff {a : T3} (ha : Ok a) : Nz a ↔ nn a ≠ 0 := by
  refine ⟨nn_ne ha, fun h => ?_⟩
  by_cases h1 : a.1 = 0
  · by_cases h2 : a.2.1 = 0
    · exfalso; apply h; unfold nn re im; rw [h1, h2]; grind
    · exact .inr h2
  · exact .inl h1
theorem nn_times {a b : T3} (ha : Ok a) (hb : Ok b) : nn (times a b) = nn a * nn b := by
  unfold nn; rw [re_times ha hb, im_times ha hb]; grind
theorem nn_face (a : T3) (m : Bool) : nn (face a m) = nn a := by
  unfold nn; rw [re_face, im_face]; split <;> grind
theorem nn_inv {a : T3} (ha : Ok a) (h : Nz a) : nn (inv a) = 1 / nn a := by
  have n := nn_ne ha h
  have e : nn (inv a) = (re a / nn a) * (re a / nn a) + (- im a / nn a) * (- im a / nn a) := by
    rw [← re_inv ha h, ← im_inv ha h]; rfl
  rw [e]
  have q : nn a = re a * re a + im a * im a := rfl
  generalize nn a = k at *
  grind
theorem times_nz {a b : T3} (ha : Ok a) (hb : Ok b) (na : Nz a) (nb : Nz b) : Nz (times a b) := (nz_iff (times_ok ha hb)).mpr (by
  rw [nn_times ha hb]
  have := nn_ne ha na
  have := nn_ne hb nb
  grind)
theorem face_nz {a : T3} (ha : Ok a) (na : Nz a) (m : Bool) : Nz (face a m) := (nz_iff (face_ok ha m)).mpr (by rw [nn_face]; exact nn_ne ha na)
theorem inv_nz {a : T3} (ha : Ok a) (na : Nz a) : Nz (inv a) := (nz_iff (inv_ok na)).mpr (by
  rw [nn_inv ha na]
  have := nn_ne ha na
  grind)
/-! ### copies -/
structure Cp where
  t : T3
  s : T3
  m : Bool
  deriving DecidableEq
structure CpOk (c : Cp) : Prop where
  t : Ok c.t
  n : Nz c.t
  s : Ok c.s
def ap (c : Cp) (z : T3) : T3 := car c.t c.s c.m z
def jn (a b : Cp) : Cp := ⟨times b.t (face a.t b.m), car b.t b.s b.m a.s, a.m != b.m⟩
def bk (c : Cp) : Cp := ⟨face (inv c.t) c.m, face (neg (times (inv c.t) c.s)) c.m, c.m⟩
def still : Cp := ⟨(1, 0, 1), (0, 0, 1), false⟩
theorem still_ok : CpOk still := ⟨⟨by decide, by decide⟩, .inl (by decide), ⟨by decide, by decide⟩⟩
theorem jn_ok {a b : Cp} (ha : CpOk a) (hb : CpOk b) : CpOk (jn a b) :=
  ⟨times_ok hb.t (face_ok ha.t _), times_nz hb.t (face_ok ha.t _) hb.n (face_nz ha.t ha.n _), car_ok hb.t hb.s ha.s⟩
theorem bk_ok {c : Cp} (h : CpOk c) : CpOk (bk c) :=
  ⟨face_ok (inv_ok h.n) _, face_nz (inv_ok h.n) (inv_nz h.t h.n) _, face_ok (neg_ok (times_ok (inv_ok h.n) h.s)) _⟩
theorem re_car {t s z : T3} {m : Bool} (ht : Ok t) (hs : Ok s) (hz : Ok z) : re (car t s m z) = re t * re z - im t * ((if m = true then -1 else 1) * im z) + re s := by
  unfold car
  rw [re_plus (times_ok ht (face_ok hz m)) hs, re_times ht (face_ok hz m), re_face, im_face]
theorem im_car {t s z : T3} {m : Bool} (ht : Ok t) (hs : Ok s) (hz : Ok z) : im (car t s m z) = re t * ((if m = true then -1 else 1) * im z) + im t * re z + im s := by
  unfold car
  rw [im_plus (times_ok ht (face_ok hz m)) hs, im_times ht (face_ok hz m), re_face, im_face]
theorem ap_ok {c : Cp} {z : T3} (h : CpOk c) (hz : Ok z) : Ok (ap c z) := car_ok h.t h.s hz
theorem jn_ap {a b : Cp} (ha : CpOk a) (hb : CpOk b) {z : T3} (hz : Ok z) : ap (jn a b) z = ap b (ap a z) := by
  have hj := jn_ok ha hb
  refine ext (ap_ok hj hz) (ap_ok hb (ap_ok ha hz)) ?_ ?_
  · unfold ap
    rw [re_car hj.t hj.s hz, re_car hb.t hb.s (car_ok ha.t ha.s hz), re_car ha.t ha.s hz, im_car ha.t ha.s hz]
    show re (times b.t (face a.t b.m)) * re z - im (times b.t (face a.t b.m)) * ((if (a.m != b.m) = true then -1 else 1) * im z) + re (car b.t b.s b.m a.s) = _
    rw [re_times hb.t (face_ok ha.t _), im_times hb.t (face_ok ha.t _), re_face, im_face, re_car hb.t hb.s ha.s]
    cases a.m <;> cases b.m <;> simp <;> grind
  · unfold ap
    rw [im_car hj.t hj.s hz, im_car hb.t hb.s (car_ok ha.t ha.s hz), re_car ha.t ha.s hz, im_car ha.t ha.s hz]
    show re (times b.t (face a.t b.m)) * ((if (a.m != b.m) = true then -1 else 1) * im z) + im (times b.t (face a.t b.m)) * re z + im (car b.t b.s b.m a.s) = _
    rw [re_times hb.t (face_ok ha.t _), im_times hb.t (face_ok ha.t _), re_face, im_face, im_car hb.t hb.s ha.s]
    cases a.m <;> cases b.m <;> simp <;> grind
theorem cp_ext {a b : Cp} (ha : CpOk a) (hb : CpOk b) (h1 : re a.t = re b.t) (h2 : im a.t = im b.t) (h3 : re a.s = re b.s) (h4 : im a.s = im b.s) (h5 : a.m = b.m) : a = b := by
  have e1 := ext ha.t hb.t h1 h2
  have e2 := ext ha.s hb.s h3 h4
  cases a; cases b
  dsimp only at e1 e2 h5
  rw [e1, e2, h5]
theorem re_jt {a b : Cp} (ha : CpOk a) (hb : CpOk b) : re (jn a b).t = re b.t * re a.t - im b.t * ((if b.m = true then -1 else 1) * im a.t) := by
  show re (times b.t (face a.t b.m)) = _
  rw [re_times hb.t (face_ok ha.t _), re_face, im_face]
theorem im_jt {a b : Cp} (ha : CpOk a) (hb : CpOk b) : im (jn a b).t = re b.t * ((if b.m = true then -1 else 1) * im a.t) + im b.t * re a.t := by
  show im (times b.t (face a.t b.m)) = _
  rw [im_times hb.t (face_ok ha.t _), re_face, im_face]
theorem re_js {a b : Cp} (ha : CpOk a) (hb : CpOk b) : re (jn a b).s = re b.t * re a.s - im b.t * ((if b.m = true then -1 else 1) * im a.s) + re b.s := re_car hb.t hb.s ha.s
theorem im_js {a b : Cp} (ha : CpOk a) (hb : CpOk b) : im (jn a b).s = re b.t * ((if b.m = true then -1 else 1) * im a.s) + im b.t * re a.s + im b.s := im_car hb.t hb.s ha.s
theorem jn_m (a b : Cp) : (jn a b).m = (a.m != b.m) := rfl
theorem jn_assoc {a b c : Cp} (ha : CpOk a) (hb : CpOk b) (hc : CpOk c) : jn (jn a b) c = jn a (jn b c) := by
  have h1 := jn_ok ha hb
  have h2 := jn_ok hb hc
  refine cp_ext (jn_ok h1 hc) (jn_ok ha h2) ?_ ?_ ?_ ?_ ?_
  · rw [re_jt h1 hc, re_jt ha h2, re_jt ha hb, im_jt ha hb, re_jt hb hc, im_jt hb hc, jn_m]
    cases b.m <;> cases c.m <;> simp <;> grind
  · rw [im_jt h1 hc, im_jt ha h2, re_jt ha hb, im_jt ha hb, re_jt hb hc, im_jt hb hc, jn_m]
    cases b.m <;> cases c.m <;> simp <;> grind
  · rw [re_js h1 hc, re_js ha h2, re_js ha hb, im_js ha hb, re_js hb hc, re_jt hb hc, im_jt hb hc, jn_m]
    cases b.m <;> cases c.m <;> simp <;> grind
  · rw [im_js h1 hc, im_js ha h2, re_js ha hb, im_js ha hb, im_js hb hc, re_jt hb hc, im_jt hb hc, jn_m]
    cases b.m <;> cases c.m <;> simp <;> grind
  · show ((a.m != b.m) != c.m) = (a.m != (b.m != c.m))
    cases a.m <;> cases b.m <;> cases c.m <;> rfl
theorem re_1 : re (1, 0, 1) = 1 := by unfold re; decide +kernel
theorem im_1 : im (1, 0, 1) = 0 := by unfold im; decide +kernel
theorem re_0 : re (0, 0, 1) = 0 := by unfold re; decide +kernel
theorem im_0 : im (0, 0, 1) = 0 := by unfold im; decide +kernel
theorem jn_still {a : Cp} (ha : CpOk a) : jn a still = a := by
  refine cp_ext (jn_ok ha still_ok) ha ?_ ?_ ?_ ?_ ?_
  · rw [re_jt ha still_ok]; simp only [still, re_1, im_1]; grind
  · rw [im_jt ha still_ok]; simp only [still, re_1, im_1]; grind
  · rw [re_js ha still_ok]; simp only [still, re_1, im_1, re_0, im_0]; grind
  · rw [im_js ha still_ok]; simp only [still, re_1, im_1, re_0, im_0]; grind
  · rw [jn_m]; simp [still]
theorem still_jn {a : Cp} (ha : CpOk a) : jn still a = a := by
  refine cp_ext (jn_ok still_ok ha) ha ?_ ?_ ?_ ?_ ?_
  · rw [re_jt still_ok ha]; simp only [still, re_1, im_1]; grind
  · rw [im_jt still_ok ha]; simp only [still, re_1, im_1]; grind
  · rw [re_js still_ok ha]; simp only [still, re_1, im_1, re_0, im_0]; grind
  · rw [im_js still_ok ha]; simp only [still, re_1, im_1, re_0, im_0]; grind
  · rw [jn_m]; simp [still]
theorem re_bt {a : Cp} (ha : CpOk a) : re (bk a).t = re a.t / nn a.t := by
  show re (face (inv a.t) a.m) = _
  rw [re_face, re_inv ha.t ha.n]
theorem im_bt {a : Cp} (ha : CpOk a) : im (bk a).t = (if a.m = true then -1 else 1) * (- im a.t / nn a.t) := by
  show im (face (inv a.t) a.m) = _
  rw [im_face, im_inv ha.t ha.n]
theorem re_bs {a : Cp} (ha : CpOk a) : re (bk a).s = -((re a.t / nn a.t) * re a.s - (- im a.t / nn a.t) * im a.s) := by
  show re (face (neg (times (inv a.t) a.s)) a.m) = _
  rw [re_face, re_neg, re_times (inv_ok ha.n) ha.s, re_inv ha.t ha.n, im_inv ha.t ha.n]
theorem im_bs {a : Cp} (ha : CpOk a) : im (bk a).s = (if a.m = true then -1 else 1) * -((re a.t / nn a.t) * im a.s + (- im a.t / nn a.t) * re a.s) := by
  show im (face (neg (times (inv a.t) a.s)) a.m) = _
  rw [im_face, im_neg, im_times (inv_ok ha.n) ha.s, re_inv ha.t ha.n, im_inv ha.t ha.n]
theorem jn_bk {a : Cp} (ha : CpOk a) : jn a (bk a) = still := by
  have hb := bk_ok ha
  have n := nn_ne ha.t ha.n
  have q : nn a.t = re a.t * re a.t + im a.t * im a.t := rfl
  have em : (bk a).m = a.m := rfl
  refine cp_ext (jn_ok ha hb) still_ok ?_ ?_ ?_ ?_ ?_
  · rw [re_jt ha hb, re_bt ha, im_bt ha, em]; simp only [still, re_1, im_1]
    generalize nn a.t = k at *
    cases a.m <;> simp <;> grind
  · rw [im_jt ha hb, re_bt ha, im_bt ha, em]; simp only [still, re_1, im_1]
    generalize nn a.t = k at *
    cases a.m <;> simp <;> grind
  · rw [re_js ha hb, re_bt ha, im_bt ha, re_bs ha, em]; simp only [still, re_0, im_0]
    generalize nn a.t = k at *
    cases a.m <;> simp <;> grind
  · rw [im_js ha hb, re_bt ha, im_bt ha, im_bs ha, em]; simp only [still, re_0, im_0]
    generalize nn a.t = k at *
    cases a.m <;> simp <;> grind
  · show (a.m != a.m) = false
    simp
theorem bk_jn {a : Cp} (ha : CpOk a) : jn (bk a) a = still := by
  have hb := bk_ok ha
  have n := nn_ne ha.t ha.n
  have q : nn a.t = re a.t * re a.t + im a.t * im a.t := rfl
  have em : (bk a).m = a.m := rfl
  refine cp_ext (jn_ok hb ha) still_ok ?_ ?_ ?_ ?_ ?_
  · rw [re_jt hb ha, re_bt ha, im_bt ha]; simp only [still, re_1, im_1]
    generalize nn a.t = k at *
    cases a.m <;> simp <;> grind
  · rw [im_jt hb ha, re_bt ha, im_bt ha]; simp only [still, re_1, im_1]
    generalize nn a.t = k at *
    cases a.m <;> simp <;> grind
  · rw [re_js hb ha, re_bs ha, im_bs ha]; simp only [still, re_0, im_0]
    generalize nn a.t = k at *
    cases a.m <;> simp <;> grind
  · rw [im_js hb ha, re_bs ha, im_bs ha]; simp only [still, re_0, im_0]
    generalize nn a.t = k at *
    cases a.m <;> simp <;> grind
  · show (a.m != a.m) = false
    simp
/-- what brings back is one -/
theorem bk_uniq {a b : Cp} (ha : CpOk a) (hb : CpOk b) (h : jn a b = still) : b = bk a := by
  have e : jn (jn (bk a) a) b = jn (bk a) (jn a b) := jn_assoc (bk_ok ha) ha hb
  rw [bk_jn ha, h, still_jn hb, jn_still (bk_ok ha)] at e
  exact e
theorem bk_bk {a : Cp} (ha : CpOk a) : bk (bk a) = a := (bk_uniq (bk_ok ha) ha (bk_jn ha)).symm
theorem bk_jn_eq {a b : Cp} (ha : CpOk a) (hb : CpOk b) : bk (jn a b) = jn (bk b) (bk a) := by
  refine (bk_uniq (jn_ok ha hb) (jn_ok (bk_ok hb) (bk_ok ha)) ?_).symm
  rw [jn_assoc ha hb (jn_ok (bk_ok hb) (bk_ok ha)), ← jn_assoc hb (bk_ok hb) (bk_ok ha), jn_bk hb, still_jn (bk_ok ha), jn_bk ha]
theorem bk_still : bk still = still := (bk_uniq still_ok still_ok (jn_still still_ok)).symm
theorem ap_still {z : T3} (hz : Ok z) : ap still z = z := by
  refine ext (ap_ok still_ok hz) hz ?_ ?_
  · unfold ap; rw [re_car still_ok.t still_ok.s hz]; simp only [still, re_1, im_1, re_0]; grind
  · unfold ap; rw [im_car still_ok.t still_ok.s hz]; simp only [still, re_1, im_1, im_0]; grind
theorem bk_ap {a : Cp} (ha : CpOk a) {z : T3} (hz : Ok z) : ap (bk a) (ap a z) = z := by
  rw [← jn_ap ha (bk_ok ha) hz, jn_bk ha, ap_still hz]
theorem ap_bk {a : Cp} (ha : CpOk a) {z : T3} (hz : Ok z) : ap a (ap (bk a) z) = z := by
  rw [← jn_ap (bk_ok ha) ha hz, bk_jn ha, ap_still hz]
/-! ### growth: the square of the size, a fraction -/
def fr (p q : Int) : Int × Int := ((low p 0 q).1, (low p 0 q).2.2)
def gr (t : T3) : Int × Int := fr (t.1 * t.1 + t.2.1 * t.2.1) (t.2.2 * t.2.2)
def gr3 (t : T3) : T3 := low (t.1 * t.1 + t.2.1 * t.2.1) 0 (t.2.2 * t.2.2)
theorem low_0 (p q : Int) : (low p 0 q).2.1 = 0 := by
  unfold low; dsimp only; exact Int.zero_fdiv _
theorem low_fr (p q : Int) : low p 0 q = ((fr p q).1, 0, (fr p q).2) := by
  have e := low_0 p q
  unfold fr
  generalize low p 0 q = z at *
  obtain ⟨a, b, c⟩ := z
  dsimp only at *
  rw [e]
theorem gr3_eq (t : T3) : gr3 t = ((gr t).1, 0, (gr t).2) := low_fr _ _
theorem gr3_ok {t : T3} (h : Ok t) : Ok (gr3 t) := low_ok (mul_ne h.ne h.ne)
theorem re_gr3 {t : T3} (h : Ok t) : re (gr3 t) = nn t := by
  have h1 := cast_ne h.ne
  have q := nn_eq h
  unfold gr3
  rw [low_re (mul_ne h.ne h.ne), ← q]
  simp only [Rat.intCast_mul]
  generalize nn t = k at *
  grind
theorem im_gr3 {t : T3} (h : Ok t) : im (gr3 t) = 0 := by
  unfold im gr3; rw [low_0]; grind
theorem gr_jn {a b : Cp} (ha : CpOk a) (hb : CpOk b) : times (gr3 a.t) (gr3 b.t) = gr3 (jn a b).t := by
  refine ext (times_ok (gr3_ok ha.t) (gr3_ok hb.t)) (gr3_ok (jn_ok ha hb).t) ?_ ?_
  · rw [re_times (gr3_ok ha.t) (gr3_ok hb.t), re_gr3 (jn_ok ha hb).t, re_gr3 ha.t, re_gr3 hb.t, im_gr3 ha.t]
    show _ = nn (times b.t (face a.t b.m))
    rw [nn_times hb.t (face_ok ha.t _), nn_face]
    grind
  · rw [im_times (gr3_ok ha.t) (gr3_ok hb.t), im_gr3 (jn_ok ha hb).t, im_gr3 ha.t, im_gr3 hb.t]
    grind
theorem gr_pos {t : T3} (h : Ok t) (n : Nz t) : 0 < (gr t).1 ∧ 0 < (gr t).2 := by
  have k := low_pos (x := t.1 * t.1 + t.2.1 * t.2.1) (y := 0) (d := t.2.2 * t.2.2) (mul_ne h.ne h.ne)
  refine ⟨?_, k⟩
  obtain ⟨h1, h2, h3⟩ := low_mul (t.1 * t.1 + t.2.1 * t.2.1) 0 (t.2.2 * t.2.2)
  have hsq := sq_ne n
  have q1 : 0 ≤ t.1 * t.1 := by rcases Int.le_total 0 t.1 with h | h; exact Int.mul_nonneg h h; exact Int.mul_nonneg_of_nonpos_of_nonpos h h
  have q2 : 0 ≤ t.2.1 * t.2.1 := by rcases Int.le_total 0 t.2.1 with h | h; exact Int.mul_nonneg h h; exact Int.mul_nonneg_of_nonpos_of_nonpos h h
  have q3 : 0 < t.2.2 * t.2.2 := Int.mul_pos h.1 h.1
  show 0 < (low (t.1 * t.1 + t.2.1 * t.2.1) 0 (t.2.2 * t.2.2)).1
  generalize (low (t.1 * t.1 + t.2.1 * t.2.1) 0 (t.2.2 * t.2.2)).1 = a at *
  generalize (low (t.1 * t.1 + t.2.1 * t.2.1) 0 (t.2.2 * t.2.2)).2.2 = c at *
  generalize hS : sg (t.1 * t.1 + t.2.1 * t.2.1) 0 (t.2.2 * t.2.2) = g at *
  have gp : 0 < g := by
    rcases Int.lt_trichotomy g 0 with z | z | z
    · have : g * c < 0 := Int.mul_neg_of_neg_of_pos z k
      omega
    · subst z; simp at h3; omega
    · exact z
  rcases Int.lt_trichotomy a 0 with z | z | z
  · have : g * a < 0 := Int.mul_neg_of_pos_of_neg gp z
    omega
  · subst z; simp at h1; omega
  · exact z
theorem gr_bk {a : Cp} (ha : CpOk a) : gr (bk a).t = ((gr a.t).2, (gr a.t).1) := by
  obtain ⟨p1, p2⟩ := gr_pos ha.t ha.n
  have o := gr3_ok ha.t
  rw [gr3_eq] at o
  have o2 : Ok ((gr a.t).2, 0, (gr a.t).1) := by
    refine ⟨p1, ?_⟩
    have z := o.2
    unfold g3 at z ⊢
    dsimp only at z ⊢
    rw [Int.gcd_zero_right] at z ⊢
    have e1 : (((gr a.t).1.natAbs : Nat) : Int) = (gr a.t).1 := by omega
    have e2 : (((gr a.t).2.natAbs : Nat) : Int) = (gr a.t).2 := by omega
    rw [e1] at z
    rw [e2, Int.gcd_comm]
    exact z
  have e : gr3 (bk a).t = ((gr a.t).2, 0, (gr a.t).1) := by
    have n := nn_ne ha.t ha.n
    refine ext (gr3_ok (bk_ok ha).t) o2 ?_ ?_
    · rw [re_gr3 (bk_ok ha).t]
      show nn (face (inv a.t) a.m) = _
      rw [nn_face, nn_inv ha.t ha.n, ← re_gr3 ha.t, gr3_eq]
      unfold re
      dsimp only
      have c1 := cast_ne (show (gr a.t).1 ≠ 0 by omega)
      have c2 := cast_ne (show (gr a.t).2 ≠ 0 by omega)
      grind
    · rw [im_gr3 (bk_ok ha).t]; unfold im; dsimp only; grind
  rw [gr3_eq] at e
  have x1 := congrArg (fun z : T3 => z.1) e
  have x2 := congrArg (fun z : T3 => z.2.2) e
  dsimp only at x1 x2
  exact Prod.ext x1 x2
/-! ### sizes -/
def B (n : Nat) (s : T3) : Prop := s.1.natAbs < 2 ^ n ∧ s.2.1.natAbs < 2 ^ n ∧ s.2.2.natAbs < 2 ^ n
theorem pw {n m : Nat} (h : n ≤ m) : 2 ^ n ≤ 2 ^ m := Nat.pow_le_pow_right (by decide) h
theorem B.mono {n m : Nat} {s : T3} (b : B n s) (h : n ≤ m) : B m s := ⟨Nat.lt_of_lt_of_le b.1 (pw h), Nat.lt_of_lt_of_le b.2.1 (pw h), Nat.lt_of_lt_of_le b.2.2 (pw h)⟩
theorem abs_le {g a : Int} (h : g ≠ 0) : a.natAbs ≤ (g * a).natAbs := by
  rw [Int.natAbs_mul]
  have : 1 ≤ g.natAbs := by omega
  calc a.natAbs = 1 * a.natAbs := by omega
    _ ≤ g.natAbs * a.natAbs := Nat.mul_le_mul_right _ this
theorem low_B {x y d : Int} {n : Nat} (hd : d ≠ 0) (h1 : x.natAbs < 2 ^ n) (h2 : y.natAbs < 2 ^ n) (h3 : d.natAbs < 2 ^ n) : B n (low x y d) := by
  obtain ⟨e1, e2, e3⟩ := low_mul x y d
  have hs := sg_ne (x := x) (y := y) hd
  refine ⟨?_, ?_, ?_⟩
  · have := abs_le (a := (low x y d).1) hs; rw [← e1] at this; omega
  · have := abs_le (a := (low x y d).2.1) hs; rw [← e2] at this; omega
  · have := abs_le (a := (low x y d).2.2) hs; rw [← e3] at this; omega
theorem mul_lt {a b : Int} {n m : Nat} (ha : a.natAbs < 2 ^ n) (hb : b.natAbs < 2 ^ m) : (a * b).natAbs < 2 ^ (n + m) := by
  rw [Int.natAbs_mul, Nat.pow_add]
  exact Nat.mul_lt_mul'' ha hb
theorem add_lt {a b : Int} {n : Nat} (ha : a.natAbs < 2 ^ n) (hb : b.natAbs < 2 ^ n) : (a + b).natAbs < 2 ^ (n + 1) := by
  rw [Nat.pow_succ]; omega
theorem sub_lt {a b : Int} {n : Nat} (ha : a.natAbs < 2 ^ n) (hb : b.natAbs < 2 ^ n) : (a - b).natAbs < 2 ^ (n + 1) := by
  rw [Nat.pow_succ]; omega
theorem up_lt {a : Int} {n m : Nat} (h : n ≤ m) (ha : a.natAbs < 2 ^ n) : a.natAbs < 2 ^ m := Nat.lt_of_lt_of_le ha (pw h)
theorem plus_B {a b : T3} {n m : Nat} (oa : Ok a) (ob : Ok b) (ha : B n a) (hb : B m b) : B (n + m + 1) (plus a b) := by
  refine low_B (mul_ne oa.ne ob.ne) (add_lt (mul_lt ha.1 hb.2.2) ?_) (add_lt (mul_lt ha.2.1 hb.2.2) ?_) (up_lt (Nat.le_succ _) (mul_lt ha.2.2 hb.2.2))
  · rw [Nat.add_comm]; exact mul_lt hb.1 ha.2.2
  · rw [Nat.add_comm]; exact mul_lt hb.2.1 ha.2.2
theorem times_B {a b : T3} {n m : Nat} (oa : Ok a) (ob : Ok b) (ha : B n a) (hb : B m b) : B (n + m + 1) (times a b) :=
  low_B (mul_ne oa.ne ob.ne) (sub_lt (mul_lt ha.1 hb.1) (mul_lt ha.2.1 hb.2.1)) (add_lt (mul_lt ha.1 hb.2.1) (mul_lt ha.2.1 hb.1)) (up_lt (Nat.le_succ _) (mul_lt ha.2.2 hb.2.2))
theorem over_B {a : T3} {n : Nat} (h : B n a) : B n (over a) := ⟨h.1, by show (-a.2.1).natAbs < _; rw [Int.natAbs_neg]; exact h.2.1, h.2.2⟩
theorem neg_B {a : T3} {n : Nat} (h : B n a) : B n (neg a) := ⟨by show (-a.1).natAbs < _; rw [Int.natAbs_neg]; exact h.1, by show (-a.2.1).natAbs < _; rw [Int.natAbs_neg]; exact h.2.1, h.2.2⟩
theorem face_B {a : T3} {n : Nat} (h : B n a) (m : Bool) : B n (face a m) := by unfold face; split; exact over_B h; exact h
theorem neg_lt {a : Int} {n : Nat} (h : a.natAbs < 2 ^ n) : (-a).natAbs < 2 ^ n := by rw [Int.natAbs_neg]; exact h
theorem inv_B {a : T3} {n : Nat} (z : Nz a) (h : B n a) : B (n + n + 1) (inv a) :=
  low_B (sq_ne z) (up_lt (Nat.le_succ _) (mul_lt h.1 h.2.2)) (up_lt (Nat.le_succ _) (mul_lt (neg_lt h.2.1) h.2.2)) (add_lt (mul_lt h.1 h.1) (mul_lt h.2.1 h.2.1))
theorem car_B {t s z : T3} {m : Bool} {i j k : Nat} (ot : Ok t) (os : Ok s) (oz : Ok z) (ht : B i t) (hs : B j s) (hz : B k z) : B (i + k + 1 + j + 1) (car t s m z) :=
  plus_B (times_ok ot (face_ok oz m)) os (times_B ot (face_ok oz m) ht (face_B hz m)) hs
/-! ### the divisor by remainders -/
theorem gcd_fmod (a b : Int) : Int.gcd b (a.fmod b) = Int.gcd a b := by
  rw [Int.fmod_def, Int.gcd_sub_mul_left_right, Int.gcd_comm]
theorem fmod_small {a b : Int} (h : b ≠ 0) : (a.fmod b).natAbs < b.natAbs := by
  rw [Int.fmod_eq_emod]
  have h1 := Int.emod_nonneg a h
  have h2 : a % b < (b.natAbs : Int) := Int.emod_lt a h
  split
  · omega
  · have h3 : a % b ≠ 0 := fun e => by
      have := Int.dvd_of_emod_eq_zero e
      simp_all
    omega
theorem gcd_0 (a : Int) : ((Int.gcd a 0 : Nat) : Int) = if a < 0 then -a else a := by
  rw [Int.gcd_zero_right]; split <;> omega
end Mth
namespace Mth
/-! ### copies done several times -/
def ag (c : Cp) : Nat → Cp
  | 0 => still
  | n + 1 => jn (ag c n) c
theorem ag_ok {c : Cp} (h : CpOk c) : ∀ n, CpOk (ag c n)
  | 0 => still_ok
  | n + 1 => jn_ok (ag_ok h n) h
theorem ag_add {c : Cp} (h : CpOk c) (n : Nat) : ∀ m, ag c (n + m) = jn (ag c n) (ag c m)
  | 0 => (jn_still (ag_ok h n)).symm
  | m + 1 => by
    show jn (ag c (n + m)) c = jn (ag c n) (jn (ag c m) c)
    rw [ag_add h n m, jn_assoc (ag_ok h n) (ag_ok h m) h]
theorem ag_one {c : Cp} (h : CpOk c) : ag c 1 = c := still_jn h
theorem ag_comm {c : Cp} (h : CpOk c) (n : Nat) : jn c (ag c n) = jn (ag c n) c := by
  have e1 := ag_add h 1 n
  rw [ag_one h, Nat.add_comm] at e1
  exact e1.symm
theorem ag_mul {c : Cp} (h : CpOk c) (n : Nat) : ∀ m, ag c (n * m) = ag (ag c n) m
  | 0 => rfl
  | m + 1 => by
    show ag c (n * m + n) = jn (ag (ag c n) m) (ag c n)
    rw [ag_add h, ag_mul h n m]
theorem bk_ag {c : Cp} (h : CpOk c) : ∀ n, bk (ag c n) = ag (bk c) n
  | 0 => bk_still
  | n + 1 => by
    show bk (jn (ag c n) c) = jn (ag (bk c) n) (bk c)
    rw [bk_jn_eq (ag_ok h n) h, bk_ag h n, ag_comm (bk_ok h)]
theorem jn_l {a b c : Cp} (ha : CpOk a) (hb : CpOk b) (hc : CpOk c) (e : jn a b = jn a c) : b = c := by
  have q := congrArg (jn (bk a)) e
  rw [← jn_assoc (bk_ok ha) ha hb, ← jn_assoc (bk_ok ha) ha hc, bk_jn ha, still_jn hb, still_jn hc] at q
  exact q
theorem bk_still_iff {a : Cp} (ha : CpOk a) : bk a = still ↔ a = still := ⟨fun e => by have q := congrArg bk e; rw [bk_bk ha, bk_still] at q; exact q, fun e => by rw [e, bk_still]⟩
/-- seen from elsewhere -/
def cj (o c : Cp) : Cp := jn (jn (bk o) c) o
theorem cj_ok {o c : Cp} (ho : CpOk o) (hc : CpOk c) : CpOk (cj o c) := jn_ok (jn_ok (bk_ok ho) hc) ho
theorem cj_jn {o a b : Cp} (ho : CpOk o) (ha : CpOk a) (hb : CpOk b) : jn (cj o a) (cj o b) = cj o (jn a b) := by
  have hbo := bk_ok ho
  unfold cj
  rw [jn_assoc (jn_ok hbo ha) ho (jn_ok (jn_ok hbo hb) ho), jn_assoc hbo hb ho, ← jn_assoc ho hbo (jn_ok hb ho), jn_bk ho, still_jn (jn_ok hb ho),
    jn_assoc hbo ha (jn_ok hb ho), ← jn_assoc ha hb ho, jn_assoc hbo (jn_ok ha hb) ho]
theorem cj_still {o : Cp} (ho : CpOk o) : cj o still = still := by
  unfold cj; rw [jn_still (bk_ok ho), bk_jn ho]
theorem cj_ag {o c : Cp} (ho : CpOk o) (hc : CpOk c) : ∀ n, ag (cj o c) n = cj o (ag c n)
  | 0 => (cj_still ho).symm
  | n + 1 => by
    show jn (ag (cj o c) n) (cj o c) = cj o (jn (ag c n) c)
    rw [cj_ag ho hc n, cj_jn ho (ag_ok hc n) hc]
theorem cj_iff {o c : Cp} (ho : CpOk o) (hc : CpOk c) : cj o c = still ↔ c = still := by
  refine ⟨fun e => ?_, fun e => by rw [e, cj_still ho]⟩
  have q := congrArg (fun z => jn (jn o z) (bk o)) e
  unfold cj at q
  have hbo := bk_ok ho
  rw [jn_assoc hbo hc ho, ← jn_assoc ho hbo (jn_ok hc ho), jn_bk ho, still_jn (jn_ok hc ho), jn_assoc hc ho hbo, jn_bk ho, jn_still hc, jn_still ho, jn_bk ho] at q
  exact q
/-- the times as the program has them -/
def stp (c : Cp) (n : Int) : Cp := if 0 ≤ n then c else bk c
def agz (c : Cp) (n : Int) : Cp := ag (stp c n) n.natAbs
theorem stp_ok {c : Cp} (h : CpOk c) (n : Int) : CpOk (stp c n) := by unfold stp; split; exact h; exact bk_ok h
theorem agz_ok {c : Cp} (h : CpOk c) (n : Int) : CpOk (agz c n) := ag_ok (stp_ok h n) _
/-! ### the first time at which all is as it was -/
def At (c : Cp) (n : Nat) : Prop := ag c n = still
/-- the turns alone -/
def tn (t : T3) (m : Bool) : Nat → T3
  | 0 => (1, 0, 1)
  | n + 1 => times t (face (tn t m n) m)
theorem ag_t (c : Cp) : ∀ n, (ag c n).t = tn c.t c.m n
  | 0 => rfl
  | n + 1 => by
    show times c.t (face (ag c n).t c.m) = times c.t (face (tn c.t c.m n) c.m)
    rw [ag_t c n]
theorem ag_m (c : Cp) : ∀ n, (ag c n).m = (c.m && (n % 2 == 1))
  | 0 => by show false = _; simp
  | n + 1 => by
    show ((ag c n).m != c.m) = _
    rw [ag_m c n]
    rcases Nat.mod_two_eq_zero_or_one n with h | h
    · have h' : (n + 1) % 2 = 1 := by omega
      rw [h, h']; cases c.m <;> rfl
    · have h' : (n + 1) % 2 = 0 := by omega
      rw [h, h']; cases c.m <;> rfl
/-- only a shift: k times it is still none but if the shift is none -/
theorem shift_only {c : Cp} (h : CpOk c) (ht : c.t = (1, 0, 1)) (hm : c.m = false) : ∀ n : Nat, re (ag c n).s = (n : Rat) * re c.s ∧ im (ag c n).s = (n : Rat) * im c.s
  | 0 => by
    refine ⟨?_, ?_⟩
    · show re (0, 0, 1) = _; rw [re_0]; simp
    · show im (0, 0, 1) = _; rw [im_0]; simp
  | n + 1 => by
    obtain ⟨h1, h2⟩ := shift_only h ht hm n
    have e1 : re (ag c (n + 1)).s = _ := re_js (ag_ok h n) h
    have e2 : im (ag c (n + 1)).s = _ := im_js (ag_ok h n) h
    rw [ht, hm, re_1, im_1, h1] at e1
    rw [ht, hm, re_1, im_1, h2] at e2
    have ec : ((n + 1 : Nat) : Rat) = (n : Rat) + 1 := by simp
    rw [e1, e2, ec]
    refine ⟨?_, ?_⟩
    · simp; grind
    · simp; grind
theorem shift_still {c : Cp} (h : CpOk c) (ht : c.t = (1, 0, 1)) (hm : c.m = false) {n : Nat} (hn : 0 < n) (e : ag c n = still) : c = still := by
  obtain ⟨h1, h2⟩ := shift_only h ht hm n
  rw [e] at h1 h2
  have n0 : (n : Rat) ≠ 0 := by
    have : ((n : Int) : Rat) ≠ 0 := cast_ne (by omega)
    simpa using this
  have z1 : re c.s = 0 := by
    have : re still.s = 0 := re_0
    rw [this] at h1
    grind
  have z2 : im c.s = 0 := by
    have : im still.s = 0 := im_0
    rw [this] at h2
    grind
  refine cp_ext h still_ok ?_ ?_ ?_ ?_ hm
  · rw [ht]; rfl
  · rw [ht]; rfl
  · rw [z1]; exact re_0.symm
  · rw [z2]; exact im_0.symm
theorem at_half {c : Cp} (h : CpOk c) (ht : c.t = (-1, 0, 1)) (hm : c.m = false) : ag c 2 = still := by
  have e : ag c 2 = jn c c := by
    show jn (jn still c) c = _
    rw [still_jn h]
  have r : re (-1, 0, 1) = -1 := by unfold re; decide +kernel
  have i : im (-1, 0, 1) = 0 := by unfold im; decide +kernel
  rw [e]
  refine cp_ext (jn_ok h h) still_ok ?_ ?_ ?_ ?_ ?_
  · rw [re_jt h h, ht, hm, r, i]; show _ = re (1, 0, 1); rw [re_1]; simp; grind
  · rw [im_jt h h, ht, hm, r, i]; show _ = im (1, 0, 1); rw [im_1]; simp; grind
  · rw [re_js h h, ht, hm, r, i]; show _ = re (0, 0, 1); rw [re_0]; simp; grind
  · rw [im_js h h, ht, hm, r, i]; show _ = im (0, 0, 1); rw [im_0]; simp; grind
  · rw [jn_m, hm]; rfl
def turns13 : List T3 := [(1, 0, 1), (-1, 0, 1), (0, 1, 1), (0, -1, 1), (2, 0, 1), (1, 0, 2), (1, 1, 1), (3, 4, 5), (0, 2, 1), (-1, 0, 3), (1, -1, 2), (2, 1, 1), (-4, 3, 5)]
theorem turns_cases : ∀ t ∈ turns13, ∀ m ∈ [false, true], (t = (1, 0, 1) ∧ m = false) ∨ (t = (-1, 0, 1) ∧ m = false) ∨ (tn t m 2 = (-1, 0, 1) ∧ m = false ∧ ∀ n ∈ [1, 2, 3], tn t m n ≠ (1, 0, 1)) ∨ (tn t m 2 = (1, 0, 1) ∧ m = true) ∨
    (∀ n ∈ [1, 2, 3, 4, 5, 6, 7, 8, 9, 10, 11, 12], tn t m n ≠ (1, 0, 1) ∨ (m = true ∧ n % 2 = 1)) := by decide +kernel
theorem first_of {c : Cp} (h : CpOk c) (ht : c.t ∈ turns13) {n : Nat} (n1 : 1 ≤ n) (n12 : n ≤ 12) (e : ag c n = still) : ag c 1 = still ∨ (2 ≤ n ∧ ag c 2 = still) ∨ (4 ≤ n ∧ ag c 4 = still) := by
  have et : tn c.t c.m n = (1, 0, 1) := by rw [← ag_t, e]; rfl
  have em : (c.m && (n % 2 == 1)) = false := by rw [← ag_m, e]; rfl
  rcases turns_cases c.t ht c.m (by cases c.m <;> simp) with ⟨h1, h2⟩ | ⟨h1, h2⟩ | ⟨h1, h2, h3⟩ | ⟨h1, h2⟩ | h1
  · left
    rw [ag_one h]
    exact shift_still h h1 h2 n1 e
  · right; left
    refine ⟨?_, at_half h h1 h2⟩
    rcases Nat.lt_or_ge n 2 with z | z
    · have : n = 1 := by omega
      subst this
      rw [ag_one h] at e
      rw [e] at h1
      exact absurd h1 (by decide)
    · exact z
  · right; right
    refine ⟨?_, ?_⟩
    · rcases Nat.lt_or_ge n 4 with z | z
      · exact absurd et (h3 n (by simp; omega))
      · exact z
    · show ag c (2 * 2) = still
      rw [ag_mul h]
      exact at_half (ag_ok h 2) (by rw [ag_t]; exact h1) (by rw [ag_m, h2]; rfl)
  · right; left
    rw [h2] at em
    have ev : n % 2 = 0 := by
      rcases Nat.mod_two_eq_zero_or_one n with z | z
      · exact z
      · rw [z] at em; simp at em
    refine ⟨by omega, ?_⟩
    obtain ⟨k, rfl⟩ : ∃ k, n = 2 * k := ⟨n / 2, by omega⟩
    rw [ag_mul h] at e
    refine shift_still (ag_ok h 2) (by rw [ag_t]; exact h1) (by rw [ag_m]; simp) (by omega) e
  · exfalso
    rcases h1 n (by simp; omega) with z | ⟨z1, z2⟩
    · exact z et
    · rw [z1, z2] at em; simp at em
/-! ### the order as the program finds it -/
def ord (c : Cp) : Option Nat := if ag c 1 = still then some 1 else if ag c 2 = still then some 2 else if ag c 4 = still then some 4 else none
theorem ord_congr {a b : Cp} (h : ∀ n, ag a n = still ↔ ag b n = still) : ord a = ord b := by
  unfold ord
  simp only [h]
theorem ord_bk {c : Cp} (h : CpOk c) : ord (bk c) = ord c := ord_congr fun n => by rw [← bk_ag h, bk_still_iff (ag_ok h n)]
theorem ord_cj {o c : Cp} (ho : CpOk o) (h : CpOk c) : ord (cj o c) = ord c := ord_congr fun n => by rw [cj_ag ho h, cj_iff ho (ag_ok h n)]
/-- the first one of 1 .. i -/
def due (c : Cp) : Nat → Option Nat
  | 0 => none
  | n + 1 => if due c n = none ∧ ag c (n + 1) = still then some (n + 1) else due c n
theorem due_eq {c : Cp} (h : CpOk c) (ht : c.t ∈ turns13) : due c 12 = ord c := by
  have P := fun n n1 n12 e => first_of (n := n) h ht n1 n12 e
  have s1 : due c 1 = if ag c 1 = still then some 1 else none := by simp [due]
  by_cases h1 : ag c 1 = still
  · have k : ∀ n, due c (n + 1) = some 1 := fun n => by
      induction n with
      | zero => rw [s1, if_pos h1]
      | succ n ih => simp [due] at ih ⊢; simp [ih]
    rw [k 11]
    unfold ord
    rw [if_pos h1]
  · have d1 : due c 1 = none := by rw [s1, if_neg h1]
    by_cases h2 : ag c 2 = still
    · have k : ∀ n, due c (n + 2) = some 2 := fun n => by
        induction n with
        | zero => show (if due c 1 = none ∧ ag c 2 = still then some 2 else due c 1) = _; rw [if_pos ⟨d1, h2⟩]
        | succ n ih => show (if due c (n + 2) = none ∧ ag c (n + 3) = still then some (n + 3) else due c (n + 2)) = _; rw [ih]; simp
      rw [k 10]
      unfold ord
      rw [if_neg h1, if_pos h2]
    · have d2 : due c 2 = none := by show (if due c 1 = none ∧ ag c 2 = still then some 2 else due c 1) = _; rw [if_neg (fun z => h2 z.2), d1]
      have n3 : ag c 3 ≠ still := fun e => by
        rcases P 3 (by decide) (by decide) e with z | ⟨_, z⟩ | ⟨z, _⟩
        · exact h1 z
        · exact h2 z
        · omega
      have d3 : due c 3 = none := by show (if due c 2 = none ∧ ag c 3 = still then some 3 else due c 2) = _; rw [if_neg (fun z => n3 z.2), d2]
      by_cases h4 : ag c 4 = still
      · have k : ∀ n, due c (n + 4) = some 4 := fun n => by
          induction n with
          | zero => show (if due c 3 = none ∧ ag c 4 = still then some 4 else due c 3) = _; rw [if_pos ⟨d3, h4⟩]
          | succ n ih => show (if due c (n + 4) = none ∧ ag c (n + 5) = still then some (n + 5) else due c (n + 4)) = _; rw [ih]; simp
        rw [k 8]
        unfold ord
        rw [if_neg h1, if_neg h2, if_pos h4]
      · have k : ∀ n, n ≤ 12 → due c n = none := fun n => by
          induction n with
          | zero => intro _; rfl
          | succ n ih =>
            intro hn
            have nn : ag c (n + 1) ≠ still := fun e => by
              rcases P (n + 1) (by omega) hn e with z | ⟨_, z⟩ | ⟨_, z⟩
              · exact h1 z
              · exact h2 z
              · exact h4 z
            show (if due c n = none ∧ ag c (n + 1) = still then some (n + 1) else due c n) = _
            rw [if_neg (fun z => nn z.2)]
            exact ih (by omega)
        rw [k 12 (by decide)]
        unfold ord
        rw [if_neg h1, if_neg h2, if_neg h4]
end Mth
namespace Mth
/-! ### lines a * x + b * y = c, and what satisfies rows of them -/
def sgl (a b c : Int) : Int := if a < 0 ∨ (a = 0 ∧ b < 0) then -(g3 a b c) else g3 a b c
def lf (r : T3) : T3 := (r.1.fdiv (sgl r.1 r.2.1 r.2.2), r.2.1.fdiv (sgl r.1 r.2.1 r.2.2), r.2.2.fdiv (sgl r.1 r.2.1 r.2.2))
def on (l z : T3) : Prop := l.1 * z.1 + l.2.1 * z.2.1 = l.2.2 * z.2.2
instance (l z : T3) : Decidable (on l z) := inferInstanceAs (Decidable (_ = _))
theorem g3_pos' {a b c : Int} (h : a ≠ 0 ∨ b ≠ 0) : 0 < g3 a b c := by
  unfold g3
  have h1 : 0 < Int.gcd a b := by
    rcases h with h | h
    · exact Int.gcd_pos_of_ne_zero_left _ h
    · exact Int.gcd_pos_of_ne_zero_right _ h
  have h2 : 0 < Int.gcd ((Int.gcd a b : Nat) : Int) c := Int.gcd_pos_of_ne_zero_left _ (by omega)
  omega
theorem sgl_of {a b c : Int} : sgl a b c = g3 a b c ∨ sgl a b c = -g3 a b c := by unfold sgl; split <;> simp
theorem sgl_ne {a b c : Int} (h : a ≠ 0 ∨ b ≠ 0) : sgl a b c ≠ 0 := by
  have := g3_pos' (c := c) h
  rcases @sgl_of a b c with e | e <;> omega
theorem sgl_d1 {a b c : Int} : sgl a b c ∣ a := by rcases @sgl_of a b c with h | h <;> rw [h]; exact g3_dx; exact Int.neg_dvd.mpr g3_dx
theorem sgl_d2 {a b c : Int} : sgl a b c ∣ b := by rcases @sgl_of a b c with h | h <;> rw [h]; exact g3_dy; exact Int.neg_dvd.mpr g3_dy
theorem sgl_d3 {a b c : Int} : sgl a b c ∣ c := by rcases @sgl_of a b c with h | h <;> rw [h]; exact g3_dd; exact Int.neg_dvd.mpr g3_dd
theorem lf_mul (r : T3) : r.1 = sgl r.1 r.2.1 r.2.2 * (lf r).1 ∧ r.2.1 = sgl r.1 r.2.1 r.2.2 * (lf r).2.1 ∧ r.2.2 = sgl r.1 r.2.1 r.2.2 * (lf r).2.2 := by
  unfold lf
  refine ⟨?_, ?_, ?_⟩ <;> dsimp only
  · rw [Int.fdiv_eq_ediv_of_dvd sgl_d1]; exact (Int.mul_ediv_cancel' sgl_d1).symm
  · rw [Int.fdiv_eq_ediv_of_dvd sgl_d2]; exact (Int.mul_ediv_cancel' sgl_d2).symm
  · rw [Int.fdiv_eq_ediv_of_dvd sgl_d3]; exact (Int.mul_ediv_cancel' sgl_d3).symm
/-- a line in its only form -/
structure Ln (l : T3) : Prop where
  g : g3 l.1 l.2.1 l.2.2 = 1
  s : 0 < l.1 ∨ (l.1 = 0 ∧ 0 < l.2.1)
theorem lf_ln {r : T3} (h : r.1 ≠ 0 ∨ r.2.1 ≠ 0) : Ln (lf r) := by
  obtain ⟨h1, h2, h3⟩ := lf_mul r
  have hs := sgl_ne (c := r.2.2) h
  have hg := g3_pos' (c := r.2.2) h
  have sdef : sgl r.1 r.2.1 r.2.2 = if r.1 < 0 ∨ (r.1 = 0 ∧ r.2.1 < 0) then -(g3 r.1 r.2.1 r.2.2) else g3 r.1 r.2.1 r.2.2 := rfl
  have so := @sgl_of r.1 r.2.1 r.2.2
  generalize hx : (lf r).1 = x at *
  generalize hy : (lf r).2.1 = y at *
  generalize hz : (lf r).2.2 = z at *
  generalize sgl r.1 r.2.1 r.2.2 = g at *
  generalize hG : g3 r.1 r.2.1 r.2.2 = G at *
  have sgn : ∀ u v : Int, u = g * v → 0 < G → (g = G → (0 < u → 0 < v) ∧ (u = 0 → v = 0)) ∧ (g = -G → (u < 0 → 0 < v) ∧ (u = 0 → v = 0)) := by
    intro u v e hG
    refine ⟨fun eg => ⟨fun hu => ?_, fun hu => ?_⟩, fun eg => ⟨fun hu => ?_, fun hu => ?_⟩⟩
    · rcases Int.lt_trichotomy v 0 with z | z | z
      · have : g * v < 0 := Int.mul_neg_of_pos_of_neg (by omega) z
        omega
      · subst z; simp at e; omega
      · exact z
    · rw [hu] at e; exact (Int.mul_eq_zero.mp e.symm).resolve_left hs
    · rcases Int.lt_trichotomy v 0 with z | z | z
      · have : 0 < g * v := Int.mul_pos_of_neg_of_neg (by omega) z
        omega
      · subst z; simp at e; omega
      · exact z
    · rw [hu] at e; exact (Int.mul_eq_zero.mp e.symm).resolve_left hs
  refine ⟨?_, ?_⟩
  · rw [hx, hy, hz]
    have k1 : g * g3 x y z ∣ r.1 := by
      obtain ⟨u, hu⟩ := @g3_dx x y z
      exact ⟨u, by rw [Int.mul_assoc, ← hu, ← h1]⟩
    have k2 : g * g3 x y z ∣ r.2.1 := by
      obtain ⟨u, hu⟩ := @g3_dy x y z
      exact ⟨u, by rw [Int.mul_assoc, ← hu, ← h2]⟩
    have k3 : g * g3 x y z ∣ r.2.2 := by
      obtain ⟨u, hu⟩ := @g3_dd x y z
      exact ⟨u, by rw [Int.mul_assoc, ← hu, ← h3]⟩
    have k := g3_great k1 k2 k3
    rw [hG] at k
    have k' : g * g3 x y z ∣ g := by
      rcases so with e | e
      · rw [e] at k ⊢; exact k
      · rw [e]; rw [e] at k; exact (Int.dvd_neg).mpr k
    obtain ⟨u, hu⟩ := k'
    have e : g3 x y z * u = 1 := by
      have : g * (g3 x y z * u) = g * 1 := by rw [← Int.mul_assoc, ← hu, Int.mul_one]
      exact Int.eq_of_mul_eq_mul_left hs this
    have nn : 0 ≤ g3 x y z := by unfold g3; omega
    exact Int.eq_one_of_dvd_one nn ⟨u, e.symm⟩
  · rw [hx, hy]
    by_cases c : r.1 < 0 ∨ (r.1 = 0 ∧ r.2.1 < 0)
    · rw [if_pos c] at sdef
      have a1 := (sgn r.1 x h1 hg).2 sdef
      have a2 := (sgn r.2.1 y h2 hg).2 sdef
      rcases c with c | ⟨c1, c2⟩
      · exact .inl (a1.1 c)
      · exact .inr ⟨a1.2 c1, a2.1 c2⟩
    · rw [if_neg c] at sdef
      have a1 := (sgn r.1 x h1 hg).1 sdef
      have a2 := (sgn r.2.1 y h2 hg).1 sdef
      rcases Int.lt_trichotomy r.1 0 with z1 | z1 | z1
      · exact absurd (.inl z1) c
      · rcases Int.lt_trichotomy r.2.1 0 with z2 | z2 | z2
        · exact absurd (.inr ⟨z1, z2⟩) c
        · omega
        · exact .inr ⟨a1.2 z1, a2.1 z2⟩
      · exact .inl (a1.1 z1)
theorem lf_on {r : T3} (h : r.1 ≠ 0 ∨ r.2.1 ≠ 0) (z : T3) : on (lf r) z ↔ on r z := by
  obtain ⟨h1, h2, h3⟩ := lf_mul r
  have hs := sgl_ne (c := r.2.2) h
  unfold on
  generalize sgl r.1 r.2.1 r.2.2 = g at *
  refine ⟨fun e => ?_, fun e => ?_⟩
  · rw [h1, h2, h3]
    have : g * ((lf r).1 * z.1 + (lf r).2.1 * z.2.1) = g * ((lf r).2.2 * z.2.2) := by rw [e]
    grind
  · have : g * ((lf r).1 * z.1 + (lf r).2.1 * z.2.1) = g * ((lf r).2.2 * z.2.2) := by
      rw [h1, h2, h3] at e
      grind
    exact Int.eq_of_mul_eq_mul_left hs this
theorem on_iff {l z : T3} (hz : Ok z) : on l z ↔ (l.1 : Rat) * re z + (l.2.1 : Rat) * im z = (l.2.2 : Rat) := by
  have d := cast_ne hz.ne
  unfold on re im
  rw [← Rat.intCast_inj]
  simp only [Rat.intCast_add, Rat.intCast_mul]
  refine ⟨fun e => ?_, fun e => ?_⟩ <;> grind
theorem dvd3 {k m x y z : Int} (h1 : k ∣ x * m) (h2 : k ∣ y * m) (h3 : k ∣ z * m) (g : g3 x y z = 1) : k ∣ m := by
  have c := Int.dvd_coe_gcd h1 h2
  rw [Int.gcd_mul_right] at c
  have c' : k ∣ ((Int.gcd x y : Nat) : Int) * ((m.natAbs : Nat) : Int) := by rw [← Int.natCast_mul]; exact c
  have d : k ∣ z * ((m.natAbs : Nat) : Int) := by
    rcases Int.natAbs_eq m with e | e
    · rw [← e]; exact h3
    · have : ((m.natAbs : Nat) : Int) = -m := by omega
      rw [this, Int.mul_neg]; exact (Int.dvd_neg).mpr h3
  have e := Int.dvd_coe_gcd c' d
  rw [Int.gcd_mul_right] at e
  unfold g3 at g
  have g' : Int.gcd ((Int.gcd x y : Nat) : Int) z = 1 := by omega
  rw [g', Nat.one_mul, Int.natAbs_natCast] at e
  exact Int.dvd_natAbs.mp e
theorem ln_same {l m z : T3} (hl : Ln l) (hm : Ln m) (hz : Ok z) (p : l.1 * m.2.1 = m.1 * l.2.1) (h1 : on l z) (h2 : on m z) : l = m := by
  have dz := hz.ne
  unfold on at h1 h2
  obtain ⟨a, b, c⟩ := l
  obtain ⟨u, v, w⟩ := m
  obtain ⟨x, y, d⟩ := z
  have sl := hl.s
  have sm := hm.s
  have gl := hl.g
  have gm := hm.g
  dsimp only at *
  have e1 : a * w = u * c := by
    have : d * (a * w) = d * (u * c) := by grind
    exact Int.eq_of_mul_eq_mul_left dz this
  have e2 : b * w = v * c := by
    have : d * (b * w) = d * (v * c) := by grind
    exact Int.eq_of_mul_eq_mul_left dz this
  by_cases a0 : a = 0
  · subst a0
    have b0 : 0 < b := by omega
    have u0 : u = 0 := by
      have : u * b = 0 := by rw [← p]; simp
      exact (Int.mul_eq_zero.mp this).resolve_right (by omega)
    subst u0
    have v0 : 0 < v := by omega
    have d1 : b ∣ v := dvd3 (x := 0) (y := b) (z := c) (by simp) ⟨v, rfl⟩ ⟨w, by grind⟩ gl
    have d2 : v ∣ b := dvd3 (x := 0) (y := v) (z := w) (by simp) ⟨b, rfl⟩ ⟨c, by grind⟩ gm
    have eb : b = v := Int.le_antisymm (Int.le_of_dvd v0 d1) (Int.le_of_dvd b0 d2)
    subst eb
    have : w = c := Int.eq_of_mul_eq_mul_left (by omega) e2
    rw [this]
  · have a1 : 0 < a := by omega
    have u1 : 0 < u := by
      rcases sm with h | ⟨h, _⟩
      · exact h
      · exfalso
        subst h
        have : a * v = 0 := by rw [p]; simp
        have v0 := (Int.mul_eq_zero.mp this).resolve_left a0
        omega
    have d1 : a ∣ u := dvd3 (x := a) (y := b) (z := c) ⟨u, rfl⟩ ⟨v, by grind⟩ ⟨w, by grind⟩ gl
    have d2 : u ∣ a := dvd3 (x := u) (y := v) (z := w) ⟨a, rfl⟩ ⟨b, by grind⟩ ⟨c, by grind⟩ gm
    have ea : a = u := Int.le_antisymm (Int.le_of_dvd u1 d1) (Int.le_of_dvd a1 d2)
    subst ea
    have : v = b := Int.eq_of_mul_eq_mul_left a0 (by grind)
    have : w = c := Int.eq_of_mul_eq_mul_left a0 (by grind)
    simp_all
def cross (l m : T3) : T3 := low (l.2.2 * m.2.1 - m.2.2 * l.2.1) (l.1 * m.2.2 - m.1 * l.2.2) (l.1 * m.2.1 - m.1 * l.2.1)
theorem cross_iff {l m z : T3} (hz : Ok z) (d : l.1 * m.2.1 ≠ m.1 * l.2.1) : (on l z ∧ on m z) ↔ z = cross l m := by
  have dn : l.1 * m.2.1 - m.1 * l.2.1 ≠ 0 := by omega
  have oc : Ok (cross l m) := low_ok dn
  have r : re (cross l m) = ((l.2.2 * m.2.1 - m.2.2 * l.2.1 : Int) : Rat) / ((l.1 * m.2.1 - m.1 * l.2.1 : Int) : Rat) := low_re dn
  have i : im (cross l m) = ((l.1 * m.2.2 - m.1 * l.2.2 : Int) : Rat) / ((l.1 * m.2.1 - m.1 * l.2.1 : Int) : Rat) := low_im dn
  have dq := cast_ne dn
  simp only [Rat.intCast_sub, Rat.intCast_mul] at r i dq
  refine ⟨fun ⟨h1, h2⟩ => ?_, fun e => ?_⟩
  · rw [on_iff hz] at h1 h2
    refine ext hz oc ?_ ?_
    · rw [r]; grind
    · rw [i]; grind
  · rw [e, on_iff oc, on_iff oc, r, i]
    refine ⟨?_, ?_⟩ <;> grind
/-! ### what satisfies all rows -/
inductive KS where
  | all | none | spot (s : T3) | line (l : T3)
def Mem : KS → T3 → Prop
  | .all, _ => True
  | .none, _ => False
  | .spot s, z => z = s
  | .line l, z => on l z
def bad (r : T3) : Bool := decide (r.1 = 0) && (decide (r.2.1 = 0) && !decide (r.2.2 = 0))
def nz2 (r : T3) : Bool := !decide (r.1 = 0) || !decide (r.2.1 = 0)
def solL : List T3 → KS
  | [] => .all
  | f :: ls => match (f :: ls).filter (fun l => !decide (l = f)) with
    | [] => .line f
    | o :: _ => if f.1 * o.2.1 = o.1 * f.2.1 then .none else if (f :: ls).all (fun l => decide (on l (cross f o))) = true then .spot (cross f o) else .none
def sol (rows : List T3) : KS := if rows.any bad = true then .none else solL ((rows.filter nz2).map lf)
theorem sol_mem (rows : List T3) {z : T3} (hz : Ok z) : Mem (sol rows) z ↔ ∀ r ∈ rows, on r z := by
  unfold sol
  by_cases hb : rows.any bad = true
  · rw [if_pos hb]
    refine ⟨fun h => h.elim, fun h => ?_⟩
    obtain ⟨r, hr, b⟩ := List.any_eq_true.mp hb
    have o := h r hr
    unfold bad at b
    simp at b
    unfold on at o
    rw [b.1, b.2.1] at o
    have o' : r.2.2 * z.2.2 = 0 := by rw [← o]; simp
    rcases Int.mul_eq_zero.mp o' with o | o
    · exact absurd o b.2.2
    · exact absurd o hz.ne
  · rw [if_neg hb]
    have key : (∀ r ∈ rows, on r z) ↔ ∀ l ∈ (rows.filter nz2).map lf, on l z := by
      refine ⟨fun h l hl => ?_, fun h r hr => ?_⟩
      · obtain ⟨r, hr, rfl⟩ := List.mem_map.mp hl
        obtain ⟨hr1, hr2⟩ := List.mem_filter.mp hr
        have n : r.1 ≠ 0 ∨ r.2.1 ≠ 0 := by unfold nz2 at hr2; simpa using hr2
        exact (lf_on n z).mpr (h r hr1)
      · by_cases n : nz2 r = true
        · have n' : r.1 ≠ 0 ∨ r.2.1 ≠ 0 := by unfold nz2 at n; simpa using n
          exact (lf_on n' z).mp (h _ (List.mem_map.mpr ⟨r, List.mem_filter.mpr ⟨hr, n⟩, rfl⟩))
        · unfold nz2 at n
          simp at n
          have nb : bad r = false := by
            cases e : bad r with
            | false => rfl
            | true => exact absurd (List.any_eq_true.mpr ⟨r, hr, e⟩) hb
          unfold bad at nb
          simp [n.1, n.2] at nb
          unfold on
          rw [n.1, n.2, nb]
          simp
    have lns : ∀ l ∈ (rows.filter nz2).map lf, Ln l := fun l hl => by
      obtain ⟨r, hr, rfl⟩ := List.mem_map.mp hl
      obtain ⟨hr1, hr2⟩ := List.mem_filter.mp hr
      exact lf_ln (by unfold nz2 at hr2; simpa using hr2)
    rw [key]
    generalize (rows.filter nz2).map lf = ls at *
    cases ls with
    | nil => simp [solL, Mem]
    | cons f ls =>
      unfold solL
      dsimp only
      cases ho : (f :: ls).filter (fun l => !decide (l = f)) with
      | nil =>
        dsimp only
        show on f z ↔ _
        refine ⟨fun h l hl => ?_, fun h => h f (List.mem_cons_self ..)⟩
        have := List.filter_eq_nil_iff.mp ho l hl
        simp at this
        rw [this]; exact h
      | cons o os =>
        dsimp only
        have om : o ∈ (f :: ls).filter (fun l => !decide (l = f)) := by rw [ho]; exact List.mem_cons_self ..
        obtain ⟨om1, om2⟩ := List.mem_filter.mp om
        have one : o ≠ f := by simpa using om2
        have fm : f ∈ f :: ls := List.mem_cons_self ..
        by_cases p : f.1 * o.2.1 = o.1 * f.2.1
        · rw [if_pos p]
          refine ⟨fun h => h.elim, fun h => ?_⟩
          exact one (ln_same (lns f fm) (lns o om1) hz p (h f fm) (h o om1)).symm
        · rw [if_neg p]
          have ci := cross_iff hz p
          by_cases q : (f :: ls).all (fun l => decide (on l (cross f o))) = true
          · rw [if_pos q]
            show z = _ ↔ _
            refine ⟨fun e l hl => ?_, fun h => ci.mp ⟨h f fm, h o om1⟩⟩
            rw [e]
            exact of_decide_eq_true (List.all_eq_true.mp q l hl)
          · rw [if_neg q]
            refine ⟨fun h => h.elim, fun h => ?_⟩
            have e := ci.mp ⟨h f fm, h o om1⟩
            refine q (List.all_eq_true.mpr fun l hl => ?_)
            rw [← e]
            exact decide_eq_true (h l hl)
/-- the form of what is told -/
def KOk : KS → Prop
  | .spot s => Ok s
  | .line l => Ln l
  | _ => True
theorem sol_ok (rows : List T3) : KOk (sol rows) := by
  unfold sol
  split
  · trivial
  · have lns : ∀ l ∈ (rows.filter nz2).map lf, Ln l := fun l hl => by
      obtain ⟨r, hr, rfl⟩ := List.mem_map.mp hl
      obtain ⟨hr1, hr2⟩ := List.mem_filter.mp hr
      exact lf_ln (by unfold nz2 at hr2; simpa using hr2)
    generalize (rows.filter nz2).map lf = ls at *
    cases ls with
    | nil => trivial
    | cons f ls =>
      unfold solL
      dsimp only
      cases (f :: ls).filter (fun l => !decide (l = f)) with
      | nil => exact lns f (List.mem_cons_self ..)
      | cons o os =>
        dsimp only
        split
        · trivial
        · rename_i p
          split
          · exact low_ok (by omega)
          · trivial
/-! ### where two copies meet -/
def minus (a b : T3) : T3 := plus a (neg b)
def gap (a b : Cp) (z : T3) : T3 := minus (ap a z) (ap b z)
def eqs (R U G : T3) : List T3 := [(R.1 * U.2.2 * G.2.2, U.1 * R.2.2 * G.2.2, G.1 * R.2.2 * U.2.2), (R.2.1 * U.2.2 * G.2.2, U.2.1 * R.2.2 * G.2.2, G.2.1 * R.2.2 * U.2.2)]
def meet (a b : Cp) : KS := sol (eqs (minus (gap a b (1, 0, 1)) (gap a b (0, 0, 1))) (minus (gap a b (0, 1, 1)) (gap a b (0, 0, 1))) (neg (gap a b (0, 0, 1))))
theorem minus_ok {a b : T3} (ha : Ok a) (hb : Ok b) : Ok (minus a b) := plus_ok ha (neg_ok hb)
theorem re_minus {a b : T3} (ha : Ok a) (hb : Ok b) : re (minus a b) = re a - re b := by unfold minus; rw [re_plus ha (neg_ok hb), re_neg]; grind
theorem im_minus {a b : T3} (ha : Ok a) (hb : Ok b) : im (minus a b) = im a - im b := by unfold minus; rw [im_plus ha (neg_ok hb), im_neg]; grind
theorem eqs_iff {R U G z : T3} (hR : Ok R) (hU : Ok U) (hG : Ok G) (hz : Ok z) : (∀ r ∈ eqs R U G, on r z) ↔ (re R * re z + re U * im z = re G ∧ im R * re z + im U * im z = im G) := by
  have r0 := cast_ne hR.ne
  have u0 := cast_ne hU.ne
  have g0 := cast_ne hG.ne
  have h : ∀ r1 u1 g1 : Int, on (r1 * U.2.2 * G.2.2, u1 * R.2.2 * G.2.2, g1 * R.2.2 * U.2.2) z ↔ (r1 : Rat) / (R.2.2 : Rat) * re z + (u1 : Rat) / (U.2.2 : Rat) * im z = (g1 : Rat) / (G.2.2 : Rat) := fun r1 u1 g1 => by
    rw [on_iff hz]
    simp only [Rat.intCast_mul]
    refine ⟨fun e => ?_, fun e => ?_⟩ <;> grind
  have e : (∀ r ∈ eqs R U G, on r z) ↔ (on (R.1 * U.2.2 * G.2.2, U.1 * R.2.2 * G.2.2, G.1 * R.2.2 * U.2.2) z ∧ on (R.2.1 * U.2.2 * G.2.2, U.2.1 * R.2.2 * G.2.2, G.2.1 * R.2.2 * U.2.2) z) := by
    unfold eqs; simp
  rw [e, h, h]
  rfl
theorem ok_0 : Ok (0, 0, 1) := ⟨by decide, by decide⟩
theorem ok_1 : Ok (1, 0, 1) := ⟨by decide, by decide⟩
theorem ok_i : Ok (0, 1, 1) := ⟨by decide, by decide⟩
theorem re_i : re (0, 1, 1) = 0 := by unfold re; decide +kernel
theorem im_i : im (0, 1, 1) = 1 := by unfold im; decide +kernel
theorem gap_ok {a b : Cp} {z : T3} (ha : CpOk a) (hb : CpOk b) (hz : Ok z) : Ok (gap a b z) := minus_ok (ap_ok ha hz) (ap_ok hb hz)
theorem re_gap {a b : Cp} {z : T3} (ha : CpOk a) (hb : CpOk b) (hz : Ok z) : re (gap a b z) = re (ap a z) - re (ap b z) := re_minus (ap_ok ha hz) (ap_ok hb hz)
theorem im_gap {a b : Cp} {z : T3} (ha : CpOk a) (hb : CpOk b) (hz : Ok z) : im (gap a b z) = im (ap a z) - im (ap b z) := im_minus (ap_ok ha hz) (ap_ok hb hz)
theorem meet_mem {a b : Cp} {z : T3} (ha : CpOk a) (hb : CpOk b) (hz : Ok z) : Mem (meet a b) z ↔ ap a z = ap b z := by
  unfold meet
  have g0 := gap_ok ha hb ok_0
  have g1 := gap_ok ha hb ok_1
  have gi := gap_ok ha hb ok_i
  rw [sol_mem _ hz, eqs_iff (minus_ok g1 g0) (minus_ok gi g0) (neg_ok g0) hz, re_minus g1 g0, re_minus gi g0, im_minus g1 g0, im_minus gi g0, re_neg, im_neg]
  simp only [re_gap ha hb ok_0, re_gap ha hb ok_1, re_gap ha hb ok_i, im_gap ha hb ok_0, im_gap ha hb ok_1, im_gap ha hb ok_i]
  unfold ap
  simp only [re_car ha.t ha.s ok_0, re_car ha.t ha.s ok_1, re_car ha.t ha.s ok_i, re_car hb.t hb.s ok_0, re_car hb.t hb.s ok_1, re_car hb.t hb.s ok_i, im_car ha.t ha.s ok_0, im_car ha.t ha.s ok_1, im_car ha.t ha.s ok_i, im_car hb.t hb.s ok_0, im_car hb.t hb.s ok_1, im_car hb.t hb.s ok_i, re_0, im_0, re_1, im_1, re_i, im_i]
  have k : car a.t a.s a.m z = car b.t b.s b.m z ↔ (re (car a.t a.s a.m z) = re (car b.t b.s b.m z) ∧ im (car a.t a.s a.m z) = im (car b.t b.s b.m z)) :=
    ⟨fun e => by rw [e]; exact ⟨rfl, rfl⟩, fun ⟨e1, e2⟩ => ext (car_ok ha.t ha.s hz) (car_ok hb.t hb.s hz) e1 e2⟩
  rw [k, re_car ha.t ha.s hz, re_car hb.t hb.s hz, im_car ha.t ha.s hz, im_car hb.t hb.s hz]
  generalize (if a.m = true then (-1 : Rat) else 1) = sa
  generalize (if b.m = true then (-1 : Rat) else 1) = sb
  refine ⟨fun ⟨e1, e2⟩ => ⟨?_, ?_⟩, fun ⟨e1, e2⟩ => ⟨?_, ?_⟩⟩ <;> grind
theorem meet_ok (a b : Cp) : KOk (meet a b) := sol_ok _
theorem all_iff {a b : Cp} (ha : CpOk a) (hb : CpOk b) : meet a b = .all ↔ a = b := by
  refine ⟨fun e => ?_, fun e => ?_⟩
  · have h : ∀ z, Ok z → ap a z = ap b z := fun z hz => (meet_mem ha hb hz).mp (by rw [e]; trivial)
    have e0 := h _ ok_0
    have e1 := h _ ok_1
    have ei := h _ ok_i
    have r0 := congrArg re e0
    have i0 := congrArg im e0
    have r1 := congrArg re e1
    have i1 := congrArg im e1
    have ri := congrArg re ei
    have ii := congrArg im ei
    unfold ap at r0 i0 r1 i1 ri ii
    simp only [re_car ha.t ha.s ok_0, re_car ha.t ha.s ok_1, re_car ha.t ha.s ok_i, re_car hb.t hb.s ok_0, re_car hb.t hb.s ok_1, re_car hb.t hb.s ok_i, im_car ha.t ha.s ok_0, im_car ha.t ha.s ok_1, im_car ha.t ha.s ok_i, im_car hb.t hb.s ok_0, im_car hb.t hb.s ok_1, im_car hb.t hb.s ok_i, re_0, im_0, re_1, im_1, re_i, im_i] at r0 i0 r1 i1 ri ii
    have n := nn_ne ha.t ha.n
    have q : nn a.t = re a.t * re a.t + im a.t * im a.t := rfl
    have tr : re a.t = re b.t := by grind
    have ti : im a.t = im b.t := by grind
    refine cp_ext ha hb tr ti (by grind) (by grind) ?_
    have no : a.m ≠ b.m → False := fun hne => by
      apply n
      rw [q]
      have z : re a.t = 0 ∧ im a.t = 0 := by
        cases hm : a.m <;> cases hm' : b.m
        · exact absurd (hm.trans hm'.symm) hne
        · rw [hm, hm'] at ri ii
          simp at ri ii
          exact ⟨by grind, by grind⟩
        · rw [hm, hm'] at ri ii
          simp at ri ii
          exact ⟨by grind, by grind⟩
        · exact absurd (hm.trans hm'.symm) hne
      rw [z.1, z.2]
      grind
    exact Decidable.byContradiction no
  · have h : ∀ z, Ok z → Mem (meet a b) z := fun z hz => (meet_mem ha hb hz).mpr (by rw [e])
    have ok := meet_ok a b
    generalize meet a b = k at *
    have h0 := h _ ok_0
    have h1 := h _ ok_1
    have hi := h _ ok_i
    cases k with
    | all => rfl
    | none => exact h0.elim
    | spot s =>
      have z0 : ((0, 0, 1) : T3) = s := h0
      have z1 : ((1, 0, 1) : T3) = s := h1
      rw [← z0] at z1
      exact absurd z1 (by decide)
    | line l =>
      exfalso
      have ok : Ln l := ok
      have z0 : on l (0, 0, 1) := h0
      have z1 : on l (1, 0, 1) := h1
      have zi : on l (0, 1, 1) := hi
      unfold on at z0 z1 zi
      simp at z0 z1 zi
      have := ok.s
      omega
/-! ### sizes of what is told -/
def KB (n m : Nat) : KS → Prop
  | .spot s => B n s
  | .line l => B m l
  | _ => True
theorem lf_B {r : T3} {n : Nat} (h : r.1 ≠ 0 ∨ r.2.1 ≠ 0) (b : B n r) : B n (lf r) := by
  obtain ⟨e1, e2, e3⟩ := lf_mul r
  have hs := sgl_ne (c := r.2.2) h
  obtain ⟨b1, b2, b3⟩ := b
  refine ⟨?_, ?_, ?_⟩
  · have := abs_le (a := (lf r).1) hs; rw [← e1] at this; omega
  · have := abs_le (a := (lf r).2.1) hs; rw [← e2] at this; omega
  · have := abs_le (a := (lf r).2.2) hs; rw [← e3] at this; omega
theorem sol_KB {rows : List T3} {n : Nat} (h : ∀ r ∈ rows, B n r) : KB (n + n + 1) n (sol rows) := by
  unfold sol
  split
  · trivial
  · have lns : ∀ l ∈ (rows.filter nz2).map lf, B n l := fun l hl => by
      obtain ⟨r, hr, rfl⟩ := List.mem_map.mp hl
      obtain ⟨hr1, hr2⟩ := List.mem_filter.mp hr
      exact lf_B (by unfold nz2 at hr2; simpa using hr2) (h r hr1)
    generalize (rows.filter nz2).map lf = ls at *
    cases ls with
    | nil => trivial
    | cons f ls =>
      unfold solL
      dsimp only
      have hf := lns f (List.mem_cons_self ..)
      cases ho : (f :: ls).filter (fun l => !decide (l = f)) with
      | nil => exact hf
      | cons o os =>
        dsimp only
        have om : o ∈ (f :: ls).filter (fun l => !decide (l = f)) := by rw [ho]; exact List.mem_cons_self ..
        have hO := lns o (List.mem_filter.mp om).1
        split
        · trivial
        · rename_i p
          split
          · exact low_B (fun z => p (Int.sub_eq_zero.mp z)) (sub_lt (mul_lt hf.2.2 hO.2.1) (mul_lt hO.2.2 hf.2.1)) (sub_lt (mul_lt hf.1 hO.2.2) (mul_lt hO.1 hf.2.2)) (sub_lt (mul_lt hf.1 hO.2.1) (mul_lt hO.1 hf.2.1))
          · trivial
theorem eqs_B {R U G : T3} {n : Nat} (hR : B n R) (hU : B n U) (hG : B n G) : ∀ r ∈ eqs R U G, B (n + n + n) r := by
  intro r hr
  unfold eqs at hr
  simp only [List.mem_cons, List.mem_nil_iff, or_false] at hr
  rcases hr with rfl | rfl
  · exact ⟨mul_lt (mul_lt hR.1 hU.2.2) hG.2.2, mul_lt (mul_lt hU.1 hR.2.2) hG.2.2, mul_lt (mul_lt hG.1 hR.2.2) hU.2.2⟩
  · exact ⟨mul_lt (mul_lt hR.2.1 hU.2.2) hG.2.2, mul_lt (mul_lt hU.2.1 hR.2.2) hG.2.2, mul_lt (mul_lt hG.2.1 hR.2.2) hU.2.2⟩
theorem minus_B {a b : T3} {n m : Nat} (oa : Ok a) (ob : Ok b) (ha : B n a) (hb : B m b) : B (n + m + 1) (minus a b) := plus_B oa (neg_ok ob) ha (neg_B hb)
theorem gap_Bn {a b : Cp} {z : T3} {n m : Nat} (ha : CpOk a) (hb : CpOk b) (hz : Ok z) (ta : B n a.t) (sa : B n a.s) (tb : B m b.t) (sb : B m b.s) (bz : B 1 z) : B (2 * n + 3 + (2 * m + 3) + 1) (gap a b z) :=
  minus_B (ap_ok ha hz) (ap_ok hb hz) ((car_B ha.t ha.s hz ta sa bz).mono (by omega)) ((car_B hb.t hb.s hz tb sb bz).mono (by omega))
instance (n : Nat) (t : T3) : Decidable (B n t) := inferInstanceAs (Decidable (_ ∧ _ ∧ _))
theorem meet_KB {a b : Cp} {n m : Nat} (ha : CpOk a) (hb : CpOk b) (ta : B n a.t) (sa : B n a.s) (tb : B m b.t) (sb : B m b.s) : KB (24 * n + 24 * m + 91) (12 * n + 12 * m + 45) (meet a b) := by
  have z0 : B 1 (0, 0, 1) := by decide
  have z1 : B 1 (1, 0, 1) := by decide
  have zi : B 1 (0, 1, 1) := by decide
  have b0 := gap_Bn ha hb ok_0 ta sa tb sb z0
  have b1 := gap_Bn ha hb ok_1 ta sa tb sb z1
  have bi := gap_Bn ha hb ok_i ta sa tb sb zi
  have g0 := gap_ok ha hb ok_0
  have g1 := gap_ok ha hb ok_1
  have gi := gap_ok ha hb ok_i
  have bR := minus_B g1 g0 b1 b0
  have bU := minus_B gi g0 bi b0
  have bG := (neg_B b0).mono (show 2 * n + 3 + (2 * m + 3) + 1 ≤ 2 * n + 3 + (2 * m + 3) + 1 + (2 * n + 3 + (2 * m + 3) + 1) + 1 by omega)
  have e1 : 24 * n + 24 * m + 91 = (12 * n + 12 * m + 45) + (12 * n + 12 * m + 45) + 1 := by omega
  rw [e1]
  exact sol_KB fun r hr => (eqs_B bR bU bG r hr).mono (by omega)
/-! ### a spot of a line, and others along it -/
def along (l : T3) (k : Int) : T3 := low (l.1 * l.2.2 + k * l.2.1) (l.2.1 * l.2.2 - k * l.1) (l.1 * l.1 + l.2.1 * l.2.1)
theorem ln_sq {l : T3} (h : Ln l) : l.1 * l.1 + l.2.1 * l.2.1 ≠ 0 := sq_ne (a := l) (by have := h.s; unfold Nz; omega)
theorem along_ok {l : T3} (h : Ln l) (k : Int) : Ok (along l k) := low_ok (ln_sq h)
theorem along_on {l : T3} (h : Ln l) (k : Int) : on l (along l k) := by
  rw [on_iff (along_ok h k)]
  have n := cast_ne (ln_sq h)
  unfold along
  rw [low_re (ln_sq h), low_im (ln_sq h)]
  simp only [Rat.intCast_add, Rat.intCast_sub, Rat.intCast_mul] at n ⊢
  grind
theorem along_re {l : T3} (h : Ln l) (k : Int) : re (along l k) = ((l.1 * l.2.2 + k * l.2.1 : Int) : Rat) / ((l.1 * l.1 + l.2.1 * l.2.1 : Int) : Rat) := low_re (ln_sq h)
theorem along_im {l : T3} (h : Ln l) (k : Int) : im (along l k) = ((l.2.1 * l.2.2 - k * l.1 : Int) : Rat) / ((l.1 * l.1 + l.2.1 * l.2.1 : Int) : Rat) := low_im (ln_sq h)
theorem two_on {l m : T3} (hl : Ln l) (hm : Ln m) (h0 : on m (along l 0)) (h1 : on m (along l 1)) : l = m := by
  refine ln_same hl hm (along_ok hl 0) ?_ (along_on hl 0) h0
  rw [on_iff (along_ok hl _), along_re hl, along_im hl] at h0 h1
  have n := cast_ne (ln_sq hl)
  simp only [Rat.intCast_add, Rat.intCast_sub, Rat.intCast_mul] at n h0 h1
  have e : (l.1 : Rat) * (m.2.1 : Rat) = (m.1 : Rat) * (l.2.1 : Rat) := by
    simp at h0 h1
    grind
  rw [← Rat.intCast_mul, ← Rat.intCast_mul] at e
  exact Rat.intCast_inj.mp e
theorem along_ne {l : T3} (h : Ln l) : along l 0 ≠ along l 1 := fun e => by
  have r := congrArg re e
  have i := congrArg im e
  rw [along_re h, along_re h] at r
  rw [along_im h, along_im h] at i
  have n := cast_ne (ln_sq h)
  simp only [Rat.intCast_add, Rat.intCast_sub, Rat.intCast_mul] at n r i
  have e1 : (l.2.1 : Rat) = 0 := by simp at r; grind
  have e2 : (l.1 : Rat) = 0 := by simp at i; grind
  have z1 : l.2.1 = 0 := by
    have : ((l.2.1 : Int) : Rat) = ((0 : Int) : Rat) := by rw [e1]; simp
    exact Rat.intCast_inj.mp this
  have z2 : l.1 = 0 := by
    have : ((l.1 : Int) : Rat) = ((0 : Int) : Rat) := by rw [e2]; simp
    exact Rat.intCast_inj.mp this
  have := h.s
  omega
theorem no_line {l : T3} (h : Ln l) (a : ∀ z, Ok z → on l z) : False := by
  have z0 := a _ ok_0
  have z1 := a _ ok_1
  have zi := a _ ok_i
  unfold on at z0 z1 zi
  simp at z0 z1 zi
  have := h.s
  omega
theorem no_spot {s : T3} (a : ∀ z, Ok z → z = s) : False := by
  have e := (a _ ok_0).trans (a _ ok_1).symm
  exact absurd e (by decide)
theorem ks_ext {k m : KS} (hk : KOk k) (hm : KOk m) (h : ∀ z, Ok z → (Mem k z ↔ Mem m z)) : k = m := by
  cases k with
  | all =>
    cases m with
    | all => rfl
    | none => exact ((h _ ok_0).mp trivial).elim
    | spot s => exact (no_spot fun z hz => (h z hz).mp trivial).elim
    | line l => exact (no_line hm fun z hz => (h z hz).mp trivial).elim
  | none =>
    cases m with
    | all => exact ((h _ ok_0).mpr trivial).elim
    | none => rfl
    | spot s => exact ((h s hm).mpr rfl).elim
    | line l => exact ((h _ (along_ok hm 0)).mpr (along_on hm 0)).elim
  | spot s =>
    cases m with
    | all => exact (no_spot fun z hz => (h z hz).mpr trivial).elim
    | none => exact ((h s hk).mp rfl).elim
    | spot t => exact congrArg KS.spot ((h s hk).mp rfl)
    | line l =>
      have a : along l 0 = s := (h _ (along_ok hm 0)).mpr (along_on hm 0)
      have b : along l 1 = s := (h _ (along_ok hm 1)).mpr (along_on hm 1)
      exact absurd (a.trans b.symm) (along_ne hm)
  | line l =>
    cases m with
    | all => exact (no_line hk fun z hz => (h z hz).mpr trivial).elim
    | none => exact ((h _ (along_ok hk 0)).mp (along_on hk 0)).elim
    | spot s =>
      have a : along l 0 = s := (h _ (along_ok hk 0)).mp (along_on hk 0)
      have b : along l 1 = s := (h _ (along_ok hk 1)).mp (along_on hk 1)
      exact absurd (a.trans b.symm) (along_ne hk)
    | line l' => exact congrArg KS.line (two_on hk hm ((h _ (along_ok hk 0)).mp (along_on hk 0)) ((h _ (along_ok hk 1)).mp (along_on hk 1)))
theorem meet_comm {a b : Cp} (ha : CpOk a) (hb : CpOk b) : meet b a = meet a b := ks_ext (meet_ok b a) (meet_ok a b) fun z hz => by
  rw [meet_mem hb ha hz, meet_mem ha hb hz]; exact ⟨Eq.symm, Eq.symm⟩
end Mth
namespace Mth
/-! ### times of any sign -/
theorem agz_zero (c : Cp) : agz c 0 = still := rfl
theorem agz_one {c : Cp} (h : CpOk c) : agz c 1 = c := ag_one h
theorem agz_neg1 {c : Cp} (h : CpOk c) : agz c (-1) = bk c := ag_one (bk_ok h)
theorem agz_pos (c : Cp) (n : Nat) : agz c (n : Int) = ag c n := by
  unfold agz stp
  rw [if_pos (by omega), Int.natAbs_natCast]
theorem agz_neg (c : Cp) (n : Nat) : agz c (-(n : Int)) = ag (bk c) n := by
  by_cases h0 : n = 0
  · subst h0; rfl
  · unfold agz stp
    rw [if_neg (by omega), Int.natAbs_neg, Int.natAbs_natCast]
theorem agz_succ {c : Cp} (h : CpOk c) (n : Int) : agz c (n + 1) = jn (agz c n) c := by
  by_cases h0 : 0 ≤ n
  · obtain ⟨k, rfl⟩ : ∃ k : Nat, n = (k : Int) := ⟨n.toNat, by omega⟩
    have e : ((k : Int) + 1) = ((k + 1 : Nat) : Int) := by omega
    rw [e, agz_pos, agz_pos]
    rfl
  · obtain ⟨k, rfl⟩ : ∃ k : Nat, n = -((k + 1 : Nat) : Int) := ⟨(-n).toNat - 1, by omega⟩
    have e : (-((k + 1 : Nat) : Int) + 1) = -(k : Int) := by omega
    rw [e, agz_neg, agz_neg]
    show ag (bk c) k = jn (jn (ag (bk c) k) (bk c)) c
    rw [jn_assoc (ag_ok (bk_ok h) k) (bk_ok h) h, bk_jn h, jn_still (ag_ok (bk_ok h) k)]
theorem agz_pred {c : Cp} (h : CpOk c) (n : Int) : agz c (n - 1) = jn (agz c n) (bk c) := by
  have e := agz_succ h (n - 1)
  rw [show n - 1 + 1 = n by omega] at e
  rw [e, jn_assoc (agz_ok h _) h (bk_ok h), jn_bk h, jn_still (agz_ok h _)]
theorem agz_addn {c : Cp} (h : CpOk c) (m : Int) : ∀ k : Nat, agz c (m + (k : Int)) = jn (agz c m) (ag c k)
  | 0 => by
    show agz c (m + 0) = jn (agz c m) still
    rw [Int.add_zero, jn_still (agz_ok h m)]
  | k + 1 => by
    have e : m + ((k + 1 : Nat) : Int) = m + (k : Int) + 1 := by omega
    rw [e, agz_succ h, agz_addn h m k]
    show jn (jn (agz c m) (ag c k)) c = jn (agz c m) (jn (ag c k) c)
    rw [jn_assoc (agz_ok h m) (ag_ok h k) h]
theorem agz_subn {c : Cp} (h : CpOk c) (m : Int) : ∀ k : Nat, agz c (m - (k : Int)) = jn (agz c m) (ag (bk c) k)
  | 0 => by
    show agz c (m - 0) = jn (agz c m) still
    rw [Int.sub_zero, jn_still (agz_ok h m)]
  | k + 1 => by
    have e : m - ((k + 1 : Nat) : Int) = m - (k : Int) - 1 := by omega
    rw [e, agz_pred h, agz_subn h m k]
    show jn (jn (agz c m) (ag (bk c) k)) (bk c) = jn (agz c m) (jn (ag (bk c) k) (bk c))
    rw [jn_assoc (agz_ok h m) (ag_ok (bk_ok h) k) (bk_ok h)]
theorem agz_add {c : Cp} (h : CpOk c) (m n : Int) : agz c (m + n) = jn (agz c m) (agz c n) := by
  by_cases h0 : 0 ≤ n
  · obtain ⟨k, rfl⟩ : ∃ k : Nat, n = (k : Int) := ⟨n.toNat, by omega⟩
    rw [agz_addn h, agz_pos]
  · obtain ⟨k, rfl⟩ : ∃ k : Nat, n = -(k : Int) := ⟨(-n).toNat, by omega⟩
    rw [show m + -(k : Int) = m - (k : Int) by omega, agz_subn h, agz_neg]
theorem agz_two {c : Cp} (h : CpOk c) (n : Int) : agz (agz c n) 2 = agz c (2 * n) := by
  rw [show 2 * n = n + n by omega, agz_add h]
  show jn (jn still (agz c n)) (agz c n) = _
  rw [still_jn (agz_ok h n)]
/-! ### step by step -/
def itn (c : Cp) (z : T3) : Nat → T3
  | 0 => z
  | n + 1 => ap c (itn c z n)
theorem itn_ok {c : Cp} (h : CpOk c) {z : T3} (hz : Ok z) : ∀ n, Ok (itn c z n)
  | 0 => hz
  | n + 1 => ap_ok h (itn_ok h hz n)
theorem ap_ag {c : Cp} (h : CpOk c) {z : T3} (hz : Ok z) : ∀ n, ap (ag c n) z = itn c z n
  | 0 => ap_still hz
  | n + 1 => by
    show ap (jn (ag c n) c) z = ap c (itn c z n)
    rw [jn_ap (ag_ok h n) h hz, ap_ag h hz n]
/-! ### a quarter -/
theorem ag_still : ∀ n, ag still n = still
  | 0 => rfl
  | n + 1 => by
    show jn (ag still n) still = still
    rw [ag_still n, jn_still still_ok]
theorem quarter4 {c : Cp} (h : CpOk c) (ht : c.t = (0, 1, 1)) (hm : c.m = false) : ag c 4 = still := by
  have e : ag c 4 = ag (ag c 2) 2 := ag_mul h 2 2
  rw [e]
  refine at_half (ag_ok h 2) ?_ ?_
  · rw [ag_t, ht, hm]; decide
  · rw [ag_m, hm]; rfl
theorem period4 {c : Cp} (h : CpOk c) (e4 : ag c 4 = still) (k : Nat) : ag c k = ag c (k % 4) := by
  have e : ag c (4 * (k / 4) + k % 4) = jn (ag c (4 * (k / 4))) (ag c (k % 4)) := ag_add h _ _
  rw [Nat.div_add_mod, ag_mul h, e4, ag_still, still_jn (ag_ok h _)] at e
  exact e
theorem quarter100 {c : Cp} (h : CpOk c) (e4 : ag c 4 = still) : agz c 100 = still := by
  show ag c 100 = still
  rw [period4 h e4]
  rfl
theorem quarter99 {c : Cp} (h : CpOk c) (e4 : ag c 4 = still) : agz c (-99) = c := by
  show ag (bk c) 99 = c
  rw [← bk_ag h]
  refine (bk_uniq (ag_ok h 99) h ?_).symm
  show ag c 100 = still
  rw [period4 h e4]
  rfl
theorem back4 {c : Cp} (h : CpOk c) (e4 : ag c 4 = still) : ag (bk c) 4 = still := by
  rw [← bk_ag h, e4, bk_still]
end Mth
namespace Mth
/-! ### arms -/
structure Am where
  pole : T3
  t : T3
  near : Int
  far : Int
  m : Bool
  deriving DecidableEq
structure AmOk (a : Am) : Prop where
  p : Ok a.pole
  t : Ok a.t
  n : Nz a.t
  lo : 0 ≤ a.near
  mi : a.near ≤ a.far
  hi : a.far ≤ 1000
def about (a : Am) : Cp := ⟨a.t, minus a.pole (times a.t (face a.pole a.m)), a.m⟩
theorem about_ok {a : Am} (h : AmOk a) : CpOk (about a) := ⟨h.t, h.n, minus_ok h.p (times_ok h.t (face_ok h.p _))⟩
theorem re_sh {p t : T3} (hp : Ok p) (ht : Ok t) (m : Bool) : re (minus p (times t (face p m))) = re p - (re t * re p - im t * ((if m = true then -1 else 1) * im p)) := by
  rw [re_minus hp (times_ok ht (face_ok hp m)), re_times ht (face_ok hp m), re_face, im_face]
theorem im_sh {p t : T3} (hp : Ok p) (ht : Ok t) (m : Bool) : im (minus p (times t (face p m))) = im p - (re t * ((if m = true then -1 else 1) * im p) + im t * re p) := by
  rw [im_minus hp (times_ok ht (face_ok hp m)), im_times ht (face_ok hp m), re_face, im_face]
theorem about_fix {a : Am} (h : AmOk a) : ap (about a) a.pole = a.pole := by
  have o := minus_ok h.p (times_ok h.t (face_ok h.p a.m))
  refine ext (ap_ok (about_ok h) h.p) h.p ?_ ?_
  · show re (car a.t (minus a.pole (times a.t (face a.pole a.m))) a.m a.pole) = _
    rw [re_car h.t o h.p, re_sh h.p h.t]; grind
  · show im (car a.t (minus a.pole (times a.t (face a.pole a.m))) a.m a.pole) = _
    rw [im_car h.t o h.p, im_sh h.p h.t]; grind
theorem about_of {c : Cp} {z : T3} {n f : Int} (hc : CpOk c) (hz : Ok z) (h : ap c z = z) : about ⟨z, c.t, n, f, c.m⟩ = c := by
  have o := minus_ok hz (times_ok hc.t (face_ok hz c.m))
  have h1 := congrArg re h
  have h2 := congrArg im h
  unfold ap at h1 h2
  rw [re_car hc.t hc.s hz] at h1
  rw [im_car hc.t hc.s hz] at h2
  refine cp_ext (a := about ⟨z, c.t, n, f, c.m⟩) ⟨hc.t, hc.n, o⟩ hc rfl rfl ?_ ?_ rfl
  · show re (minus z (times c.t (face z c.m))) = _
    rw [re_sh hz hc.t]; grind
  · show im (minus z (times c.t (face z c.m))) = _
    rw [im_sh hz hc.t]; grind
/-! ### chains -/
def jall (as : List Am) : Cp := as.foldl (fun c a => jn c (about a)) still
theorem foldl_ok {as : List Am} : ∀ {c : Cp}, CpOk c → (∀ a ∈ as, AmOk a) → CpOk (as.foldl (fun c a => jn c (about a)) c) := by
  induction as with
  | nil => intro c hc _; exact hc
  | cons a as ih => intro c hc h; exact ih (jn_ok hc (about_ok (h a (List.mem_cons_self ..)))) fun b hb => h b (List.mem_cons_of_mem _ hb)
theorem jall_ok {as : List Am} (h : ∀ a ∈ as, AmOk a) : CpOk (jall as) := foldl_ok still_ok h
theorem jall_snoc (as : List Am) (a : Am) : jall (as ++ [a]) = jn (jall as) (about a) := by
  unfold jall; rw [List.foldl_append]; rfl
theorem jall_take {as : List Am} {i : Nat} {a : Am} (h : as[i]? = some a) : jall (as.take (i + 1)) = jn (jall (as.take i)) (about a) := by
  rw [List.take_succ, h]; exact jall_snoc _ _
theorem jall_one {a : Am} (h : AmOk a) : jall [a] = about a := still_jn (about_ok h)
/-! ### the spot nearest to the middle -/
def near0 : KS → Option T3
  | .none => none
  | .all => some (0, 0, 1)
  | .spot s => some s
  | .line l => some (along l 0)
theorem along0 (l : T3) : along l 0 = low (l.1 * l.2.2) (l.2.1 * l.2.2) (l.1 * l.1 + l.2.1 * l.2.1) := by
  unfold along; rw [Int.zero_mul, Int.zero_mul, Int.add_zero, Int.sub_zero]
theorem near0_mem {k : KS} (hk : KOk k) {z : T3} (h : near0 k = some z) : Ok z ∧ Mem k z := by
  cases k with
  | none => cases h
  | all => cases h; exact ⟨ok_0, trivial⟩
  | spot s => cases h; exact ⟨hk, rfl⟩
  | line l => cases h; exact ⟨along_ok hk 0, along_on hk 0⟩
theorem along_perp {l : T3} (h : Ln l) : l.1 * (along l 0).2.1 = l.2.1 * (along l 0).1 := by
  have o := along_ok h 0
  have n := cast_ne (ln_sq h)
  have d := cast_ne o.ne
  have e1 := along_re h 0
  have e2 := along_im h 0
  unfold re at e1
  unfold im at e2
  generalize along l 0 = z at *
  simp only [Rat.intCast_add, Rat.intCast_sub, Rat.intCast_mul] at e1 e2 n
  have : ((l.1 * z.2.1 : Int) : Rat) = ((l.2.1 * z.1 : Int) : Rat) := by
    simp only [Rat.intCast_mul]
    grind
  exact_mod_cast this
def sng (c : Cp) : Option Am := (near0 (meet c still)).map fun z => ⟨z, c.t, 0, 1000, c.m⟩
theorem sng_ok {c : Cp} {a : Am} (hc : CpOk c) (h : sng c = some a) : AmOk a ∧ about a = c ∧ near0 (meet c still) = some a.pole ∧ a.near = 0 ∧ a.far = 1000 ∧ a.t = c.t ∧ a.m = c.m := by
  unfold sng at h
  cases e : near0 (meet c still) with
  | none => rw [e] at h; cases h
  | some z =>
    rw [e] at h
    cases h
    obtain ⟨oz, mz⟩ := near0_mem (meet_ok c still) e
    have fz : ap c z = z := by rw [(meet_mem hc still_ok oz).mp mz, ap_still oz]
    exact ⟨⟨oz, hc.t, hc.n, by show (0 : Int) ≤ 0; decide, by show (0 : Int) ≤ 1000; decide, by show (1000 : Int) ≤ 1000; decide⟩, about_of hc oz fz, rfl, rfl, rfl, rfl, rfl⟩
theorem sng_none {c : Cp} : sng c = none ↔ meet c still = .none := by
  unfold sng
  cases e : meet c still with
  | none => exact ⟨fun _ => rfl, fun _ => rfl⟩
  | all => exact ⟨(fun h => by cases h), (fun h => by cases h)⟩
  | spot s => exact ⟨(fun h => by cases h), (fun h => by cases h)⟩
  | line l => exact ⟨(fun h => by cases h), (fun h => by cases h)⟩
theorem near0_B {k : KS} {n m : Nat} (hk : KOk k) (kb : KB n m k) (hn : n ≤ 2600) (hm : m + m + 1 ≤ 2600) {z : T3} (e : near0 k = some z) : B 2600 z := by
  cases k with
  | none => cases e
  | all => cases e; exact B.mono (n := 3) (by decide) (by decide)
  | spot s => cases e; exact B.mono kb hn
  | line l =>
    cases e
    have kb : B m l := kb
    rw [along0]
    exact (low_B (ln_sq hk) (up_lt (by omega) (mul_lt kb.1 kb.2.2)) (up_lt (by omega) (mul_lt kb.2.1 kb.2.2)) (add_lt (mul_lt kb.1 kb.1) (mul_lt kb.2.1 kb.2.1))).mono hm
/-- a single arm is its own -/
theorem sng_single {c : Cp} {a : Am} (hc : CpOk c) (h : sng c = some a) : sng (jall [a]) = some a := by
  obtain ⟨o, e, _⟩ := sng_ok hc h
  rw [jall_one o, e]; exact h
/-- the level line of a spot -/
def lev (s : T3) : Am := ⟨s, (1, 0, 1), 0, 9, true⟩
theorem lev_ok {s : T3} (h : Ok s) : AmOk (lev s) := ⟨h, ok_1, .inl (show (1 : Int) ≠ 0 by decide), (by show (0 : Int) ≤ 0; decide), (by show (0 : Int) ≤ 9; decide), (by show (9 : Int) ≤ 1000; decide)⟩
theorem lev_meet {s : T3} (h : Ok s) : meet (jall [lev s]) still = .line (lf (0, s.2.2, s.2.1)) := by
  have oa := lev_ok h
  have oc := about_ok oa
  have hn : (0, s.2.2, s.2.1).1 ≠ (0 : Int) ∨ (0, s.2.2, s.2.1).2.1 ≠ (0 : Int) := .inr h.ne
  rw [jall_one oa]
  refine ks_ext (meet_ok _ _) (lf_ln hn) fun z hz => ?_
  rw [meet_mem oc still_ok hz, ap_still hz]
  show _ ↔ on (lf (0, s.2.2, s.2.1)) z
  rw [lf_on hn z, on_iff hz]
  have n := cast_ne h.ne
  have ei : im s = (s.2.1 : Rat) / (s.2.2 : Rat) := rfl
  have e1 : re (ap (about (lev s)) z) = re z := by
    unfold ap; rw [re_car oc.t oc.s hz]; unfold about lev; dsimp only; rw [re_sh h ok_1, re_1, im_1]; grind
  have e2 : im (ap (about (lev s)) z) = 2 * im s - im z := by
    unfold ap; rw [im_car oc.t oc.s hz]; unfold about lev; dsimp only; rw [im_sh h ok_1, re_1, im_1]; grind
  have z0 : (((0 : Int)) : Rat) = 0 := rfl
  dsimp only
  rw [z0]
  constructor
  · intro e
    have := congrArg im e
    rw [e2] at this
    grind
  · intro e
    refine ext (ap_ok oc hz) hz e1 ?_
    rw [e2]
    grind
theorem lev_pole {s : T3} (h : Ok s) {a : Am} (e : sng (jall [lev s]) = some a) : a.pole = low 0 s.2.1 s.2.2 := by
  obtain ⟨_, _, h3, _⟩ := sng_ok (jall_ok fun b hb => by rw [List.mem_singleton.mp hb]; exact lev_ok h) e
  rw [lev_meet h] at h3
  have h3 := Option.some.inj h3
  rw [← h3]
  have hn : (0, s.2.2, s.2.1).1 ≠ (0 : Int) ∨ (0, s.2.2, s.2.1).2.1 ≠ (0 : Int) := .inr h.ne
  have hl := lf_ln hn
  have hm := lf_mul (0, s.2.2, s.2.1)
  have sn := sgl_ne (c := s.2.1) hn
  dsimp only at hm sn
  have l1 : (lf (0, s.2.2, s.2.1)).1 = 0 := by
    rcases Int.mul_eq_zero.mp hm.1.symm with z | z
    · exact absurd z sn
    · exact z
  have on1 := along_on hl 0
  rw [lf_on hn, on_iff (along_ok hl 0)] at on1
  have n := cast_ne h.ne
  refine ext (along_ok hl 0) (low_ok h.ne) ?_ ?_
  · rw [along_re hl, low_re h.ne, l1]
    simp only [Int.zero_mul, Int.add_zero, Rat.intCast_zero, Rat.div_def, Rat.zero_mul]
  · rw [low_im h.ne]
    have z0 : (((0 : Int)) : Rat) = 0 := rfl
    dsimp only at on1
    rw [z0] at on1
    grind
theorem lev_some {s : T3} (h : Ok s) : ∃ a, sng (jall [lev s]) = some a := by
  unfold sng
  rw [lev_meet h]
  exact ⟨_, rfl⟩
end Mth
namespace Mth
/-! ### fractions -/
def val (a : Int × Int) : Rat := (a.1 : Rat) / (a.2 : Rat)
def lessF (a b : Int × Int) : Bool := decide (a.1 * b.2 < b.1 * a.2)
theorem div_lt {a b c d : Rat} (hb : 0 < b) (hd : 0 < d) : a / b < c / d ↔ a * d < c * b := by
  have e1 : a / b * (b * d) = a * d := by grind
  have e2 : c / d * (b * d) = c * b := by grind
  have p : 0 < b * d := Rat.mul_pos hb hd
  rw [← e1, ← e2]
  exact (Rat.mul_lt_mul_right p).symm
theorem cast_pos {a : Int} (h : 0 < a) : (0 : Rat) < (a : Rat) := by exact_mod_cast h
theorem lessF_iff {a b : Int × Int} (ha : 0 < a.2) (hb : 0 < b.2) : lessF a b = decide (val a < val b) := by
  unfold lessF val
  have h := div_lt (a := (a.1 : Rat)) (c := (b.1 : Rat)) (cast_pos ha) (cast_pos hb)
  have e : (a.1 : Rat) * (b.2 : Rat) < (b.1 : Rat) * (a.2 : Rat) ↔ a.1 * b.2 < b.1 * a.2 := by
    rw [← Rat.intCast_mul, ← Rat.intCast_mul]
    exact Rat.intCast_lt_intCast
  rw [decide_eq_decide]
  exact (h.trans e).symm
theorem fr_pos {p q : Int} (hq : q ≠ 0) : 0 < (fr p q).2 := low_pos hq
theorem fr_val {p q : Int} (hq : q ≠ 0) : val (fr p q) = (p : Rat) / (q : Rat) := low_re (y := 0) hq
theorem gr_val {t : T3} (h : Ok t) : val (gr t) = nn t := by
  have := re_gr3 h
  rw [gr3_eq] at this
  exact this
theorem gr_p2 {t : T3} (h : Ok t) : 0 < (gr t).2 := low_pos (mul_ne h.ne h.ne)
theorem gr_congr {s t : T3} (hs : Ok s) (ht : Ok t) (h : nn s = nn t) : gr s = gr t := by
  have e : gr3 s = gr3 t := ext (gr3_ok hs) (gr3_ok ht) (by rw [re_gr3 hs, re_gr3 ht, h]) (by rw [im_gr3 hs, im_gr3 ht])
  rw [gr3_eq, gr3_eq] at e
  have x1 := congrArg (fun z : T3 => z.1) e
  have x2 := congrArg (fun z : T3 => z.2.2) e
  dsimp only at x1 x2
  exact Prod.ext x1 x2
/-! ### zones -/
theorem nn_ap {c : Cp} {z u : T3} (hc : CpOk c) (hz : Ok z) (hu : Ok u) : nn (minus (ap c z) (ap c u)) = nn c.t * nn (minus z u) := by
  unfold nn
  rw [re_minus (ap_ok hc hz) (ap_ok hc hu), im_minus (ap_ok hc hz) (ap_ok hc hu), re_minus hz hu, im_minus hz hu]
  unfold ap
  rw [re_car hc.t hc.s hz, re_car hc.t hc.s hu, im_car hc.t hc.s hz, im_car hc.t hc.s hu]
  cases c.m <;> simp only [if_true, if_false, Bool.false_eq_true] <;> grind
def zfr (c : Cp) (n : Int) : Int × Int := fr (n * n * (gr c.t).2) (gr c.t).1
theorem nn_pos {t : T3} (h : Ok t) (n : Nz t) : 0 < nn t := by
  rw [← gr_val h]
  obtain ⟨p1, p2⟩ := gr_pos h n
  unfold val
  have h := (div_lt (a := 0) (b := 1) (c := ((gr t).1 : Rat)) (by decide) (cast_pos p2)).mpr (by rw [Rat.zero_mul, Rat.mul_one]; exact cast_pos p1)
  have e : (0 : Rat) / 1 = 0 := by grind
  rw [e] at h
  exact h
theorem zfr_p2 {c : Cp} (hc : CpOk c) (n : Int) : 0 < (zfr c n).2 := fr_pos (by have := (gr_pos hc.t hc.n).1; omega)
theorem zfr_val {c : Cp} (hc : CpOk c) (n : Int) : val (zfr c n) * nn c.t = (n : Rat) * (n : Rat) := by
  obtain ⟨p1, p2⟩ := gr_pos hc.t hc.n
  unfold zfr
  rw [fr_val (by omega), ← gr_val hc.t]
  unfold val
  have c1 := cast_ne (show (gr c.t).1 ≠ 0 by omega)
  have c2 := cast_ne (show (gr c.t).2 ≠ 0 by omega)
  simp only [Rat.intCast_mul]
  grind
theorem val1 (n : Int) : val (n, 1) = (n : Rat) := by unfold val; dsimp only; simp only [Rat.intCast_one]; grind
theorem lt_mul {x y g : Rat} (hg : 0 < g) : x < y ↔ g * x < y * g := by
  rw [Rat.mul_comm g x]; exact (Rat.mul_lt_mul_right hg).symm
theorem lt_mul' {x y g : Rat} (hg : 0 < g) : x < y ↔ x * g < g * y := by
  rw [Rat.mul_comm g y]; exact (Rat.mul_lt_mul_right hg).symm
theorem zone1 {c : Cp} {z p : T3} (hc : CpOk c) (hz : Ok z) (hp : Ok p) (n : Int) : lessF (gr (minus z (ap (bk c) p))) (zfr c n) = lessF (gr (minus (ap c z) p)) (n * n, 1) := by
  have hu := ap_ok (bk_ok hc) hp
  have e := nn_ap hc hz hu
  rw [ap_bk hc hp] at e
  have o1 := minus_ok hz hu
  have o2 := minus_ok (ap_ok hc hz) hp
  rw [lessF_iff (gr_p2 o1) (zfr_p2 hc n), lessF_iff (gr_p2 o2) (show (0 : Int) < 1 by decide), gr_val o1, gr_val o2, val1, e]
  rw [decide_eq_decide, lt_mul (nn_pos hc.t hc.n), zfr_val hc, ← Rat.intCast_mul]
theorem zone2 {c : Cp} {z p : T3} (hc : CpOk c) (hz : Ok z) (hp : Ok p) (n : Int) : lessF (zfr c n) (gr (minus z (ap (bk c) p))) = lessF (n * n, 1) (gr (minus (ap c z) p)) := by
  have hu := ap_ok (bk_ok hc) hp
  have e := nn_ap hc hz hu
  rw [ap_bk hc hp] at e
  have o1 := minus_ok hz hu
  have o2 := minus_ok (ap_ok hc hz) hp
  rw [lessF_iff (zfr_p2 hc n) (gr_p2 o1), lessF_iff (show (0 : Int) < 1 by decide) (gr_p2 o2), gr_val o1, gr_val o2, val1, e]
  rw [decide_eq_decide, lt_mul' (nn_pos hc.t hc.n), zfr_val hc, ← Rat.intCast_mul]
def inF (d lo hi : Int × Int) : Bool := !lessF d lo && !lessF hi d
def rch (a : Am) (z : T3) : Bool := inF (gr (minus z a.pole)) (a.near * a.near, 1) (a.far * a.far, 1)
/-- the zone of an arm behind a copy -/
def zctr (c : Cp) (a : Am) : T3 := ap (bk c) a.pole
theorem zone_in {c : Cp} {a : Am} {z : T3} (hc : CpOk c) (ha : AmOk a) (hz : Ok z) : inF (gr (minus z (zctr c a))) (zfr c a.near) (zfr c a.far) = rch a (ap c z) := by
  unfold inF rch zctr inF
  rw [zone1 hc hz ha.p, zone2 hc hz ha.p]
structure Zn where
  ctr : T3
  lo : Int × Int
  hi : Int × Int
def zn (c : Cp) (a : Am) : Zn := ⟨zctr c a, zfr c a.near, zfr c a.far⟩
def zl : Cp → List Am → List Zn
  | _, [] => []
  | c, a :: as => zn c a :: zl (jn c (about a)) as
theorem zl_len : ∀ (c : Cp) (as : List Am), (zl c as).length = as.length
  | _, [] => rfl
  | c, a :: as => by unfold zl; rw [List.length_cons, List.length_cons, zl_len]
theorem zl_at : ∀ {as : List Am} {c : Cp} {i : Nat} {a : Am}, as[i]? = some a → (zl c as)[i]? = some (zn ((as.take i).foldl (fun c a => jn c (about a)) c) a)
  | [], c, i, a, h => by simp at h
  | b :: as, c, 0, a, h => by simp at h; subst h; rfl
  | b :: as, c, i + 1, a, h => by
    have h' : as[i]? = some a := by simpa using h
    have z := zl_at (c := jn c (about b)) h'
    unfold zl
    simpa using z
def zns (as : List Am) : List Zn := zl still as
theorem zns_at {as : List Am} {i : Nat} {a : Am} (h : as[i]? = some a) : (zns as)[i]? = some (zn (jall (as.take i)) a) := zl_at h
theorem zns_len (as : List Am) : (zns as).length = as.length := zl_len _ _
def FB (n : Nat) (f : Int × Int) : Prop := f.1.natAbs < 2 ^ n ∧ f.2.natAbs < 2 ^ n
theorem FB.mono {n m : Nat} {f : Int × Int} (h : FB n f) (e : n ≤ m) : FB m f := ⟨up_lt e h.1, up_lt e h.2⟩
theorem fr_FB {p q : Int} {n : Nat} (hq : q ≠ 0) (h1 : p.natAbs < 2 ^ n) (h2 : q.natAbs < 2 ^ n) : FB n (fr p q) := by
  have b := low_B (y := 0) hq h1 (by show 0 < 2 ^ n; exact Nat.pos_of_ne_zero (by simp)) h2
  exact ⟨b.1, b.2.2⟩
theorem gr_FB {t : T3} {n : Nat} (h : Ok t) (b : B n t) : FB (n + n + 1) (gr t) := fr_FB (mul_ne h.ne h.ne) (add_lt (mul_lt b.1 b.1) (mul_lt b.2.1 b.2.1)) (up_lt (by omega) (mul_lt b.2.2 b.2.2))
theorem nn_jt {c : Cp} {a : Am} (hc : CpOk c) (ha : AmOk a) : nn (jn c (about a)).t = nn c.t * nn a.t := by
  show nn (times a.t (face c.t a.m)) = _
  rw [nn_times ha.t (face_ok hc.t _), nn_face]; grind
end Mth
namespace Mth
/-! ### copies that carry pairs of spots -/
abbrev Pr := T3 × T3
def crC (s g : T3) (o : Pr) (m : Bool) : Cp := ⟨times (minus o.2 g) (inv (face (minus o.1 s) m)), minus g (times (times (minus o.2 g) (inv (face (minus o.1 s) m))) (face s m)), m⟩
def crb (prs : List Pr) (h o : Pr) (m : Bool) : List Cp := if (crC h.1 h.2 o m).t = (0, 0, 1) then [] else if prs.any (fun p => !decide (ap (crC h.1 h.2 o m) p.1 = p.2)) = true then [] else [crC h.1 h.2 o m]
def oth (prs : List Pr) (h : Pr) : List Pr := prs.filter fun p => !decide (p.1 = h.1)
def crs (prs : List Pr) (h o : Pr) : List Cp := crb prs h o false ++ crb prs h o true
structure PrOk (p : Pr) : Prop where
  a : Ok p.1
  b : Ok p.2
theorem sq_nonneg (x : Rat) : 0 ≤ x * x := by
  rcases Rat.le_total (a := 0) (b := x) with c | c
  · exact Rat.mul_nonneg c c
  · have d : 0 ≤ -x := by grind
    have := Rat.mul_nonneg d d
    grind
theorem sq_zero {x y : Rat} (e : x * x + y * y = 0) : x = 0 ∧ y = 0 := by
  have p := sq_nonneg x
  have q := sq_nonneg y
  have ex : x * x = 0 := by grind
  have ey : y * y = 0 := by grind
  constructor
  · rcases Rat.mul_eq_zero.mp ex with c | c <;> exact c
  · rcases Rat.mul_eq_zero.mp ey with c | c <;> exact c
/-- two ways to carry -/
theorem two_ways {a b a' b' u v x y : Rat} (e1 : a * u - b * v = a' * u + b' * v) (e2 : a * v + b * u = b' * u - a' * v) (e3 : a * x - b * y = a' * x + b' * y) (e4 : a * y + b * x = b' * x - a' * y) (k : a * a + b * b ≠ 0) (w : u * u + v * v ≠ 0) : x * v = y * u := by
  have f1 : a' * (u * u + v * v) = (a * u - b * v) * u - (a * v + b * u) * v := by rw [e1, e2]; grind
  have f2 : b' * (u * u + v * v) = (a * u - b * v) * v + (a * v + b * u) * u := by rw [e1, e2]; grind
  have g1 : (a * x - b * y) * (u * u + v * v) = a' * (u * u + v * v) * x + b' * (u * u + v * v) * y := by rw [e3]; grind
  have g2 : (a * y + b * x) * (u * u + v * v) = b' * (u * u + v * v) * x - a' * (u * u + v * v) * y := by rw [e4]; grind
  rw [f1, f2] at g1 g2
  have h1 : (a * v + b * u) * (x * v - y * u) = 0 := by grind
  have h2 : (b * v - a * u) * (x * v - y * u) = 0 := by grind
  have h3 : ((a * a + b * b) * (u * u + v * v)) * (x * v - y * u) = 0 := by
    have : ((a * a + b * b) * (u * u + v * v)) * (x * v - y * u) = (a * v + b * u) * ((a * v + b * u) * (x * v - y * u)) + (b * v - a * u) * ((b * v - a * u) * (x * v - y * u)) := by grind
    rw [this, h1, h2]; grind
  rcases Rat.mul_eq_zero.mp h3 with c | c
  · rcases Rat.mul_eq_zero.mp c with c | c
    · exact absurd c k
    · exact absurd c w
  · grind
theorem minus_ne {a b : T3} (ha : Ok a) (hb : Ok b) (h : a ≠ b) : Nz (minus a b) := (nz_iff (minus_ok ha hb)).mpr fun e => by
  unfold nn at e
  rw [re_minus ha hb, im_minus ha hb] at e
  obtain ⟨h1, h2⟩ := sq_zero e
  exact h (ext ha hb (by grind) (by grind))
theorem zero_of {t : T3} (h : Ok t) (z : ¬ Nz t) : t = (0, 0, 1) := by
  unfold Nz at z
  refine ext h ok_0 ?_ ?_
  · rw [re_0]; unfold re; rw [show t.1 = 0 by omega]; simp only [Rat.intCast_zero, Rat.div_def, Rat.zero_mul]
  · rw [im_0]; unfold im; rw [show t.2.1 = 0 by omega]; simp only [Rat.intCast_zero, Rat.div_def, Rat.zero_mul]
section
variable {h o : Pr} {m : Bool} (ph : PrOk h) (po : PrOk o) (hn : o.1 ≠ h.1)
include ph po hn
theorem st_nz : Nz (face (minus o.1 h.1) m) := face_nz (minus_ok po.a ph.a) (minus_ne po.a ph.a hn) m
theorem crC_t : Ok (crC h.1 h.2 o m).t := times_ok (minus_ok po.b ph.b) (inv_ok (st_nz ph po hn))
theorem crC_s : Ok (crC h.1 h.2 o m).s := minus_ok ph.b (times_ok (crC_t ph po hn) (face_ok ph.a m))
theorem crC_ok (z : (crC h.1 h.2 o m).t ≠ (0, 0, 1)) : CpOk (crC h.1 h.2 o m) := ⟨crC_t ph po hn, Classical.byContradiction fun c => z (zero_of (crC_t ph po hn) c), crC_s ph po hn⟩
/-- the only one -/
theorem crC_uniq {c : Cp} (hc : CpOk c) (hm : c.m = m) (e1 : ap c h.1 = h.2) (e2 : ap c o.1 = o.2) : crC h.1 h.2 o m = c := by
  have n1 := st_nz (m := m) ph po hn
  have os := face_ok (minus_ok po.a ph.a) m
  have nn0 := nn_ne os n1
  have a1 := congrArg re e1
  have a2 := congrArg im e1
  have b1 := congrArg re e2
  have b2 := congrArg im e2
  unfold ap at a1 a2 b1 b2
  rw [re_car hc.t hc.s ph.a] at a1
  rw [im_car hc.t hc.s ph.a] at a2
  rw [re_car hc.t hc.s po.a] at b1
  rw [im_car hc.t hc.s po.a] at b2
  have ot : Ok (times (minus o.2 h.2) (inv (face (minus o.1 h.1) m))) := times_ok (minus_ok po.b ph.b) (inv_ok n1)
  have t1 : times (minus o.2 h.2) (inv (face (minus o.1 h.1) m)) = c.t := by
    have en : nn (face (minus o.1 h.1) m) = (re o.1 - re h.1) * (re o.1 - re h.1) + (im o.1 - im h.1) * (im o.1 - im h.1) := by
      rw [nn_face]; unfold nn; rw [re_minus po.a ph.a, im_minus po.a ph.a]
    refine ext ot hc.t ?_ ?_
    · rw [re_times (minus_ok po.b ph.b) (inv_ok n1), re_inv os n1, im_inv os n1, re_minus po.b ph.b, im_minus po.b ph.b, re_face, im_face, re_minus po.a ph.a, im_minus po.a ph.a]
      rw [en] at nn0 ⊢
      rw [hm] at a1 a2 b1 b2
      cases m <;> simp only [if_true, if_false, Bool.false_eq_true] at * <;> grind
    · rw [im_times (minus_ok po.b ph.b) (inv_ok n1), re_inv os n1, im_inv os n1, re_minus po.b ph.b, im_minus po.b ph.b, re_face, im_face, re_minus po.a ph.a, im_minus po.a ph.a]
      rw [en] at nn0 ⊢
      rw [hm] at a1 a2 b1 b2
      cases m <;> simp only [if_true, if_false, Bool.false_eq_true] at * <;> grind
  have e : crC h.1 h.2 o m = ⟨c.t, minus h.2 (times c.t (face h.1 m)), m⟩ := by unfold crC; rw [t1]
  rw [e]
  refine cp_ext (a := ⟨c.t, minus h.2 (times c.t (face h.1 m)), m⟩) ⟨hc.t, hc.n, minus_ok ph.b (times_ok hc.t (face_ok ph.a m))⟩ hc rfl rfl ?_ ?_ hm.symm
  · show re (minus h.2 (times c.t (face h.1 m))) = _
    rw [re_minus ph.b (times_ok hc.t (face_ok ph.a m)), re_times hc.t (face_ok ph.a m), re_face, im_face]
    rw [hm] at a1; grind
  · show im (minus h.2 (times c.t (face h.1 m))) = _
    rw [im_minus ph.b (times_ok hc.t (face_ok ph.a m)), im_times hc.t (face_ok ph.a m), re_face, im_face]
    rw [hm] at a2; grind
theorem crb_mem {prs : List Pr} (hh : h ∈ prs) (ho : o ∈ prs) {c : Cp} : c ∈ crb prs h o m ↔ (CpOk c ∧ c.m = m ∧ ∀ p ∈ prs, ap c p.1 = p.2) := by
  unfold crb
  constructor
  · intro hc
    split at hc
    · cases hc
    · rename_i z
      split at hc
      · cases hc
      · rename_i a
        rw [List.mem_singleton.mp hc]
        refine ⟨crC_ok ph po hn z, rfl, fun p hp => ?_⟩
        have a' : prs.any (fun p => !decide (ap (crC h.1 h.2 o m) p.1 = p.2)) = false := by simpa using a
        have := List.any_eq_false.mp a' p hp
        simpa using this
  · rintro ⟨hc, hm, hp⟩
    have e := crC_uniq ph po hn hc hm (hp h hh) (hp o ho)
    rw [e]
    rw [if_neg (fun z => by have := hc.n; rw [z] at this; rcases this with n | n <;> exact n rfl)]
    rw [if_neg (by
      intro a
      obtain ⟨p, h1, h2⟩ := List.any_eq_true.mp a
      simp [hp p h1] at h2)]
    exact List.mem_singleton.mpr rfl
theorem crb_len {prs : List Pr} : (crb prs h o m).length ≤ 1 := by
  unfold crb
  split
  · simp
  · split <;> simp
end
/-- all in one line -/
def flatP (h o p : Pr) : Prop := (minus p.1 h.1).1 * (minus o.1 h.1).2.1 = (minus p.1 h.1).2.1 * (minus o.1 h.1).1
theorem flat_iff {h o p : Pr} (ph : PrOk h) (po : PrOk o) (pp : PrOk p) : flatP h o p ↔ (re p.1 - re h.1) * (im o.1 - im h.1) = (im p.1 - im h.1) * (re o.1 - re h.1) := by
  have o1 := minus_ok pp.a ph.a
  have o2 := minus_ok po.a ph.a
  rw [← re_minus pp.a ph.a, ← im_minus pp.a ph.a, ← re_minus po.a ph.a, ← im_minus po.a ph.a]
  unfold flatP
  generalize minus p.1 h.1 = a at *
  generalize minus o.1 h.1 = b at *
  have na := cast_ne o1.ne
  have nb := cast_ne o2.ne
  unfold re im
  constructor
  · intro e
    have e' : ((a.1 * b.2.1 : Int) : Rat) = ((a.2.1 * b.1 : Int) : Rat) := by rw [e]
    simp only [Rat.intCast_mul] at e'
    grind
  · intro e
    have e' : ((a.1 * b.2.1 : Int) : Rat) = ((a.2.1 * b.1 : Int) : Rat) := by
      simp only [Rat.intCast_mul]
      grind
    exact_mod_cast e'
section
variable {h o : Pr} (ph : PrOk h) (po : PrOk o) (hn : o.1 ≠ h.1)
include ph po hn
theorem wn : (re o.1 - re h.1) * (re o.1 - re h.1) + (im o.1 - im h.1) * (im o.1 - im h.1) ≠ 0 := by
  have := nn_ne (minus_ok po.a ph.a) (minus_ne po.a ph.a hn)
  unfold nn at this
  rwa [re_minus po.a ph.a, im_minus po.a ph.a] at this
/-- carried the other way round, where all is in one line -/
theorem flat_both {prs : List Pr} (hh : h ∈ prs) (ho : o ∈ prs) (ok : ∀ p ∈ prs, PrOk p) (fl : ∀ p ∈ prs, flatP h o p) (m : Bool) {c : Cp} (hc : c ∈ crb prs h o m) : crb prs h o (!m) ≠ [] := by
  obtain ⟨oc, cm, cp⟩ := (crb_mem ph po hn hh ho).mp hc
  intro em
  have w := wn ph po hn
  have ot := crC_t (m := !m) ph po hn
  have n1 := st_nz (m := !m) ph po hn
  have os := face_ok (minus_ok po.a ph.a) (!m)
  have nn0 := nn_ne os n1
  have en : nn (face (minus o.1 h.1) (!m)) = (re o.1 - re h.1) * (re o.1 - re h.1) + (im o.1 - im h.1) * (im o.1 - im h.1) := by
    rw [nn_face]; unfold nn; rw [re_minus po.a ph.a, im_minus po.a ph.a]
  have a1 := congrArg re (cp h hh)
  have a2 := congrArg im (cp h hh)
  have b1 := congrArg re (cp o ho)
  have b2 := congrArg im (cp o ho)
  unfold ap at a1 a2 b1 b2
  rw [re_car oc.t oc.s ph.a, cm] at a1
  rw [im_car oc.t oc.s ph.a, cm] at a2
  rw [re_car oc.t oc.s po.a, cm] at b1
  rw [im_car oc.t oc.s po.a, cm] at b2
  have rt : re (crC h.1 h.2 o (!m)).t = ((re o.2 - re h.2) * (re o.1 - re h.1) + (im o.2 - im h.2) * ((if (!m) = true then -1 else 1) * (im o.1 - im h.1))) / ((re o.1 - re h.1) * (re o.1 - re h.1) + (im o.1 - im h.1) * (im o.1 - im h.1)) := by
    show re (times _ _) = _
    rw [re_times (minus_ok po.b ph.b) (inv_ok n1), re_inv os n1, im_inv os n1, en, re_minus po.b ph.b, im_minus po.b ph.b, re_face, im_face, re_minus po.a ph.a, im_minus po.a ph.a]
    grind
  have it : im (crC h.1 h.2 o (!m)).t = ((im o.2 - im h.2) * (re o.1 - re h.1) - (re o.2 - re h.2) * ((if (!m) = true then -1 else 1) * (im o.1 - im h.1))) / ((re o.1 - re h.1) * (re o.1 - re h.1) + (im o.1 - im h.1) * (im o.1 - im h.1)) := by
    show im (times _ _) = _
    rw [im_times (minus_ok po.b ph.b) (inv_ok n1), re_inv os n1, im_inv os n1, en, re_minus po.b ph.b, im_minus po.b ph.b, re_face, im_face, re_minus po.a ph.a, im_minus po.a ph.a]
    grind
  have nt : (crC h.1 h.2 o (!m)).t ≠ (0, 0, 1) := fun z => by
    have z1 := congrArg re z
    have z2 := congrArg im z
    rw [re_0] at z1
    rw [im_0] at z2
    have k := nn_ne oc.t oc.n
    unfold nn at k
    rw [rt] at z1
    rw [it] at z2
    cases m <;> simp only [Bool.not_true, Bool.not_false, if_true, if_false, Bool.false_eq_true] at * <;> grind
  have oc' := crC_ok ph po hn nt
  have key : crC h.1 h.2 o (!m) ∈ crb prs h o (!m) := (crb_mem ph po hn hh ho).mpr ⟨oc', rfl, fun p hp => by
    have pp := ok p hp
    have f := (flat_iff ph po pp).mp (fl p hp)
    have c1 := congrArg re (cp p hp)
    have c2 := congrArg im (cp p hp)
    unfold ap at c1 c2
    rw [re_car oc.t oc.s pp.a, cm] at c1
    rw [im_car oc.t oc.s pp.a, cm] at c2
    have sre : re (crC h.1 h.2 o (!m)).s = re h.2 - (re (crC h.1 h.2 o (!m)).t * re h.1 - im (crC h.1 h.2 o (!m)).t * ((if (!m) = true then -1 else 1) * im h.1)) := by
      show re (minus h.2 (times (crC h.1 h.2 o (!m)).t (face h.1 (!m)))) = _
      rw [re_minus ph.b (times_ok ot (face_ok ph.a _)), re_times ot (face_ok ph.a _), re_face, im_face]
    have sim : im (crC h.1 h.2 o (!m)).s = im h.2 - (re (crC h.1 h.2 o (!m)).t * ((if (!m) = true then -1 else 1) * im h.1) + im (crC h.1 h.2 o (!m)).t * re h.1) := by
      show im (minus h.2 (times (crC h.1 h.2 o (!m)).t (face h.1 (!m)))) = _
      rw [im_minus ph.b (times_ok ot (face_ok ph.a _)), im_times ot (face_ok ph.a _), re_face, im_face]
    refine ext (ap_ok oc' pp.a) pp.b ?_ ?_
    · unfold ap
      rw [re_car oc'.t oc'.s pp.a, sre, rt, it]
      show _ - _ * ((if (!m) = true then -1 else 1) * _) + _ = _
      cases m <;> simp only [Bool.not_true, Bool.not_false, if_true, if_false, Bool.false_eq_true] at * <;> grind
    · unfold ap
      rw [im_car oc'.t oc'.s pp.a, sim, rt, it]
      show _ * ((if (!m) = true then -1 else 1) * _) + _ + _ = _
      cases m <;> simp only [Bool.not_true, Bool.not_false, if_true, if_false, Bool.false_eq_true] at * <;> grind⟩
  rw [em] at key
  cases key
/-- not both, where not all is in one line -/
theorem not_both {prs : List Pr} (hh : h ∈ prs) (ho : o ∈ prs) (ok : ∀ p ∈ prs, PrOk p) {c e : Cp} (hc : c ∈ crb prs h o false) (he : e ∈ crb prs h o true) : ∀ p ∈ prs, flatP h o p := by
  obtain ⟨oc, cm, cp⟩ := (crb_mem ph po hn hh ho).mp hc
  obtain ⟨oe, em, ep⟩ := (crb_mem ph po hn hh ho).mp he
  intro p hp
  have pp := ok p hp
  rw [flat_iff ph po pp]
  have rows : ∀ q : Pr, q ∈ prs → PrOk q → re c.t * re q.1 - im c.t * im q.1 + re c.s = re q.2 ∧ re c.t * im q.1 + im c.t * re q.1 + im c.s = im q.2 ∧ re e.t * re q.1 + im e.t * im q.1 + re e.s = re q.2 ∧ im e.t * re q.1 - re e.t * im q.1 + im e.s = im q.2 := fun q hq pq => by
    have c1 := congrArg re (cp q hq)
    have c2 := congrArg im (cp q hq)
    have e1 := congrArg re (ep q hq)
    have e2 := congrArg im (ep q hq)
    unfold ap at c1 c2 e1 e2
    rw [re_car oc.t oc.s pq.a, cm] at c1
    rw [im_car oc.t oc.s pq.a, cm] at c2
    rw [re_car oe.t oe.s pq.a, em] at e1
    rw [im_car oe.t oe.s pq.a, em] at e2
    simp only [if_true, if_false, Bool.false_eq_true] at c1 c2 e1 e2
    exact ⟨by grind, by grind, by grind, by grind⟩
  obtain ⟨h1, h2, h3, h4⟩ := rows h hh ph
  obtain ⟨o1, o2, o3, o4⟩ := rows o ho po
  obtain ⟨p1, p2, p3, p4⟩ := rows p hp pp
  have k := nn_ne oc.t oc.n
  unfold nn at k
  have w := wn ph po hn
  exact two_ways (a := re c.t) (b := im c.t) (a' := re e.t) (b' := im e.t) (u := re o.1 - re h.1) (v := im o.1 - im h.1) (x := re p.1 - re h.1) (y := im p.1 - im h.1) (by grind) (by grind) (by grind) (by grind) k w
/-- nothing is carried to one spot -/
theorem crb_one {prs : List Pr} (e : o.2 = h.2) (m : Bool) : crb prs h o m = [] := by
  unfold crb
  rw [if_pos]
  refine ext (crC_t ph po hn) ok_0 ?_ ?_
  · show re (times (minus o.2 h.2) (inv (face (minus o.1 h.1) m))) = _
    rw [re_times (minus_ok po.b ph.b) (inv_ok (st_nz ph po hn)), re_minus po.b ph.b, im_minus po.b ph.b, e, re_0]; grind
  · show im (times (minus o.2 h.2) (inv (face (minus o.1 h.1) m))) = _
    rw [im_times (minus_ok po.b ph.b) (inv_ok (st_nz ph po hn)), re_minus po.b ph.b, im_minus po.b ph.b, e, im_0]; grind
/-- one of them alone where all is in one line, both where not, is not so -/
theorem crs_flat {prs : List Pr} (hh : h ∈ prs) (ho : o ∈ prs) (ok : ∀ p ∈ prs, PrOk p) (fl : ∀ p ∈ prs, flatP h o p) : (crs prs h o).length ≠ 1 := by
  unfold crs
  rw [List.length_append]
  have l1 := crb_len (m := false) ph po hn (prs := prs)
  have l2 := crb_len (m := true) ph po hn (prs := prs)
  have b1 := fun c hc => flat_both ph po hn hh ho ok fl false (c := c) hc
  have b2 := fun c hc => flat_both ph po hn hh ho ok fl true (c := c) hc
  cases e1 : crb prs h o false with
  | nil =>
    cases e2 : crb prs h o true with
    | nil => simp
    | cons c r => exact absurd e1 (b2 c (by rw [e2]; exact List.mem_cons_self ..))
  | cons c r =>
    cases e2 : crb prs h o true with
    | nil => exact absurd e2 (b1 c (by rw [e1]; exact List.mem_cons_self ..))
    | cons d t =>
      simp only [List.length_cons]
      omega
theorem crs_two {prs : List Pr} (hh : h ∈ prs) (ho : o ∈ prs) (ok : ∀ p ∈ prs, PrOk p) (nf : ¬ ∀ p ∈ prs, flatP h o p) : (crs prs h o).length ≠ 2 := by
  unfold crs
  rw [List.length_append]
  have l1 := crb_len (m := false) ph po hn (prs := prs)
  have l2 := crb_len (m := true) ph po hn (prs := prs)
  cases e1 : crb prs h o false with
  | nil => rw [List.length_nil]; omega
  | cons c r =>
    cases e2 : crb prs h o true with
    | nil => rw [e1] at l1; rw [List.length_nil]; omega
    | cons d t => exact absurd (not_both ph po hn hh ho ok (c := c) (e := d) (by rw [e1]; exact List.mem_cons_self ..) (by rw [e2]; exact List.mem_cons_self ..)) nf
theorem crs_mem {prs : List Pr} (hh : h ∈ prs) (ho : o ∈ prs) {c : Cp} : c ∈ crs prs h o ↔ (CpOk c ∧ ∀ p ∈ prs, ap c p.1 = p.2) := by
  unfold crs
  rw [List.mem_append, crb_mem ph po hn hh ho, crb_mem ph po hn hh ho]
  constructor
  · rintro (⟨a, _, b⟩ | ⟨a, _, b⟩) <;> exact ⟨a, b⟩
  · rintro ⟨a, b⟩
    cases e : c.m with
    | false => exact .inl ⟨a, rfl, b⟩
    | true => exact .inr ⟨a, rfl, b⟩
theorem crs_flags {prs : List Pr} (hh : h ∈ prs) (ho : o ∈ prs) : (crs prs h o).map (·.m) ∈ [[], [false], [true], [false, true]] := by
  unfold crs
  have l1 := crb_len (m := false) ph po hn (prs := prs)
  have l2 := crb_len (m := true) ph po hn (prs := prs)
  have f1 := fun c (hc : c ∈ crb prs h o false) => ((crb_mem ph po hn hh ho).mp hc).2.1
  have f2 := fun c (hc : c ∈ crb prs h o true) => ((crb_mem ph po hn hh ho).mp hc).2.1
  match e1 : crb prs h o false, e2 : crb prs h o true with
  | [], [] => decide
  | [c], [] => rw [List.map_append]; simp only [List.map_cons, List.map_nil]; rw [f1 c (by rw [e1]; exact List.mem_cons_self ..)]; decide
  | [], [d] => rw [List.map_append]; simp only [List.map_cons, List.map_nil]; rw [f2 d (by rw [e2]; exact List.mem_cons_self ..)]; decide
  | [c], [d] => rw [List.map_append]; simp only [List.map_cons, List.map_nil]; rw [f1 c (by rw [e1]; exact List.mem_cons_self ..), f2 d (by rw [e2]; exact List.mem_cons_self ..)]; decide
  | _ :: _ :: _, _ => rw [e1] at l1; simp at l1
  | _, _ :: _ :: _ => rw [e2] at l2; simp at l2
end
end Mth
namespace Mth
/-! ### areas -/
def crs2 (a b : T3) : Rat := re a * im b - re b * im a
/-- twice what is swept along a stroke -/
def sw : List T3 → Rat
  | a :: b :: r => crs2 a b + sw (b :: r)
  | _ => 0
theorem sw_join : ∀ (l : List T3) (a : T3) (r : List T3), sw (l ++ a :: r) = sw (l ++ [a]) + sw (a :: r)
  | [], a, r => by
    show sw (a :: r) = 0 + sw (a :: r)
    grind
  | [x], a, r => by
    show crs2 x a + sw (a :: r) = (crs2 x a + 0) + sw (a :: r)
    grind
  | x :: y :: l, a, r => by
    show crs2 x y + sw (y :: l ++ a :: r) = (crs2 x y + sw (y :: l ++ [a])) + sw (a :: r)
    rw [sw_join (y :: l) a r]
    grind
theorem sw_rev : ∀ l : List T3, sw l.reverse = - sw l
  | [] => by show (0 : Rat) = -0; grind
  | [a] => by show (0 : Rat) = -0; grind
  | a :: b :: r => by
    rw [List.reverse_cons, List.reverse_cons, List.append_assoc]
    show sw (r.reverse ++ b :: [a]) = _
    rw [sw_join r.reverse b [a], ← List.reverse_cons, sw_rev (b :: r)]
    show -sw (b :: r) + (crs2 b a + 0) = -(crs2 a b + sw (b :: r))
    unfold crs2
    grind
/-- begun elsewhere -/
theorem sw_turn (p0 x : T3) (pre suf : List T3) (hc : (x :: suf).getLast? = some p0) : sw (x :: suf ++ (pre ++ [x])) = sw (p0 :: pre ++ x :: suf) := by
  obtain ⟨m, hm⟩ := List.getLast?_eq_some_iff.mp hc
  have e1 : x :: suf ++ (pre ++ [x]) = m ++ p0 :: (pre ++ [x]) := by rw [hm, List.append_assoc]; rfl
  rw [e1, sw_join m p0 (pre ++ [x]), ← hm]
  have e2 := sw_join (p0 :: pre) x suf
  rw [e2]
  show sw (x :: suf) + sw (p0 :: pre ++ [x]) = _
  grind
/-- one part more -/
def stF (f : Int × Int) (a b : T3) : Int × Int := fr (f.1 * 2 * a.2.2 * b.2.2 + (a.1 * b.2.1 - b.1 * a.2.1) * f.2) (f.2 * 2 * a.2.2 * b.2.2)
def aF : Int × Int → List T3 → Int × Int
  | f, a :: b :: r => aF (stF f a b) (b :: r)
  | f, _ => f
theorem stF_ne {f : Int × Int} {a b : T3} (hf : 0 < f.2) (ha : Ok a) (hb : Ok b) : f.2 * 2 * a.2.2 * b.2.2 ≠ 0 := mul_ne (mul_ne (mul_ne (by omega) (by decide)) ha.ne) hb.ne
theorem stF_pos {f : Int × Int} {a b : T3} (hf : 0 < f.2) (ha : Ok a) (hb : Ok b) : 0 < (stF f a b).2 := fr_pos (stF_ne hf ha hb)
theorem stF_val {f : Int × Int} {a b : T3} (hf : 0 < f.2) (ha : Ok a) (hb : Ok b) : val (stF f a b) = val f + crs2 a b / 2 := by
  unfold stF
  rw [fr_val (stF_ne hf ha hb)]
  unfold val crs2 re im
  have h1 : (f.2 : Rat) ≠ 0 := by intro z; have := Rat.intCast_eq_zero_iff.mp z; omega
  have h2 : (a.2.2 : Rat) ≠ 0 := by intro z; exact ha.ne (Rat.intCast_eq_zero_iff.mp z)
  have h3 : (b.2.2 : Rat) ≠ 0 := by intro z; exact hb.ne (Rat.intCast_eq_zero_iff.mp z)
  simp only [Rat.intCast_add, Rat.intCast_mul, Rat.intCast_sub]
  grind
theorem aF_val : ∀ (l : List T3) (f : Int × Int), 0 < f.2 → (∀ x ∈ l, Ok x) → val (aF f l) = val f + sw l / 2
  | [], f, _, _ => by
    show val f = val f + 0 / 2
    grind
  | [a], f, _, _ => by
    show val f = val f + 0 / 2
    grind
  | a :: b :: r, f, hf, ok => by
    have oa := ok a (List.mem_cons_self ..)
    have ob := ok b (List.mem_cons_of_mem _ (List.mem_cons_self ..))
    show val (aF (stF f a b) (b :: r)) = val f + (crs2 a b + sw (b :: r)) / 2
    rw [aF_val (b :: r) (stF f a b) (stF_pos hf oa ob) (fun x hx => ok x (List.mem_cons_of_mem _ hx)), stF_val hf oa ob]
    grind
theorem aF_more : ∀ (l : List T3) (f : Int × Int) (i : Nat) (a b : T3), l[i]? = some a → l[i + 1]? = some b → aF f (l.take (i + 2)) = stF (aF f (l.take (i + 1))) a b
  | [], f, i, a, b, h, _ => by simp at h
  | [x], f, i, a, b, h, h2 => by simp at h2
  | x :: y :: r, f, 0, a, b, h, h2 => by
    cases h
    cases h2
    rfl
  | x :: y :: r, f, i + 1, a, b, h, h2 => by
    show aF (stF f x y) ((y :: r).take (i + 2)) = stF (aF (stF f x y) ((y :: r).take (i + 1))) a b
    exact aF_more (y :: r) (stF f x y) i a b h h2
theorem stF_num {n : Nat} {f : Int × Int} {a b : T3} (hf : FB n f) (ba : B 100 a) (bb : B 100 b) : (f.1 * 2 * a.2.2 * b.2.2 + (a.1 * b.2.1 - b.1 * a.2.1) * f.2).natAbs < 2 ^ (n + 204) := by
  have h2 : (2 : Int).natAbs < 2 ^ 2 := by decide
  have p1 := mul_lt (mul_lt (mul_lt hf.1 h2) ba.2.2) bb.2.2
  have p2 := mul_lt (sub_lt (mul_lt ba.1 bb.2.1) (mul_lt bb.1 ba.2.1)) hf.2
  exact up_lt (by omega) (add_lt (up_lt (m := n + 203) (by omega) p1) (up_lt (m := n + 203) (by omega) p2))
theorem stF_den {n : Nat} {f : Int × Int} {a b : T3} (hf : FB n f) (ba : B 100 a) (bb : B 100 b) : (f.2 * 2 * a.2.2 * b.2.2).natAbs < 2 ^ (n + 204) := by
  have h2 : (2 : Int).natAbs < 2 ^ 2 := by decide
  exact up_lt (by omega) (mul_lt (mul_lt (mul_lt hf.2 h2) ba.2.2) bb.2.2)
theorem stF_FB {n : Nat} {f : Int × Int} {a b : T3} (h0 : 0 < f.2) (oa : Ok a) (ob : Ok b) (hf : FB n f) (ba : B 100 a) (bb : B 100 b) : FB (n + 204) (stF f a b) := fr_FB (stF_ne h0 oa ob) (stF_num hf ba bb) (stF_den hf ba bb)
def sgn (m : Bool) : Rat := if m = true then -1 else 1
/-- what a shift adds at one end -/
def endL (c : Cp) (z : T3) : Rat := re c.s * (im (ap c z)) - im c.s * (re (ap c z))
theorem crs2_ap {c : Cp} (hc : CpOk c) {a b : T3} (ha : Ok a) (hb : Ok b) : crs2 (ap c a) (ap c b) = sgn c.m * nn c.t * crs2 a b + (endL c b - endL c a) := by
  unfold crs2 endL ap
  rw [re_car hc.t hc.s ha, im_car hc.t hc.s ha, re_car hc.t hc.s hb, im_car hc.t hc.s hb]
  unfold sgn nn
  cases c.m <;> simp <;> grind
theorem sw_ap {c : Cp} (hc : CpOk c) : ∀ (l : List T3) (a z : T3), (∀ x ∈ a :: l, Ok x) → (a :: l).getLast? = some z → sw ((a :: l).map (ap c)) = sgn c.m * nn c.t * sw (a :: l) + (endL c z - endL c a)
  | [], a, z, _, h => by
    cases h
    show (0 : Rat) = sgn c.m * nn c.t * 0 + _
    grind
  | b :: r, a, z, ok, h => by
    have ih := sw_ap hc r b z (fun x hx => ok x (List.mem_cons_of_mem _ hx)) (by rw [List.getLast?_cons_cons] at h; exact h)
    show crs2 (ap c a) (ap c b) + sw ((b :: r).map (ap c)) = sgn c.m * nn c.t * (crs2 a b + sw (b :: r)) + _
    rw [ih, crs2_ap hc (ok a (List.mem_cons_self ..)) (ok b (List.mem_cons_of_mem _ (List.mem_cons_self ..)))]
    grind
/-- closed strokes, carried -/
theorem sw_closed {c : Cp} (hc : CpOk c) {a : T3} {l : List T3} (ok : ∀ x ∈ a :: l, Ok x) (h : (a :: l).getLast? = some a) : sw ((a :: l).map (ap c)) = sgn c.m * nn c.t * sw (a :: l) := by
  rw [sw_ap hc l a a ok h]
  grind
end Mth
namespace Mth
/-! ### fractions in lowest terms -/
def Fo (f : Int × Int) : Prop := Ok (f.1, 0, f.2)
theorem fo_fr {p q : Int} (h : q ≠ 0) : Fo (fr p q) := by
  unfold Fo
  rw [← low_fr]
  exact low_ok h
theorem fo_01 : Fo (0, 1) := ⟨by decide, by decide⟩
theorem Fo.pos {f : Int × Int} (h : Fo f) : 0 < f.2 := h.1
theorem fo_ext {f g : Int × Int} (hf : Fo f) (hg : Fo g) (h : val f = val g) : f = g := by
  have e : ((f.1, 0, f.2) : T3) = (g.1, 0, g.2) := ext hf hg h (by
    unfold im
    dsimp only
    simp only [Rat.intCast_zero]
    grind)
  have x1 := congrArg (fun z : T3 => z.1) e
  have x2 := congrArg (fun z : T3 => z.2.2) e
  dsimp only at x1 x2
  exact Prod.ext x1 x2
theorem fo_neg {f : Int × Int} (h : Fo f) : Fo (-f.1, f.2) := by
  have := neg_ok h
  unfold neg at this
  dsimp only at this
  exact this
theorem val_neg (f : Int × Int) : val (-f.1, f.2) = - val f := by
  unfold val
  dsimp only
  rw [Rat.intCast_neg]
  grind
theorem aF_fo : ∀ (l : List T3) (f : Int × Int), Fo f → (∀ x ∈ l, Ok x) → Fo (aF f l)
  | [], f, h, _ => h
  | [a], f, h, _ => h
  | a :: b :: r, f, h, ok => by
    have oa := ok a (List.mem_cons_self ..)
    have ob := ok b (List.mem_cons_of_mem _ (List.mem_cons_self ..))
    show Fo (aF (stF f a b) (b :: r))
    exact aF_fo (b :: r) _ (fo_fr (stF_ne h.pos oa ob)) fun x hx => ok x (List.mem_cons_of_mem _ hx)
theorem aF_FB : ∀ (l : List T3) (f : Int × Int) (n : Nat), 0 < f.2 → FB n f → (∀ x ∈ l, Ok x ∧ B 100 x) → FB (n + 204 * l.length) (aF f l)
  | [], f, n, _, h, _ => h.mono (by omega)
  | [a], f, n, _, h, _ => h.mono (by omega)
  | a :: b :: r, f, n, p, h, ok => by
    have oa := ok a (List.mem_cons_self ..)
    have ob := ok b (List.mem_cons_of_mem _ (List.mem_cons_self ..))
    show FB _ (aF (stF f a b) (b :: r))
    exact (aF_FB (b :: r) _ (n + 204) (stF_pos p oa.1 ob.1) (stF_FB p oa.1 ob.1 h oa.2 ob.2) fun x hx => ok x (List.mem_cons_of_mem _ hx)).mono (by simp only [List.length_cons]; omega)
theorem val_01 : val (0, 1) = 0 := by unfold val; decide +kernel
/-- the value of an area -/
theorem area_val {l : List T3} (ok : ∀ x ∈ l, Ok x) : val (aF (0, 1) l) = sw l / 2 := by
  rw [aF_val l (0, 1) (by decide) ok, val_01]
  grind
/-- one part more, as the law sums it -/
theorem tot_step {g : Int × Int} {a b : T3} (hg : Fo g) (ha : Ok a) (hb : Ok b) :
    plus (g.1, 0, g.2) (low (times (over a) b).2.1 0 (2 * (times (over a) b).2.2)) = ((stF g a b).1, 0, (stF g a b).2) := by
  have os := times_ok (over_ok ha) hb
  have h2 : 2 * (times (over a) b).2.2 ≠ 0 := mul_ne (by decide) os.ne
  have ol : Ok (low (times (over a) b).2.1 0 (2 * (times (over a) b).2.2)) := low_ok h2
  have fo : Fo (stF g a b) := fo_fr (stF_ne hg.pos ha hb)
  refine ext (plus_ok hg ol) fo ?_ ?_
  · rw [re_plus hg ol, low_re h2]
    show val g + _ = val (stF g a b)
    rw [stF_val hg.pos ha hb]
    have e := im_times (over_ok ha) hb
    rw [re_over, im_over] at e
    have hne : ((times (over a) b).2.2 : Rat) ≠ 0 := cast_ne os.ne
    unfold im at e
    unfold crs2
    rw [Rat.intCast_mul]
    have e2 : (((times (over a) b).2.1 : Int) : Rat) = (re a * im b + -im a * re b) * (((times (over a) b).2.2 : Int) : Rat) := by
      unfold im
      rw [← e]
      grind
    rw [e2]
    simp only [show (((2 : Int)) : Rat) = 2 from rfl]
    grind
  · rw [im_plus hg ol, low_im h2]
    unfold im
    dsimp only
    simp only [Rat.intCast_zero]
    grind
/-- the other way round -/
theorem area_rev {l : List T3} (ok : ∀ x ∈ l, Ok x) : aF (0, 1) l.reverse = (-(aF (0, 1) l).1, (aF (0, 1) l).2) := by
  have ok' : ∀ x ∈ l.reverse, Ok x := fun x hx => ok x (List.mem_reverse.mp hx)
  refine fo_ext (aF_fo _ _ fo_01 ok') (fo_neg (aF_fo _ _ fo_01 ok)) ?_
  rw [val_neg, area_val ok', area_val ok, sw_rev]
  grind
theorem area_congr {l m : List T3} (hl : ∀ x ∈ l, Ok x) (hm : ∀ x ∈ m, Ok x) (h : sw l = sw m) : aF (0, 1) l = aF (0, 1) m :=
  fo_ext (aF_fo _ _ fo_01 hl) (aF_fo _ _ fo_01 hm) (by rw [area_val hl, area_val hm, h])
def isg (m : Bool) : Int := if m = true then 0 - 1 else 1
theorem isg_sgn (m : Bool) : ((isg m : Int) : Rat) = sgn m := by cases m <;> rfl
/-- carried -/
theorem area_ap {c : Cp} (hc : CpOk c) {a : T3} {l : List T3} (ok : ∀ x ∈ a :: l, Ok x) (h : (a :: l).getLast? = some a) :
    aF (0, 1) ((a :: l).map (ap c)) = fr (isg c.m * (aF (0, 1) (a :: l)).1 * (gr c.t).1) ((aF (0, 1) (a :: l)).2 * (gr c.t).2) := by
  have ok' : ∀ x ∈ (a :: l).map (ap c), Ok x := fun x hx => by
    obtain ⟨y, hy, rfl⟩ := List.mem_map.mp hx
    exact ap_ok hc (ok y hy)
  have f1 := (aF_fo _ _ fo_01 ok).pos
  have g2 := gr_p2 hc.t
  have hq : (aF (0, 1) (a :: l)).2 * (gr c.t).2 ≠ 0 := mul_ne (by omega) (by omega)
  refine fo_ext (aF_fo _ _ fo_01 ok') (fo_fr hq) ?_
  rw [area_val ok', fr_val hq, sw_closed hc ok h]
  have v1 := area_val ok
  have v2 := gr_val hc.t
  unfold val at v1 v2
  have c1 : ((aF (0, 1) (a :: l)).2 : Rat) ≠ 0 := cast_ne (by omega)
  have c2 : ((gr c.t).2 : Rat) ≠ 0 := cast_ne (by omega)
  simp only [Rat.intCast_mul, isg_sgn]
  rw [← v2]
  have e : sw (a :: l) = 2 * (((aF (0, 1) (a :: l)).1 : Rat) / ((aF (0, 1) (a :: l)).2 : Rat)) := by rw [v1]; grind
  rw [e]
  grind
/-! ### neighbours differ -/
def Adj (l : List T3) : Prop := ∀ (j : Nat) x y, l[j]? = some x → l[j + 1]? = some y → x ≠ y
theorem adj_left {l r : List T3} (h : Adj (l ++ r)) : Adj l := fun j x y hx hy => h j x y
  (by rw [List.getElem?_append_left (List.getElem?_eq_some_iff.mp hx).1]; exact hx) (by rw [List.getElem?_append_left (List.getElem?_eq_some_iff.mp hy).1]; exact hy)
theorem adj_right {l r : List T3} (h : Adj (l ++ r)) : Adj r := fun j x y hx hy => h (l.length + j) x y
  (by rw [List.getElem?_append_right (by omega)]; rw [show l.length + j - l.length = j by omega]; exact hx)
  (by rw [List.getElem?_append_right (by omega)]; rw [show l.length + j + 1 - l.length = j + 1 by omega]; exact hy)
theorem adj_join {l r : List T3} {a : T3} (h1 : Adj (l ++ [a])) (h2 : Adj (a :: r)) : Adj (l ++ a :: r) := fun j x y hx hy => by
  by_cases hj : j + 1 ≤ l.length
  · refine h1 j x y ?_ ?_
    · rw [List.getElem?_append_left (by omega)] at hx ⊢; exact hx
    · by_cases e : j + 1 < l.length
      · rw [List.getElem?_append_left e] at hy ⊢; exact hy
      · have : j + 1 = l.length := by omega
        rw [this] at hy ⊢
        rw [List.getElem?_append_right (Nat.le_refl _)] at hy ⊢
        simpa using hy
  · refine h2 (j - l.length) x y ?_ ?_
    · rw [List.getElem?_append_right (by omega)] at hx; exact hx
    · rw [List.getElem?_append_right (by omega)] at hy
      rw [show j - l.length + 1 = j + 1 - l.length by omega]
      exact hy
theorem adj_rev {l : List T3} (h : Adj l) : Adj l.reverse := fun j x y hx hy => by
  have l1 := (List.getElem?_eq_some_iff.mp hx).1
  have l2 := (List.getElem?_eq_some_iff.mp hy).1
  rw [List.length_reverse] at l1 l2
  rw [List.getElem?_reverse (by omega)] at hx hy
  have := h (l.length - 1 - (j + 1)) y x hy (by rw [show l.length - 1 - (j + 1) + 1 = l.length - 1 - j by omega]; exact hx)
  exact fun z => this z.symm
theorem adj_map {c : Cp} (hc : CpOk c) {l : List T3} (ok : ∀ x ∈ l, Ok x) (h : Adj l) : Adj (l.map (ap c)) := fun j x y hx hy => by
  rw [List.getElem?_map] at hx hy
  obtain ⟨u, hu, rfl⟩ := Option.map_eq_some_iff.mp hx
  obtain ⟨v, hv, rfl⟩ := Option.map_eq_some_iff.mp hy
  intro z
  have e := congrArg (ap (bk c)) z
  rw [bk_ap hc (ok u (List.mem_of_getElem? hu)), bk_ap hc (ok v (List.mem_of_getElem? hv))] at e
  exact h j u v hu hv e
/-- begun elsewhere: what the slices give -/
theorem turned {l : List T3} {p0 : T3} {n : Nat} (h0 : l.head? = some p0) (hl : l.getLast? = some p0) (n0 : 0 < n) (hn : n < l.length) :
    ∃ x pre suf m, l = p0 :: pre ++ x :: suf ∧ x :: suf = m ++ [p0] ∧ l.drop n = x :: suf ∧ (l.drop 1).take n = pre ++ [x] := by
  match l, h0 with
  | a :: r, h0 =>
    cases h0
    have hn' : n - 1 < r.length := by simp only [List.length_cons] at hn; omega
    have e1 : r = r.take (n - 1) ++ r[n - 1] :: r.drop n := by
      have := List.take_append_drop (n - 1) r
      rw [List.drop_eq_getElem_cons hn', show n - 1 + 1 = n by omega] at this
      exact this.symm
    have ed : (p0 :: r).drop n = r[n - 1] :: r.drop n := by
      obtain ⟨k, rfl⟩ : ∃ k, n = k + 1 := ⟨n - 1, by omega⟩
      rw [List.drop_succ_cons]
      rw [List.drop_eq_getElem_cons (by omega)]
      rfl
    have et : ((p0 :: r).drop 1).take n = r.take (n - 1) ++ [r[n - 1]] := by
      obtain ⟨k, rfl⟩ : ∃ k, n = k + 1 := ⟨n - 1, by omega⟩
      show r.take (k + 1) = r.take k ++ [r[k]]
      rw [List.take_succ, List.getElem?_eq_getElem (by omega)]
      rfl
    have el : (r[n - 1] :: r.drop n).getLast? = some p0 := by
      rw [e1, ← List.cons_append, List.getLast?_append] at hl
      cases hz : (r[n - 1] :: r.drop n).getLast? with
      | none => simp at hz
      | some z =>
        rw [hz] at hl
        exact hl
    obtain ⟨m, hm⟩ := List.getLast?_eq_some_iff.mp el
    exact ⟨r[n - 1], r.take (n - 1), r.drop n, m, by rw [List.cons_append, ← e1], hm, ed, et⟩
theorem adj_turned {p0 x : T3} {pre suf m : List T3} (e : x :: suf = m ++ [p0]) (h : Adj (p0 :: pre ++ x :: suf)) : Adj (x :: suf ++ (pre ++ [x])) := by
  rw [e, List.append_assoc]
  refine adj_join (a := p0) ?_ ?_
  · rw [← e]; exact adj_right h
  · have : p0 :: pre ++ x :: suf = (p0 :: (pre ++ [x])) ++ suf := by simp
    rw [this] at h
    exact adj_left h
end Mth
namespace Mth
/-! ### copies seen from elsewhere -/
theorem ap_cj {o c : Cp} (ho : CpOk o) (hc : CpOk c) {z : T3} (hz : Ok z) : ap (cj o c) (ap o z) = ap o (ap c z) := by
  unfold cj
  rw [jn_ap (jn_ok (bk_ok ho) hc) ho (ap_ok ho hz), jn_ap (bk_ok ho) hc (ap_ok ho hz), bk_ap ho hz]
theorem ap_inj {o : Cp} (ho : CpOk o) {y z : T3} (hy : Ok y) (hz : Ok z) (e : ap o y = ap o z) : y = z := by
  rw [← bk_ap ho hy, ← bk_ap ho hz, e]
theorem meet_cj {o c d : Cp} (ho : CpOk o) (hc : CpOk c) (hd : CpOk d) {z : T3} (hz : Ok z) : Mem (meet (cj o c) (cj o d)) (ap o z) ↔ Mem (meet c d) z := by
  rw [meet_mem (cj_ok ho hc) (cj_ok ho hd) (ap_ok ho hz), meet_mem hc hd hz, ap_cj ho hc hz, ap_cj ho hd hz]
  exact ⟨fun e => ap_inj ho (ap_ok hc hz) (ap_ok hd hz) e, fun e => by rw [e]⟩
theorem kept_cj {o c : Cp} (ho : CpOk o) (hc : CpOk c) {z : T3} (hz : Ok z) : Mem (meet (cj o c) still) (ap o z) ↔ Mem (meet c still) z := by
  have := meet_cj ho hc still_ok hz
  rw [cj_still ho] at this
  exact this
/-- what is told of spots, and of the same spots elsewhere -/
structure Moved (o : Cp) (k k' : KS) : Prop where
  al : k = .all → k' = .all
  no : k = .none → k' = .none
  sp : ∀ s, k = .spot s → k' = .spot (ap o s)
  ln : ∀ l, k = .line l → ∃ l', k' = .line l' ∧ ∀ z, Ok z → on l z → on l' (ap o z)
theorem moved {o : Cp} (ho : CpOk o) {k k' : KS} (hk : KOk k) (hk' : KOk k') (h : ∀ z, Ok z → (Mem k' (ap o z) ↔ Mem k z)) : Moved o k k' := by
  have h' : ∀ w, Ok w → (Mem k' w ↔ Mem k (ap (bk o) w)) := fun w hw => by
    have := h (ap (bk o) w) (ap_ok (bk_ok ho) hw)
    rw [ap_bk ho hw] at this
    exact this
  refine ⟨fun e => ?_, fun e => ?_, fun s e => ?_, fun l e => ?_⟩
  · subst e
    exact ks_ext hk' hk fun w hw => by rw [h' w hw]; exact ⟨fun _ => trivial, fun _ => trivial⟩
  · subst e
    exact ks_ext hk' hk fun w hw => by rw [h' w hw]; exact ⟨fun x => x, fun x => x⟩
  · subst e
    have os : Ok s := hk
    refine ks_ext hk' (show KOk (.spot (ap o s)) from ap_ok ho os) fun w hw => ?_
    rw [h' w hw]
    show ap (bk o) w = s ↔ w = ap o s
    exact ⟨fun e => by rw [← e, ap_bk ho hw], fun e => by rw [e, bk_ap ho os]⟩
  · subst e
    cases k' with
    | line l' => exact ⟨l', rfl, fun z hz hl => (h z hz).mpr hl⟩
    | all =>
      exfalso
      have : KS.line l = .all := ks_ext hk trivial fun z hz => by rw [← h z hz]; exact ⟨fun _ => trivial, fun _ => trivial⟩
      cases this
    | none =>
      exfalso
      have : KS.line l = .none := ks_ext hk trivial fun z hz => by rw [← h z hz]; exact ⟨fun x => x, fun x => x⟩
      cases this
    | spot s' =>
      exfalso
      have os : Ok s' := hk'
      have : KS.line l = .spot (ap (bk o) s') := ks_ext hk (show KOk (.spot (ap (bk o) s')) from ap_ok (bk_ok ho) os) fun z hz => by
        rw [← h z hz]
        show ap o z = s' ↔ z = ap (bk o) s'
        exact ⟨fun e => by rw [← e, bk_ap ho hz], fun e => by rw [e, ap_bk ho os]⟩
      cases this
theorem nn_jn {a b : Cp} (ha : CpOk a) (hb : CpOk b) : nn (jn a b).t = nn a.t * nn b.t := by
  have e := congrArg re (gr_jn ha hb)
  rw [re_gr3 (jn_ok ha hb).t, re_times (gr3_ok ha.t) (gr3_ok hb.t), re_gr3 ha.t, re_gr3 hb.t, im_gr3 ha.t, im_gr3 hb.t] at e
  grind
theorem nn_still : nn still.t = 1 := by
  unfold nn still
  dsimp only
  rw [re_1, im_1]
  grind
theorem gr_cj {o c : Cp} (ho : CpOk o) (hc : CpOk c) : gr (cj o c).t = gr c.t := by
  refine gr_congr (cj_ok ho hc).t hc.t ?_
  unfold cj
  have e : nn (bk o).t * nn o.t = 1 := by rw [← nn_jn (bk_ok ho) ho, bk_jn ho, nn_still]
  rw [nn_jn (jn_ok (bk_ok ho) hc) ho, nn_jn (bk_ok ho) hc]
  grind
theorem cj_m (o c : Cp) : (cj o c).m = c.m := by
  show ((o.m != c.m) != o.m) = c.m
  cases o.m <;> cases c.m <;> rfl
theorem bk_m (c : Cp) : (bk c).m = c.m := rfl
theorem one_map {α : Type} {f : α → α} {l l' : List α} (h : l.length ≤ 1) (h' : l'.length ≤ 1) (a : ∀ x ∈ l, f x ∈ l') (b : ∀ y ∈ l', ∃ x, x ∈ l) : l.map f = l' := by
  match l, l', h, h', a, b with
  | [], [], _, _, _, _ => rfl
  | [x], [y], _, _, a, _ => 
    have := a x (List.mem_singleton.mpr rfl)
    show [f x] = [y]
    rw [List.mem_singleton.mp this]
  | [], y :: _, _, _, _, b => obtain ⟨x, hx⟩ := b y (List.mem_cons_self ..); cases hx
  | x :: _, [], _, _, a, _ => have := a x (List.mem_cons_self ..); cases this
/-- pairs, carried elsewhere -/
def prm (e : Cp) (p : Pr) : Pr := (ap e p.1, ap e p.2)
def prw (p : Pr) : Pr := (p.2, p.1)
theorem prm_ok {e : Cp} (he : CpOk e) {p : Pr} (h : PrOk p) : PrOk (prm e p) := ⟨ap_ok he h.a, ap_ok he h.b⟩
theorem prw_ok {p : Pr} (h : PrOk p) : PrOk (prw p) := ⟨h.b, h.a⟩
section
variable {prs : List Pr} {h o : Pr} (ph : PrOk h) (po : PrOk o) (hn : o.1 ≠ h.1) (hh : h ∈ prs) (ho : o ∈ prs) (ok : ∀ p ∈ prs, PrOk p)
include ph po hn hh ho ok
theorem crs_cj {e : Cp} (he : CpOk e) : (crs prs h o).map (cj e) = crs (prs.map (prm e)) (prm e h) (prm e o) := by
  have hn' : (prm e o).1 ≠ (prm e h).1 := fun z => hn (ap_inj he po.a ph.a z)
  have one : ∀ m, (crb prs h o m).map (cj e) = crb (prs.map (prm e)) (prm e h) (prm e o) m := fun m => by
    refine one_map (crb_len ph po hn) (crb_len (prm_ok he ph) (prm_ok he po) hn') (fun c hc => ?_) (fun c hc => ?_)
    · rw [crb_mem ph po hn hh ho] at hc
      rw [crb_mem (prm_ok he ph) (prm_ok he po) hn' (List.mem_map.mpr ⟨h, hh, rfl⟩) (List.mem_map.mpr ⟨o, ho, rfl⟩)]
      refine ⟨cj_ok he hc.1, by rw [cj_m]; exact hc.2.1, fun p hp => ?_⟩
      obtain ⟨q, hq, rfl⟩ := List.mem_map.mp hp
      show ap (cj e c) (ap e q.1) = ap e q.2
      rw [ap_cj he hc.1 (ok q hq).a, hc.2.2 q hq]
    · rw [crb_mem (prm_ok he ph) (prm_ok he po) hn' (List.mem_map.mpr ⟨h, hh, rfl⟩) (List.mem_map.mpr ⟨o, ho, rfl⟩)] at hc
      refine ⟨cj (bk e) c, ?_⟩
      rw [crb_mem ph po hn hh ho]
      refine ⟨cj_ok (bk_ok he) hc.1, by rw [cj_m]; exact hc.2.1, fun p hp => ?_⟩
      have k := hc.2.2 _ (List.mem_map.mpr ⟨p, hp, rfl⟩)
      have k : ap c (ap e p.1) = ap e p.2 := k
      have op := ok p hp
      have := ap_cj (bk_ok he) hc.1 (ap_ok he op.a)
      rw [bk_ap he op.a, k, bk_ap he op.b] at this
      exact this
  unfold crs
  rw [List.map_append, one, one]
theorem crs_bk (hn2 : o.2 ≠ h.2) : (crs prs h o).map bk = crs (prs.map prw) (prw h) (prw o) := by
  have one : ∀ m, (crb prs h o m).map bk = crb (prs.map prw) (prw h) (prw o) m := fun m => by
    refine one_map (crb_len ph po hn) (crb_len (prw_ok ph) (prw_ok po) hn2) (fun c hc => ?_) (fun c hc => ?_)
    · rw [crb_mem ph po hn hh ho] at hc
      rw [crb_mem (prw_ok ph) (prw_ok po) hn2 (List.mem_map.mpr ⟨h, hh, rfl⟩) (List.mem_map.mpr ⟨o, ho, rfl⟩)]
      refine ⟨bk_ok hc.1, hc.2.1, fun p hp => ?_⟩
      obtain ⟨q, hq, rfl⟩ := List.mem_map.mp hp
      have r := bk_ap hc.1 (ok q hq).a
      rw [hc.2.2 q hq] at r
      exact r
    · rw [crb_mem (prw_ok ph) (prw_ok po) hn2 (List.mem_map.mpr ⟨h, hh, rfl⟩) (List.mem_map.mpr ⟨o, ho, rfl⟩)] at hc
      refine ⟨bk c, ?_⟩
      rw [crb_mem ph po hn hh ho]
      refine ⟨bk_ok hc.1, hc.2.1, fun p hp => ?_⟩
      have k := hc.2.2 (prw p) (List.mem_map.mpr ⟨p, hp, rfl⟩)
      change ap c p.2 = p.1 at k
      have r := bk_ap hc.1 (ok p hp).b
      rw [k] at r
      exact r
  unfold crs
  rw [List.map_append, one, one]
end
theorem oth_map {prs : List Pr} {h o : Pr} {os : List Pr} {f : Pr → Pr} (i : ∀ p ∈ prs, ((f p).1 = (f h).1 ↔ p.1 = h.1)) (e : oth prs h = o :: os) : oth (prs.map f) (f h) = f o :: os.map f := by
  have : oth (prs.map f) (f h) = (oth prs h).map f := by
    unfold oth
    rw [List.filter_map]
    congr 1
    refine List.filter_congr fun p hp => ?_
    show (!decide ((f p).1 = (f h).1)) = !decide (p.1 = h.1)
    rw [decide_eq_decide.mpr (i p hp)]
  rw [this, e]
  rfl
end Mth
/-! the order of fractions by the floor of p * S / q, and what the least and the greatest are -/
namespace Mth
def fkey (S : Int) (f : Int × Int) : Int := (f.1 * S).fdiv f.2
theorem fkey_le {m : Int} {f g : Int × Int} (f0 : 0 < f.2) (g0 : 0 < g.2) (fm : f.2 ≤ m) (gm : g.2 ≤ m) (h : fkey (m * m) f ≤ fkey (m * m) g) : f.1 * g.2 ≤ g.1 * f.2 := by
  obtain ⟨a, b⟩ := f
  obtain ⟨c, d⟩ := g
  simp only [fkey] at *
  rw [Int.fdiv_eq_ediv_of_nonneg _ (by omega), Int.fdiv_eq_ediv_of_nonneg _ (by omega)] at h
  apply Int.not_lt.mp
  intro hlt
  have h1 : (c * (m * m)) / d * d ≤ c * (m * m) := Int.ediv_mul_le _ (by omega)
  generalize c * (m * m) / d = k at *
  have h2 : (k + 1) ≤ a * (m * m) / b := by
    rw [Int.le_ediv_iff_mul_le f0]
    have bd : b * d ≤ m * m := by
      have := Int.mul_le_mul fm gm (by omega) (by omega)
      exact this
    have e1 : k * d * b ≤ c * (m * m) * b := Int.mul_le_mul_of_nonneg_right h1 (by omega)
    have e2 : (c * b + 1) * (m * m) ≤ a * d * (m * m) := Int.mul_le_mul_of_nonneg_right (by omega) (by
      have : 0 ≤ b * d := Int.mul_nonneg (by omega) (by omega)
      omega)
    have e3 : (k + 1) * b * d ≤ a * (m * m) * d := by grind
    exact Int.le_of_mul_le_mul_right e3 g0
  omega
/-- sorted with what belongs to it -/
theorem sortP {α β : Type} {R : α → β → Prop} (key : β → Int) (zs : List (α × β)) (hR : ∀ z ∈ zs, R z.1 z.2) :
    let ys := zs.mergeSort (fun a b => decide (key a.2 ≤ key b.2))
    (∀ z ∈ ys, R z.1 z.2) ∧ (ys.map (·.2)).Perm (zs.map (·.2)) ∧ (ys.map (·.2)).Pairwise (fun a b => key a ≤ key b) := by
  intro ys
  have hp : ys.Perm zs := List.mergeSort_perm _ _
  refine ⟨fun z hz => hR z (hp.mem_iff.mp hz), hp.map _, ?_⟩
  rw [List.pairwise_map]
  have := List.pairwise_mergeSort (le := fun (a b : α × β) => decide (key a.2 ≤ key b.2)) (fun a b c h1 h2 => by simp only [decide_eq_true_eq] at *; omega) (fun a b => by simp only [Bool.or_eq_true, decide_eq_true_eq]; omega) zs
  exact this.imp fun h => of_decide_eq_true h
/-- the first and the last of an ordered list of fractions -/
def leF (f g : Int × Int) : Prop := f.1 * g.2 ≤ g.1 * f.2
theorem leF_trans {f g h : Int × Int} (f0 : 0 < f.2) (g0 : 0 < g.2) (h0 : 0 < h.2) (h1 : leF f g) (h2 : leF g h) : leF f h := by
  obtain ⟨a, b⟩ := f
  obtain ⟨c, d⟩ := g
  obtain ⟨e, k⟩ := h
  simp only [leF] at *
  have e1 : a * d * k ≤ c * b * k := Int.mul_le_mul_of_nonneg_right h1 (by omega)
  have e2 : c * k * b ≤ e * d * b := Int.mul_le_mul_of_nonneg_right h2 (by omega)
  have e3 : a * k * d ≤ e * b * d := by grind
  exact Int.le_of_mul_le_mul_right e3 g0
/-- the least of a list: it stands in it, and none is below it -/
def Least (f : Int × Int) (fs : List (Int × Int)) : Prop := f ∈ fs ∧ ∀ g ∈ fs, leF f g
def Most (f : Int × Int) (fs : List (Int × Int)) : Prop := f ∈ fs ∧ ∀ g ∈ fs, leF g f
theorem least_first {f : Int × Int} {gs : List (Int × Int)} (h : (f :: gs).Pairwise leF) : Least f (f :: gs) := by
  refine ⟨.head _, fun g hg => ?_⟩
  rcases List.mem_cons.mp hg with rfl | hg
  · exact Int.le_refl _
  · exact (List.pairwise_cons.mp h).1 g hg
theorem most_last {f : Int × Int} {gs : List (Int × Int)} (h : (gs ++ [f]).Pairwise leF) : Most f (gs ++ [f]) := by
  refine ⟨by simp, fun g hg => ?_⟩
  rcases List.mem_append.mp hg with hg | hg
  · exact (List.pairwise_append.mp h).2.2 g hg f (by simp)
  · rw [List.mem_singleton.mp hg]
    exact Int.le_refl _
theorem Least.perm {f : Int × Int} {fs gs : List (Int × Int)} (h : Least f fs) (p : fs.Perm gs) : Least f gs := ⟨p.mem_iff.mp h.1, fun g hg => h.2 g (p.mem_iff.mpr hg)⟩
theorem Most.perm {f : Int × Int} {fs gs : List (Int × Int)} (h : Most f fs) (p : fs.Perm gs) : Most f gs := ⟨p.mem_iff.mp h.1, fun g hg => h.2 g (p.mem_iff.mpr hg)⟩
end Mth
/-! the least and the greatest of fractions: which they are, and what a quarter turn does -/
namespace Mth
theorem leF_val {f g : Int × Int} (f0 : 0 < f.2) (g0 : 0 < g.2) : leF f g ↔ val f ≤ val g := by
  have h := lessF_iff g0 f0
  unfold lessF at h
  rw [decide_eq_decide] at h
  unfold leF
  rw [← Int.not_lt, h, Rat.not_lt]
def IsFr (f : Int × Int) : Prop := ∃ p q, q ≠ 0 ∧ f = fr p q
theorem IsFr.pos {f : Int × Int} (h : IsFr f) : 0 < f.2 := by
  obtain ⟨p, q, hq, rfl⟩ := h
  exact fr_pos hq
theorem fr_congr {p q p' q' : Int} (hq : q ≠ 0) (hq' : q' ≠ 0) (h : (p : Rat) / (q : Rat) = (p' : Rat) / (q' : Rat)) : fr p q = fr p' q' := by
  have e : low p 0 q = low p' 0 q' := ext (low_ok hq) (low_ok hq') (by rw [low_re hq, low_re hq', h]) (by rw [low_im hq, low_im hq']; grind)
  unfold fr
  rw [e]
theorem fr_anti {f g : Int × Int} (hf : IsFr f) (hg : IsFr g) (h1 : leF f g) (h2 : leF g f) : f = g := by
  have e : val f = val g := Rat.le_antisymm ((leF_val hf.pos hg.pos).mp h1) ((leF_val hg.pos hf.pos).mp h2)
  obtain ⟨p, q, hq, rfl⟩ := hf
  obtain ⟨p', q', hq', rfl⟩ := hg
  rw [fr_val hq, fr_val hq'] at e
  exact fr_congr hq hq' e
theorem fr_neg {p q : Int} (hq : q ≠ 0) : fr (-p) q = (-(fr p q).1, (fr p q).2) := by
  have e : low (-p) 0 q = neg (low p 0 q) := ext (low_ok hq) (neg_ok (low_ok hq)) (by rw [re_neg, low_re hq, low_re hq, Rat.intCast_neg]; grind) (by rw [im_neg, low_im hq, low_im hq]; grind)
  unfold fr
  rw [e]
  rfl
theorem least_uniq {f g : Int × Int} {fs : List (Int × Int)} (h : ∀ x ∈ fs, IsFr x) (a : Least f fs) (b : Least g fs) : f = g := fr_anti (h f a.1) (h g b.1) (a.2 g b.1) (b.2 f a.1)
theorem most_uniq {f g : Int × Int} {fs : List (Int × Int)} (h : ∀ x ∈ fs, IsFr x) (a : Most f fs) (b : Most g fs) : f = g := fr_anti (h f a.1) (h g b.1) (b.2 f a.1) (a.2 g b.1)
theorem fr_leF {f g : Int × Int} (f0 : 0 < f.2) (g0 : 0 < g.2) (h : leF f g) : leF (fr f.1 f.2) (fr g.1 g.2) := by
  have n1 : f.2 ≠ 0 := by omega
  have n2 : g.2 ≠ 0 := by omega
  rw [leF_val (fr_pos n1) (fr_pos n2), fr_val n1, fr_val n2]
  exact (leF_val f0 g0).mp h
theorem Least.fr {f : Int × Int} {fs : List (Int × Int)} (p : ∀ g ∈ fs, 0 < g.2) (h : Least f fs) : Least (fr f.1 f.2) (fs.map fun g => Mth.fr g.1 g.2) := by
  refine ⟨List.mem_map.mpr ⟨f, h.1, rfl⟩, fun g hg => ?_⟩
  obtain ⟨x, hx, rfl⟩ := List.mem_map.mp hg
  exact fr_leF (p f h.1) (p x hx) (h.2 x hx)
theorem Most.fr {f : Int × Int} {fs : List (Int × Int)} (p : ∀ g ∈ fs, 0 < g.2) (h : Most f fs) : Most (fr f.1 f.2) (fs.map fun g => Mth.fr g.1 g.2) := by
  refine ⟨List.mem_map.mpr ⟨f, h.1, rfl⟩, fun g hg => ?_⟩
  obtain ⟨x, hx, rfl⟩ := List.mem_map.mp hg
  exact fr_leF (p x hx) (p f h.1) (h.2 x hx)
def ng (f : Int × Int) : Int × Int := (-f.1, f.2)
theorem ng_leF {f g : Int × Int} (h : leF f g) : leF (ng g) (ng f) := by
  unfold leF ng at *
  dsimp only at *
  rw [Int.neg_mul, Int.neg_mul]
  omega
theorem Most.ng {f : Int × Int} {fs : List (Int × Int)} (h : Most f fs) : Least (ng f) (fs.map Mth.ng) := by
  refine ⟨List.mem_map.mpr ⟨f, h.1, rfl⟩, fun g hg => ?_⟩
  obtain ⟨x, hx, rfl⟩ := List.mem_map.mp hg
  exact ng_leF (h.2 x hx)
theorem Least.ng {f : Int × Int} {fs : List (Int × Int)} (h : Least f fs) : Most (ng f) (fs.map Mth.ng) := by
  refine ⟨List.mem_map.mpr ⟨f, h.1, rfl⟩, fun g hg => ?_⟩
  obtain ⟨x, hx, rfl⟩ := List.mem_map.mp hg
  exact ng_leF (h.2 x hx)
/-- a quarter turn -/
def qt : Cp := ⟨(0, 1, 1), (0, 0, 1), false⟩
theorem qt_ok : CpOk qt := ⟨⟨by decide, by decide⟩, by unfold Nz qt; decide, ⟨by decide, by decide⟩⟩
theorem g3_comm {x y d : Int} : g3 (-y) x d = g3 x y d := by
  unfold g3
  rw [Int.neg_gcd, Int.gcd_comm y x]
theorem ap_qt {z : T3} (h : Ok z) : ap qt z = (-z.2.1, z.1, z.2.2) := by
  obtain ⟨x, y, d⟩ := z
  refine ext (ap_ok qt_ok h) ⟨h.1, (g3_comm).trans h.2⟩ ?_ ?_
  · unfold ap
    rw [re_car qt_ok.t qt_ok.s h]
    simp only [qt, re, im, Rat.intCast_neg]
    grind
  · unfold ap
    rw [im_car qt_ok.t qt_ok.s h]
    simp only [qt, re, im]
    grind
end Mth
/-! spots in order; what strokes cover, as it is reckoned -/
namespace Mth
def ltS (a b : T3) : Bool := decide (a.1 * b.2.2 < b.1 * a.2.2 ∨ (a.1 * b.2.2 = b.1 * a.2.2 ∧ a.2.1 * b.2.2 < b.2.1 * a.2.2))
def leS (a b : T3) : Bool := decide (a.1 * b.2.2 < b.1 * a.2.2 ∨ (a.1 * b.2.2 = b.1 * a.2.2 ∧ a.2.1 * b.2.2 ≤ b.2.1 * a.2.2))
theorem leS_not (a b : T3) : leS a b = !ltS b a := by
  unfold leS ltS
  by_cases h : b.1 * a.2.2 < a.1 * b.2.2 ∨ (b.1 * a.2.2 = a.1 * b.2.2 ∧ b.2.1 * a.2.2 < a.2.1 * b.2.2)
  · rw [decide_eq_true h, decide_eq_false (by omega)]; rfl
  · rw [decide_eq_false h, decide_eq_true (by omega)]; rfl
def ordP (a b : T3) : T3 × T3 := if ltS a b = true then (a, b) else (b, a)
def leP (p q : T3 × T3) : Bool := ltS p.1 q.1 || (decide (p.1 = q.1) && leS p.2 q.2)
def asc (zs : List T3) : List T3 := zs.mergeSort leS
def ascP (ps : List (T3 × T3)) : List (T3 × T3) := ps.mergeSort leP
def lthru (a b : T3) : T3 := lf (a.2.1 * b.2.2 - b.2.1 * a.2.2, b.1 * a.2.2 - a.1 * b.2.2, b.1 * a.2.1 - a.1 * b.2.1)
/-! keys that whole numbers make -/
def sk (S : Int) (z : T3) : Int × Int := (fkey S (z.1, z.2.2), fkey S (z.2.1, z.2.2))
theorem fkey_mono {S : Int} (hS : 0 ≤ S) {f g : Int × Int} (f0 : 0 < f.2) (g0 : 0 < g.2) (h : f.1 * g.2 ≤ g.1 * f.2) : fkey S f ≤ fkey S g := by
  obtain ⟨a, b⟩ := f
  obtain ⟨c, d⟩ := g
  simp only [fkey] at *
  rw [Int.fdiv_eq_ediv_of_nonneg _ (by omega), Int.fdiv_eq_ediv_of_nonneg _ (by omega), Int.le_ediv_iff_mul_le g0]
  have h1 : (a * S) / b * b ≤ a * S := Int.ediv_mul_le _ (by omega)
  generalize (a * S) / b = k at *
  have e1 : k * b * d ≤ a * S * d := Int.mul_le_mul_of_nonneg_right h1 (by omega)
  have e2 : a * d * S ≤ c * b * S := Int.mul_le_mul_of_nonneg_right h hS
  have e3 : k * d * b ≤ c * S * b := by grind
  exact Int.le_of_mul_le_mul_right e3 f0
theorem fkey_iff {m : Int} (hm : 0 ≤ m) {f g : Int × Int} (f0 : 0 < f.2) (g0 : 0 < g.2) (fm : f.2 ≤ m) (gm : g.2 ≤ m) : fkey (m * m) f ≤ fkey (m * m) g ↔ f.1 * g.2 ≤ g.1 * f.2 :=
  ⟨fkey_le f0 g0 fm gm, fkey_mono (Int.mul_nonneg hm hm) f0 g0⟩
theorem sk_le {m : Int} {a b : T3} (ha : Ok a) (hb : Ok b) (am : a.2.2 ≤ m) (bm : b.2.2 ≤ m) :
    decide ((sk (m * m) a).1 < (sk (m * m) b).1 ∨ ((sk (m * m) a).1 = (sk (m * m) b).1 ∧ (sk (m * m) a).2 ≤ (sk (m * m) b).2)) = leS a b := by
  have m0 : 0 ≤ m := by have := ha.1; omega
  have x1 := fkey_iff m0 (f := (a.1, a.2.2)) (g := (b.1, b.2.2)) ha.1 hb.1 am bm
  have x2 := fkey_iff m0 (f := (b.1, b.2.2)) (g := (a.1, a.2.2)) hb.1 ha.1 bm am
  have y1 := fkey_iff m0 (f := (a.2.1, a.2.2)) (g := (b.2.1, b.2.2)) ha.1 hb.1 am bm
  unfold leS sk
  dsimp only at *
  generalize fkey (m * m) (a.1, a.2.2) = k1 at *
  generalize fkey (m * m) (b.1, b.2.2) = k2 at *
  generalize fkey (m * m) (a.2.1, a.2.2) = k3 at *
  generalize fkey (m * m) (b.2.1, b.2.2) = k4 at *
  rw [decide_eq_decide]
  omega
theorem ltS_iff {a b : T3} (ha : Ok a) (hb : Ok b) : ltS a b = true ↔ re a < re b ∨ (re a = re b ∧ im a < im b) := by
  have pa := ha.1
  have pb := hb.1
  unfold ltS re im
  rw [decide_eq_true_iff]
  have h1 : ∀ (x u : Int), ((x : Rat) / (a.2.2 : Rat) < (u : Rat) / (b.2.2 : Rat) ↔ x * b.2.2 < u * a.2.2) := fun x u => by
    have da : (0 : Rat) < (a.2.2 : Rat) := by exact_mod_cast pa
    have db : (0 : Rat) < (b.2.2 : Rat) := by exact_mod_cast pb
    rw [Rat.div_lt_iff da, show (u : Rat) / (b.2.2 : Rat) * (a.2.2 : Rat) = (u : Rat) * (a.2.2 : Rat) / (b.2.2 : Rat) by grind, Rat.lt_div_iff db, ← Rat.intCast_mul, ← Rat.intCast_mul]
    exact_mod_cast Iff.rfl
  have h2 : ((a.1 : Rat) / (a.2.2 : Rat) = (b.1 : Rat) / (b.2.2 : Rat) ↔ a.1 * b.2.2 = b.1 * a.2.2) := by
    have da : (a.2.2 : Rat) ≠ 0 := by have : a.2.2 ≠ 0 := by omega
                                      exact_mod_cast this
    have db : (b.2.2 : Rat) ≠ 0 := by have : b.2.2 ≠ 0 := by omega
                                      exact_mod_cast this
    constructor
    · intro h
      have : (a.1 : Rat) * (b.2.2 : Rat) = (b.1 : Rat) * (a.2.2 : Rat) := by grind
      rw [← Rat.intCast_mul, ← Rat.intCast_mul] at this
      exact_mod_cast this
    · intro h
      have : (a.1 : Rat) * (b.2.2 : Rat) = (b.1 : Rat) * (a.2.2 : Rat) := by
        rw [← Rat.intCast_mul, ← Rat.intCast_mul]; exact_mod_cast h
      grind
  rw [h1, h1, h2]
theorem cross_ext {a b : T3} (ha : Ok a) (hb : Ok b) (h1 : a.1 * b.2.2 = b.1 * a.2.2) (h2 : a.2.1 * b.2.2 = b.2.1 * a.2.2) : a = b := by
  have da : (a.2.2 : Rat) ≠ 0 := by have := ha.1
                                    have : a.2.2 ≠ 0 := by omega
                                    exact_mod_cast this
  have db : (b.2.2 : Rat) ≠ 0 := by have := hb.1
                                    have : b.2.2 ≠ 0 := by omega
                                    exact_mod_cast this
  have g : ∀ x u : Int, x * b.2.2 = u * a.2.2 → (x : Rat) / (a.2.2 : Rat) = (u : Rat) / (b.2.2 : Rat) := fun x u h => by
    have : (x : Rat) * (b.2.2 : Rat) = (u : Rat) * (a.2.2 : Rat) := by rw [← Rat.intCast_mul, ← Rat.intCast_mul]; exact_mod_cast h
    grind
  exact ext ha hb (g _ _ h1) (g _ _ h2)
theorem sk_inj {m : Int} {a b : T3} (ha : Ok a) (hb : Ok b) (am : a.2.2 ≤ m) (bm : b.2.2 ≤ m) (e : sk (m * m) a = sk (m * m) b) : a = b := by
  have e1 := congrArg (·.1) e
  have e2 := congrArg (·.2) e
  dsimp only [sk] at e1 e2
  have x1 := fkey_le (f := (a.1, a.2.2)) (g := (b.1, b.2.2)) ha.1 hb.1 am bm (Int.le_of_eq e1)
  have x2 := fkey_le (f := (b.1, b.2.2)) (g := (a.1, a.2.2)) hb.1 ha.1 bm am (Int.le_of_eq e1.symm)
  have y1 := fkey_le (f := (a.2.1, a.2.2)) (g := (b.2.1, b.2.2)) ha.1 hb.1 am bm (Int.le_of_eq e2)
  have y2 := fkey_le (f := (b.2.1, b.2.2)) (g := (a.2.1, a.2.2)) hb.1 ha.1 bm am (Int.le_of_eq e2.symm)
  dsimp only at x1 x2 y1 y2
  exact cross_ext ha hb (by omega) (by omega)
theorem leS_ne {a b : T3} (ha : Ok a) (hb : Ok b) (h : a ≠ b) : leS a b = ltS a b := by
  unfold leS ltS
  rw [decide_eq_decide]
  have : ¬ (a.1 * b.2.2 = b.1 * a.2.2 ∧ a.2.1 * b.2.2 = b.2.1 * a.2.2) := fun ⟨x, y⟩ => h (cross_ext ha hb x y)
  omega
theorem leS_self (a : T3) : leS a a = true := by unfold leS; rw [decide_eq_true_iff]; right; exact ⟨rfl, Int.le_refl _⟩
theorem ltS_self (a : T3) : ltS a a = false := by have := leS_not a a; rw [leS_self] at this; cases h : ltS a a with
  | false => rfl
  | true => rw [h] at this; cases this
/-! ### what strokes cover -/
/-- stretches of one line, in order, joined where they overlap or touch -/
def joinGo : T3 × T3 → List (T3 × T3) → List (T3 × T3)
  | c, [] => [c]
  | c, p :: r => if ltS c.2 p.1 = true then c :: joinGo p r else if ltS c.2 p.2 = true then joinGo (c.1, p.2) r else joinGo c r
def joinF : List (T3 × T3) → List (T3 × T3)
  | [] => []
  | p :: r => joinGo p (p :: r)
/-- the stretches by their lines, as they come -/
abbrev Grp := List (T3 × List (T3 × T3))
def addG (gs : Grp) (p : T3 × T3) : Grp :=
  if gs.any (fun g => decide (g.1 = lthru p.1 p.2)) = true then gs.map fun g => if g.1 = lthru p.1 p.2 then (g.1, g.2 ++ [p]) else g else gs ++ [(lthru p.1 p.2, [p])]
def longestF (ps : List (T3 × T3)) : List (T3 × T3) := ((ascP ps).foldl addG []).flatMap fun g => joinF g.2
def btw (z : T3) (p : T3 × T3) : Bool := !ltS z p.1 && !ltS p.2 z
def onAny (z : T3) (ps : List (T3 × T3)) : Bool := ps.any fun p => btw z p && decide (on (lthru p.1 p.2) z)
def dedup (zs : List T3) : List T3 := zs.foldl (fun acc z => if z ∈ acc then acc else acc ++ [z]) []
abbrev Ink := List T3 × List (T3 × T3)
def inkFrom (ds : List T3) (ps : List (T3 × T3)) : Ink := (asc (dedup (ds.filter fun z => !onAny z (longestF ps))), ascP (longestF ps))
def dot1 (zs : List T3) : List T3 := match zs with
  | [z] => [z]
  | _ => []
def dotsF (zss : List (List T3)) : List T3 := zss.flatMap dot1
theorem dots_step {zss : List (List T3)} {i : Nat} {zs : List T3} (e : zss[i]? = some zs) : dotsF (zss.take (i + 1)) = dotsF (zss.take i) ++ dot1 zs := by
  unfold dotsF
  rw [List.take_succ, e, List.flatMap_append]
  simp
def nbs : List T3 → List (T3 × T3)
  | a :: b :: r => (a, b) :: nbs (b :: r)
  | _ => []
theorem nbs_len : ∀ zs : List T3, (nbs zs).length = zs.length - 1
  | [] => rfl
  | [_] => rfl
  | a :: b :: r => by
    show (nbs (b :: r)).length + 1 = _
    rw [nbs_len (b :: r)]
    rfl
theorem nbs_at : ∀ {zs : List T3} {j : Nat} {a b : T3}, zs[j]? = some a → zs[j + 1]? = some b → (nbs zs)[j]? = some (a, b)
  | [], j, a, b, h, _ => by simp at h
  | [x], j, a, b, _, h => by simp at h
  | x :: y :: r, 0, a, b, h1, h2 => by
    simp at h1 h2
    subst h1 h2
    rfl
  | x :: y :: r, j + 1, a, b, h1, h2 => by
    show (nbs (y :: r))[j]? = _
    exact nbs_at (by simpa using h1) (by simpa using h2)
def strF (zss : List (List T3)) : List (T3 × T3) := zss.flatMap fun zs => (nbs zs).map fun q => ordP q.1 q.2
theorem str_step {zss : List (List T3)} {i : Nat} {zs : List T3} (e : zss[i]? = some zs) : strF (zss.take (i + 1)) = strF (zss.take i) ++ (nbs zs).map fun q => ordP q.1 q.2 := by
  unfold strF
  rw [List.take_succ, e, List.flatMap_append]
  simp
def inkF (zss : List (List T3)) : Ink := inkFrom (dotsF zss) (strF zss)
def cov (z : T3) (k : Ink) : Bool := decide (z ∈ k.1) || onAny z k.2
/-! ### the groups -/
def addE (gs : Grp) (l : T3) : Grp := if gs.any (fun g => decide (g.1 = l)) = true then gs else gs ++ [(l, [])]
def appG (gs : Grp) (l : T3) (p : T3 × T3) : Grp := gs.map fun g => if g.1 = l then (g.1, g.2 ++ [p]) else g
theorem appG_none {gs : Grp} {l : T3} {p : T3 × T3} (h : ∀ g ∈ gs, g.1 ≠ l) : appG gs l p = gs := by
  unfold appG
  rw [List.map_congr_left (g := fun g => g) fun g hg => if_neg (h g hg), List.map_id']
theorem addG_eq (gs : Grp) (p : T3 × T3) : addG gs p = appG (addE gs (lthru p.1 p.2)) (lthru p.1 p.2) p := by
  unfold addG addE
  by_cases h : gs.any (fun g => decide (g.1 = lthru p.1 p.2)) = true
  · rw [if_pos h, if_pos h]; rfl
  · rw [if_neg h, if_neg h]
    have hn : ∀ g ∈ gs, g.1 ≠ lthru p.1 p.2 := fun g hg e => h (List.any_eq_true.mpr ⟨g, hg, decide_eq_true e⟩)
    show _ = appG (gs ++ [(lthru p.1 p.2, [])]) _ _
    unfold appG
    rw [List.map_append]
    have := appG_none (p := p) hn
    unfold appG at this
    rw [this]
    simp
theorem appG_keys (gs : Grp) (l : T3) (p : T3 × T3) : (appG gs l p).map (·.1) = gs.map (·.1) := by
  unfold appG
  rw [List.map_map]
  refine List.map_congr_left fun g _ => ?_
  show (if g.1 = l then (g.1, g.2 ++ [p]) else g).1 = g.1
  split <;> rfl
theorem addE_keys {gs : Grp} {l : T3} (h : (gs.map (·.1)).Nodup) : ((addE gs l).map (·.1)).Nodup := by
  unfold addE
  split
  · exact h
  · rename_i hn
    rw [List.map_append, List.nodup_append]
    refine ⟨h, by simp, ?_⟩
    intro x hx y hy e
    simp only [List.map_cons, List.map_nil, List.mem_singleton] at hy
    subst hy e
    obtain ⟨g, hg, e⟩ := List.mem_map.mp hx
    exact hn (List.any_eq_true.mpr ⟨g, hg, decide_eq_true e⟩)
def tot (gs : Grp) : Nat := (gs.flatMap (·.2)).length
theorem tot_cons (g : T3 × List (T3 × T3)) (gs : Grp) : tot (g :: gs) = g.2.length + tot gs := by
  unfold tot
  rw [List.flatMap_cons, List.length_append]
theorem tot_addE (gs : Grp) (l : T3) : tot (addE gs l) = tot gs := by
  unfold addE
  split
  · rfl
  · unfold tot
    rw [List.flatMap_append]
    simp
theorem tot_appG : ∀ {gs : Grp} {l : T3} {p : T3 × T3}, (gs.map (·.1)).Nodup → tot (appG gs l p) ≤ tot gs + 1
  | [], _, _, _ => Nat.zero_le _
  | g :: gs, l, p, h => by
    rw [List.map_cons, List.nodup_cons] at h
    show tot ((if g.1 = l then (g.1, g.2 ++ [p]) else g) :: appG gs l p) ≤ _
    rw [tot_cons, tot_cons]
    by_cases e : g.1 = l
    · rw [if_pos e, appG_none (fun g' hg' e' => h.1 (by rw [e, ← e']; exact List.mem_map.mpr ⟨g', hg', rfl⟩)), List.length_append]
      show g.2.length + 1 + _ ≤ _
      omega
    · rw [if_neg e]
      have := tot_appG (l := l) (p := p) h.2
      omega
structure GOk (gs : Grp) (qs : List (T3 × T3)) : Prop where
  nd : (gs.map (·.1)).Nodup
  tot : tot gs ≤ qs.length
  ne : ∀ g ∈ gs, g.2 ≠ []
  mem : ∀ g ∈ gs, ∀ p ∈ g.2, p ∈ qs ∧ lthru p.1 p.2 = g.1
  len : gs.length ≤ qs.length
theorem gok_step {gs : Grp} {qs : List (T3 × T3)} (h : GOk gs qs) (p : T3 × T3) : GOk (addG gs p) (qs ++ [p]) := by
  rw [addG_eq]
  refine ⟨by rw [appG_keys]; exact addE_keys h.nd, ?_, ?_, ?_, ?_⟩
  · have := tot_appG (l := lthru p.1 p.2) (p := p) (addE_keys (l := lthru p.1 p.2) h.nd)
    rw [tot_addE] at this
    rw [List.length_append]
    have := h.tot
    show _ ≤ qs.length + 1
    omega
  · intro g hg
    obtain ⟨g', hg', rfl⟩ := List.mem_map.mp hg
    split
    · simp
    · rename_i hn
      unfold addE at hg'
      split at hg'
      · exact h.ne g' hg'
      · rcases List.mem_append.mp hg' with hg' | hg'
        · exact h.ne g' hg'
        · rw [List.mem_singleton.mp hg'] at hn
          exact absurd rfl hn
  · intro g hg q hq
    obtain ⟨g', hg', rfl⟩ := List.mem_map.mp hg
    have old : ∀ q ∈ g'.2, q ∈ qs ++ [p] ∧ lthru q.1 q.2 = g'.1 := fun q hq => by
      unfold addE at hg'
      split at hg'
      · exact ⟨List.mem_append_left _ (h.mem g' hg' q hq).1, (h.mem g' hg' q hq).2⟩
      · rcases List.mem_append.mp hg' with hg' | hg'
        · exact ⟨List.mem_append_left _ (h.mem g' hg' q hq).1, (h.mem g' hg' q hq).2⟩
        · rw [List.mem_singleton.mp hg'] at hq
          cases hq
    split at hq
    · rename_i e
      rw [if_pos e]
      rcases List.mem_append.mp hq with hq | hq
      · exact old q hq
      · rw [List.mem_singleton.mp hq]
        exact ⟨by simp, e.symm⟩
    · rename_i e
      rw [if_neg e]
      exact old q hq
  · unfold appG addE
    rw [List.length_map, List.length_append]
    have := h.len
    split
    · show _ ≤ qs.length + 1; omega
    · rw [List.length_append]; show gs.length + 1 ≤ qs.length + 1; omega
theorem gok (qs : List (T3 × T3)) : GOk (qs.foldl addG []) qs := by
  have : ∀ (rs done : List (T3 × T3)) (gs : Grp), GOk gs done → GOk (rs.foldl addG gs) (done ++ rs) := by
    intro rs
    induction rs with
    | nil => intro done gs h; rw [List.append_nil]; exact h
    | cons r rs ih =>
      intro done gs h
      have := ih _ _ (gok_step h r)
      rw [List.append_assoc] at this
      exact this
  exact this qs [] [] ⟨.nil, Nat.le_refl _, (fun g hg => by cases hg), (fun g hg => by cases hg), Nat.le_refl _⟩
theorem joinGo_len : ∀ (r : List (T3 × T3)) (c : T3 × T3), (joinGo c r).length ≤ r.length + 1
  | [], c => Nat.le_refl _
  | p :: r, c => by
    unfold joinGo
    split
    · rw [List.length_cons, List.length_cons]
      have := joinGo_len r p
      omega
    · split
      · have := joinGo_len r (c.1, p.2)
        rw [List.length_cons]; omega
      · have := joinGo_len r c
        rw [List.length_cons]; omega
theorem joinF_len (r : List (T3 × T3)) : (joinF r).length ≤ r.length + 1 := by
  cases r with
  | nil => exact Nat.zero_le _
  | cons p r => exact joinGo_len (p :: r) p
theorem joins_len : ∀ gs : Grp, (gs.flatMap fun g => joinF g.2).length ≤ tot gs + gs.length
  | [] => Nat.le_refl _
  | g :: gs => by
    rw [List.flatMap_cons, List.length_append, tot_cons, List.length_cons]
    have := joins_len gs
    have := joinF_len g.2
    omega
end Mth
/-! stretches: what is known of the joined ones -/
namespace Mth
theorem ltS_trans {a b c : T3} (ha : Ok a) (hb : Ok b) (hc : Ok c) (h1 : ltS a b = true) (h2 : ltS b c = true) : ltS a c = true := by
  rw [ltS_iff ha hb] at h1
  rw [ltS_iff hb hc] at h2
  rw [ltS_iff ha hc]
  rcases h1 with h1 | ⟨e1, h1⟩
  · rcases h2 with h2 | ⟨e2, h2⟩
    · exact .inl (by grind)
    · exact .inl (by grind)
  · rcases h2 with h2 | ⟨e2, h2⟩
    · exact .inl (by grind)
    · exact .inr ⟨by grind, by grind⟩
theorem ltS_ne {a b : T3} (h : ltS a b = true) : a ≠ b := fun e => by
  subst e
  rw [ltS_self] at h
  cases h
theorem ltS_or {a b : T3} (ha : Ok a) (hb : Ok b) (h : a ≠ b) : ltS a b = true ∨ ltS b a = true := by
  have h1 := leS_not a b
  rw [leS_ne ha hb h] at h1
  cases e : ltS b a with
  | true => exact .inr rfl
  | false => rw [e] at h1; exact .inl h1
theorem ltS_asymm {a b : T3} (h : ltS a b = true) : ltS b a = false := by
  have h1 := leS_not a b
  have : leS a b = true := by
    unfold leS
    unfold ltS at h
    rw [decide_eq_true_iff] at *
    omega
  rw [this] at h1
  cases e : ltS b a with
  | false => rfl
  | true => rw [e] at h1; cases h1
structure Sg (p : T3 × T3) : Prop where
  o1 : Ok p.1
  o2 : Ok p.2
  b1 : B 1000 p.1
  b2 : B 1000 p.2
  lt : ltS p.1 p.2 = true
theorem Sg.ne {p : T3 × T3} (h : Sg p) : p.1 ≠ p.2 := ltS_ne h.lt
theorem ordP_sg {a b : T3} (ha : Ok a) (hb : Ok b) (ba : B 1000 a) (bb : B 1000 b) (h : a ≠ b) : Sg (ordP a b) := by
  unfold ordP
  by_cases e : ltS a b = true
  · rw [if_pos e]; exact ⟨ha, hb, ba, bb, e⟩
  · rw [if_neg e]; exact ⟨hb, ha, bb, ba, (ltS_or ha hb h).resolve_left e⟩
theorem joinGo_sg : ∀ {r : List (T3 × T3)} {c : T3 × T3}, Sg c → (∀ p ∈ r, Sg p) → ∀ q ∈ joinGo c r, Sg q
  | [], c, hc, _, q, hq => by
    rw [List.mem_singleton.mp hq]; exact hc
  | p :: r, c, hc, hr, q, hq => by
    have hp := hr p (.head _)
    have hr' : ∀ p ∈ r, Sg p := fun x hx => hr x (.tail _ hx)
    unfold joinGo at hq
    split at hq
    · rcases List.mem_cons.mp hq with h | h
      · rw [h]; exact hc
      · exact joinGo_sg hp hr' q h
    · split at hq
      · rename_i h2
        exact joinGo_sg (c := (c.1, p.2)) ⟨hc.o1, hp.o2, hc.b1, hp.b2, ltS_trans hc.o1 hc.o2 hp.o2 hc.lt h2⟩ hr' q hq
      · exact joinGo_sg hc hr' q hq
theorem joinF_sg {r : List (T3 × T3)} (h : ∀ p ∈ r, Sg p) : ∀ q ∈ joinF r, Sg q := by
  cases r with
  | nil => intro q hq; cases hq
  | cons p r => exact joinGo_sg (h p (.head _)) h
theorem ascP_mem {ps : List (T3 × T3)} {p : T3 × T3} : p ∈ ascP ps ↔ p ∈ ps := (List.mergeSort_perm ps leP).mem_iff
theorem asc_mem {zs : List T3} {z : T3} : z ∈ asc zs ↔ z ∈ zs := (List.mergeSort_perm zs leS).mem_iff
theorem longest_sg {ps : List (T3 × T3)} (h : ∀ p ∈ ps, Sg p) : ∀ q ∈ longestF ps, Sg q := by
  intro q hq
  obtain ⟨g, hg, hq⟩ := List.mem_flatMap.mp hq
  exact joinF_sg (fun p hp => h p (ascP_mem.mp ((gok (ascP ps)).mem g hg p hp).1)) q hq
theorem longest_len (ps : List (T3 × T3)) : (longestF ps).length ≤ 2 * ps.length := by
  have h1 := joins_len ((ascP ps).foldl addG [])
  have h2 := (gok (ascP ps)).tot
  have h3 := (gok (ascP ps)).len
  have h4 : (ascP ps).length = ps.length := List.length_mergeSort _
  unfold longestF
  omega
theorem lthru_B {a b : T3} (oa : Ok a) (ob : Ok b) (ne : a ≠ b) (ba : B 1000 a) (bb : B 1000 b) : B 2001 (lthru a b) := by
  have m := fun {x y : Int} (hx : x.natAbs < 2 ^ 1000) (hy : y.natAbs < 2 ^ 1000) => mul_lt (n := 1000) (m := 1000) hx hy
  refine lf_B ?_ ⟨sub_lt (m ba.2.1 bb.2.2) (m bb.2.1 ba.2.2), sub_lt (m bb.1 ba.2.2) (m ba.1 bb.2.2), sub_lt (m bb.1 ba.2.1) (m ba.1 bb.2.1)⟩
  by_cases h : a.2.1 * b.2.2 - b.2.1 * a.2.2 = 0
  · exact .inr fun h2 => ne (cross_ext oa ob (by dsimp only at h2; omega) (by omega))
  · exact .inl h
/-! dedup -/
def ddStep (acc : List T3) (z : T3) : List T3 := if z ∈ acc then acc else acc ++ [z]
theorem dedup_eq (zs : List T3) : dedup zs = zs.foldl ddStep [] := rfl
theorem dd_mem : ∀ (zs acc : List T3) (z : T3), z ∈ zs.foldl ddStep acc ↔ z ∈ acc ∨ z ∈ zs
  | [], acc, z => by simp
  | x :: zs, acc, z => by
    rw [List.foldl_cons, dd_mem zs]
    unfold ddStep
    split
    · rename_i h
      simp only [List.mem_cons]
      constructor
      · rintro (h' | h')
        · exact .inl h'
        · exact .inr (.inr h')
      · rintro (h' | rfl | h')
        · exact .inl h'
        · exact .inl h
        · exact .inr h'
    · simp only [List.mem_append, List.mem_cons, List.mem_nil_iff, or_false]
      constructor
      · rintro ((h' | h') | h')
        · exact .inl h'
        · exact .inr (.inl h')
        · exact .inr (.inr h')
      · rintro (h' | h' | h')
        · exact .inl (.inl h')
        · exact .inl (.inr h')
        · exact .inr h'
theorem dedup_mem {zs : List T3} {z : T3} : z ∈ dedup zs ↔ z ∈ zs := by rw [dedup_eq, dd_mem]; simp
theorem dd_len : ∀ (zs acc : List T3), (zs.foldl ddStep acc).length ≤ acc.length + zs.length
  | [], acc => Nat.le_refl _
  | x :: zs, acc => by
    rw [List.foldl_cons]
    have := dd_len zs (ddStep acc x)
    have h2 : (ddStep acc x).length ≤ acc.length + 1 := by
      unfold ddStep
      split
      · omega
      · rw [List.length_append]; exact Nat.le_refl _
    rw [List.length_cons]
    omega
theorem dedup_len (zs : List T3) : (dedup zs).length ≤ zs.length := by
  have := dd_len zs []
  rw [dedup_eq]
  simpa using this
/-! ### what two inks share, as it is reckoned -/
def olap (p q : T3 × T3) : Option (T3 × T3) :=
  if lthru p.1 p.2 = lthru q.1 q.2 then
    (if ltS (ordP p.2 q.2).1 (ordP p.1 q.1).2 = true then none else some ((ordP p.1 q.1).2, (ordP p.2 q.2).1))
  else if (lthru p.1 p.2).1 * (lthru q.1 q.2).2.1 = (lthru q.1 q.2).1 * (lthru p.1 p.2).2.1 then none
  else if (btw (cross (lthru p.1 p.2) (lthru q.1 q.2)) p && btw (cross (lthru p.1 p.2) (lthru q.1 q.2)) q) = true then some (cross (lthru p.1 p.2) (lthru q.1 q.2), cross (lthru p.1 p.2) (lthru q.1 q.2)) else none
def olaps (k l : Ink) : List (T3 × T3) := k.2.flatMap fun p => l.2.filterMap fun q => olap p q
def comF (k l : Ink) : Ink := inkFrom ((k.1.filter fun z => cov z l) ++ (l.1.filter fun z => cov z k) ++ ((olaps k l).filter fun s => decide (s.1 = s.2)).map (·.1)) ((olaps k l).filter fun s => !decide (s.1 = s.2))
structure InkOk (k : Ink) : Prop where
  d : ∀ z ∈ k.1, Ok z ∧ B 1000 z
  l : ∀ p ∈ k.2, Sg p ∧ B 120 p.1 ∧ B 120 p.2
  n : k.1.length ≤ 10000
  m : k.2.length ≤ 150
theorem ordP_B {a b : T3} {n : Nat} (ha : B n a) (hb : B n b) : B n (ordP a b).1 ∧ B n (ordP a b).2 := by
  unfold ordP
  split
  · exact ⟨ha, hb⟩
  · exact ⟨hb, ha⟩
theorem lthru_Bn {a b : T3} {n : Nat} (oa : Ok a) (ob : Ok b) (ne : a ≠ b) (ba : B n a) (bb : B n b) : B (n + n + 1) (lthru a b) := by
  have m := fun {x y : Int} (hx : x.natAbs < 2 ^ n) (hy : y.natAbs < 2 ^ n) => mul_lt (n := n) (m := n) hx hy
  refine lf_B ?_ ⟨sub_lt (m ba.2.1 bb.2.2) (m bb.2.1 ba.2.2), sub_lt (m bb.1 ba.2.2) (m ba.1 bb.2.2), sub_lt (m bb.1 ba.2.1) (m ba.1 bb.2.1)⟩
  by_cases h : a.2.1 * b.2.2 - b.2.1 * a.2.2 = 0
  · exact .inr fun h2 => ne (cross_ext oa ob (by dsimp only at h2; omega) (by omega))
  · exact .inl h
theorem cross_ok {l m : T3} (h : l.1 * m.2.1 ≠ m.1 * l.2.1) : Ok (cross l m) := low_ok (by
  intro e
  exact h (by omega))
theorem cross_B {l m : T3} {n : Nat} (h : l.1 * m.2.1 ≠ m.1 * l.2.1) (hl : B n l) (hm : B n m) : B (n + n + 1) (cross l m) := by
  have k := fun {x y : Int} (hx : x.natAbs < 2 ^ n) (hy : y.natAbs < 2 ^ n) => mul_lt (n := n) (m := n) hx hy
  exact low_B (by intro e; exact h (by omega)) (sub_lt (k hl.2.2 hm.2.1) (k hm.2.2 hl.2.1)) (sub_lt (k hl.1 hm.2.2) (k hm.1 hl.2.2)) (sub_lt (k hl.1 hm.2.1) (k hm.1 hl.2.1))
theorem ordP_ok {a b : T3} (ha : Ok a) (hb : Ok b) : Ok (ordP a b).1 ∧ Ok (ordP a b).2 := by
  unfold ordP
  split
  · exact ⟨ha, hb⟩
  · exact ⟨hb, ha⟩
theorem olap_ok {p q s : T3 × T3} (hp : Sg p) (hq : Sg q) (p1 : B 120 p.1) (p2 : B 120 p.2) (q1 : B 120 q.1) (q2 : B 120 q.2) (h : olap p q = some s) : (Ok s.1 ∧ Ok s.2 ∧ B 500 s.1 ∧ B 500 s.2) ∧ (s.1 ≠ s.2 → Sg s) := by
  unfold olap at h
  have fin : (Ok s.1 ∧ Ok s.2 ∧ B 500 s.1 ∧ B 500 s.2) → (s.1 ≠ s.2 → ltS s.1 s.2 = true) → (Ok s.1 ∧ Ok s.2 ∧ B 500 s.1 ∧ B 500 s.2) ∧ (s.1 ≠ s.2 → Sg s) := fun h1 h2 => ⟨h1, fun ne => ⟨h1.1, h1.2.1, h1.2.2.1.mono (by decide), h1.2.2.2.mono (by decide), h2 ne⟩⟩
  split at h
  · split at h
    · cases h
    · rename_i e2
      cases h
      obtain ⟨o1, o2⟩ := ordP_ok hp.o1 hq.o1
      obtain ⟨o3, o4⟩ := ordP_ok hp.o2 hq.o2
      obtain ⟨b1, b2⟩ := ordP_B p1 q1
      obtain ⟨b3, b4⟩ := ordP_B p2 q2
      refine fin ⟨o2, o3, b2.mono (by decide), b3.mono (by decide)⟩ fun ne => ?_
      exact (ltS_or o2 o3 ne).resolve_right e2
  · split at h
    · cases h
    · rename_i e2
      split at h
      · cases h
        have bc := cross_B e2 (lthru_Bn hp.o1 hp.o2 hp.ne p1 p2) (lthru_Bn hq.o1 hq.o2 hq.ne q1 q2)
        have oc := cross_ok e2
        exact fin ⟨oc, oc, bc.mono (by decide), bc.mono (by decide)⟩ fun ne => absurd rfl ne
      · cases h
theorem olaps_len (k l : Ink) : (olaps k l).length ≤ k.2.length * l.2.length := by
  unfold olaps
  induction k.2 with
  | nil => exact Nat.zero_le _
  | cons p r ih =>
    rw [List.flatMap_cons, List.length_append, List.length_cons, Nat.add_mul, Nat.one_mul]
    have := List.length_filterMap_le (fun q => olap p q) l.2
    omega
theorem olaps_mem {k l : Ink} {s : T3 × T3} (h : s ∈ olaps k l) : ∃ p ∈ k.2, ∃ q ∈ l.2, olap p q = some s := by
  obtain ⟨p, hp, h⟩ := List.mem_flatMap.mp h
  obtain ⟨q, hq, h⟩ := List.mem_filterMap.mp h
  exact ⟨p, hp, q, hq, h⟩
end Mth
/-! ink: sharper sizes; what it covers -/
namespace Mth
theorem joinGo_len1 : ∀ (r : List (T3 × T3)) (c : T3 × T3), (joinGo c r).length ≤ r.length + 1
  | [], _ => Nat.le_refl _
  | p :: r, c => by
    unfold joinGo
    split
    · rw [List.length_cons, List.length_cons]
      have := joinGo_len1 r p
      omega
    · split
      · have := joinGo_len1 r (c.1, p.2)
        rw [List.length_cons]
        omega
      · have := joinGo_len1 r c
        rw [List.length_cons]
        omega
theorem joinGo_self {p : T3 × T3} (h : Sg p) (r : List (T3 × T3)) : joinGo p (p :: r) = joinGo p r := by
  have n : ltS p.2 p.1 = false := by
    cases e : ltS p.2 p.1 with
    | false => rfl
    | true => exact absurd (ltS_trans h.o1 h.o2 h.o1 h.lt e) (by rw [ltS_self]; decide)
  rw [joinGo, if_neg (by rw [n]; decide), if_neg (by rw [ltS_self]; decide)]
theorem joinF_len1 {r : List (T3 × T3)} (h : ∀ p ∈ r, Sg p) : (joinF r).length ≤ r.length := by
  cases r with
  | nil => exact Nat.le_refl _
  | cons p r =>
    show (joinGo p (p :: r)).length ≤ _
    rw [joinGo_self (h p (.head _))]
    exact joinGo_len1 r p
theorem longest_len1 {ps : List (T3 × T3)} (h : ∀ p ∈ ps, Sg p) : (longestF ps).length ≤ ps.length := by
  have h2 := (gok (ascP ps)).tot
  have h4 : (ascP ps).length = ps.length := List.length_mergeSort _
  have key : ∀ gs : Grp, (∀ g ∈ gs, ∀ p ∈ g.2, Sg p) → (gs.flatMap fun g => joinF g.2).length ≤ tot gs := by
    intro gs
    induction gs with
    | nil => intro _; exact Nat.le_refl _
    | cons g gs ih =>
      intro hg
      rw [List.flatMap_cons, List.length_append, tot_cons]
      have := ih fun x hx => hg x (.tail _ hx)
      have := joinF_len1 (hg g (.head _))
      omega
  have := key ((ascP ps).foldl addG []) fun g hg p hp => h p (ascP_mem.mp ((gok (ascP ps)).mem g hg p hp).1)
  unfold longestF
  omega
theorem joinGo_P {P : T3 → Prop} : ∀ (r : List (T3 × T3)) (c : T3 × T3), (P c.1 ∧ P c.2) → (∀ p ∈ r, P p.1 ∧ P p.2) → ∀ q ∈ joinGo c r, P q.1 ∧ P q.2
  | [], c, hc, _, q, hq => by rw [List.mem_singleton.mp hq]; exact hc
  | p :: r, c, hc, hr, q, hq => by
    have hp := hr p (.head _)
    have hr' : ∀ p ∈ r, P p.1 ∧ P p.2 := fun x hx => hr x (.tail _ hx)
    unfold joinGo at hq
    split at hq
    · rcases List.mem_cons.mp hq with h | h
      · rw [h]; exact hc
      · exact joinGo_P r p hp hr' q h
    · split at hq
      · exact joinGo_P r (c.1, p.2) ⟨hc.1, hp.2⟩ hr' q hq
      · exact joinGo_P r c hc hr' q hq
theorem longest_P {P : T3 → Prop} {ps : List (T3 × T3)} (h : ∀ p ∈ ps, P p.1 ∧ P p.2) : ∀ q ∈ longestF ps, P q.1 ∧ P q.2 := by
  intro q hq
  obtain ⟨g, hg, hq⟩ := List.mem_flatMap.mp hq
  have hm : ∀ p ∈ g.2, P p.1 ∧ P p.2 := fun p hp => h p (ascP_mem.mp ((gok (ascP ps)).mem g hg p hp).1)
  cases e : g.2 with
  | nil => rw [e] at hq; cases hq
  | cons p r =>
    rw [e] at hq hm
    exact joinGo_P _ p (hm p (.head _)) hm q hq
/-! ### what the longest stretches cover -/
def le (a b : T3) : Prop := re a < re b ∨ (re a = re b ∧ im a ≤ im b)
theorem le_iff {a b : T3} (ha : Ok a) (hb : Ok b) : ltS b a = false ↔ le a b := by
  have h := ltS_iff hb ha
  unfold le
  cases e : ltS b a with
  | false =>
    rw [e] at h
    have h : ¬ (re b < re a ∨ (re b = re a ∧ im b < im a)) := fun x => absurd (h.mpr x) (by decide)
    grind
  | true =>
    rw [e] at h
    have h := h.mp rfl
    grind
theorem lt_iff {a b : T3} (ha : Ok a) (hb : Ok b) : ltS a b = true ↔ ¬ le b a := by
  rw [← le_iff hb ha]
  cases ltS a b <;> simp
theorem btw_iff {z : T3} {p : T3 × T3} (hz : Ok z) (h1 : Ok p.1) (h2 : Ok p.2) : btw z p = true ↔ le p.1 z ∧ le z p.2 := by
  unfold btw
  rw [Bool.and_eq_true, ← le_iff h1 hz, ← le_iff hz h2]
  cases ltS z p.1 <;> cases ltS p.2 z <;> simp
theorem le_refl (a : T3) : le a a := .inr ⟨rfl, Rat.le_refl⟩
theorem le_trans {a b c : T3} (h1 : le a b) (h2 : le b c) : le a c := by
  unfold le at *
  grind
theorem le_total (a b : T3) : le a b ∨ le b a := by
  unfold le
  grind
theorem le_anti {a b : T3} (ha : Ok a) (hb : Ok b) (h1 : le a b) (h2 : le b a) : a = b := by
  unfold le at *
  exact ext ha hb (by grind) (by grind)
theorem Sg.le {p : T3 × T3} (h : Sg p) : le p.1 p.2 := by
  have := (lt_iff h.o1 h.o2).mp h.lt
  exact (le_total _ _).resolve_right this
/-- one stretch after another: what is joined covers the same -/
theorem joinGo_btw {z : T3} (hz : Ok z) : ∀ (r : List (T3 × T3)) (c : T3 × T3), Sg c → (∀ p ∈ r, Sg p) → (∀ p ∈ r, le c.1 p.1) → r.Pairwise (fun p q => le p.1 q.1) → ((∃ q ∈ joinGo c r, btw z q = true) ↔ btw z c = true ∨ ∃ p ∈ r, btw z p = true)
  | [], c, _, _, _, _ => by
    unfold joinGo
    simp
  | p :: r, c, hc, hr, hs, hp => by
    have sp := hr p (.head _)
    have hr' : ∀ x ∈ r, Sg x := fun x hx => hr x (.tail _ hx)
    have hp' := (List.pairwise_cons.mp hp).2
    have hp1 := (List.pairwise_cons.mp hp).1
    have s1 := hs p (.head _)
    have any : (∃ x ∈ p :: r, btw z x = true) ↔ btw z p = true ∨ ∃ x ∈ r, btw z x = true := by simp
    rw [any]
    unfold joinGo
    split
    · rw [show (∃ q ∈ c :: joinGo p r, btw z q = true) ↔ btw z c = true ∨ ∃ q ∈ joinGo p r, btw z q = true by simp, joinGo_btw hz r p sp hr' hp1 hp']
    · rename_i h1
      have l1 : le p.1 c.2 := (le_iff sp.o1 hc.o2).mp (by simpa using h1)
      split
      · rename_i h2
        have l2 : le c.2 p.2 := (le_total _ _).resolve_right ((lt_iff hc.o2 sp.o2).mp h2)
        have sn : Sg (c.1, p.2) := ⟨hc.o1, sp.o2, hc.b1, sp.b2, ltS_trans hc.o1 hc.o2 sp.o2 hc.lt h2⟩
        rw [joinGo_btw hz r (c.1, p.2) sn hr' (fun x hx => hs x (.tail _ hx)) hp', ← or_assoc]
        have e : btw z (c.1, p.2) = true ↔ btw z c = true ∨ btw z p = true := by
          rw [btw_iff (p := (c.1, p.2)) hz hc.o1 sp.o2, btw_iff hz hc.o1 hc.o2, btw_iff hz sp.o1 sp.o2]
          constructor
          · rintro ⟨a, b⟩
            rcases le_total z c.2 with h | h
            · exact .inl ⟨a, h⟩
            · exact .inr ⟨le_trans l1 h, b⟩
          · rintro (⟨a, b⟩ | ⟨a, b⟩)
            · exact ⟨a, le_trans b l2⟩
            · exact ⟨le_trans s1 a, b⟩
        rw [e]
      · rename_i h2
        have l2 : le p.2 c.2 := (le_iff sp.o2 hc.o2).mp (by simpa using h2)
        rw [joinGo_btw hz r c hc hr' (fun x hx => hs x (.tail _ hx)) hp', ← or_assoc]
        have e : btw z p = true → btw z c = true := by
          rw [btw_iff hz hc.o1 hc.o2, btw_iff hz sp.o1 sp.o2]
          rintro ⟨a, b⟩
          exact ⟨le_trans s1 a, le_trans b l2⟩
        constructor
        · rintro (h | h)
          · exact .inl (.inl h)
          · exact .inr h
        · rintro ((h | h) | h)
          · exact .inl h
          · exact .inl (e h)
          · exact .inr h
theorem joinF_btw {z : T3} (hz : Ok z) {r : List (T3 × T3)} (hr : ∀ p ∈ r, Sg p) (hp : r.Pairwise (fun p q => le p.1 q.1)) : (∃ q ∈ joinF r, btw z q = true) ↔ ∃ p ∈ r, btw z p = true := by
  cases r with
  | nil => exact Iff.rfl
  | cons p r =>
    show (∃ q ∈ joinGo p (p :: r), btw z q = true) ↔ _
    rw [joinGo_self (hr p (.head _)), joinGo_btw hz r p (hr p (.head _)) (fun x hx => hr x (.tail _ hx)) (List.pairwise_cons.mp hp).1 (List.pairwise_cons.mp hp).2]
    simp
/-! ### lines through two spots -/
def lr (a b : T3) : T3 := (a.2.1 * b.2.2 - b.2.1 * a.2.2, b.1 * a.2.2 - a.1 * b.2.2, b.1 * a.2.1 - a.1 * b.2.1)
theorem lthru_nz {a b : T3} (oa : Ok a) (ob : Ok b) (ne : a ≠ b) : (lr a b).1 ≠ 0 ∨ (lr a b).2.1 ≠ 0 := by
  unfold lr
  by_cases h : a.2.1 * b.2.2 - b.2.1 * a.2.2 = 0
  · exact .inr fun h2 => ne (cross_ext oa ob (by dsimp only at h2; omega) (by omega))
  · exact .inl h
theorem lthru_ln {a b : T3} (oa : Ok a) (ob : Ok b) (ne : a ≠ b) : Ln (lthru a b) := lf_ln (lthru_nz oa ob ne)
theorem lthru_on1 {a b : T3} (oa : Ok a) (ob : Ok b) (ne : a ≠ b) : on (lthru a b) a := by
  refine (lf_on (lthru_nz oa ob ne) a).mpr ?_
  unfold on lr
  dsimp only
  grind
theorem lthru_on2 {a b : T3} (oa : Ok a) (ob : Ok b) (ne : a ≠ b) : on (lthru a b) b := by
  refine (lf_on (lthru_nz oa ob ne) b).mpr ?_
  unfold on lr
  dsimp only
  grind
theorem lthru_uniq {a b l : T3} (oa : Ok a) (ob : Ok b) (ne : a ≠ b) (hl : Ln l) (h1 : on l a) (h2 : on l b) : lthru a b = l := by
  have hm := lthru_ln oa ob ne
  by_cases d : (lthru a b).1 * l.2.1 = l.1 * (lthru a b).2.1
  · exact ln_same hm hl oa d (lthru_on1 oa ob ne) h1
  · exact absurd (((cross_iff oa d).mp ⟨lthru_on1 oa ob ne, h1⟩).trans ((cross_iff ob d).mp ⟨lthru_on2 oa ob ne, h2⟩).symm) ne
theorem joinGo_line {l : T3} : ∀ (r : List (T3 × T3)) (c : T3 × T3), Sg c → (∀ p ∈ r, Sg p) → lthru c.1 c.2 = l → (∀ p ∈ r, lthru p.1 p.2 = l) → ∀ q ∈ joinGo c r, lthru q.1 q.2 = l
  | [], c, _, _, hc, _, q, hq => by rw [List.mem_singleton.mp hq]; exact hc
  | p :: r, c, sc, hr, hc, hl, q, hq => by
    have sp := hr p (.head _)
    have hr' : ∀ x ∈ r, Sg x := fun x hx => hr x (.tail _ hx)
    have hl' : ∀ x ∈ r, lthru x.1 x.2 = l := fun x hx => hl x (.tail _ hx)
    have lp := hl p (.head _)
    unfold joinGo at hq
    split at hq
    · rcases List.mem_cons.mp hq with h | h
      · rw [h]; exact hc
      · exact joinGo_line r p sp hr' lp hl' q h
    · split at hq
      · rename_i h2
        have sn : Sg (c.1, p.2) := ⟨sc.o1, sp.o2, sc.b1, sp.b2, ltS_trans sc.o1 sc.o2 sp.o2 sc.lt h2⟩
        refine joinGo_line r (c.1, p.2) sn hr' ?_ hl' q hq
        have hL : Ln l := by rw [← hc]; exact lthru_ln sc.o1 sc.o2 sc.ne
        exact lthru_uniq sc.o1 sp.o2 sn.ne hL (by rw [← hc]; exact lthru_on1 sc.o1 sc.o2 sc.ne) (by rw [← lp]; exact lthru_on2 sp.o1 sp.o2 sp.ne)
      · exact joinGo_line r c sc hr' hc hl' q hq
theorem joinF_line {l : T3} {r : List (T3 × T3)} (hr : ∀ p ∈ r, Sg p) (hl : ∀ p ∈ r, lthru p.1 p.2 = l) : ∀ q ∈ joinF r, lthru q.1 q.2 = l := by
  cases r with
  | nil => intro q hq; cases hq
  | cons p r =>
    intro q hq
    have hq : q ∈ joinGo p (p :: r) := hq
    exact joinGo_line (p :: r) p (hr p (.head _)) hr (hl p (.head _)) hl q hq
/-! ### each stretch stands in the group of its line, in their order -/
def mine (l : T3) (qs : List (T3 × T3)) : List (T3 × T3) := qs.filter fun p => decide (lthru p.1 p.2 = l)
structure GAll (gs : Grp) (qs : List (T3 × T3)) : Prop where
  own : ∀ g ∈ gs, g.2 = mine g.1 qs
  has : ∀ p ∈ qs, ∃ g ∈ gs, g.1 = lthru p.1 p.2
theorem gall_step {gs : Grp} {qs : List (T3 × T3)} (h : GAll gs qs) (p : T3 × T3) : GAll (addG gs p) (qs ++ [p]) := by
  have mn : ∀ l, mine l (qs ++ [p]) = mine l qs ++ (if lthru p.1 p.2 = l then [p] else []) := fun l => by
    unfold mine
    rw [List.filter_append, List.filter_cons, List.filter_nil]
    by_cases e : lthru p.1 p.2 = l
    · rw [if_pos e, if_pos (decide_eq_true e)]
    · rw [if_neg e, if_neg (by rw [decide_eq_false e]; decide)]
  unfold addG
  split
  · rename_i ha
    obtain ⟨g0, hg0, e0⟩ := List.any_eq_true.mp ha
    have e0 := of_decide_eq_true e0
    refine ⟨fun g hg => ?_, fun q hq => ?_⟩
    · obtain ⟨x, hx, rfl⟩ := List.mem_map.mp hg
      by_cases e : x.1 = lthru p.1 p.2
      · rw [if_pos e]
        show x.2 ++ [p] = mine x.1 (qs ++ [p])
        rw [mn, if_pos e.symm, h.own x hx]
      · rw [if_neg e, mn, if_neg (fun y => e y.symm), List.append_nil]
        exact h.own x hx
    · have key : ∀ l, (∃ g ∈ gs, g.1 = l) → ∃ g ∈ gs.map (fun g => if g.1 = lthru p.1 p.2 then (g.1, g.2 ++ [p]) else g), g.1 = l := by
        rintro l ⟨g, hg, rfl⟩
        refine ⟨_, List.mem_map.mpr ⟨g, hg, rfl⟩, ?_⟩
        split <;> rfl
      rcases List.mem_append.mp hq with hq | hq
      · exact key _ (h.has q hq)
      · rw [List.mem_singleton.mp hq]
        exact key _ ⟨g0, hg0, e0⟩
  · rename_i ha
    have hn : ∀ g ∈ gs, g.1 ≠ lthru p.1 p.2 := fun g hg e => ha (List.any_eq_true.mpr ⟨g, hg, decide_eq_true e⟩)
    refine ⟨fun g hg => ?_, fun q hq => ?_⟩
    · rcases List.mem_append.mp hg with hg | hg
      · rw [mn, if_neg (fun y => hn g hg y.symm), List.append_nil]
        exact h.own g hg
      · rw [List.mem_singleton.mp hg]
        show [p] = mine (lthru p.1 p.2) (qs ++ [p])
        rw [mn, if_pos rfl]
        have : mine (lthru p.1 p.2) qs = [] := by
          refine List.filter_eq_nil_iff.mpr fun q hq e => ?_
          obtain ⟨g, hg, eg⟩ := h.has q hq
          exact hn g hg (eg.trans (of_decide_eq_true e))
        rw [this]
        rfl
    · rcases List.mem_append.mp hq with hq | hq
      · obtain ⟨g, hg, eg⟩ := h.has q hq
        exact ⟨g, List.mem_append.mpr (.inl hg), eg⟩
      · rw [List.mem_singleton.mp hq]
        exact ⟨_, List.mem_append.mpr (.inr (.head _)), rfl⟩
theorem gall (qs : List (T3 × T3)) : GAll (qs.foldl addG []) qs := by
  have : ∀ (rs done : List (T3 × T3)) (gs : Grp), GAll gs done → GAll (rs.foldl addG gs) (done ++ rs) := by
    intro rs
    induction rs with
    | nil => intro done gs h; rw [List.append_nil]; exact h
    | cons r rs ih =>
      intro done gs h
      have := ih _ _ (gall_step h r)
      rw [List.append_assoc] at this
      exact this
  exact this qs [] [] ⟨(fun g hg => nomatch hg), (fun p hp => nomatch hp)⟩
/-! ### what is sorted ascends -/
def leR (a b : T3) : Bool := decide (re a < re b ∨ (re a = re b ∧ im a ≤ im b))
theorem leS_R {a b : T3} (ha : Ok a) (hb : Ok b) : leS a b = leR a b := by
  have h := le_iff ha hb
  rw [leS_not]
  unfold leR
  unfold le at h
  by_cases e : re a < re b ∨ (re a = re b ∧ im a ≤ im b)
  · rw [decide_eq_true e, h.mpr e]; rfl
  · rw [decide_eq_false e]
    cases x : ltS b a with
    | true => rfl
    | false => exact absurd (h.mp x) e
theorem leR_iff {a b : T3} : leR a b = true ↔ le a b := decide_eq_true_iff
def leQ (p q : T3 × T3) : Bool := (leR p.1 q.1 && !leR q.1 p.1) || (leR p.1 q.1 && leR q.1 p.1 && leR p.2 q.2)
theorem leP_Q {p q : T3 × T3} (hp : Sg p) (hq : Sg q) : leP p q = leQ p q := by
  unfold leP leQ
  rw [leS_R hp.o2 hq.o2]
  have h1 : ltS p.1 q.1 = !leR q.1 p.1 := by
    have := leS_not q.1 p.1
    rw [leS_R hq.o1 hp.o1] at this
    rw [this, Bool.not_not]
  have h2 : decide (p.1 = q.1) = (leR p.1 q.1 && leR q.1 p.1) := by
    by_cases e : p.1 = q.1
    · rw [decide_eq_true e, e, leR_iff.mpr (le_refl _)]; rfl
    · rw [decide_eq_false e]
      cases x : leR p.1 q.1 with
      | false => rfl
      | true =>
        cases y : leR q.1 p.1 with
        | false => rfl
        | true => exact absurd (le_anti hp.o1 hq.o1 (leR_iff.mp x) (leR_iff.mp y)) e
  rw [h1, h2]
  have tot := le_total p.1 q.1
  rw [← leR_iff, ← leR_iff] at tot
  revert tot
  cases leR p.1 q.1 <;> cases leR q.1 p.1 <;> simp
theorem ascP_asc {ps : List (T3 × T3)} (h : ∀ p ∈ ps, Sg p) : (ascP ps).Pairwise fun p q => le p.1 q.1 := by
  have e : ascP ps = ps.mergeSort leQ := by
    have := List.map_mergeSort (r := leP) (s := leQ) (f := fun p => p) (l := ps) fun a ha b hb => leP_Q (h a ha) (h b hb)
    rw [List.map_id', List.map_id'] at this
    exact this
  rw [e]
  refine List.Pairwise.imp ?_ (List.pairwise_mergeSort (le := leQ) ?_ ?_ ps)
  · intro a b hab
    unfold leQ at hab
    have : leR a.1 b.1 = true := by
      cases x : leR a.1 b.1 with
      | true => rfl
      | false => rw [x] at hab; simp at hab
    exact leR_iff.mp this
  · intro a b c h1 h2
    unfold leQ leR at *
    simp only [Bool.or_eq_true, Bool.and_eq_true, Bool.not_eq_true', decide_eq_true_eq, decide_eq_false_iff_not] at *
    grind
  · intro a b
    unfold leQ leR
    simp only [Bool.or_eq_true, Bool.and_eq_true, Bool.not_eq_true', decide_eq_true_eq, decide_eq_false_iff_not]
    grind
theorem onAny_iff {z : T3} {ps : List (T3 × T3)} : onAny z ps = true ↔ ∃ p ∈ ps, btw z p = true ∧ on (lthru p.1 p.2) z := by
  unfold onAny
  rw [List.any_eq_true]
  simp only [Bool.and_eq_true, decide_eq_true_eq]
/-- the longest stretches cover what the stretches cover -/
theorem onAny_longest {z : T3} (hz : Ok z) {ps : List (T3 × T3)} (h : ∀ p ∈ ps, Sg p) : onAny z (longestF ps) = onAny z ps := by
  have hA : ∀ p ∈ ascP ps, Sg p := fun p hp => h p (ascP_mem.mp hp)
  have gs := gall (ascP ps)
  have one : ∀ g ∈ (ascP ps).foldl addG [], (∀ p ∈ g.2, Sg p) ∧ (∀ p ∈ g.2, lthru p.1 p.2 = g.1) ∧ g.2.Pairwise (fun p q => le p.1 q.1) := fun g hg => by
    rw [gs.own g hg]
    refine ⟨fun p hp => hA p (List.mem_filter.mp hp).1, fun p hp => of_decide_eq_true (List.mem_filter.mp hp).2, ?_⟩
    exact List.Pairwise.filter _ (ascP_asc h)
  rw [Bool.eq_iff_iff, onAny_iff, onAny_iff]
  constructor
  · rintro ⟨q, hq, hb, ho⟩
    obtain ⟨g, hg, hq⟩ := List.mem_flatMap.mp hq
    obtain ⟨g1, g2, g3⟩ := one g hg
    obtain ⟨p, hp, hpb⟩ := (joinF_btw hz g1 g3).mp ⟨q, hq, hb⟩
    rw [joinF_line g1 g2 q hq] at ho
    have hm : p ∈ ascP ps := by
      rw [gs.own g hg] at hp
      exact (List.mem_filter.mp hp).1
    exact ⟨p, ascP_mem.mp hm, hpb, by rw [g2 p hp]; exact ho⟩
  · rintro ⟨p, hp, hb, ho⟩
    obtain ⟨g, hg, eg⟩ := gs.has p (ascP_mem.mpr hp)
    obtain ⟨g1, g2, g3⟩ := one g hg
    have hm : p ∈ g.2 := by
      rw [gs.own g hg]
      exact List.mem_filter.mpr ⟨ascP_mem.mpr hp, decide_eq_true eg.symm⟩
    obtain ⟨q, hq, hqb⟩ := (joinF_btw hz g1 g3).mpr ⟨p, hm, hb⟩
    exact ⟨q, List.mem_flatMap.mpr ⟨g, hg, hq⟩, hqb, by rw [joinF_line g1 g2 q hq, eg]; exact ho⟩
/-- T1: what ink from dots and stretches covers -/
theorem cov_inkFrom {z : T3} (hz : Ok z) {ds : List T3} {ps : List (T3 × T3)} (h : ∀ p ∈ ps, Sg p) : cov z (inkFrom ds ps) = true ↔ z ∈ ds ∨ onAny z ps = true := by
  have e1 : onAny z (ascP (longestF ps)) = onAny z (longestF ps) := by
    rw [Bool.eq_iff_iff, onAny_iff, onAny_iff]
    simp only [ascP_mem]
  have e2 : z ∈ (inkFrom ds ps).1 ↔ z ∈ ds ∧ onAny z (longestF ps) = false := by
    show z ∈ asc (dedup (ds.filter fun z => !onAny z (longestF ps))) ↔ _
    rw [asc_mem]
    unfold dedup
    have := dd_mem (ds.filter fun z => !onAny z (longestF ps)) [] z
    rw [show (∀ zs : List T3, zs.foldl (fun acc z => if z ∈ acc then acc else acc ++ [z]) [] = zs.foldl ddStep []) from fun _ => rfl, this, List.mem_filter]
    simp
  unfold cov
  rw [Bool.or_eq_true, decide_eq_true_iff, e2]
  show _ ∨ onAny z (ascP (longestF ps)) = true ↔ _
  rw [e1, onAny_longest hz h]
  cases onAny z ps <;> simp
/-! ### what two inks share -/
def onS (z : T3) (p : T3 × T3) : Prop := btw z p = true ∧ on (lthru p.1 p.2) z
theorem ordP_lo {a b z : T3} (ha : Ok a) (hb : Ok b) : le z (ordP a b).1 ↔ le z a ∧ le z b := by
  unfold ordP
  split
  · rename_i h
    have l := (le_total a b).resolve_right ((lt_iff ha hb).mp h)
    exact ⟨fun x => ⟨x, le_trans x l⟩, fun x => x.1⟩
  · rename_i h
    have l := (le_iff hb ha).mp (by simpa using h)
    exact ⟨fun x => ⟨le_trans x l, x⟩, fun x => x.2⟩
theorem ordP_hi {a b z : T3} (ha : Ok a) (hb : Ok b) : le (ordP a b).2 z ↔ le a z ∧ le b z := by
  unfold ordP
  split
  · rename_i h
    have l := (le_total a b).resolve_right ((lt_iff ha hb).mp h)
    exact ⟨fun x => ⟨le_trans l x, x⟩, fun x => x.2⟩
  · rename_i h
    have l := (le_iff hb ha).mp (by simpa using h)
    exact ⟨fun x => ⟨x, le_trans l x⟩, fun x => x.1⟩
theorem ordP_or (a b : T3) : ((ordP a b).1 = a ∨ (ordP a b).1 = b) ∧ ((ordP a b).2 = a ∨ (ordP a b).2 = b) := by
  unfold ordP
  split
  · exact ⟨.inl rfl, .inr rfl⟩
  · exact ⟨.inr rfl, .inl rfl⟩
theorem olap_cov {p q : T3 × T3} (hp : Sg p) (hq : Sg q) {z : T3} (hz : Ok z) :
    (onS z p ∧ onS z q) ↔ ∃ s, olap p q = some s ∧ ((s.1 = s.2 ∧ z = s.1) ∨ (s.1 ≠ s.2 ∧ onS z s)) := by
  have lp := lthru_ln hp.o1 hp.o2 hp.ne
  have lq := lthru_ln hq.o1 hq.o2 hq.ne
  have p1 := lthru_on1 hp.o1 hp.o2 hp.ne
  have p2 := lthru_on2 hp.o1 hp.o2 hp.ne
  have q1 := lthru_on1 hq.o1 hq.o2 hq.ne
  have q2 := lthru_on2 hq.o1 hq.o2 hq.ne
  unfold olap
  split
  · rename_i e
    rw [← e] at q1 q2
    obtain ⟨_, o2⟩ := ordP_ok hp.o1 hq.o1
    obtain ⟨o3, _⟩ := ordP_ok hp.o2 hq.o2
    have h2 : on (lthru p.1 p.2) (ordP p.1 q.1).2 := by
      rcases (ordP_or p.1 q.1).2 with x | x <;> rw [x] <;> assumption
    have h3 : on (lthru p.1 p.2) (ordP p.2 q.2).1 := by
      rcases (ordP_or p.2 q.2).1 with x | x <;> rw [x] <;> assumption
    have L : (onS z p ∧ onS z q) ↔ on (lthru p.1 p.2) z ∧ le (ordP p.1 q.1).2 z ∧ le z (ordP p.2 q.2).1 := by
      unfold onS
      rw [btw_iff hz hp.o1 hp.o2, btw_iff hz hq.o1 hq.o2, ← e, ordP_lo hp.o2 hq.o2, ordP_hi hp.o1 hq.o1]
      grind
    rw [L]
    generalize (ordP p.1 q.1).2 = hi at *
    generalize (ordP p.2 q.2).1 = lo at *
    split
    · rename_i x
      have := (lt_iff o3 o2).mp x
      constructor
      · rintro ⟨_, a, b⟩
        exact absurd (le_trans a b) this
      · rintro ⟨s, h, _⟩
        cases h
    · constructor
      · rintro ⟨a, b, c⟩
        refine ⟨(hi, lo), rfl, ?_⟩
        by_cases ee : hi = lo
        · exact .inl ⟨ee, le_anti hz o2 (by rw [ee]; exact c) b⟩
        · refine .inr ⟨ee, (btw_iff (p := (hi, lo)) hz o2 o3).mpr ⟨b, c⟩, ?_⟩
          show on (lthru hi lo) z
          rw [lthru_uniq o2 o3 ee lp h2 h3]
          exact a
      · rintro ⟨s, h, hs⟩
        cases h
        rcases hs with ⟨ee, ez⟩ | ⟨ee, a, b⟩
        · have ee : hi = lo := ee
          have ez : z = hi := ez
          rw [ez]
          exact ⟨h2, le_refl _, by rw [← ee]; exact le_refl _⟩
        · have ee : hi ≠ lo := ee
          have b : on (lthru hi lo) z := b
          rw [lthru_uniq o2 o3 ee lp h2 h3] at b
          have := (btw_iff (p := (hi, lo)) hz o2 o3).mp a
          exact ⟨b, this.1, this.2⟩
  · rename_i ne
    split
    · rename_i par
      constructor
      · rintro ⟨⟨_, a⟩, ⟨_, b⟩⟩
        exact absurd (ln_same lp lq hz par a b) ne
      · rintro ⟨s, h, _⟩
        cases h
    · rename_i npar
      have ci := cross_iff hz npar
      have oc := cross_ok npar
      have cc := (cross_iff oc npar).mpr rfl
      split
      · rename_i bb
        rw [Bool.and_eq_true] at bb
        constructor
        · rintro ⟨⟨_, a⟩, ⟨_, b⟩⟩
          exact ⟨_, rfl, .inl ⟨rfl, ci.mp ⟨a, b⟩⟩⟩
        · rintro ⟨s, h, hs⟩
          cases h
          rcases hs with ⟨_, rfl⟩ | ⟨x, _⟩
          · exact ⟨⟨bb.1, cc.1⟩, ⟨bb.2, cc.2⟩⟩
          · exact absurd rfl x
      · rename_i bb
        constructor
        · rintro ⟨⟨x, a⟩, ⟨y, b⟩⟩
          have := ci.mp ⟨a, b⟩
          rw [this] at x y
          exact absurd (by rw [x, y]; rfl) bb
        · rintro ⟨s, h, _⟩
          cases h
theorem cov_iff {z : T3} {k : Ink} : cov z k = true ↔ z ∈ k.1 ∨ ∃ p ∈ k.2, onS z p := by
  unfold cov
  rw [Bool.or_eq_true, decide_eq_true_iff, onAny_iff]
  rfl
/-- T3: what is common covers just what both cover -/
theorem cov_com {k l : Ink} (ok : InkOk k) (ol : InkOk l) {z : T3} (hz : Ok z) : cov z (comF k l) = true ↔ cov z k = true ∧ cov z l = true := by
  have fin : ∀ s ∈ olaps k l, s.1 ≠ s.2 → Sg s := fun s hs => by
    obtain ⟨p, hp, q, hq, e⟩ := olaps_mem hs
    have sp := ok.l p hp
    have sq := ol.l q hq
    exact (olap_ok sp.1 sq.1 sp.2.1 sp.2.2 sq.2.1 sq.2.2 e).2
  have sg : ∀ s ∈ (olaps k l).filter fun s => !decide (s.1 = s.2), Sg s := fun s hs => by
    obtain ⟨hm, hf⟩ := List.mem_filter.mp hs
    exact fin s hm fun e => by rw [decide_eq_true e] at hf; exact absurd hf (by decide)
  have mem : ∀ {p q s}, p ∈ k.2 → q ∈ l.2 → olap p q = some s → s ∈ olaps k l := fun hp hq e => List.mem_flatMap.mpr ⟨_, hp, List.mem_filterMap.mpr ⟨_, hq, e⟩⟩
  unfold comF
  rw [cov_inkFrom hz sg, onAny_iff]
  constructor
  · rintro (h | ⟨s, hs, h⟩)
    · rcases List.mem_append.mp h with h | h
      · rcases List.mem_append.mp h with h | h
        · obtain ⟨a, b⟩ := List.mem_filter.mp h
          exact ⟨cov_iff.mpr (.inl a), b⟩
        · obtain ⟨a, b⟩ := List.mem_filter.mp h
          exact ⟨b, cov_iff.mpr (.inl a)⟩
      · obtain ⟨s, hs, rfl⟩ := List.mem_map.mp h
        obtain ⟨hm, hf⟩ := List.mem_filter.mp hs
        obtain ⟨p, hp, q, hq, e⟩ := olaps_mem hm
        have := (olap_cov (ok.l p hp).1 (ol.l q hq).1 hz).mpr ⟨s, e, .inl ⟨of_decide_eq_true hf, rfl⟩⟩
        exact ⟨cov_iff.mpr (.inr ⟨p, hp, this.1⟩), cov_iff.mpr (.inr ⟨q, hq, this.2⟩)⟩
    · obtain ⟨hm, hf⟩ := List.mem_filter.mp hs
      obtain ⟨p, hp, q, hq, e⟩ := olaps_mem hm
      have := (olap_cov (ok.l p hp).1 (ol.l q hq).1 hz).mpr ⟨s, e, .inr ⟨(fun x => by rw [decide_eq_true x] at hf; exact absurd hf (by decide)), h⟩⟩
      exact ⟨cov_iff.mpr (.inr ⟨p, hp, this.1⟩), cov_iff.mpr (.inr ⟨q, hq, this.2⟩)⟩
  · rintro ⟨h1, h2⟩
    rcases cov_iff.mp h1 with a | ⟨p, hp, a⟩
    · exact .inl (List.mem_append.mpr (.inl (List.mem_append.mpr (.inl (List.mem_filter.mpr ⟨a, h2⟩)))))
    rcases cov_iff.mp h2 with b | ⟨q, hq, b⟩
    · exact .inl (List.mem_append.mpr (.inl (List.mem_append.mpr (.inr (List.mem_filter.mpr ⟨b, h1⟩)))))
    obtain ⟨s, e, hs⟩ := (olap_cov (ok.l p hp).1 (ol.l q hq).1 hz).mp ⟨a, b⟩
    rcases hs with ⟨es, rfl⟩ | ⟨es, hs⟩
    · exact .inl (List.mem_append.mpr (.inr (List.mem_map.mpr ⟨s, List.mem_filter.mpr ⟨mem hp hq e, decide_eq_true es⟩, rfl⟩)))
    · exact .inr ⟨s, List.mem_filter.mpr ⟨mem hp hq e, by rw [decide_eq_false es]; rfl⟩, hs⟩
end Mth
/-! ink: two inks that cover the same are equal (T2) -/
namespace Mth
theorem nle {a b : T3} (h : ¬ le b a) : le a b := (le_total a b).resolve_right h
/-- between two spots of a line there is one of the line, ahead of all that stand in a list -/
theorem mid {l a e : T3} (oa : Ok a) (oe : Ok e) (h : ¬ le e a) (ha : on l a) (he : on l e) : ∃ z, Ok z ∧ on l z ∧ ¬ le z a ∧ ¬ le e z := by
  have o2 : Ok ((1, 0, 2) : T3) := ⟨by decide, by decide⟩
  have op := plus_ok oa oe
  have om := times_ok o2 op
  have r : re (times (1, 0, 2) (plus a e)) = (re a + re e) / 2 := by
    rw [re_times o2 op, re_plus oa oe, show re ((1, 0, 2) : T3) = 1 / 2 by decide +kernel, show im ((1, 0, 2) : T3) = 0 by decide +kernel]
    grind
  have i : im (times (1, 0, 2) (plus a e)) = (im a + im e) / 2 := by
    rw [im_times o2 op, im_plus oa oe, show re ((1, 0, 2) : T3) = 1 / 2 by decide +kernel, show im ((1, 0, 2) : T3) = 0 by decide +kernel]
    grind
  refine ⟨_, om, ?_, ?_, ?_⟩
  · rw [on_iff om, r, i]
    rw [on_iff oa] at ha
    rw [on_iff oe] at he
    grind
  · unfold le at *
    rw [r, i]
    grind
  · unfold le at *
    rw [r, i]
    grind
theorem near {l a b : T3} (oa : Ok a) (ob : Ok b) (h : ¬ le b a) (ha : on l a) (hb : on l b) : ∀ E : List T3, (∀ e ∈ E, Ok e ∧ on l e) → ∃ z, Ok z ∧ on l z ∧ ¬ le z a ∧ ¬ le b z ∧ ∀ e ∈ E, ¬ le e a → ¬ le e z
  | [], _ => by
    obtain ⟨z, h1, h2, h3, h4⟩ := mid oa ob h ha hb
    exact ⟨z, h1, h2, h3, h4, fun e he => nomatch he⟩
  | e :: E, hE => by
    obtain ⟨z, h1, h2, h3, h4, h5⟩ := near oa ob h ha hb E fun x hx => hE x (.tail _ hx)
    obtain ⟨oe, le'⟩ := hE e (.head _)
    by_cases c : ¬ le e a ∧ le e z
    · obtain ⟨y, g1, g2, g3, g4⟩ := mid oa oe c.1 ha le'
      have yz : le y z := le_trans (nle g4) c.2
      refine ⟨y, g1, g2, g3, fun x => h4 (le_trans x yz), fun x hx nx => ?_⟩
      rcases List.mem_cons.mp hx with rfl | hx
      · exact g4
      · exact fun t => h5 x hx nx (le_trans t yz)
    · refine ⟨z, h1, h2, h3, h4, fun x hx nx => ?_⟩
      rcases List.mem_cons.mp hx with rfl | hx
      · exact fun t => c ⟨nx, t⟩
      · exact h5 x hx nx
def apart (p q : T3 × T3) : Prop := lthru p.1 p.2 = lthru q.1 q.2 → ¬ le q.1 p.2 ∨ ¬ le p.1 q.2
theorem apart_symm {p q : T3 × T3} (h : apart p q) : apart q p := fun e => (h e.symm).symm
structure NF (k : Ink) : Prop where
  d : ∀ z ∈ k.1, Ok z
  ds : k.1.Pairwise fun a b => ¬ le b a
  off : ∀ z ∈ k.1, onAny z k.2 = false
  s : ∀ p ∈ k.2, Sg p
  ps : k.2.Pairwise fun p q => leQ p q = true
  sep : k.2.Pairwise apart
theorem NF.two {k : Ink} (h : NF k) {p q : T3 × T3} (hp : p ∈ k.2) (hq : q ∈ k.2) (ne : p ≠ q) : apart p q := by
  have : ∀ l : List (T3 × T3), l.Pairwise apart → ∀ p ∈ l, ∀ q ∈ l, p ≠ q → apart p q := by
    intro l
    induction l with
    | nil => intro _ p hp; cases hp
    | cons a l ih =>
      intro hl p hp q hq ne
      obtain ⟨h1, h2⟩ := List.pairwise_cons.mp hl
      rcases List.mem_cons.mp hp with ep | hp'
      · rcases List.mem_cons.mp hq with eq | hq'
        · exact absurd (ep.trans eq.symm) ne
        · rw [ep]; exact h1 q hq'
      · rcases List.mem_cons.mp hq with eq | hq'
        · rw [eq]; exact apart_symm (h1 p hp')
        · exact ih h2 p hp' q hq' ne
  exact this _ h.sep p hp q hq ne
/-- each stretch of the one lies in one of the other -/
theorem inside {k l : Ink} (hk : ∀ p ∈ k.2, Sg p) (hl : NF l) (c : ∀ z, Ok z → cov z k = true → cov z l = true) {p : T3 × T3} (hp : p ∈ k.2) : ∃ q ∈ l.2, lthru q.1 q.2 = lthru p.1 p.2 ∧ le q.1 p.1 ∧ le p.2 q.2 := by
  have sp := hk p hp
  have L1 := lthru_on1 sp.o1 sp.o2 sp.ne
  have L2 := lthru_on2 sp.o1 sp.o2 sp.ne
  have lL := lthru_ln sp.o1 sp.o2 sp.ne
  generalize eL : lthru p.1 p.2 = L at *
  let E0 : List T3 := l.1 ++ l.2.map (·.1) ++ l.2.map (·.2) ++ (l.2.filter fun q => !decide (L.1 * (lthru q.1 q.2).2.1 = (lthru q.1 q.2).1 * L.2.1)).map fun q => cross L (lthru q.1 q.2)
  let E := E0.filter fun e => decide (on L e)
  have hE : ∀ e ∈ E, Ok e ∧ on L e := fun e he => by
    obtain ⟨h1, h2⟩ := List.mem_filter.mp he
    refine ⟨?_, of_decide_eq_true h2⟩
    rcases List.mem_append.mp h1 with h1 | h1
    · rcases List.mem_append.mp h1 with h1 | h1
      · rcases List.mem_append.mp h1 with h1 | h1
        · exact hl.d e h1
        · obtain ⟨q, hq, rfl⟩ := List.mem_map.mp h1
          exact (hl.s q hq).o1
      · obtain ⟨q, hq, rfl⟩ := List.mem_map.mp h1
        exact (hl.s q hq).o2
    · obtain ⟨q, hq, rfl⟩ := List.mem_map.mp h1
      have := (List.mem_filter.mp hq).2
      exact cross_ok fun x => by rw [decide_eq_true x] at this; exact absurd this (by decide)
  have key : ∀ a z, Ok z → on L z → ¬ le z a → (∀ e ∈ E, ¬ le e a → ¬ le e z) → le p.1 z → le z p.2 → ∃ q ∈ l.2, lthru q.1 q.2 = L ∧ le q.1 z ∧ le z q.2 ∧ le q.1 a := by
    intro a z oz hz na hE' h1 h2
    have cz : cov z l = true := c z oz (cov_iff.mpr (.inr ⟨p, hp, (btw_iff oz sp.o1 sp.o2).mpr ⟨h1, h2⟩, by rw [eL]; exact hz⟩))
    rcases cov_iff.mp cz with h | ⟨q, hq, hb, ho⟩
    · exact absurd (le_refl z) (hE' z (List.mem_filter.mpr ⟨List.mem_append.mpr (.inl (List.mem_append.mpr (.inl (List.mem_append.mpr (.inl h))))), decide_eq_true hz⟩) na)
    · have sq := hl.s q hq
      have lq := lthru_ln sq.o1 sq.o2 sq.ne
      have e : lthru q.1 q.2 = L := by
        by_cases par : L.1 * (lthru q.1 q.2).2.1 = (lthru q.1 q.2).1 * L.2.1
        · exact (ln_same lL lq oz par hz ho).symm
        · have ez := (cross_iff oz par).mp ⟨hz, ho⟩
          refine absurd (le_refl z) (hE' z (List.mem_filter.mpr ⟨List.mem_append.mpr (.inr (List.mem_map.mpr ⟨q, List.mem_filter.mpr ⟨hq, by rw [decide_eq_false par]; rfl⟩, ez.symm⟩)), decide_eq_true hz⟩) na)
      obtain ⟨b1, b2⟩ := (btw_iff oz sq.o1 sq.o2).mp hb
      refine ⟨q, hq, e, b1, b2, Classical.byContradiction fun n => ?_⟩
      exact hE' q.1 (List.mem_filter.mpr ⟨List.mem_append.mpr (.inl (List.mem_append.mpr (.inl (List.mem_append.mpr (.inr (List.mem_map.mpr ⟨q, hq, rfl⟩)))))), decide_eq_true (by rw [← e]; exact lthru_on1 sq.o1 sq.o2 sq.ne)⟩) n b1
  obtain ⟨z, oz, hz, n1, n2, n3⟩ := near sp.o1 sp.o2 ((lt_iff sp.o1 sp.o2).mp sp.lt) L1 L2 E hE
  obtain ⟨q, hq, e, b1, b2, b3⟩ := key p.1 z oz hz n1 n3 (nle n1) (nle n2)
  have sq := hl.s q hq
  refine ⟨q, hq, e, b3, Classical.byContradiction fun n => ?_⟩
  obtain ⟨y, oy, hy, m1, m2, m3⟩ := near sq.o2 sp.o2 n (by rw [← e]; exact lthru_on2 sq.o1 sq.o2 sq.ne) L2 E hE
  obtain ⟨r, hr, f, d1, d2, d3⟩ := key q.2 y oy hy m1 m3 (le_trans (nle n1) (le_trans b2 (nle m1))) (nle m2)
  have ne : q ≠ r := fun x => m1 (by rw [x]; exact d2)
  rcases hl.two hq hr ne (e.trans f.symm) with h | h
  · exact h d3
  · exact h (le_trans sq.le (le_trans (nle m1) d2))
theorem eq_of_asc {α : Type} {R : α → α → Prop} : ∀ {l m : List α}, l.Pairwise R → m.Pairwise R → (∀ x, x ∈ l ↔ x ∈ m) → (∀ a ∈ l, ∀ b ∈ l, R a b → R b a → False) → l = m
  | [], [], _, _, _, _ => rfl
  | [], b :: m, _, _, h, _ => absurd ((h b).mpr (.head _)) (fun x => nomatch x)
  | a :: l, [], _, _, h, _ => absurd ((h a).mp (.head _)) (fun x => nomatch x)
  | a :: l, b :: m, hl, hm, h, asy => by
    obtain ⟨l1, l2⟩ := List.pairwise_cons.mp hl
    obtain ⟨m1, m2⟩ := List.pairwise_cons.mp hm
    have irr : ∀ x ∈ a :: l, ¬ R x x := fun x hx r => asy x hx x hx r r
    have e : a = b := by
      refine Classical.byContradiction fun ne => ?_
      have h1 : a ∈ m := ((List.mem_cons.mp ((h a).mp (.head _))).resolve_left ne)
      have h2 : b ∈ l := ((List.mem_cons.mp ((h b).mpr (.head _))).resolve_left fun x => ne x.symm)
      exact asy a (.head _) b (.tail _ h2) (l1 b h2) (m1 a h1)
    subst e
    rw [eq_of_asc l2 m2 (fun x => ?_) fun x hx y hy => asy x (.tail _ hx) y (.tail _ hy)]
    constructor
    · intro hx
      refine ((List.mem_cons.mp ((h x).mp (.tail _ hx))).resolve_left fun e => ?_)
      exact irr a (.head _) (by have := l1 x hx; rw [e] at this; exact this)
    · intro hx
      refine ((List.mem_cons.mp ((h x).mpr (.tail _ hx))).resolve_left fun e => ?_)
      exact irr a (.head _) (by have := m1 x hx; rw [e] at this; exact this)
theorem leQ_anti {p q : T3 × T3} (hp : Sg p) (hq : Sg q) (h1 : leQ p q = true) (h2 : leQ q p = true) : p = q := by
  have a : le p.1 q.1 ∧ le q.1 p.1 ∧ le p.2 q.2 ∧ le q.2 p.2 := by
    unfold leQ at h1 h2
    rw [← leR_iff, ← leR_iff, ← leR_iff, ← leR_iff]
    revert h1 h2
    cases leR p.1 q.1 <;> cases leR q.1 p.1 <;> cases leR p.2 q.2 <;> cases leR q.2 p.2 <;> simp
  exact Prod.ext (le_anti hp.o1 hq.o1 a.1 a.2.1) (le_anti hp.o2 hq.o2 a.2.2.1 a.2.2.2)
/-- T2: what covers the same is equal -/
theorem ink_uniq {k l : Ink} (hk : NF k) (hl : NF l) (c : ∀ z, Ok z → (cov z k = true ↔ cov z l = true)) : k = l := by
  have half : ∀ {k l : Ink}, NF k → NF l → (∀ z, Ok z → (cov z k = true ↔ cov z l = true)) → ∀ p ∈ k.2, p ∈ l.2 := by
    intro k l hk hl c p hp
    obtain ⟨q, hq, e1, a1, a2⟩ := inside hk.s hl (fun z oz => (c z oz).mp) hp
    obtain ⟨r, hr, e2, b1, b2⟩ := inside hl.s hk (fun z oz => (c z oz).mpr) hq
    have sp := hk.s p hp
    have sq := hl.s q hq
    have e : p = r := by
      refine Classical.byContradiction fun ne => ?_
      rcases hk.two hp hr ne (e1.symm.trans e2.symm) with h | h
      · exact h (le_trans (le_trans b1 a1) sp.le)
      · exact h (le_trans sp.le (le_trans a2 b2))
    subst e
    have : p = q := Prod.ext (le_anti sp.o1 sq.o1 b1 a1) (le_anti sp.o2 sq.o2 a2 b2)
    rw [this]
    exact hq
  have m2 : ∀ p, p ∈ k.2 ↔ p ∈ l.2 := fun p => ⟨half hk hl c p, half hl hk (fun z oz => (c z oz).symm) p⟩
  have ne : ∀ {k : Ink}, NF k → k.2.Pairwise fun p q => leQ p q = true ∧ p ≠ q := fun {k} h => by
    refine (h.ps.and h.sep).imp_of_mem ?_
    intro p q hp hq ⟨a, b⟩
    refine ⟨a, fun e => ?_⟩
    subst e
    rcases b rfl with x | x <;> exact x (h.s p hp).le
  have e2 : k.2 = l.2 := eq_of_asc (ne hk) (ne hl) m2 fun a ha b hb r s => r.2 (leQ_anti (hk.s a ha) (hk.s b hb) r.1 s.1)
  have oa : ∀ z, onAny z k.2 = onAny z l.2 := fun z => by rw [e2]
  have m1 : ∀ z, z ∈ k.1 ↔ z ∈ l.1 := fun z => by
    constructor
    · intro h
      have := (c z (hk.d z h)).mp (cov_iff.mpr (.inl h))
      rcases cov_iff.mp this with x | x
      · exact x
      · have : onAny z l.2 = true := onAny_iff.mpr x
        rw [← oa, hk.off z h] at this
        cases this
    · intro h
      have := (c z (hl.d z h)).mpr (cov_iff.mpr (.inl h))
      rcases cov_iff.mp this with x | x
      · exact x
      · have : onAny z k.2 = true := onAny_iff.mpr x
        rw [oa, hl.off z h] at this
        cases this
  have e1 : k.1 = l.1 := eq_of_asc hk.ds hl.ds m1 fun a _ b _ r s => s (nle r)
  exact Prod.ext e1 e2
/-! ### what ink_from makes is in that form -/
theorem joinGo_ge : ∀ (r : List (T3 × T3)) (c : T3 × T3), (∀ p ∈ r, le c.1 p.1) → r.Pairwise (fun p q => le p.1 q.1) → ∀ q ∈ joinGo c r, le c.1 q.1
  | [], c, _, _, q, hq => by rw [List.mem_singleton.mp hq]; exact le_refl _
  | p :: r, c, hs, hp, q, hq => by
    obtain ⟨p1, p2⟩ := List.pairwise_cons.mp hp
    have hs' : ∀ x ∈ r, le c.1 x.1 := fun x hx => hs x (.tail _ hx)
    unfold joinGo at hq
    split at hq
    · rcases List.mem_cons.mp hq with h | h
      · rw [h]; exact le_refl _
      · exact le_trans (hs p (.head _)) (joinGo_ge r p p1 p2 q h)
    · split at hq
      · exact joinGo_ge r (c.1, p.2) hs' p2 q hq
      · exact joinGo_ge r c hs' p2 q hq
theorem joinGo_sep : ∀ (r : List (T3 × T3)) (c : T3 × T3), Sg c → (∀ p ∈ r, Sg p) → (∀ p ∈ r, le c.1 p.1) → r.Pairwise (fun p q => le p.1 q.1) → (joinGo c r).Pairwise (fun p q => ¬ le q.1 p.2)
  | [], c, _, _, _, _ => by
    unfold joinGo
    exact List.pairwise_singleton _ _
  | p :: r, c, sc, hr, hs, hp => by
    obtain ⟨p1, p2⟩ := List.pairwise_cons.mp hp
    have sp := hr p (.head _)
    have hr' : ∀ x ∈ r, Sg x := fun x hx => hr x (.tail _ hx)
    have hs' : ∀ x ∈ r, le c.1 x.1 := fun x hx => hs x (.tail _ hx)
    unfold joinGo
    split
    · rename_i h
      have n := (lt_iff sc.o2 sp.o1).mp h
      exact List.pairwise_cons.mpr ⟨fun q hq x => n (le_trans (joinGo_ge r p p1 p2 q hq) x), joinGo_sep r p sp hr' p1 p2⟩
    · split
      · rename_i h2
        exact joinGo_sep r (c.1, p.2) ⟨sc.o1, sp.o2, sc.b1, sp.b2, ltS_trans sc.o1 sc.o2 sp.o2 sc.lt h2⟩ hr' hs' p2
      · exact joinGo_sep r c sc hr' hs' p2
theorem joinF_sep {r : List (T3 × T3)} (hr : ∀ p ∈ r, Sg p) (hp : r.Pairwise (fun p q => le p.1 q.1)) : (joinF r).Pairwise (fun p q => ¬ le q.1 p.2) := by
  cases r with
  | nil => exact .nil
  | cons p r =>
    show (joinGo p (p :: r)).Pairwise _
    rw [joinGo_self (hr p (.head _))]
    exact joinGo_sep r p (hr p (.head _)) (fun x hx => hr x (.tail _ hx)) (List.pairwise_cons.mp hp).1 (List.pairwise_cons.mp hp).2
theorem longest_sep {ps : List (T3 × T3)} (h : ∀ p ∈ ps, Sg p) : (longestF ps).Pairwise apart := by
  have hA : ∀ p ∈ ascP ps, Sg p := fun p hp => h p (ascP_mem.mp hp)
  have gs := gall (ascP ps)
  have gk := gok (ascP ps)
  have one : ∀ g ∈ (ascP ps).foldl addG [], (∀ p ∈ g.2, Sg p) ∧ (∀ p ∈ g.2, lthru p.1 p.2 = g.1) ∧ g.2.Pairwise (fun p q => le p.1 q.1) := fun g hg => by
    rw [gs.own g hg]
    refine ⟨fun p hp => hA p (List.mem_filter.mp hp).1, fun p hp => of_decide_eq_true (List.mem_filter.mp hp).2, ?_⟩
    exact List.Pairwise.filter _ (ascP_asc h)
  unfold longestF
  refine List.pairwise_flatMap.mpr ⟨fun g hg => ?_, ?_⟩
  · obtain ⟨g1, g2, g3⟩ := one g hg
    exact (joinF_sep g1 g3).imp fun x _ => .inl x
  · have nd : ((ascP ps).foldl addG []).Pairwise fun a b => a.1 ≠ b.1 := List.pairwise_map.mp gk.nd
    refine nd.imp_of_mem ?_
    intro a b ha hb ne x hx y hy e
    obtain ⟨a1, a2, _⟩ := one a ha
    obtain ⟨b1, b2, _⟩ := one b hb
    rw [joinF_line a1 a2 x hx, joinF_line b1 b2 y hy] at e
    exact absurd e ne
theorem dd_nodup : ∀ (zs acc : List T3), acc.Nodup → (zs.foldl ddStep acc).Nodup
  | [], acc, h => h
  | x :: zs, acc, h => by
    rw [List.foldl_cons]
    refine dd_nodup zs _ ?_
    unfold ddStep
    split
    · exact h
    · rename_i n
      rw [List.nodup_append]
      exact ⟨h, (List.pairwise_singleton _ _), fun a ha b hb e => n (by rw [← List.mem_singleton.mp hb, ← e]; exact ha)⟩
theorem asc_strict {zs : List T3} (h : ∀ z ∈ zs, Ok z) (nd : zs.Nodup) : (asc zs).Pairwise fun a b => ¬ le b a := by
  have e : asc zs = zs.mergeSort leR := by
    have := List.map_mergeSort (r := leS) (s := leR) (f := fun p => p) (l := zs) fun a ha b hb => leS_R (h a ha) (h b hb)
    rw [List.map_id', List.map_id'] at this
    exact this
  have n2 : (asc zs).Nodup := (List.mergeSort_perm zs leS).nodup_iff.mpr nd
  have s : (asc zs).Pairwise fun a b => leR a b = true := by
    rw [e]
    refine List.pairwise_mergeSort (le := leR) ?_ ?_ zs
    · intro a b c h1 h2
      exact leR_iff.mpr (le_trans (leR_iff.mp h1) (leR_iff.mp h2))
    · intro a b
      rw [Bool.or_eq_true, leR_iff, leR_iff]
      exact le_total a b
  refine (s.and n2).imp_of_mem ?_
  intro a b ha hb ⟨x, ne⟩ y
  exact ne (le_anti (h a (asc_mem.mp ha)) (h b (asc_mem.mp hb)) (leR_iff.mp x) y)
theorem ascP_Q {ps : List (T3 × T3)} (h : ∀ p ∈ ps, Sg p) : (ascP ps).Pairwise fun p q => leQ p q = true := by
  have e : ascP ps = ps.mergeSort leQ := by
    have := List.map_mergeSort (r := leP) (s := leQ) (f := fun p => p) (l := ps) fun a ha b hb => leP_Q (h a ha) (h b hb)
    rw [List.map_id', List.map_id'] at this
    exact this
  rw [e]
  refine List.pairwise_mergeSort (le := leQ) ?_ ?_ ps
  · intro a b c h1 h2
    unfold leQ leR at *
    simp only [Bool.or_eq_true, Bool.and_eq_true, Bool.not_eq_true', decide_eq_true_eq, decide_eq_false_iff_not] at *
    grind
  · intro a b
    unfold leQ leR
    simp only [Bool.or_eq_true, Bool.and_eq_true, Bool.not_eq_true', decide_eq_true_eq, decide_eq_false_iff_not]
    grind
theorem nf_inkFrom {ds : List T3} {ps : List (T3 × T3)} (hd : ∀ z ∈ ds, Ok z) (hp : ∀ p ∈ ps, Sg p) : NF (inkFrom ds ps) := by
  have hl := longest_sg hp
  have m : ∀ z, z ∈ dedup (ds.filter fun z => !onAny z (longestF ps)) → z ∈ ds ∧ onAny z (longestF ps) = false := fun z hz => by
    have := (dd_mem (ds.filter fun z => !onAny z (longestF ps)) [] z).mp hz
    rcases this with h | h
    · cases h
    · obtain ⟨a, b⟩ := List.mem_filter.mp h
      exact ⟨a, by simpa using b⟩
  have oa : ∀ z, onAny z (ascP (longestF ps)) = onAny z (longestF ps) := fun z => by
    rw [Bool.eq_iff_iff, onAny_iff, onAny_iff]
    simp only [ascP_mem]
  refine ⟨fun z hz => hd z (m z (asc_mem.mp hz)).1, asc_strict (fun z hz => hd z (m z hz).1) (dd_nodup _ [] List.nodup_nil), fun z hz => ?_, fun p hp => hl p (ascP_mem.mp hp), ascP_Q hl, ?_⟩
  · show onAny z (ascP (longestF ps)) = false
    rw [oa]
    exact (m z (asc_mem.mp hz)).2
  · exact (longest_sep hp).perm (List.mergeSort_perm _ leP).symm apart_symm
end Mth
/-! segments, cut in two -/
namespace Mth
def seg (z a b : T3) : Prop := onS z (ordP a b)
theorem ordP_comm {a b : T3} (oa : Ok a) (ob : Ok b) : ordP a b = ordP b a := by
  by_cases e : a = b
  · rw [e]
  · unfold ordP
    rcases ltS_or oa ob e with h | h
    · have n : ¬ ltS b a = true := fun x => by
        have := ltS_trans oa ob oa h x
        rw [ltS_self] at this
        cases this
      rw [if_pos h, if_neg n]
    · have n : ¬ ltS a b = true := fun x => by
        have := ltS_trans oa ob oa x h
        rw [ltS_self] at this
        cases this
      rw [if_neg n, if_pos h]
theorem lthru_comm {a b : T3} (oa : Ok a) (ob : Ok b) (ne : a ≠ b) : lthru a b = lthru b a :=
  lthru_uniq oa ob ne (lthru_ln ob oa fun e => ne e.symm) (lthru_on2 ob oa fun e => ne e.symm) (lthru_on1 ob oa fun e => ne e.symm)
theorem seg_comm {z a b : T3} (oa : Ok a) (ob : Ok b) : seg z a b ↔ seg z b a := by
  unfold seg
  rw [ordP_comm oa ob]
theorem seg_iff {z a b : T3} (oz : Ok z) (oa : Ok a) (ob : Ok b) (ne : a ≠ b) : seg z a b ↔ on (lthru a b) z ∧ ((le a z ∧ le z b) ∨ (le b z ∧ le z a)) := by
  unfold seg onS ordP
  by_cases h : ltS a b = true
  · rw [if_pos h]
    have l := (lt_iff oa ob).mp h
    rw [btw_iff (p := (a, b)) oz oa ob]
    constructor
    · rintro ⟨x, y⟩
      exact ⟨y, .inl x⟩
    · rintro ⟨y, x | x⟩
      · exact ⟨x, y⟩
      · exact absurd (le_trans x.1 x.2) l
  · rw [if_neg h]
    have h' := (ltS_or oa ob ne).resolve_left h
    have l := (lt_iff ob oa).mp h'
    rw [btw_iff (p := (b, a)) oz ob oa]
    show _ ∧ on (lthru b a) z ↔ _
    rw [← lthru_comm oa ob ne]
    constructor
    · rintro ⟨x, y⟩
      exact ⟨y, .inr x⟩
    · rintro ⟨y, x | x⟩
      · exact absurd (le_trans x.1 x.2) l
      · exact ⟨x, y⟩
/-- a segment is its two pieces at a spot within -/
theorem seg_cut {z a b c : T3} (oz : Ok z) (oa : Ok a) (ob : Ok b) (oc : Ok c) (ne : a ≠ b) (ac : a ≠ c) (cb : c ≠ b) (on1 : on (lthru a b) c) (bt : (le a c ∧ le c b) ∨ (le b c ∧ le c a)) : seg z a b ↔ seg z a c ∨ seg z c b := by
  have L := lthru_ln oa ob ne
  have a1 := lthru_on1 oa ob ne
  have b1 := lthru_on2 oa ob ne
  rw [seg_iff oz oa ob ne, seg_iff oz oa oc ac, seg_iff oz oc ob cb, lthru_uniq oa oc ac L a1 on1, lthru_uniq oc ob cb L on1 b1]
  have t := le_total z c
  have tr : ∀ x y w : T3, le x y → le y w → le x w := fun _ _ _ h1 h2 => le_trans h1 h2
  constructor
  · rintro ⟨h, x⟩
    rcases x with ⟨x, y⟩ | ⟨x, y⟩
    · rcases bt with ⟨p, q⟩ | ⟨p, q⟩
      · rcases t with t | t
        · exact .inl ⟨h, .inl ⟨x, t⟩⟩
        · exact .inr ⟨h, .inl ⟨t, y⟩⟩
      · exact absurd (le_anti oa ob (le_trans x y) (le_trans p q)) ne
    · rcases bt with ⟨p, q⟩ | ⟨p, q⟩
      · exact absurd (le_anti oa ob (le_trans p q) (le_trans x y)) ne
      · rcases t with t | t
        · exact .inr ⟨h, .inr ⟨x, t⟩⟩
        · exact .inl ⟨h, .inr ⟨t, y⟩⟩
  · rintro (⟨h, x⟩ | ⟨h, x⟩)
    · refine ⟨h, ?_⟩
      rcases bt with ⟨p, q⟩ | ⟨p, q⟩
      · rcases x with ⟨x, y⟩ | ⟨x, y⟩
        · exact .inl ⟨x, le_trans y q⟩
        · exact absurd (le_anti oa oc p (le_trans x y)) ac
      · rcases x with ⟨x, y⟩ | ⟨x, y⟩
        · exact absurd (le_anti oa oc (le_trans x y) q) ac
        · exact .inr ⟨le_trans p x, y⟩
    · refine ⟨h, ?_⟩
      rcases bt with ⟨p, q⟩ | ⟨p, q⟩
      · rcases x with ⟨x, y⟩ | ⟨x, y⟩
        · exact .inl ⟨le_trans p x, y⟩
        · exact absurd (le_anti oc ob q (le_trans x y)) cb
      · rcases x with ⟨x, y⟩ | ⟨x, y⟩
        · exact absurd (le_anti oc ob (le_trans x y) p) cb
        · exact .inr ⟨x, le_trans y q⟩
/-- the spot that parts a segment as r to 1 - r -/
theorem cut_ok {a b t : T3} (oa : Ok a) (ob : Ok b) (ot : Ok t) (ne : a ≠ b) (im0 : im t = 0) (r0 : 0 < re t) (r1 : re t < 1) :
    Ok (plus a (times (minus b a) t)) ∧ a ≠ plus a (times (minus b a) t) ∧ plus a (times (minus b a) t) ≠ b ∧ on (lthru a b) (plus a (times (minus b a) t)) ∧
      ((le a (plus a (times (minus b a) t)) ∧ le (plus a (times (minus b a) t)) b) ∨ (le b (plus a (times (minus b a) t)) ∧ le (plus a (times (minus b a) t)) a)) := by
  have om := minus_ok ob oa
  have ott := times_ok om ot
  have oc := plus_ok oa ott
  have r : re (plus a (times (minus b a) t)) = re a + (re b - re a) * re t := by
    rw [re_plus oa ott, re_times om ot, re_minus ob oa, im_minus ob oa, im0]
    grind
  have i : im (plus a (times (minus b a) t)) = im a + (im b - im a) * re t := by
    rw [im_plus oa ott, im_times om ot, re_minus ob oa, im_minus ob oa, im0]
    grind
  have a1 := lthru_on1 oa ob ne
  have b1 := lthru_on2 oa ob ne
  generalize plus a (times (minus b a) t) = c at *
  have nz : re a ≠ re b ∨ im a ≠ im b := by
    by_cases h : re a = re b
    · exact .inr fun h2 => ne (ext oa ob h h2)
    · exact .inl h
  have pr : ∀ x y : Rat, x < y → x < x + (y - x) * re t ∧ x + (y - x) * re t < y := fun x y h => by
    have p1 := Rat.mul_pos (show 0 < y - x by grind) r0
    have p2 := Rat.mul_pos (show 0 < y - x by grind) (show 0 < 1 - re t by grind)
    exact ⟨by grind, by grind⟩
  have pl : ∀ x y : Rat, y < x → y < x + (y - x) * re t ∧ x + (y - x) * re t < x := fun x y h => by
    have p1 := Rat.mul_pos (show 0 < x - y by grind) r0
    have p2 := Rat.mul_pos (show 0 < x - y by grind) (show 0 < 1 - re t by grind)
    exact ⟨by grind, by grind⟩
  have R1 := pr (re a) (re b)
  have R2 := pl (re a) (re b)
  have I1 := pr (im a) (im b)
  have I2 := pl (im a) (im b)
  have Rs : re a = re b → re c = re a := fun h => by rw [r, h]; grind
  have Is : im a = im b → im c = im a := fun h => by rw [i, h]; grind
  rw [← r] at R1 R2
  rw [← i] at I1 I2
  refine ⟨oc, fun e => ?_, fun e => ?_, ?_, ?_⟩
  · rw [← e] at R1 R2 I1 I2
    grind
  · rw [e] at R1 R2 I1 I2
    grind
  · rw [on_iff oc, r, i]
    rw [on_iff oa] at a1
    rw [on_iff ob] at b1
    grind
  · unfold le
    grind
/-- times by a number that need not be in lowest terms -/
theorem times_n {a : T3} (oa : Ok a) {x d y e : Int} (hd : d ≠ 0) (he : e ≠ 0) (h : (x : Rat) / (d : Rat) = (y : Rat) / (e : Rat)) : times a (x, 0, d) = times a (y, 0, e) := by
  have key : ∀ {x d : Int}, d ≠ 0 → Ok (times a (x, 0, d)) ∧ re (times a (x, 0, d)) = re a * ((x : Rat) / (d : Rat)) ∧ im (times a (x, 0, d)) = im a * ((x : Rat) / (d : Rat)) := by
    intro x d hd
    have m := mul_ne oa.ne hd
    have c1 := cast_ne oa.ne
    have c2 := cast_ne hd
    refine ⟨low_ok m, ?_, ?_⟩
    · unfold times
      rw [low_re m]
      unfold re
      simp only [Int.mul_zero, Int.sub_zero, Rat.intCast_mul]
      grind
    · unfold times
      rw [low_im m]
      unfold im
      simp only [Int.mul_zero, Int.zero_add, Rat.intCast_mul]
      grind
  obtain ⟨k1, k2, k3⟩ := key (x := x) hd
  obtain ⟨l1, l2, l3⟩ := key (x := y) he
  exact ext k1 l1 (by rw [k2, l2, h]) (by rw [k3, l3, h])
end Mth
/-! what the law's own text reckons of a segment -/
namespace Mth
def segB (z a b : T3) : Bool := btw z (ordP a b) && decide (on (lthru (ordP a b).1 (ordP a b).2) z)
theorem segB_iff {z a b : T3} : segB z a b = true ↔ seg z a b := by
  unfold segB seg onS
  rw [Bool.and_eq_true, decide_eq_true_iff]
/-- the line through two spots, by what the law reckons -/
theorem cross_on {z a b : T3} (oz : Ok z) (oa : Ok a) (ob : Ok b) (ne : a ≠ b) : (minus z a).1 * (minus b a).2.1 = (minus z a).2.1 * (minus b a).1 ↔ on (lthru a b) z := by
  have o1 := minus_ok oz oa
  have o2 := minus_ok ob oa
  have e1 : (minus z a).1 * (minus b a).2.1 = (minus z a).2.1 * (minus b a).1 ↔ re (minus z a) * im (minus b a) = im (minus z a) * re (minus b a) := by
    have d1 := cast_ne o1.ne
    have d2 := cast_ne o2.ne
    unfold re im
    rw [← Rat.intCast_inj, Rat.intCast_mul, Rat.intCast_mul]
    constructor <;> intro h <;> grind
  rw [e1, re_minus oz oa, im_minus oz oa, re_minus ob oa, im_minus ob oa, lthru]
  have := lf_on (lthru_nz oa ob ne) z
  unfold lr at this
  rw [this, on_iff oz]
  have d1 := cast_ne oa.ne
  have d2 := cast_ne ob.ne
  dsimp only
  simp only [Rat.intCast_sub, Rat.intCast_mul]
  have ea : (a.1 : Rat) = re a * (a.2.2 : Rat) := by unfold re; grind
  have ea2 : (a.2.1 : Rat) = im a * (a.2.2 : Rat) := by unfold im; grind
  have eb : (b.1 : Rat) = re b * (b.2.2 : Rat) := by unfold re; grind
  have eb2 : (b.2.1 : Rat) = im b * (b.2.2 : Rat) := by unfold im; grind
  rw [ea, ea2, eb, eb2]
  generalize (a.2.2 : Rat) = p at *
  generalize (b.2.2 : Rat) = q at *
  have n : p * q ≠ 0 := fun x => (Rat.mul_eq_zero.mp x).elim d1 d2
  constructor <;> intro h
  · have : p * q * ((re z - re a) * (im b - im a) - (im z - im a) * (re b - re a)) = 0 := by rw [h]; grind
    grind
  · have : p * q * ((re z - re a) * (im b - im a) - (im z - im a) * (re b - re a)) = 0 := by grind
    have := (Rat.mul_eq_zero.mp this).resolve_left n
    grind
/-- a segment, as the law looks for it -/
theorem segB_law {z a b : T3} (oz : Ok z) (oa : Ok a) (ob : Ok b) (ne : a ≠ b) : segB z a b = (decide ((minus z a).1 * (minus b a).2.1 = (minus z a).2.1 * (minus b a).1) && (!ltS z (ordP b a).1 && !ltS (ordP b a).2 z)) := by
  unfold segB btw
  rw [ordP_comm oa ob]
  have h : decide (on (lthru (ordP b a).1 (ordP b a).2) z) = decide ((minus z a).1 * (minus b a).2.1 = (minus z a).2.1 * (minus b a).1) := by
    rw [decide_eq_decide, cross_on oz oa ob ne]
    unfold ordP
    split
    · rw [lthru_comm oa ob ne]
    · rfl
  rw [h, Bool.and_comm]
end Mth
/-! what two inks share: bounds, counts, order -/
namespace Mth
theorem inkFrom_d {ds : List T3} {ps : List (T3 × T3)} {z : T3} (h : z ∈ (inkFrom ds ps).1) : z ∈ ds := by
  have h1 : z ∈ dedup (ds.filter fun z => !onAny z (longestF ps)) := asc_mem.mp h
  have h2 := (dd_mem _ [] z).mp h1
  rcases h2 with h2 | h2
  · cases h2
  · exact (List.mem_filter.mp h2).1
theorem inkFrom_l {ds : List T3} {ps : List (T3 × T3)} {p : T3 × T3} (h : p ∈ (inkFrom ds ps).2) : p ∈ longestF ps := ascP_mem.mp h
theorem inkFrom_n (ds : List T3) (ps : List (T3 × T3)) : (inkFrom ds ps).1.length ≤ ds.length := by
  have e1 : (inkFrom ds ps).1.length = (dedup (ds.filter fun z => !onAny z (longestF ps))).length := List.length_mergeSort _
  have e2 := dd_len (ds.filter fun z => !onAny z (longestF ps)) []
  have e3 := List.length_filter_le (fun z => !onAny z (longestF ps)) ds
  have e2 : (dedup (ds.filter fun z => !onAny z (longestF ps))).length ≤ 0 + (ds.filter fun z => !onAny z (longestF ps)).length := e2
  omega
theorem inkFrom_m {ds : List T3} {ps : List (T3 × T3)} (h : ∀ p ∈ ps, Sg p) : (inkFrom ds ps).2.length ≤ ps.length := by
  have e1 : (inkFrom ds ps).2.length = (longestF ps).length := List.length_mergeSort _
  have e2 := longest_len1 h
  omega
/-- an ink whose numbers lie below 2 ^ n -/
structure InkB (n : Nat) (k : Ink) : Prop where
  d : ∀ z ∈ k.1, B n z
  l : ∀ p ∈ k.2, B n p.1 ∧ B n p.2
theorem olap_B {p q s : T3 × T3} {n : Nat} (hp : Sg p) (hq : Sg q) (p1 : B n p.1 ∧ B n p.2) (q1 : B n q.1 ∧ B n q.2) (h : olap p q = some s) : B (4 * n + 3) s.1 ∧ B (4 * n + 3) s.2 := by
  unfold olap at h
  split at h
  · split at h
    · cases h
    · cases h
      exact ⟨(ordP_B p1.1 q1.1).2.mono (by omega), (ordP_B p1.2 q1.2).1.mono (by omega)⟩
  · split at h
    · cases h
    · rename_i e2
      split at h
      · cases h
        have bc := cross_B e2 (lthru_Bn hp.o1 hp.o2 hp.ne p1.1 p1.2) (lthru_Bn hq.o1 hq.o2 hq.ne q1.1 q1.2)
        exact ⟨bc.mono (by omega), bc.mono (by omega)⟩
      · cases h
theorem com_sg {k l : Ink} (ok : InkOk k) (ol : InkOk l) : ∀ s ∈ (olaps k l).filter (fun s => !decide (s.1 = s.2)), Sg s := fun s hs => by
  obtain ⟨hm, hf⟩ := List.mem_filter.mp hs
  obtain ⟨p, hp, q, hq, e⟩ := olaps_mem hm
  have sp := ok.l p hp
  have sq := ol.l q hq
  exact (olap_ok sp.1 sq.1 sp.2.1 sp.2.2 sq.2.1 sq.2.2 e).2 fun x => by rw [decide_eq_true x] at hf; exact absurd hf (by decide)
theorem com_d {k l : Ink} (ok : InkOk k) (ol : InkOk l) {z : T3} (h : z ∈ (comF k l).1) : Ok z := by
  rcases List.mem_append.mp (inkFrom_d h) with hz | hz
  · rcases List.mem_append.mp hz with hz | hz
    · exact (ok.d z (List.mem_filter.mp hz).1).1
    · exact (ol.d z (List.mem_filter.mp hz).1).1
  · obtain ⟨s, hs, rfl⟩ := List.mem_map.mp hz
    obtain ⟨p, hp, q, hq, e⟩ := olaps_mem (List.mem_filter.mp hs).1
    have sp := ok.l p hp
    have sq := ol.l q hq
    exact (olap_ok sp.1 sq.1 sp.2.1 sp.2.2 sq.2.1 sq.2.2 e).1.1
theorem com_l {k l : Ink} (ok : InkOk k) (ol : InkOk l) {p : T3 × T3} (h : p ∈ (comF k l).2) : Sg p := longest_sg (com_sg ok ol) p (inkFrom_l h)
theorem com_B {k l : Ink} {n : Nat} (ok : InkOk k) (ol : InkOk l) (bk : InkB n k) (bl : InkB n l) : InkB (4 * n + 3) (comF k l) := by
  refine ⟨fun z hz => ?_, fun p hp => ?_⟩
  · rcases List.mem_append.mp (inkFrom_d hz) with hz | hz
    · rcases List.mem_append.mp hz with hz | hz
      · exact (bk.d z (List.mem_filter.mp hz).1).mono (by omega)
      · exact (bl.d z (List.mem_filter.mp hz).1).mono (by omega)
    · obtain ⟨s, hs, rfl⟩ := List.mem_map.mp hz
      obtain ⟨p, hp, q, hq, e⟩ := olaps_mem (List.mem_filter.mp hs).1
      exact (olap_B (ok.l p hp).1 (ol.l q hq).1 (bk.l p hp) (bl.l q hq) e).1
  · refine longest_P (P := B (4 * n + 3)) (fun s hs => ?_) p (inkFrom_l hp)
    obtain ⟨p, hp, q, hq, e⟩ := olaps_mem (List.mem_filter.mp hs).1
    exact olap_B (ok.l p hp).1 (ol.l q hq).1 (bk.l p hp) (bl.l q hq) e
theorem com_n {k l : Ink} : (comF k l).1.length ≤ k.1.length + l.1.length + k.2.length * l.2.length := by
  have h := inkFrom_n ((k.1.filter fun z => cov z l) ++ (l.1.filter fun z => cov z k) ++ ((olaps k l).filter fun s => decide (s.1 = s.2)).map (·.1)) ((olaps k l).filter fun s => !decide (s.1 = s.2))
  rw [List.length_append, List.length_append, List.length_map] at h
  have h1 := List.length_filter_le (fun z => cov z l) k.1
  have h2 := List.length_filter_le (fun z => cov z k) l.1
  have h3 := List.length_filter_le (fun s => decide (s.1 = s.2)) (olaps k l)
  have h4 := olaps_len k l
  unfold comF
  omega
theorem com_m {k l : Ink} (ok : InkOk k) (ol : InkOk l) : (comF k l).2.length ≤ k.2.length * l.2.length := by
  have h := inkFrom_m (ds := (k.1.filter fun z => cov z l) ++ (l.1.filter fun z => cov z k) ++ ((olaps k l).filter fun s => decide (s.1 = s.2)).map (·.1)) (com_sg ok ol)
  have h3 := List.length_filter_le (fun s => !decide (s.1 = s.2)) (olaps k l)
  have h4 := olaps_len k l
  unfold comF
  omega
theorem com_nf {k l : Ink} (ok : InkOk k) (ol : InkOk l) : NF (comF k l) := by
  unfold comF
  refine nf_inkFrom (fun z hz => ?_) (com_sg ok ol)
  rcases List.mem_append.mp hz with hz | hz
  · rcases List.mem_append.mp hz with hz | hz
    · exact (ok.d z (List.mem_filter.mp hz).1).1
    · exact (ol.d z (List.mem_filter.mp hz).1).1
  · obtain ⟨s, hs, rfl⟩ := List.mem_map.mp hz
    obtain ⟨p, hp, q, hq, e⟩ := olaps_mem (List.mem_filter.mp hs).1
    have sp := ok.l p hp
    have sq := ol.l q hq
    exact (olap_ok sp.1 sq.1 sp.2.1 sp.2.2 sq.2.1 sq.2.2 e).1.1
theorem com_comm {k l : Ink} (ok : InkOk k) (ol : InkOk l) : comF k l = comF l k :=
  ink_uniq (com_nf ok ol) (com_nf ol ok) fun z oz => by
    rw [cov_com ok ol oz, cov_com ol ok oz]
    exact And.comm
theorem nf_nil : NF ([], []) := by
  have : (([], []) : Ink) = inkFrom [] [] := by
    have h1 := inkFrom_n [] []
    have h2 := inkFrom_m (ds := []) (ps := []) (fun z h => nomatch h)
    exact (Prod.ext (List.eq_nil_of_length_eq_zero (Nat.le_zero.mp h1)) (List.eq_nil_of_length_eq_zero (Nat.le_zero.mp h2))).symm
  rw [this]
  exact nf_inkFrom (fun z h => nomatch h) (fun z h => nomatch h)
theorem cov_nil (z : T3) : cov z (([], []) : Ink) = false := rfl
/-- the strokes that tell an ink -/
def toldF (k : Ink) : List (List T3) := k.2.map (fun p => [p.1, p.2]) ++ k.1.map fun z => [z]
theorem told_len (k : Ink) : (toldF k).length = k.2.length + k.1.length := by
  unfold toldF
  rw [List.length_append, List.length_map, List.length_map]
theorem told_mem {k : Ink} {zs : List T3} (h : zs ∈ toldF k) : (∃ p ∈ k.2, zs = [p.1, p.2]) ∨ ∃ z ∈ k.1, zs = [z] := by
  rcases List.mem_append.mp h with h | h
  · obtain ⟨p, hp, rfl⟩ := List.mem_map.mp h
    exact .inl ⟨p, hp, rfl⟩
  · obtain ⟨z, hz, rfl⟩ := List.mem_map.mp h
    exact .inr ⟨z, hz, rfl⟩
theorem told_B {n : Nat} {k : Ink} (h : InkB n k) : ∀ z ∈ (toldF k).flatten, B n z := fun z hz => by
  obtain ⟨zs, h1, h2⟩ := List.mem_flatten.mp hz
  rcases told_mem h1 with ⟨p, hp, rfl⟩ | ⟨y, hy, rfl⟩
  · simp only [List.mem_cons, List.mem_nil_iff, or_false] at h2
    rcases h2 with rfl | rfl
    · exact (h.l p hp).1
    · exact (h.l p hp).2
  · rw [List.mem_singleton.mp h2]
    exact h.d y hy
end Mth
/-! the corner that a measure tells -/
namespace Mth
theorem isfr_ok {p : Int × Int} (h : IsFr p) : Ok (p.1, 0, p.2) := by
  obtain ⟨a, b, hb, rfl⟩ := h
  rw [← low_fr]
  exact low_ok hb
theorem isfr_eq {p q : Int × Int} (hp : IsFr p) (hq : IsFr q) (h : val p = val q) : p = q :=
  fr_anti hp hq ((leF_val hp.pos hq.pos).mpr (by rw [h]; exact Rat.le_refl)) ((leF_val hq.pos hp.pos).mpr (by rw [h]; exact Rat.le_refl))
def crn (p q : Int × Int) : T3 := plus (p.1, 0, p.2) (times (q.1, 0, q.2) (0, 1, 1))

theorem corner {p q : Int × Int} (hp : IsFr p) (hq : IsFr q) : Ok (crn p q) ∧ fr (crn p q).1 (crn p q).2.2 = p ∧ fr (crn p q).2.1 (crn p q).2.2 = q := by
  have op := isfr_ok hp
  have oq := isfr_ok hq
  have ot := times_ok oq ok_i
  have oc : Ok (crn p q) := plus_ok op ot
  have r1 : re (0, 1, 1) = 0 := by decide +kernel
  have i1 : im (0, 1, 1) = 1 := by decide +kernel
  have i0 : ∀ x : Int × Int, im (x.1, 0, x.2) = 0 := fun x => by
    unfold im
    show ((0 : Int) : Rat) / _ = 0
    rw [Rat.intCast_zero, Rat.div_def, Rat.zero_mul]
  have rc : re (crn p q) = val p := by
    unfold crn
    rw [re_plus op ot, re_times oq ok_i, r1, i1, i0]
    show val p + _ = _
    grind
  have ic : im (crn p q) = val q := by
    unfold crn
    rw [im_plus op ot, im_times oq ok_i, r1, i1, i0, i0]
    show _ + (val q * _ + _) = _
    grind
  refine ⟨oc, isfr_eq ⟨_, _, oc.ne, rfl⟩ hp ?_, isfr_eq ⟨_, _, oc.ne, rfl⟩ hq ?_⟩
  · rw [fr_val oc.ne]
    exact rc
  · rw [fr_val oc.ne]
    exact ic
theorem leF_refl (f : Int × Int) : leF f f := Int.le_refl _
theorem least_in {f g : Int × Int} {fs : List (Int × Int)} (h : Least f fs) (hg : g ∈ fs) : Least f (fs ++ [g]) :=
  ⟨List.mem_append_left _ h.1, fun x hx => (List.mem_append.mp hx).elim (h.2 x) fun e => by rw [List.mem_singleton.mp e]; exact h.2 g hg⟩
theorem most_in {f g : Int × Int} {fs : List (Int × Int)} (h : Most f fs) (hg : g ∈ fs) : Most f (fs ++ [g]) :=
  ⟨List.mem_append_left _ h.1, fun x hx => (List.mem_append.mp hx).elim (h.2 x) fun e => by rw [List.mem_singleton.mp e]; exact h.2 g hg⟩
end Mth
/-! segments by a number from 0 to 1; copies carry segments -/
namespace Mth
theorem div_01 {x d : Rat} (hd : 0 < d) (h0 : 0 ≤ x) (h1 : x ≤ d) : 0 ≤ x / d ∧ x / d ≤ 1 := by
  have e : x / d * d = x := by grind
  constructor
  · refine Rat.not_lt.mp fun h => ?_
    have := Rat.mul_pos (show 0 < -(x / d) by grind) hd
    grind
  · refine Rat.not_lt.mp fun h => ?_
    have := Rat.mul_pos (show 0 < x / d - 1 by grind) hd
    grind
def at01 (z a b : T3) (t : Rat) : Prop := re z = re a + t * (re b - re a) ∧ im z = im a + t * (im b - im a)
theorem cross_re {z a b : T3} (oz : Ok z) (oa : Ok a) (ob : Ok b) (ne : a ≠ b) : on (lthru a b) z ↔ (re z - re a) * (im b - im a) = (im z - im a) * (re b - re a) := by
  rw [← cross_on oz oa ob ne]
  have o1 := minus_ok oz oa
  have o2 := minus_ok ob oa
  rw [← re_minus oz oa, ← im_minus oz oa, ← re_minus ob oa, ← im_minus ob oa]
  have d1 := cast_ne o1.ne
  have d2 := cast_ne o2.ne
  unfold re im
  rw [← Rat.intCast_inj, Rat.intCast_mul, Rat.intCast_mul]
  constructor <;> intro h <;> grind
theorem seg_par {z a b : T3} (oz : Ok z) (oa : Ok a) (ob : Ok b) (ne : a ≠ b) : seg z a b ↔ ∃ t : Rat, 0 ≤ t ∧ t ≤ 1 ∧ at01 z a b t := by
  rw [seg_iff oz oa ob ne, cross_re oz oa ob ne]
  unfold at01 le
  constructor
  · rintro ⟨hc, ho⟩
    by_cases hx : re a = re b
    · have hi : im a ≠ im b := fun h => ne (ext oa ob hx h)
      have ex : re z = re a := by grind
      by_cases hl : im a < im b
      · have := div_01 (x := im z - im a) (d := im b - im a) (by grind) (by grind) (by grind)
        exact ⟨_, this.1, this.2, by grind, by grind⟩
      · have := div_01 (x := im a - im z) (d := im a - im b) (by grind) (by grind) (by grind)
        exact ⟨_, this.1, this.2, by grind, by grind⟩
    · by_cases hl : re a < re b
      · have := div_01 (x := re z - re a) (d := re b - re a) (by grind) (by grind) (by grind)
        exact ⟨_, this.1, this.2, by grind, by grind⟩
      · have := div_01 (x := re a - re z) (d := re a - re b) (by grind) (by grind) (by grind)
        exact ⟨_, this.1, this.2, by grind, by grind⟩
  · rintro ⟨t, t0, t1, h1, h2⟩
    refine ⟨by rw [h1, h2]; grind, ?_⟩
    have key : ∀ x y : Rat, x ≤ y → x ≤ x + t * (y - x) ∧ x + t * (y - x) ≤ y := fun x y h => by
      have p1 := Rat.mul_nonneg t0 (show 0 ≤ y - x by grind)
      have p2 := Rat.mul_nonneg (show 0 ≤ 1 - t by grind) (show 0 ≤ y - x by grind)
      exact ⟨by grind, by grind⟩
    have key2 : ∀ x y : Rat, y ≤ x → y ≤ x + t * (y - x) ∧ x + t * (y - x) ≤ x := fun x y h => by
      have p1 := Rat.mul_nonneg t0 (show 0 ≤ x - y by grind)
      have p2 := Rat.mul_nonneg (show 0 ≤ 1 - t by grind) (show 0 ≤ x - y by grind)
      exact ⟨by grind, by grind⟩
    have kx := key (re a) (re b)
    have kx2 := key2 (re a) (re b)
    have ky := key (im a) (im b)
    have ky2 := key2 (im a) (im b)
    by_cases e0 : t = 0
    · subst e0
      have : re z = re a ∧ im z = im a := ⟨by grind, by grind⟩
      by_cases hl : re a < re b ∨ (re a = re b ∧ im a ≤ im b)
      · exact .inl ⟨by grind, by grind⟩
      · exact .inr ⟨by grind, by grind⟩
    · by_cases e1 : t = 1
      · subst e1
        have : re z = re b ∧ im z = im b := ⟨by grind, by grind⟩
        by_cases hl : re a < re b ∨ (re a = re b ∧ im a ≤ im b)
        · exact .inl ⟨by grind, by grind⟩
        · exact .inr ⟨by grind, by grind⟩
      · have s0 : 0 < t := by grind
        have s1 : 0 < 1 - t := by grind
        by_cases hx : re a = re b
        · have ex : re z = re a := by grind
          by_cases hl : im a ≤ im b
          · exact .inl ⟨by grind, by grind⟩
          · exact .inr ⟨by grind, by grind⟩
        · by_cases hl : re a < re b
          · have p1 := Rat.mul_pos s0 (show 0 < re b - re a by grind)
            have p2 := Rat.mul_pos s1 (show 0 < re b - re a by grind)
            exact .inl ⟨by grind, by grind⟩
          · have p1 := Rat.mul_pos s0 (show 0 < re a - re b by grind)
            have p2 := Rat.mul_pos s1 (show 0 < re a - re b by grind)
            exact .inr ⟨by grind, by grind⟩
theorem seg_ap1 {c : Cp} (hc : CpOk c) {z a b : T3} (oz : Ok z) (oa : Ok a) (ob : Ok b) (ne : a ≠ b) (h : seg z a b) : seg (ap c z) (ap c a) (ap c b) := by
  obtain ⟨t, t0, t1, h1, h2⟩ := (seg_par oz oa ob ne).mp h
  refine (seg_par (ap_ok hc oz) (ap_ok hc oa) (ap_ok hc ob) fun e => ne (ap_inj hc oa ob e)).mpr ⟨t, t0, t1, ?_, ?_⟩
  · show re (car c.t c.s c.m z) = re (car c.t c.s c.m a) + t * (re (car c.t c.s c.m b) - re (car c.t c.s c.m a))
    rw [re_car hc.t hc.s oz, re_car hc.t hc.s oa, re_car hc.t hc.s ob, h1, h2]
    grind
  · show im (car c.t c.s c.m z) = im (car c.t c.s c.m a) + t * (im (car c.t c.s c.m b) - im (car c.t c.s c.m a))
    rw [im_car hc.t hc.s oz, im_car hc.t hc.s oa, im_car hc.t hc.s ob, h1, h2]
    grind
theorem seg_ap {c : Cp} (hc : CpOk c) {z a b : T3} (oz : Ok z) (oa : Ok a) (ob : Ok b) (ne : a ≠ b) : seg (ap c z) (ap c a) (ap c b) ↔ seg z a b := by
  refine ⟨fun h => ?_, seg_ap1 hc oz oa ob ne⟩
  have := seg_ap1 (bk_ok hc) (ap_ok hc oz) (ap_ok hc oa) (ap_ok hc ob) (fun e => ne (ap_inj hc oa ob e)) h
  rw [bk_ap hc oz, bk_ap hc oa, bk_ap hc ob] at this
  exact this
end Mth
namespace Mth
/-! the spot in which two parts cross, by the law's own reckoning -/
def crT (p q : T3 × T3) : T3 := times (over (minus p.2 p.1)) (minus q.2 q.1)
def cr1 (p q : T3 × T3) : T3 := times (over (minus q.1 p.1)) (minus q.2 q.1)
def cr2 (p q : T3 × T3) : T3 := times (over (minus q.1 p.1)) (minus p.2 p.1)
def crA (p q : T3 × T3) : Int × Int := fr ((cr1 p q).2.1 * (crT p q).2.2) ((cr1 p q).2.2 * (crT p q).2.1)
def crB (p q : T3 × T3) : Int × Int := fr ((cr2 p q).2.1 * (crT p q).2.2) ((cr2 p q).2.2 * (crT p q).2.1)
def in01 (f : Int × Int) : Bool := !(decide (f.1 < 0) || decide (f.2 < f.1))
def crZ (p q : T3 × T3) : T3 := plus p.1 (times (minus p.2 p.1) ((crA p q).1, 0, (crA p q).2))
def crF (p q : T3 × T3) : Option T3 := if (crT p q).2.1 = 0 then none else if (in01 (crA p q) && in01 (crB p q)) = true then some (crZ p q) else none
theorem im_zero {z : T3} (h : Ok z) : z.2.1 = 0 ↔ im z = 0 := by
  have d := cast_ne h.ne
  unfold im
  constructor
  · intro e; rw [e, Rat.div_def, Rat.intCast_zero, Rat.zero_mul]
  · intro e
    have : (z.2.1 : Rat) = 0 := by grind
    exact_mod_cast this
theorem in01_iff {f : Int × Int} (h : 0 < f.2) : in01 f = true ↔ 0 ≤ val f ∧ val f ≤ 1 := by
  have e1 := lessF_iff (a := f) (b := (0, 1)) h (by decide)
  have e2 := lessF_iff (a := (1, 1)) (b := f) (by decide) h
  have v0 : val (0, 1) = 0 := by decide +kernel
  have v1 : val (1, 1) = 1 := by decide +kernel
  rw [v0] at e1
  rw [v1] at e2
  unfold lessF at e1 e2
  have f1 : decide (f.1 < 0) = decide (val f < 0) := by rw [← e1]; simp
  have f2 : decide (f.2 < f.1) = decide (1 < val f) := by rw [← e2]; simp
  unfold in01
  rw [f1, f2, Bool.not_eq_true', Bool.or_eq_false_iff, decide_eq_false_iff_not, decide_eq_false_iff_not, Rat.not_lt, Rat.not_lt]
theorem ratio_val {a b : T3} (ha : Ok a) (hb : Ok b) (h : b.2.1 ≠ 0) : val (fr (a.2.1 * b.2.2) (a.2.2 * b.2.1)) = im a / im b := by
  have d1 := cast_ne ha.ne
  have d2 := cast_ne hb.ne
  have d3 := cast_ne h
  rw [fr_val (Int.mul_ne_zero ha.ne h), Rat.intCast_mul, Rat.intCast_mul]
  unfold im
  rw [Rat.div_def, Rat.div_def, Rat.div_def, Rat.div_def]
  grind
theorem cr_facts {p q : T3 × T3} (p1 : Ok p.1) (p2 : Ok p.2) (q1 : Ok q.1) (q2 : Ok q.2) :
    Ok (crT p q) ∧ Ok (cr1 p q) ∧ Ok (cr2 p q) ∧ im (crT p q) = (re p.2 - re p.1) * (im q.2 - im q.1) - (im p.2 - im p.1) * (re q.2 - re q.1) ∧
      im (cr1 p q) = (re q.1 - re p.1) * (im q.2 - im q.1) - (im q.1 - im p.1) * (re q.2 - re q.1) ∧ im (cr2 p q) = (re q.1 - re p.1) * (im p.2 - im p.1) - (im q.1 - im p.1) * (re p.2 - re p.1) := by
  have a := minus_ok p2 p1
  have b := minus_ok q2 q1
  have c := minus_ok q1 p1
  have a' := over_ok a
  have c' := over_ok c
  refine ⟨times_ok a' b, times_ok c' b, times_ok c' a, ?_, ?_, ?_⟩
  · unfold crT
    rw [im_times a' b, re_over, im_over, re_minus p2 p1, im_minus p2 p1, re_minus q2 q1, im_minus q2 q1]
    grind
  · unfold cr1
    rw [im_times c' b, re_over, im_over, re_minus q1 p1, im_minus q1 p1, re_minus q2 q1, im_minus q2 q1]
    grind
  · unfold cr2
    rw [im_times c' a, re_over, im_over, re_minus q1 p1, im_minus q1 p1, re_minus p2 p1, im_minus p2 p1]
    grind
theorem onS_par {z : T3} {p : T3 × T3} (hp : Sg p) (hz : Ok z) : onS z p ↔ ∃ t : Rat, 0 ≤ t ∧ t ≤ 1 ∧ at01 z p.1 p.2 t := by
  rw [← seg_par hz hp.o1 hp.o2 hp.ne]
  unfold seg ordP
  rw [if_pos hp.lt]
/-- where two parts of different ways cross -/
theorem crF_iff {p q : T3 × T3} (hp : Sg p) (hq : Sg q) (h : (crT p q).2.1 ≠ 0) {z : T3} (hz : Ok z) : crF p q = some z ↔ onS z p ∧ onS z q := by
  obtain ⟨oT, o1, o2, eT, e1, e2⟩ := cr_facts hp.o1 hp.o2 hq.o1 hq.o2
  have nT : im (crT p q) ≠ 0 := fun e => h ((im_zero oT).mpr e)
  have vA : val (crA p q) = im (cr1 p q) / im (crT p q) := ratio_val o1 oT h
  have vB : val (crB p q) = im (cr2 p q) / im (crT p q) := ratio_val o2 oT h
  have pA : 0 < (crA p q).2 := fr_pos (Int.mul_ne_zero o1.ne h)
  have pB : 0 < (crB p q).2 := fr_pos (Int.mul_ne_zero o2.ne h)
  have oA : Ok ((crA p q).1, 0, (crA p q).2) := isfr_ok ⟨_, _, Int.mul_ne_zero o1.ne h, rfl⟩
  have om := minus_ok hp.o2 hp.o1
  have oZ : Ok (crZ p q) := plus_ok hp.o1 (times_ok om oA)
  have rA : re ((crA p q).1, 0, (crA p q).2) = val (crA p q) := rfl
  have iA : im ((crA p q).1, 0, (crA p q).2) = 0 := by
    show ((0 : Int) : Rat) / _ = 0
    rw [Rat.div_def, Rat.intCast_zero, Rat.zero_mul]
  have rZ : re (crZ p q) = re p.1 + val (crA p q) * (re p.2 - re p.1) := by
    unfold crZ
    rw [re_plus hp.o1 (times_ok om oA), re_times om oA, rA, iA, re_minus hp.o2 hp.o1, im_minus hp.o2 hp.o1]
    grind
  have iZ : im (crZ p q) = im p.1 + val (crA p q) * (im p.2 - im p.1) := by
    unfold crZ
    rw [im_plus hp.o1 (times_ok om oA), im_times om oA, rA, iA, re_minus hp.o2 hp.o1, im_minus hp.o2 hp.o1]
    grind
  have mA : val (crA p q) * im (crT p q) = im (cr1 p q) := by rw [vA]; grind
  have mB : val (crB p q) * im (crT p q) = im (cr2 p q) := by rw [vB]; grind
  have i1 : in01 (crA p q) = true ↔ 0 ≤ val (crA p q) ∧ val (crA p q) ≤ 1 := in01_iff pA
  have i2 : in01 (crB p q) = true ↔ 0 ≤ val (crB p q) ∧ val (crB p q) ≤ 1 := in01_iff pB
  rw [eT, e1] at mA
  rw [eT, e2] at mB
  rw [eT] at nT
  clear vA vB
  have key : ∀ x : Rat, x * ((re p.2 - re p.1) * (im q.2 - im q.1) - (im p.2 - im p.1) * (re q.2 - re q.1)) = 0 → x = 0 := fun x hx => by grind
  have fin : crF p q = some z ↔ (in01 (crA p q) && in01 (crB p q)) = true ∧ crZ p q = z := by
    unfold crF
    rw [if_neg h]
    by_cases c : (in01 (crA p q) && in01 (crB p q)) = true
    · rw [if_pos c]
      exact Iff.intro (fun e => ⟨c, Option.some.inj e⟩) (fun e => congrArg some e.2)
    · rw [if_neg c]
      exact Iff.intro (fun e => nomatch e) (fun e => absurd e.1 c)
  rw [fin, Bool.and_eq_true, i1, i2, onS_par hp hz, onS_par hq hz]
  generalize val (crA p q) = α at *
  generalize val (crB p q) = β at *
  unfold at01
  constructor
  · rintro ⟨⟨⟨a0, a1⟩, b0, b1⟩, rfl⟩
    refine ⟨⟨α, a0, a1, rZ, iZ⟩, ⟨β, b0, b1, ?_, ?_⟩⟩
    · have := key (α * (re p.2 - re p.1) - β * (re q.2 - re q.1) - (re q.1 - re p.1)) (by grind)
      rw [rZ]
      grind
    · have := key (α * (im p.2 - im p.1) - β * (im q.2 - im q.1) - (im q.1 - im p.1)) (by grind)
      rw [iZ]
      grind
  · rintro ⟨⟨t, t0, t1, tr, ti⟩, s, s0, s1, sr, si⟩
    have ea := key (t - α) (by grind)
    have eb := key (s - β) (by grind)
    have ea : α = t := by grind
    have eb : β = s := by grind
    subst ea eb
    exact ⟨⟨⟨t0, t1⟩, s0, s1⟩, ext oZ hz (by rw [rZ, tr]) (by rw [iZ, ti])⟩
theorem crF_self (p : T3 × T3) (h1 : Ok p.1) (h2 : Ok p.2) : crF p p = none := by
  obtain ⟨oT, _, _, eT, _, _⟩ := cr_facts h1 h2 h1 h2
  unfold crF
  rw [if_pos ((im_zero oT).mpr (by rw [eT]; grind))]
theorem crF_ok {p q : T3 × T3} (hp : Sg p) (hq : Sg q) {z : T3} (e : crF p q = some z) : Ok z := by
  obtain ⟨oT, o1, o2, _, _, _⟩ := cr_facts hp.o1 hp.o2 hq.o1 hq.o2
  unfold crF at e
  by_cases h : (crT p q).2.1 = 0
  · rw [if_pos h] at e; cases e
  rw [if_neg h] at e
  by_cases c : (in01 (crA p q) && in01 (crB p q)) = true
  · rw [if_pos c] at e
    rw [← Option.some.inj e]
    exact plus_ok hp.o1 (times_ok (minus_ok hp.o2 hp.o1) (isfr_ok ⟨_, _, Int.mul_ne_zero o1.ne h, rfl⟩))
  · rw [if_neg c] at e; cases e
/-- lines of the same way, lines apart: they share nothing -/
theorem apart_no {p q : T3 × T3} (hp : Sg p) (hq : Sg q) (ap : apart p q) (h : (crT p q).2.1 = 0) {z : T3} (hz : Ok z) : ¬ (onS z p ∧ onS z q) := by
  rintro ⟨⟨b1, l1⟩, b2, l2⟩
  obtain ⟨oT, _, _, eT, _, _⟩ := cr_facts hp.o1 hp.o2 hq.o1 hq.o2
  have e0 := (im_zero oT).mp h
  rw [eT] at e0
  have c1 := (cross_re hz hp.o1 hp.o2 hp.ne).mp l1
  have c2 := (cross_re hz hq.o1 hq.o2 hq.ne).mp l2
  have nz : re q.2 - re q.1 ≠ 0 ∨ im q.2 - im q.1 ≠ 0 := by
    by_cases h1 : re q.2 - re q.1 = 0
    · exact .inr fun h2 => hq.ne (ext hq.o1 hq.o2 (by grind) (by grind))
    · exact .inl h1
  have np : re p.2 - re p.1 ≠ 0 ∨ im p.2 - im p.1 ≠ 0 := by
    by_cases h1 : re p.2 - re p.1 = 0
    · exact .inr fun h2 => hp.ne (ext hp.o1 hp.o2 (by grind) (by grind))
    · exact .inl h1
  have on1 : on (lthru q.1 q.2) p.1 := (cross_re hp.o1 hq.o1 hq.o2 hq.ne).mpr (by rcases np with n | n <;> grind)
  have on2 : on (lthru q.1 q.2) p.2 := (cross_re hp.o2 hq.o1 hq.o2 hq.ne).mpr (by rcases np with n | n <;> grind)
  have el := lthru_uniq hp.o1 hp.o2 hp.ne (lthru_ln hq.o1 hq.o2 hq.ne) on1 on2
  obtain ⟨x1, x2⟩ := (btw_iff hz hp.o1 hp.o2).mp b1
  obtain ⟨y1, y2⟩ := (btw_iff hz hq.o1 hq.o2).mp b2
  rcases ap el with n | n
  · exact n (le_trans y1 x2)
  · exact n (le_trans x1 y2)
theorem crF_olap {p q : T3 × T3} (hp : Sg p) (hq : Sg q) (ap : apart p q) : (crF p q).isSome = (olap p q).isSome := by
  rw [Bool.eq_iff_iff, Option.isSome_iff_exists, Option.isSome_iff_exists]
  constructor
  · rintro ⟨z, e⟩
    have oz := crF_ok hp hq e
    have h : (crT p q).2.1 ≠ 0 := fun h => by
      unfold crF at e
      rw [if_pos h] at e
      cases e
    obtain ⟨s, es, _⟩ := (olap_cov hp hq oz).mp ((crF_iff hp hq h oz).mp e)
    exact ⟨s, es⟩
  · rintro ⟨s, es⟩
    have both : ∃ z, Ok z ∧ onS z p ∧ onS z q := by
      have es0 := es
      unfold olap at es
      by_cases el : lthru p.1 p.2 = lthru q.1 q.2
      · exfalso
        rw [if_pos el] at es
        have ok1 := ordP_ok hp.o1 hq.o1
        have ok2 := ordP_ok hp.o2 hq.o2
        cases hl : ltS (ordP p.2 q.2).1 (ordP p.1 q.1).2 with
        | true => rw [if_pos hl] at es; cases es
        | false =>
          have l := (le_iff ok1.2 ok2.1).mp hl
          obtain ⟨l1, l2⟩ := (ordP_hi hp.o1 hq.o1).mp l
          obtain ⟨m1, m2⟩ := (ordP_lo hp.o2 hq.o2).mp (le_refl (ordP p.2 q.2).1)
          rcases ap el with n | n
          · exact n (le_trans l2 m1)
          · exact n (le_trans l1 m2)
      rw [if_neg el] at es
      by_cases ep : (lthru p.1 p.2).1 * (lthru q.1 q.2).2.1 = (lthru q.1 q.2).1 * (lthru p.1 p.2).2.1
      · rw [if_pos ep] at es; cases es
      rw [if_neg ep] at es
      have oz := cross_ok ep
      generalize cross (lthru p.1 p.2) (lthru q.1 q.2) = z at *
      by_cases eb : (btw z p && btw z q) = true
      · rw [if_pos eb] at es
        refine ⟨z, oz, (olap_cov hp hq oz).mpr ⟨s, es0, .inl ?_⟩⟩
        rw [← Option.some.inj es]
        exact ⟨rfl, rfl⟩
      · rw [if_neg eb] at es; cases es
    obtain ⟨z, oz, hz⟩ := both
    have h : (crT p q).2.1 ≠ 0 := fun h => apart_no hp hq ap h oz hz
    exact ⟨z, (crF_iff hp hq h oz).mpr hz⟩
end Mth
namespace Mth
/-! labels that are made alike along ties, round by round -/
inductive Cn (n : Nat) (adj : Nat → Nat → Bool) : Nat → Nat → Prop
  | refl {i : Nat} (h : i < n) : Cn n adj i i
  | step {i j k : Nat} : Cn n adj i j → k < n → adj j k = true → Cn n adj i k
section
variable {n : Nat} {adj : Nat → Nat → Bool}
theorem Cn.lt {i j : Nat} (h : Cn n adj i j) : i < n ∧ j < n := by
  induction h with
  | refl h => exact ⟨h, h⟩
  | step _ hk _ ih => exact ⟨ih.1, hk⟩
theorem Cn.trans {i j k : Nat} (h : Cn n adj i j) (g : Cn n adj j k) : Cn n adj i k := by
  induction g with
  | refl _ => exact h
  | step _ hk a ih => exact .step ih hk a
theorem Cn.symm (sy : ∀ i j, adj i j = adj j i) {i j : Nat} (h : Cn n adj i j) : Cn n adj j i := by
  induction h with
  | refl h => exact .refl h
  | step g hk a ih => exact (Cn.step (.refl hk) g.lt.2 (by rw [sy]; exact a)).trans ih
structure LI (n : Nat) (adj : Nat → Nat → Bool) (lab : List Nat) : Prop where
  len : lab.length = n
  le : ∀ (i x : Nat), lab[i]? = some x → x ≤ i
  cn : ∀ (i x : Nat), lab[i]? = some x → Cn n adj i x
/-- the label is the least of all that it hangs together with -/
def Gd (n : Nat) (adj : Nat → Nat → Bool) (lab : List Nat) (i : Nat) : Prop := ∃ x, lab[i]? = some x ∧ ∀ j, Cn n adj i j → x ≤ j
def up2 (lab : List Nat) (k j m : Nat) : List Nat := (lab.set k m).set j m
theorem up2_at {lab : List Nat} {k j m : Nat} (hk : k < lab.length) (hj : j < lab.length) (i : Nat) : (up2 lab k j m)[i]? = if i = j ∨ i = k then some m else lab[i]? := by
  unfold up2
  rw [List.getElem?_set, List.getElem?_set, List.length_set]
  by_cases h1 : j = i
  · rw [if_pos h1, if_pos hj, if_pos (.inl h1.symm)]
  · rw [if_neg h1]
    by_cases h2 : k = i
    · rw [if_pos h2, if_pos hk, if_pos (.inr h2.symm)]
    · rw [if_neg h2, if_neg (by omega)]
theorem up2_LI (sy : ∀ i j, adj i j = adj j i) {lab : List Nat} (h : LI n adj lab) {k j a b : Nat} (ha : lab[k]? = some a) (hb : lab[j]? = some b) (e : adj k j = true) : LI n adj (up2 lab k j (min a b)) := by
  have lk := (List.getElem?_eq_some_iff.mp ha).1
  have lj := (List.getElem?_eq_some_iff.mp hb).1
  have ca := h.cn k a ha
  have cb := h.cn j b hb
  have kj : Cn n adj k j := .step (.refl ca.lt.1) cb.lt.1 e
  have both : Cn n adj k (min a b) ∧ Cn n adj j (min a b) := by
    rcases Nat.le_total a b with l | l
    · rw [Nat.min_eq_left l]; exact ⟨ca, (kj.symm sy).trans ca⟩
    · rw [Nat.min_eq_right l]; exact ⟨kj.trans cb, cb⟩
  have la := h.le k a ha
  have lb := h.le j b hb
  refine ⟨by unfold up2; rw [List.length_set, List.length_set]; exact h.len, fun i x hx => ?_, fun i x hx => ?_⟩
  · rw [up2_at lk lj] at hx
    by_cases c : i = j ∨ i = k
    · rw [if_pos c] at hx
      cases hx
      rcases c with rfl | rfl <;> omega
    · rw [if_neg c] at hx
      exact h.le i x hx
  · rw [up2_at lk lj] at hx
    by_cases c : i = j ∨ i = k
    · rw [if_pos c] at hx
      cases hx
      rcases c with rfl | rfl
      · exact both.2
      · exact both.1
    · rw [if_neg c] at hx
      exact h.cn i x hx
theorem up2_Gd (sy : ∀ i j, adj i j = adj j i) {lab : List Nat} (h : LI n adj lab) {k j a b : Nat} (ha : lab[k]? = some a) (hb : lab[j]? = some b) (e : adj k j = true) {i : Nat} (g : Gd n adj lab i) : Gd n adj (up2 lab k j (min a b)) i := by
  obtain ⟨x, hx, hm⟩ := g
  have lk := (List.getElem?_eq_some_iff.mp ha).1
  have lj := (List.getElem?_eq_some_iff.mp hb).1
  unfold Gd
  rw [up2_at lk lj]
  by_cases c : i = j ∨ i = k
  · rw [if_pos c]
    refine ⟨_, rfl, fun y hy => ?_⟩
    rcases c with rfl | rfl
    · rw [hb] at hx; cases hx
      exact Nat.le_trans (Nat.min_le_right _ _) (hm y hy)
    · rw [ha] at hx; cases hx
      exact Nat.le_trans (Nat.min_le_left _ _) (hm y hy)
  · rw [if_neg c]
    exact ⟨x, hx, hm⟩
theorem up2_new (sy : ∀ i j, adj i j = adj j i) {lab : List Nat} (h : LI n adj lab) {k j a b : Nat} (ha : lab[k]? = some a) (hb : lab[j]? = some b) (e : adj k j = true) (g : Gd n adj lab k) : Gd n adj (up2 lab k j (min a b)) j := by
  obtain ⟨x, hx, hm⟩ := g
  have lk := (List.getElem?_eq_some_iff.mp ha).1
  have lj := (List.getElem?_eq_some_iff.mp hb).1
  rw [ha] at hx; cases hx
  unfold Gd
  rw [up2_at lk lj, if_pos (.inl rfl)]
  have kj : Cn n adj k j := .step (.refl (h.cn k a ha).lt.1) (h.cn j b hb).lt.1 e
  exact ⟨_, rfl, fun y hy => Nat.le_trans (Nat.min_le_left _ _) (hm y (kj.trans hy))⟩
open Classical in
noncomputable def cntG (n : Nat) (adj : Nat → Nat → Bool) (lab : List Nat) : Nat := ((List.range n).filter fun i => decide (Gd n adj lab i)).length
theorem filt_le {α : Type} {p q : α → Bool} : ∀ {l : List α}, (∀ x ∈ l, p x = true → q x = true) → (l.filter p).length ≤ (l.filter q).length
  | [], _ => Nat.le_refl _
  | x :: l, h => by
    have ih := filt_le (l := l) fun y hy => h y (.tail _ hy)
    by_cases c : p x = true
    · rw [List.filter_cons_of_pos c, List.filter_cons_of_pos (h x (.head _) c)]
      exact Nat.succ_le_succ ih
    · rw [List.filter_cons_of_neg c]
      by_cases d : q x = true
      · rw [List.filter_cons_of_pos d]
        exact Nat.le_succ_of_le ih
      · rw [List.filter_cons_of_neg d]
        exact ih
theorem filt_lt {α : Type} {p q : α → Bool} {x : α} (hp : p x = false) (hq : q x = true) : ∀ {l : List α}, (∀ x ∈ l, p x = true → q x = true) → x ∈ l → (l.filter p).length + 1 ≤ (l.filter q).length
  | y :: l, h, m => by
    have h' : ∀ x ∈ l, p x = true → q x = true := fun y hy => h y (.tail _ hy)
    rcases List.mem_cons.mp m with rfl | m
    · rw [List.filter_cons_of_neg (by rw [hp]; decide), List.filter_cons_of_pos hq]
      exact Nat.succ_le_succ (filt_le h')
    · have ih := filt_lt hp hq h' m
      by_cases c : p y = true
      · rw [List.filter_cons_of_pos c, List.filter_cons_of_pos (h y (.head _) c)]
        exact Nat.succ_le_succ ih
      · rw [List.filter_cons_of_neg c]
        by_cases d : q y = true
        · rw [List.filter_cons_of_pos d]
          exact Nat.le_succ_of_le ih
        · rw [List.filter_cons_of_neg d]
          exact ih
/-- where not all are least, some that is least stands beside one that is not -/
theorem edge (sy : ∀ i j, adj i j = adj j i) {lab : List Nat} (h : LI n adj lab) {i : Nat} (hi : i < n) (ni : ¬ Gd n adj lab i) : ∃ k j, k < n ∧ j < n ∧ adj k j = true ∧ Gd n adj lab k ∧ ¬ Gd n adj lab j := by
  obtain ⟨m, hm, least⟩ : ∃ m, Cn n adj i m ∧ ∀ j, Cn n adj i j → m ≤ j := by
    have : ∀ d j, Cn n adj i j → j ≤ d → ∃ m, Cn n adj i m ∧ ∀ j, Cn n adj i j → m ≤ j := by
      intro d
      induction d with
      | zero => exact fun j hj l => ⟨j, hj, fun y _ => by omega⟩
      | succ d ih =>
        intro j hj l
        by_cases c : ∃ y, Cn n adj i y ∧ y < j
        · obtain ⟨y, hy, ly⟩ := c
          exact ih y hy (by omega)
        · exact ⟨j, hj, fun y hy => Nat.le_of_not_lt fun z => c ⟨y, hy, z⟩⟩
    exact this i i (.refl hi) (Nat.le_refl _)
  have gm : Gd n adj lab m := by
    have lm : m < lab.length := by rw [h.len]; exact hm.lt.2
    refine ⟨lab[m], List.getElem?_eq_getElem lm, fun j hj => ?_⟩
    exact Nat.le_trans (h.le m _ (List.getElem?_eq_getElem lm)) (least j (hm.trans hj))
  have walk : ∀ {a b : Nat}, Cn n adj a b → Gd n adj lab a → ¬ Gd n adj lab b → ∃ k j, k < n ∧ j < n ∧ adj k j = true ∧ Gd n adj lab k ∧ ¬ Gd n adj lab j := by
    intro a b c
    induction c with
    | refl _ => exact fun g ng => absurd g ng
    | step c hk e ih =>
      rename_i j k
      intro g ng
      by_cases gj : Gd n adj lab j
      · exact ⟨j, k, c.lt.2, hk, e, gj, ng⟩
      · exact ih g gj
  exact walk (hm.symm sy) gm ni
open Classical in
/-- one round more -/
theorem round_step (sy : ∀ i j, adj i j = adj j i) {l0 l1 : List Nat} {t : Nat} (h0 : LI n adj l0) (mono : ∀ i, Gd n adj l0 i → Gd n adj l1 i) (new : ∀ k j, k < n → j < n → adj k j = true → Gd n adj l0 k → Gd n adj l1 j)
    (h : (∀ i, i < n → Gd n adj l0 i) ∨ t ≤ cntG n adj l0) : (∀ i, i < n → Gd n adj l1 i) ∨ t + 1 ≤ cntG n adj l1 := by
  rcases h with h | h
  · exact .inl fun i hi => mono i (h i hi)
  by_cases c : ∃ i, i < n ∧ ¬ Gd n adj l0 i
  · obtain ⟨i, hi, ni⟩ := c
    obtain ⟨k, j, hk, hj, e, gk, nj⟩ := edge sy h0 hi ni
    refine .inr (Nat.le_trans (Nat.succ_le_succ h) ?_)
    unfold cntG
    refine filt_lt (x := j) (decide_eq_false nj) (decide_eq_true (new k j hk hj e gk)) (fun x _ hx => decide_eq_true (mono x (of_decide_eq_true hx))) (List.mem_range.mpr hj)
  · exact .inl fun i hi => mono i (Classical.byContradiction fun ng => c ⟨i, hi, ng⟩)
open Classical in
theorem all_good {lab : List Nat} (h : (∀ i, i < n → Gd n adj lab i) ∨ n ≤ cntG n adj lab) : ∀ i, i < n → Gd n adj lab i := by
  rcases h with h | h
  · exact h
  intro i hi
  refine Classical.byContradiction fun ng => ?_
  unfold cntG at h
  have := filt_lt (p := fun i => decide (Gd n adj lab i)) (q := fun _ => true) (x := i) (decide_eq_false ng) rfl (l := List.range n) (fun _ _ _ => rfl) (List.mem_range.mpr hi)
  have l := List.length_filter_le (fun _ : Nat => true) (List.range n)
  rw [List.length_range] at l
  omega
theorem good_eq (sy : ∀ i j, adj i j = adj j i) {lab : List Nat} (h : LI n adj lab) (g : ∀ i, i < n → Gd n adj lab i) {i j a b : Nat} (c : Cn n adj i j) (ha : lab[i]? = some a) (hb : lab[j]? = some b) : a = b := by
  obtain ⟨x, hx, hm⟩ := g i c.lt.1
  obtain ⟨y, hy, hn⟩ := g j c.lt.2
  rw [ha] at hx; cases hx
  rw [hb] at hy; cases hy
  have c1 := hm b (c.trans (h.cn j b hb))
  have c2 := hn a ((c.symm sy).trans (h.cn i a ha))
  omega
end
end Mth
namespace Mth
/-! lines that hang together: groups, and labels -/
def Rl (p q : T3 × T3) : Bool := (crF p q).isSome
theorem Rl_symm {p q : T3 × T3} (hp : Sg p) (hq : Sg q) : Rl p q = Rl q p := by
  have one : ∀ {p q : T3 × T3}, Sg p → Sg q → Rl p q = true → Rl q p = true := fun {p q} hp hq h => by
    obtain ⟨z, e⟩ := Option.isSome_iff_exists.mp h
    have oz := crF_ok hp hq e
    have nz : (crT p q).2.1 ≠ 0 := fun h => by
      unfold crF at e
      rw [if_pos h] at e
      cases e
    obtain ⟨oT, _, _, eT, _, _⟩ := cr_facts hp.o1 hp.o2 hq.o1 hq.o2
    obtain ⟨oT', _, _, eT', _, _⟩ := cr_facts hq.o1 hq.o2 hp.o1 hp.o2
    have nz' : (crT q p).2.1 ≠ 0 := fun h => nz ((im_zero oT).mpr (by
      have := (im_zero oT').mp h
      rw [eT'] at this
      rw [eT]
      grind))
    have := (crF_iff hp hq nz oz).mp e
    exact Option.isSome_iff_exists.mpr ⟨z, (crF_iff hq hp nz' oz).mpr ⟨this.2, this.1⟩⟩
  rw [Bool.eq_iff_iff]
  exact ⟨one hp hq, one hq hp⟩
inductive CnL (ps : List (T3 × T3)) : T3 × T3 → T3 × T3 → Prop
  | refl {p : T3 × T3} (h : p ∈ ps) : CnL ps p p
  | step {p q r : T3 × T3} : CnL ps p q → r ∈ ps → Rl q r = true → CnL ps p r
theorem CnL.mem {ps : List (T3 × T3)} {p q : T3 × T3} (h : CnL ps p q) : p ∈ ps ∧ q ∈ ps := by
  induction h with
  | refl h => exact ⟨h, h⟩
  | step _ hk _ ih => exact ⟨ih.1, hk⟩
theorem CnL.mono {ps qs : List (T3 × T3)} (s : ∀ p ∈ ps, p ∈ qs) {p q : T3 × T3} (h : CnL ps p q) : CnL qs p q := by
  induction h with
  | refl h => exact .refl (s _ h)
  | step _ hk e ih => exact .step ih (s _ hk) e
theorem CnL.trans {ps : List (T3 × T3)} {p q r : T3 × T3} (h : CnL ps p q) (g : CnL ps q r) : CnL ps p r := by
  induction g with
  | refl _ => exact h
  | step _ hk a ih => exact .step ih hk a
theorem CnL.symm {ps : List (T3 × T3)} (sg : ∀ p ∈ ps, Sg p) {p q : T3 × T3} (h : CnL ps p q) : CnL ps q p := by
  induction h with
  | refl h => exact .refl h
  | step g hk a ih => exact (CnL.step (.refl hk) g.mem.2 (by rw [Rl_symm (sg _ hk) (sg _ g.mem.2)]; exact a)).trans ih
abbrev Lns := List (T3 × T3)
structure GI (l : Lns) (gs : List Lns) : Prop where
  mem : ∀ q, q ∈ gs.flatten ↔ q ∈ l
  cn : ∀ g ∈ gs, ∀ p ∈ g, ∀ q ∈ g, CnL l p q
  sep : gs.Pairwise fun g h => ∀ p ∈ g, ∀ q ∈ h, Rl p q = false ∧ p ≠ q
  ne : ∀ g ∈ gs, g ≠ []
theorem GI.same_group {l : Lns} {gs : List Lns} (h : GI l gs) {g g' : Lns} (hg : g ∈ gs) (hg' : g' ∈ gs) {q : T3 × T3} (h1 : q ∈ g) (h2 : q ∈ g') : g = g' := by
  have two : ∀ gs : List Lns, gs.Pairwise (fun g h => ∀ p ∈ g, ∀ q ∈ h, Rl p q = false ∧ p ≠ q) → g ∈ gs → g' ∈ gs → g = g' := by
    intro gs
    induction gs with
    | nil => exact fun _ h => nomatch h
    | cons x gs ih =>
      intro pw k1 k2
      rw [List.pairwise_cons] at pw
      rcases List.mem_cons.mp k1 with rfl | k1
      · rcases List.mem_cons.mp k2 with rfl | k2
        · rfl
        · exact absurd rfl (pw.1 g' k2 q h1 q h2).2
      · rcases List.mem_cons.mp k2 with e | k2
        · exact absurd rfl (pw.1 g k1 q (e ▸ h2) q h1).2
        · exact ih pw.2 k1 k2
  exact two gs h.sep hg hg'
theorem GI.closed {l : Lns} {gs : List Lns} (sg : ∀ p ∈ l, Sg p) (h : GI l gs) {g : Lns} (hg : g ∈ gs) {p q : T3 × T3} (hp : p ∈ g) (c : CnL l p q) : q ∈ g := by
  induction c with
  | refl _ => exact hp
  | step c hr e ih =>
    rename_i q r
    have hq := ih
    obtain ⟨g', hg', hr'⟩ := List.mem_flatten.mp ((h.mem r).mpr hr)
    have two : ∀ gs : List Lns, gs.Pairwise (fun g h => ∀ p ∈ g, ∀ q ∈ h, Rl p q = false ∧ p ≠ q) → g ∈ gs → g' ∈ gs → g = g' ∨ Rl q r = false := by
      intro gs
      induction gs with
      | nil => exact fun _ h => nomatch h
      | cons x gs ih2 =>
        intro pw h1 h2
        rw [List.pairwise_cons] at pw
        rcases List.mem_cons.mp h1 with rfl | h1
        · rcases List.mem_cons.mp h2 with rfl | h2
          · exact .inl rfl
          · exact .inr (pw.1 g' h2 q hq r hr').1
        · rcases List.mem_cons.mp h2 with e3 | h2
          · refine .inr ?_
            rw [Rl_symm (sg q c.mem.2) (sg r hr)]
            exact (pw.1 g h1 r (e3 ▸ hr') q hq).1
          · exact ih2 pw.2 h1 h2
    rcases two gs h.sep hg hg' with e2 | e2
    · rw [e2]; exact hr'
    · rw [e] at e2; cases e2
def stepG (tch : T3 × T3 → Lns → Bool) (gs : List Lns) (p : T3 × T3) : List Lns := (gs.filter fun g => !tch p g) ++ [p :: (gs.filter fun g => tch p g).flatten]
theorem GI.step {l : Lns} {gs : List Lns} (h : GI l gs) {p : T3 × T3} {tch : T3 × T3 → Lns → Bool} (sg : ∀ q ∈ l ++ [p], Sg q) (new : p ∉ l) (ht : ∀ g ∈ gs, tch p g = true ↔ ∃ q ∈ g, Rl p q = true) : GI (l ++ [p]) (stepG tch gs p) := by
  have sub : ∀ q ∈ l, q ∈ l ++ [p] := fun q hq => List.mem_append_left _ hq
  have mp : p ∈ l ++ [p] := List.mem_append_right _ (.head _)
  have inl : ∀ g ∈ gs, ∀ q ∈ g, q ∈ l := fun g hg q hq => (h.mem q).mp (List.mem_flatten.mpr ⟨g, hg, hq⟩)
  have joint : ∀ q ∈ p :: (gs.filter fun g => tch p g).flatten, CnL (l ++ [p]) p q := fun q hq => by
    rcases List.mem_cons.mp hq with rfl | hq
    · exact .refl mp
    obtain ⟨g, hg, hq⟩ := List.mem_flatten.mp hq
    obtain ⟨hg, tg⟩ := List.mem_filter.mp hg
    obtain ⟨r, hr, e⟩ := (ht g hg).mp tg
    exact (CnL.step (.refl mp) (sub r (inl g hg r hr)) e).trans ((h.cn g hg r hr q hq).mono sub)
  refine ⟨fun q => ?_, fun g hg => ?_, ?_, fun g hg => ?_⟩
  · unfold stepG
    rw [List.flatten_append, List.mem_append, List.flatten_cons, List.flatten_nil, List.append_nil, List.mem_cons, List.mem_append, List.mem_singleton, ← h.mem q]
    constructor
    · rintro (hq | hq | hq)
      · obtain ⟨g, hg, hq⟩ := List.mem_flatten.mp hq
        exact .inl (List.mem_flatten.mpr ⟨g, (List.mem_filter.mp hg).1, hq⟩)
      · exact .inr hq
      · obtain ⟨g, hg, hq⟩ := List.mem_flatten.mp hq
        exact .inl (List.mem_flatten.mpr ⟨g, (List.mem_filter.mp hg).1, hq⟩)
    · rintro (hq | hq)
      · obtain ⟨g, hg, hq⟩ := List.mem_flatten.mp hq
        cases e : tch p g with
        | true => exact .inr (.inr (List.mem_flatten.mpr ⟨g, List.mem_filter.mpr ⟨hg, e⟩, hq⟩))
        | false => exact .inl (List.mem_flatten.mpr ⟨g, List.mem_filter.mpr ⟨hg, by rw [e]; rfl⟩, hq⟩)
      · exact .inr (.inl hq)
  · rcases List.mem_append.mp hg with hg | hg
    · exact fun a ha b hb => (h.cn g (List.mem_filter.mp hg).1 a ha b hb).mono sub
    · rw [List.mem_singleton.mp hg]
      exact fun a ha b hb => ((joint a ha).symm sg).trans (joint b hb)
  · unfold stepG
    rw [List.pairwise_append]
    refine ⟨h.sep.sublist List.filter_sublist, List.pairwise_singleton _ _, fun g hg j hj a ha b hb => ?_⟩
    rw [List.mem_singleton.mp hj] at hb
    obtain ⟨g0, ng⟩ := List.mem_filter.mp hg
    have ng : tch p g = false := by simpa using ng
    have al := inl g g0 a ha
    rcases List.mem_cons.mp hb with rfl | hb
    · refine ⟨?_, fun e => new (e ▸ al)⟩
      rw [Rl_symm (sg a (sub a al)) (sg b mp), ← Bool.not_eq_true]
      intro e
      rw [(ht g g0).mpr ⟨a, ha, e⟩] at ng
      cases ng
    · obtain ⟨g', hg', hb⟩ := List.mem_flatten.mp hb
      obtain ⟨g1, tg'⟩ := List.mem_filter.mp hg'
      have ne : g ≠ g' := fun e => by rw [e, tg'] at ng; cases ng
      have sgl : ∀ q ∈ l, Sg q := fun q hq => sg q (sub q hq)
      have bl := inl g' g1 b hb
      refine ⟨?_, fun e => ?_⟩
      · rw [← Bool.not_eq_true]
        intro e
        have mb : b ∈ g := h.closed sgl g0 ha (.step (.refl al) bl e)
        exact ne (GI.same_group h g0 g1 mb hb)
      · exact ne (GI.same_group h g0 g1 (e ▸ ha) hb)
  · rcases List.mem_append.mp hg with hg | hg
    · exact h.ne g (List.mem_filter.mp hg).1
    · rw [List.mem_singleton.mp hg]
      exact fun e => nomatch e
/-- as many groups as labels -/
theorem GI.count {ps : Lns} {gs : List Lns} (sg : ∀ p ∈ ps, Sg p) (nd : ps.Nodup) (h : GI ps gs) {lab : List Nat} {adj : Nat → Nat → Bool}
    (ha : ∀ (i j : Nat) (p q : T3 × T3), ps[i]? = some p → ps[j]? = some q → adj i j = Rl p q)
    (li : LI ps.length adj lab) (eq : ∀ i j a b : Nat, Cn ps.length adj i j → lab[i]? = some a → lab[j]? = some b → a = b)
    {ds : List Nat} (dn : ds.Nodup) (dm : ∀ x, x ∈ ds ↔ x ∈ lab) : ds.length = gs.length := by
  have ll := li.len
  have toL : ∀ {i j : Nat}, Cn ps.length adj i j → ∀ p q, ps[i]? = some p → ps[j]? = some q → CnL ps p q := by
    intro i j c
    induction c with
    | refl hi => 
      intro p q e1 e2
      rw [e1] at e2; cases e2
      exact .refl (List.mem_of_getElem? e1)
    | step c hk e ih =>
      rename_i j k
      intro p q e1 e2
      have ej : ps[j]? = some (ps[j]'c.lt.2) := List.getElem?_eq_getElem _
      exact .step (ih p _ e1 ej) (List.mem_of_getElem? e2) (by rw [← ha j k _ _ ej e2]; exact e)
  have toN : ∀ {p q : T3 × T3}, CnL ps p q → ∀ i j : Nat, ps[i]? = some p → ps[j]? = some q → Cn ps.length adj i j := by
    intro p q c
    induction c with
    | refl hp =>
      intro i j e1 e2
      obtain ⟨l1, e1⟩ := List.getElem?_eq_some_iff.mp e1
      obtain ⟨l2, e2⟩ := List.getElem?_eq_some_iff.mp e2
      have : i = j := by
        rcases Nat.lt_trichotomy i j with h | h | h
        · exact absurd (e1.trans e2.symm) (List.pairwise_iff_getElem.mp nd i j l1 l2 h)
        · exact h
        · exact absurd (e2.trans e1.symm) (List.pairwise_iff_getElem.mp nd j i l2 l1 h)
      subst this
      exact .refl l1
    | step c hr e ih =>
      rename_i q r
      intro i j e1 e2
      obtain ⟨m, lm, em⟩ := List.getElem_of_mem c.mem.2
      have em : ps[m]? = some q := by rw [List.getElem?_eq_getElem lm, em]
      exact .step (ih i m e1 em) (List.getElem?_eq_some_iff.mp e2).1 (by rw [ha m j _ _ em e2]; exact e)
  have lbl : ∀ g ∈ gs, ∃ x : Nat, x ∈ lab ∧ ∀ p ∈ g, ∀ i : Nat, ps[i]? = some p → lab[i]? = some x := by
    intro g hg
    obtain ⟨p, hp⟩ := List.exists_mem_of_ne_nil g (h.ne g hg)
    have mp := (h.mem p).mp (List.mem_flatten.mpr ⟨g, hg, hp⟩)
    obtain ⟨i, lt, e⟩ := List.getElem_of_mem mp
    have ei : ps[i]? = some p := by rw [List.getElem?_eq_getElem lt, e]
    have ex : lab[i]? = some (lab[i]'(by omega)) := List.getElem?_eq_getElem _
    refine ⟨_, List.mem_of_getElem? ex, fun q hq j ej => ?_⟩
    have lj : j < lab.length := by rw [ll]; exact (List.getElem?_eq_some_iff.mp ej).1
    have ey : lab[j]? = some lab[j] := List.getElem?_eq_getElem lj
    rw [ey, eq i j _ _ (toN (h.cn g hg p hp q hq) i j ei ej) ex ey]
  have choose : ∀ gs' : List Lns, (∀ g ∈ gs', g ∈ gs) → gs'.Pairwise (fun g h => ∀ p ∈ g, ∀ q ∈ h, Rl p q = false ∧ p ≠ q) → ∃ xs : List Nat, xs.length = gs'.length ∧ xs.Nodup ∧ (∀ x ∈ xs, ∃ g ∈ gs', x ∈ lab ∧ ∀ p ∈ g, ∀ i : Nat, ps[i]? = some p → lab[i]? = some x) ∧ (∀ g ∈ gs', ∃ x ∈ xs, ∀ p ∈ g, ∀ i : Nat, ps[i]? = some p → lab[i]? = some x) := by
    intro gs'
    induction gs' with
    | nil => exact fun _ _ => ⟨[], rfl, .nil, (fun x h => nomatch h), fun g h => nomatch h⟩
    | cons g gs' ih =>
      intro sub pw
      rw [List.pairwise_cons] at pw
      obtain ⟨xs, h1, h2, h3, h4⟩ := ih (fun g hg => sub g (.tail _ hg)) pw.2
      obtain ⟨x, xl, xp⟩ := lbl g (sub g (.head _))
      refine ⟨x :: xs, by rw [List.length_cons, List.length_cons, h1], List.nodup_cons.mpr ⟨fun hx => ?_, h2⟩, fun y hy => ?_, fun g' hg' => ?_⟩
      · obtain ⟨g', hg', _, xp'⟩ := h3 x hx
        obtain ⟨p, hp⟩ := List.exists_mem_of_ne_nil g (h.ne g (sub g (.head _)))
        obtain ⟨q, hq⟩ := List.exists_mem_of_ne_nil g' (h.ne g' (sub g' (.tail _ hg')))
        have mp := (h.mem p).mp (List.mem_flatten.mpr ⟨g, sub g (.head _), hp⟩)
        have mq := (h.mem q).mp (List.mem_flatten.mpr ⟨g', sub g' (.tail _ hg'), hq⟩)
        obtain ⟨i, l1, e1⟩ := List.getElem_of_mem mp
        obtain ⟨j, l2, e2⟩ := List.getElem_of_mem mq
        have ei : ps[i]? = some p := by rw [List.getElem?_eq_getElem l1, e1]
        have ej : ps[j]? = some q := by rw [List.getElem?_eq_getElem l2, e2]
        have ci := li.cn i x (xp p hp i ei)
        have cj := li.cn j x (xp' q hq j ej)
        have ex : ps[x]? = some (ps[x]'ci.lt.2) := List.getElem?_eq_getElem _
        have m1 := h.closed sg (sub g (.head _)) hp (toL ci p _ ei ex)
        have m2 := h.closed sg (sub g' (.tail _ hg')) hq (toL cj q _ ej ex)
        exact absurd rfl (pw.1 g' hg' _ m1 _ m2).2
      · rcases List.mem_cons.mp hy with rfl | hy
        · exact ⟨g, .head _, xl, xp⟩
        · obtain ⟨g', hg', k⟩ := h3 y hy
          exact ⟨g', .tail _ hg', k⟩
      · rcases List.mem_cons.mp hg' with rfl | hg'
        · exact ⟨x, .head _, xp⟩
        · obtain ⟨y, hy, k⟩ := h4 g' hg'
          exact ⟨y, .tail _ hy, k⟩
  obtain ⟨xs, h1, h2, h3, h4⟩ := choose gs (fun _ h => h) h.sep
  rw [← h1]
  refine (List.perm_iff_count.mpr fun a => ?_ : ds.Perm xs).length_eq
  rw [List.Nodup.count dn, List.Nodup.count h2]
  have : a ∈ ds ↔ a ∈ xs := by
    rw [dm]
    constructor
    · intro m
      obtain ⟨i, lt, e⟩ := List.getElem_of_mem m
      have lt' : i < ps.length := by omega
      have ei : ps[i]? = some ps[i] := List.getElem?_eq_getElem lt'
      obtain ⟨g, hg, hp⟩ := List.mem_flatten.mp ((h.mem ps[i]).mpr (List.getElem_mem lt'))
      obtain ⟨x, hx, k⟩ := h4 g hg
      have := k _ hp i ei
      rw [List.getElem?_eq_getElem lt, e] at this
      cases this
      exact hx
    · intro m
      obtain ⟨_, _, k, _⟩ := h3 a m
      exact k
  by_cases c : a ∈ ds
  · rw [if_pos c, if_pos (this.mp c)]
  · rw [if_neg c, if_neg fun d => c (this.mpr d)]
end Mth
namespace My
open PySem L2 Mth
/-! ### a def of the module and its promise -/
structure D (P : Program) (w : World) (K : PySem.W.Frag) (mg : Str → Option Value) (base : Heap) (x : Str) (k : Nat) (sp : Sp) : Prop where
  ex : ∃ f, FnR P w K mg base CX0 k f sp ∧ PySem.W.keepIn K (.ref f) = true ∧ mg x = some (.ref f)
theorem rOf {P : Program} {w : World} {K : PySem.W.Frag} {mg : Str → Option Value} {base : Heap} {CX : CXT} {k : Nat} {f : Addr} {fd : FuncData} {ps : List Str} {sp : Sp} (F : FnOk P w K mg base CX k f fd ps sp) (b : Binds K fd ps []) : FnR P w K mg base CX k f sp := by
  intro A outer s H us vs Q E hr e0 r h
  have KX : K.In s.heap := e0.mod.kin.keeps fun b o e => (e0.bs b o e).1
  have hl : us.length = ps.length := by rw [← r.length]; exact F.len _ _ _ _ h
  have z := b s us KX (by rw [List.append_nil]; exact hl)
  rw [List.append_nil] at z
  exact F.run A outer s H ⟨us, []⟩ us vs Q E hr e0 z r h
def tCl (sp : Sp) (t : TA) : TE := fun σ H Q => t σ H fun vs H1 => sp vs H1 Q E0
section
variable {X : Cx} {k : Nat} {f : Addr} {sp : Sp} {x : Str} {e : Expr} {es : List Expr} {t : TA} {p pos : Pos}
theorem pcR (F : FnR X.prog X.w X.K X.mg X.base CX0 k f sp) (hr : Room k X.A) (hk : PySem.W.keepIn X.K (.ref f) = true) (hm : X.mg x = some (.ref f)) (ha : PA X (e :: es) t) (hg : Gl X x := by rfl) (hd : (x == ("__debug__" : Str)) = false := by decide)
    (he : starEach (e :: es) X.env = (false, eval e X.env) :: starEach es X.env := by rfl) (hpl : (backTo pos (starEach es X.env)).any (·.1) = false := by rfl) :
    PE X (.Call (.Name x p) (e :: es) [] pos) (tCl sp t) := by
  refine ⟨fun pins s σ H Q I h => ?_⟩
  refine wpAny_Call_Name_kw (ld_glob I hg hm ?_ hd)
  refine PySem.W.callWith_K (h₀ := X.base) I.ok.mod.kin hk (thn (ha.run pos pins s σ H _ I h) fun us s1 ⟨vs, H1, I1, r, q⟩ => ⟨I1.kIn, ?_⟩) he hpl
  exact wpAny_call (run_fnR F hr pass0 I1 r q)
/-- f(e, ..) by the promise of f -/
theorem pc (d : D X.prog X.w X.K X.mg X.base x k sp) (hr : Room k X.A) (ha : PA X (e :: es) t) (hg : Gl X x := by rfl) (hd : (x == ("__debug__" : Str)) = false := by decide)
    (he : starEach (e :: es) X.env = (false, eval e X.env) :: starEach es X.env := by rfl) (hpl : (backTo pos (starEach es X.env)).any (·.1) = false := by rfl) :
    PE X (.Call (.Name x p) (e :: es) [] pos) (tCl sp t) := by
  obtain ⟨f, F, hk, hm⟩ := d.ex
  exact pcR F hr hk hm ha hg hd he hpl
end
section
variable {X : Cx} {k : Nat} {sp : Sp} {x : Str} {p pos : Pos}
/-- f() by the promise of f -/
theorem pc0 (d : D X.prog X.w X.K X.mg X.base x k sp) (hr : Room k X.A) (hg : Gl X x := by rfl) (hd : (x == ("__debug__" : Str)) = false := by decide) : PE X (.Call (.Name x p) [] [] pos) (tCl sp tNil) := by
  obtain ⟨f, F, hk, hm⟩ := d.ex
  refine ⟨fun pins s σ H Q I h => ?_⟩
  refine wpAny_Call_Name_kw (ld_glob I hg hm ?_ hd)
  exact PySem.W.callWith_K0 I.kIn hk (wpAny_call (run_fnR (us := []) (vs := []) F hr pass0 I .nil h))
end
/-! ### operators of own classes -/
def rOwn2 (C : Addr) (sp : Sp) : R2 := fun x y H Q => ∃ a b dx fs dy gs, x = .ref a ∧ y = .ref b ∧ H a = some (.ins C dx fs) ∧ H b = some (.ins C dy gs) ∧ sp [x, y] H Q E0
def rOwn1 (C : Addr) (sp : Sp) : V → Hp → VK → Prop := fun x H Q => ∃ a dx fs, x = .ref a ∧ H a = some (.ins C dx fs) ∧ sp [x] H Q E0
section
variable {X : Cx} {k : Nat} {f C : Addr} {sp : Sp}
theorem back_of {pins : List (Addr × Obj)} {σ : L2.St} {Q : VK} {v : Value} {s' : Shared} (h : EP X pins σ Q v s') : PySem.W.CmpBack (EP X pins σ Q) v s' := by
  have h0 := h
  obtain ⟨z, H', I', rz, q⟩ := h
  cases v <;> first | exact h0 | (exfalso; cases z <;> first | (obtain ⟨t, e⟩ := rz; cases e) | cases rz)
theorem op_own {op : Operator} (F : FnR X.prog X.w X.K X.mg X.base CX0 k f sp) (hr : Room k X.A) (hc : PySem.W.selfFirst X.K C = true)
    (hs : PySem.W.findIn X.K (.ref C) (PySem.dunder op.info.2) = some (some (.ref f))) (hf : PySem.W.isFn X.K (.ref f) = true) : OpR X (binaryOp op) (rOwn2 C sp) := by
  intro pins s σ H x y v u Q I rx ry hq
  obtain ⟨a, b, dx, fs, dy, gs, rfl, rfl, ha, hb', q⟩ := hq
  cases rx
  cases ry
  obtain ⟨mA, J, _⟩ := ins_get I.hok ha
  obtain ⟨mB, J', _⟩ := ins_get I.hok hb'
  obtain ⟨od, J, _⟩ := J.look
  obtain ⟨od', J', _⟩ := J'.look
  obtain ⟨m, hF⟩ := I.fr
  refine PySem.W.binop_K hF I.ok.mod.kin J J'.type hc hs hf ?_
  exact wpAny_mono (wpAny_call (run_fnR (us := [.ref a, .ref b]) (vs := [V.ref a, V.ref b]) F hr pass0 I (.cons rfl (.cons rfl .nil)) q)) (fun v s' h => back_of h) fun _ _ z => z
theorem un_own (F : FnR X.prog X.w X.K X.mg X.base CX0 k f sp) (hr : Room k X.A)
    (hs : PySem.W.findIn X.K (.ref C) "__invert__" = some (some (.ref f))) (hf : PySem.W.isFn X.K (.ref f) = true) : UnR X (unaryOp .Invert) (rOwn1 C sp) := by
  intro pins s σ H x v Q I rx hq
  obtain ⟨a, dx, fs, rfl, ha, q⟩ := hq
  cases rx
  obtain ⟨mA, J, _⟩ := ins_get I.hok ha
  obtain ⟨od, J, _⟩ := J.look
  obtain ⟨m, hF⟩ := I.fr
  refine PySem.W.ksp_inv hF I.ok.mod.kin J hs hf ?_
  exact wpAny_call (run_fnR (us := [.ref a]) (vs := [V.ref a]) F hr pass0 I (.cons rfl .nil) q)
theorem eq_own (F : FnR X.prog X.w X.K X.mg X.base CX0 k f sp) (hr : Room k X.A)
    (hs : PySem.W.findIn X.K (.ref C) "__eq__" = some (some (.ref f))) (hf : PySem.W.isFn X.K (.ref f) = true) : OpR X (compareOp .Eq) (rOwn2 C sp) := by
  intro pins s σ H x y v u Q I rx ry hq
  obtain ⟨a, b, dx, fs, dy, gs, rfl, rfl, ha, hb', q⟩ := hq
  cases rx
  cases ry
  obtain ⟨mA, J, _⟩ := ins_get I.hok ha
  obtain ⟨mB, J', _⟩ := ins_get I.hok hb'
  obtain ⟨od, J, _⟩ := J.look
  obtain ⟨od', J', _⟩ := J'.look
  obtain ⟨m, hF⟩ := I.fr
  show wpAny (model X.prog X.w) X.A (richCompare .Eq (.ref a) (.ref b)) (EP X pins σ Q) X.xe s
  refine PySem.W.cmp_K (op := .Eq) (tb := .ref C) hr.units0 hF I.ok.mod.kin J J'.type (by simp [PySem.W.notFirst]) hs hf ?_
  exact wpAny_mono (wpAny_call (run_fnR (us := [.ref a, .ref b]) (vs := [V.ref a, V.ref b]) F hr pass0 I (.cons rfl (.cons rfl .nil)) q)) (fun v s' h => back_of h) fun _ _ z => z
end
/-! ### // by a number of any sign -/
def CDivX (_ j : Int) : Prop := j ≠ 0 ∧ j.natAbs.log2 < 9000
theorem op_fdivX {X : Cx} : OpR X (binaryOp .FloorDiv) (rI CDivX fun i j => .int (i.fdiv j)) := opI fun i j _ _ _ _ _ hc q =>
  PyProof.Rows.floordiv_int hc.1 q (.inl (PyProof.noPylong_of_log2 hc.2))
theorem divX {i j : Int} {b : Nat} (h : j ≠ 0) (hb : j.natAbs < 2 ^ b) (h0 : 0 < b) (h9 : b ≤ 9000) : CDivX i j := ⟨h, Nat.lt_of_lt_of_le (PySem.Flt.log2_lt_of h0 hb) h9⟩
/-! ### tuples of three ints -/
def v3 (s : T3) : List V := [.int s.1, .int s.2.1, .int s.2.2]
def IsT (K : PySem.W.Frag) (H : Hp) (v : V) (s : T3) : Prop := ∃ p, v = .ref p ∧ SqT K H p (v3 s)
theorem same_T {K : PySem.W.Frag} {H H' : Hp} {a : Addr} {xs : List V} (e : Same H H') (h : SqT K H a xs) : SqT K H' a xs := SqT.ext h e
theorem IsT.same {K : PySem.W.Frag} {H H' : Hp} {v : V} {s : T3} (h : IsT K H v s) (e : Same H H') : IsT K H' v s := by
  obtain ⟨p, rfl, q⟩ := h
  exact ⟨p, rfl, same_T e q⟩
theorem same_new {H : Hp} {p : Addr} (h : H p = none) (o : HO) : Same H (upd H p o) := fun b u q => by rw [upd_ne (ne_of_none q h)]; exact q
theorem IsT.new {K : PySem.W.Frag} {H : Hp} {p : Addr} {a b c : Int} : IsT K (upd H p (.tup [.int a, .int b, .int c])) (.ref p) (a, b, c) := ⟨p, rfl, .inl (.inl upd_same)⟩
theorem yes_of {σ : St} {H : Hp} {A B : Hp → Prop} (h : A H) : tYes σ H (fun b H3 => if b = true then A H3 else B H3) := by
  show if true = true then A H else B H
  rw [if_pos rfl]
  exact h
/-! ### displays of tuples of three written ints -/
def tT3 (K : PySem.W.Frag) (t : T3) : TE := fun _ H Q => ∀ H' p, Same H H' → SqT K H' p (v3 t) → Q (.ref p) H'
def tTups (K : PySem.W.Frag) (ts : List T3) : TA := fun _ H Q => ∀ H' (ps : List Addr), Same H H' → Paired (fun p t => SqT K H' p (v3 t)) ps ts → Q (ps.map V.ref) H'
theorem paT0 {X : Cx} : PA X [] (tTups X.K []) := ⟨fun pos pins s σ H Q I h => (pa_nil (X := X)).run pos pins s σ H Q I (h H [] (Same.refl _) .nil)⟩
theorem paT {X : Cx} {e : Expr} {es : List Expr} {te : TE} {t : T3} {ts : List T3} (he : PE X e te) (hi : ∀ σ H Q, tT3 X.K t σ H Q → te σ H Q) (hr : PA X es (tTups X.K ts))
    (hs : starEach (e :: es) X.env = (false, eval e X.env) :: starEach es X.env := by rfl) : PA X (e :: es) (tTups X.K (t :: ts)) :=
  ⟨fun pos pins s σ H Q I h => (pa_cons he hr hs).run pos pins s σ H Q I (hi σ H _ fun H1 p s1 h1 => fun H2 ps s2 h2 => h H2 (p :: ps) (s1.trans s2) (.cons (same_T s2 h1) h2))⟩
/-! ### all is kept but one list -/
def Keep (d : Addr) (H H' : Hp) : Prop := ∀ b o, b ≠ d → H b = some o → H' b = some o
theorem Keep.of {d : Addr} {H H' : Hp} (s : Same H H') : Keep d H H' := fun b o _ e => s b o e
theorem Keep.trans {d : Addr} {H H1 H2 : Hp} (a : Keep d H H1) (b : Keep d H1 H2) : Keep d H H2 := fun c o n e => b c o n (a c o n e)
theorem keep_upd {d : Addr} {H : Hp} {o : HO} : Keep d H (upd H d o) := fun b u n e => by rw [upd_ne n]; exact e
theorem keep_T {K : PySem.W.Frag} {H H' : Hp} {d p : Addr} {xs ys : List V} (h : SqT K H p xs) (hd : H d = some (.lst ys)) (k : Keep d H H') : SqT K H' p xs := by
  rcases h with (h | ⟨o, h⟩) | h
  · exact .inl (.inl (k _ _ (ne_of h hd (by intro z; cases z)) h))
  · exact .inl (.inr ⟨o, k _ _ (ne_of h hd (by intro z; cases z)) h⟩)
  · exact .inr h
theorem IsT.keep {K : PySem.W.Frag} {H H' : Hp} {v : V} {s : T3} {d : Addr} {ys : List V} (h : IsT K H v s) (hd : H d = some (.lst ys)) (k : Keep d H H') : IsT K H' v s := by
  obtain ⟨p, rfl, q⟩ := h
  exact ⟨p, rfl, keep_T q hd k⟩
/-! ### two ways that meet -/
theorem seq_join {t u : TS} {D : Ends} {σ : St} {H : Hp} (W : St → Hp → Prop) (k : ∀ σ' H', W σ' H' → u D σ' H') (h : ∀ D' : Ends, D'.rt = D.rt → (∀ σ' H', W σ' H' → D'.nx σ' H') → t D' σ H) : tSeq t u D σ H := h { D with nx := u D } rfl k
theorem exp_join {t : TT} {ta tb : TE} {σ : St} {H : Hp} {Q : VK} (W : V → Hp → Prop) (k : ∀ v H', W v H' → Q v H') (h : ∀ Q' : VK, (∀ v H', W v H' → Q' v H') → tIf t ta tb σ H Q') : tIf t ta tb σ H Q := h Q k
theorem small {n : Nat} (h : n ≤ 1000) : n ≤ sizeLine := Nat.le_of_lt (small1000 h)
end My
namespace My
open PySem L2 Mth LamX
/-! ### list.count of flat items -/
section
variable {X : Cx}
def rCount (K : PySem.W.Frag) : V → List V → Hp → VK → Prop := fun x xs H Q => ∃ (a : Addr) (ys : List V) (y : V), x = V.ref a ∧ xs = [y] ∧ SqL K H a ys ∧ flatV y = true ∧ ys.all flatV = true ∧ Q (.int ((ys.countP fun z => eqV z y) : Nat)) H
theorem count_eqU {y : V} : ∀ {ys : List V} {us : List Value}, Vals ys us → ys.all flatV = true → us.countP (eqU y) = ys.countP fun z => eqV z y
  | _, _, .nil, _ => rfl
  | z :: ys, u :: us, .cons r rs, f => by
    rw [List.all_cons, Bool.and_eq_true] at f
    rw [List.countP_cons, List.countP_cons, count_eqU rs f.2, eqU_of r f.1]
theorem mt_count : MtR X "list.count" (rCount X.K) := by
  intro pins s σ H x xs v us Q I rx rxs h
  obtain ⟨a, ys, y, rfl, rfl, hs, fy, fys, q⟩ := h
  cases rx
  cases rxs with
  | cons ry rt =>
    rename_i uy ut
    cases rt
    obtain ⟨its, rv, ⟨⟨cls, dd, data, sl⟩, n, ho, hc, hdn, hd⟩, hlen⟩ := I.list hs
    simp only at hc hd
    subst hc hd
    refine call_meets PySem.F.slot_list_count ⟨_, ho, rfl⟩ PySem.F.entry_list_count (PySem.F.args_list_count_2 _ _)
      (SeqAt.list_countAt a its.toArray n dd sl uy (eqU y)) ⟨ho, fun u' hu' => mem_eqAt ry fy rv fys u' (by simpa using hu'), ?_⟩
    have ec : its.toArray.toList.countP (eqU y) = ys.countP fun z => eqV z y := count_eqU rv fys
    refine ⟨.int ((ys.countP fun z => eqV z y) : Nat), H, I.tok _, ⟨s.toks, ?_⟩, q⟩
    show Value.int ((its.toArray.toList.countP (eqU y) : Nat) : Int) s.toks = _
    rw [ec]
end
/-! ### what is never asked -/
def tNev : TE := fun _ _ _ => False
theorem pe_nev {X : Cx} {e : Expr} : PE X e tNev := ⟨fun _ _ _ _ _ _ h => h.elim⟩
/-! ### the kinds of a caught error -/
def tIs (a : Addr) (i : Nat) (bs : List Bool) : TA := fun σ H Q => σ[i]? = some (some (.ref a)) ∧ Q (bs.map V.bl) H
section
variable {X : Cx} {a D : Addr} {oe : Obj} {pn : List (Addr × Obj)} {i : Nat}
theorem paIs0 : PA (X.suite a ((a, oe) :: pn)) [] (tIs a i []) := ⟨fun pos pins s σ H Q I h => (pa_nil (X := X.suite a ((a, oe) :: pn))).run pos pins s σ H Q I h.2⟩
theorem paIs {x n : Str} {p p1 p2 pos : Pos} {C : Addr} {b : Bool} {bs : List Bool} {es : List Expr} (EC : ExcC X.K D) (hz : Zc (.ref D) none oe) (hf : ∃ vs, oe.data = .fields vs) (hk : PySem.W.kitOne X.K (.ref D) (.ref C) = some b)
    (hm : X.mg x = some (.ref C)) (bi : X.mg "isinstance" = none) (hg : Gl X x) (hgi : Gl X "isinstance") (hd : (x == ("__debug__" : Str)) = false) (hN : X.N[i]? = some n) (hv : Vis X.env.scope n) (hnd : (n == ("__debug__" : Str)) = false) (hnc : (n == ("__classdict__" : Str)) = false)
    (hr : PA (X.suite a ((a, oe) :: pn)) es (tIs a i bs))
    (hs : starEach ((.Call (.Name "isinstance" p) [.Name n p1, .Name x p2] [] pos) :: es) X.env = (false, eval (.Call (.Name "isinstance" p) [.Name n p1, .Name x p2] [] pos) X.env) :: starEach es X.env := by rfl)
    (he : starEach (.Name n p1 :: [.Name x p2]) X.env = (false, eval (.Name n p1) X.env) :: starEach [.Name x p2] X.env := by rfl) :
    PA (X.suite a ((a, oe) :: pn)) ((.Call (.Name "isinstance" p) [.Name n p1, .Name x p2] [] pos) :: es) (tIs a i (b :: bs)) := by
  have h1 : PE (X.suite a ((a, oe) :: pn)) (.Call (.Name "isinstance" p) [.Name n p1, .Name x p2] [] pos) (tCB (rIsE X.K D a) (tCons (tVar i) (tCons (tC (.ref C)) tNil))) :=
    pe_callB (call_isE EC hz hf) hgi bi (by decide +kernel) (pa_cons (pe_var hN hv hnd hnc) (pa_cons (pe_glob (v := .ref C) hg hm rfl hd) pa_nil rfl) he) (by decide) (by decide) rfl rfl
  refine ⟨fun pos' pins s σ H Q I h => (pa_cons h1 hr hs).run pos' pins s σ H Q I ?_⟩
  exact ⟨_, h.1, .ref C, .ref C, b, rfl, fun u r => r, hk, h.1, h.2⟩
end
end My
namespace My
open PySem L2 Mth PyProof.Rows
/-! ### a op b op c op d as a test -/
def tChain3 (r r' r'' : R2) (ta tb tc td : TE) : TE := fun σ H Q => ta σ H fun x H1 => tb σ H1 fun y H2 => r x y H2 fun z H3 => ∃ k, z = .bl k ∧
  (if k = true then tc σ H3 fun w' H4 => r' y w' H4 fun z' H5 => ∃ k', z' = .bl k' ∧ (if k' = true then td σ H5 fun u' H6 => r'' w' u' H6 Q else Q (.bl false) H5) else Q (.bl false) H3)
theorem pt_chain3 {X : Cx} {a b c d : Expr} {ta tb tc td : TE} {pos : Pos} {op op' op'' : CmpOp} {r r' r'' : R2} (ho : OpR X (compareOp op) r) (ho' : OpR X (compareOp op') r') (ho'' : OpR X (compareOp op'') r'') (ha : PE X a ta) (hb : PE X b tb) (hc : PE X c tc) (hd : PE X d td)
    (hm : lastMarks [op, op', op''] [b, c, d] = false := by with_unfolding_all rfl) : PT X (.Compare a [op, op', op''] [b, c, d] pos) (tTest (tChain3 r r' r'' ta tb tc td)) := by
  refine ⟨fun pins s σ H Q I h => ?_⟩
  refine isTrue_chain (thn (ha.run pins s σ H _ I h) fun v s1 ⟨x, H1, I1, r1, q1⟩ => test_link (thn (hb.run pins s1 σ H1 _ I1 q1) fun u s2 ⟨y, H2, I2, r2, q2⟩ =>
    thn (ho pins s2 σ H2 x y v u _ I2 r1 r2 q2) fun e s3 ⟨z, H3, I3, r3, k, ek, q3⟩ => ?_)) hm
  subst ek
  cases r3
  refine wpAny_truthy_bool ?_
  cases k with
  | false =>
    obtain ⟨k', e', q'⟩ := q3
    cases e'
    exact ite_ff ⟨H3, I3, q'⟩
  | true =>
    refine ite_tt (test_link (thn (hc.run pins s3 σ H3 _ I3 q3) fun w' s4 ⟨z', H4, I4, r4, q4⟩ => thn (ho' pins s4 σ H4 y z' u w' _ I4 r2 r4 q4) fun d' s5 ⟨z2, H5, I5, r5, k2, e2, q5⟩ => ?_))
    subst e2
    cases r5
    refine wpAny_truthy_bool ?_
    cases k2 with
    | false =>
      obtain ⟨k', e', q'⟩ := q5
      cases e'
      exact ite_ff ⟨H5, I5, q'⟩
    | true =>
      refine ite_tt (test_last (thn (hd.run pins s5 σ H5 _ I5 q5) fun w2 s6 ⟨z3, H6, I6, r6, q6⟩ => thn (ho'' pins s6 σ H6 z' z3 w' w2 _ I6 r4 r6 q6) fun d3 s7 ⟨z4, H7, I7, r7, k3, e3, q7⟩ => ?_))
      subst e3
      cases r7
      exact wpAny_truthy_bool ⟨H7, I7, q7⟩
/-! ### instances made with no argument, with a starred one -/
section
variable {X : Cx} {k : Nat} {f C : Addr} {sp : Sp} {x : Str} {p pos sp_ : Pos} {e : Expr} {te : TE}
theorem pe_makeR0 (M : Mk X.K C f) (F : FnR X.prog X.w X.K X.mg X.base CX0 k f sp) (hr : Room (k + 1) X.A) (hg : Gl X x) (hm : X.mg x = some (.ref C)) (hdb : (x == ("__debug__" : Str)) = false := by decide) : PE X (.Call (.Name x p) [] [] pos) (StX.tMakeR C sp E0 tNil) := by
  refine ⟨fun pins s σ H Q I h => ?_⟩
  refine wpAny_Call_Name_kw (ld_glob I hg hm ?_ hdb)
  exact PySem.W.callWith_K0 I.kIn M.kp (StX.run_makeR (us := []) M F hr pass0 I .nil h)
def tMakeS (K : PySem.W.Frag) (C : Addr) (sp : Sp) (te : TE) : TE := fun σ H Q => te σ H fun y H1 => ∃ a xs, y = V.ref a ∧ (SqT K H1 a xs ∨ SqL K H1 a xs) ∧ ∀ x dx, H1 x = Option.none → H1 dx = Option.none → dx ≠ x →
  sp (V.ref x :: xs) (upd (upd H1 dx (.own x)) x (.ins C dx [])) (fun v H2 => v = .non ∧ Q (.ref x) H2) E0
theorem pe_makeS (M : Mk X.K C f) (F : FnR X.prog X.w X.K X.mg X.base CX0 k f sp) (hr : Room (k + 1) X.A) (hg : Gl X x) (hm : X.mg x = some (.ref C)) (he : PE X e te) (hdb : (x == ("__debug__" : Str)) = false := by decide)
    (hst : starEach [.Starred e sp_] X.env = [(true, eval e X.env)] := by rfl) : PE X (.Call (.Name x p) [.Starred e sp_] [] pos) (tMakeS X.K C sp te) := by
  refine ⟨fun pins s σ H Q I h => ?_⟩
  refine wpAny_Call_Name_kw (ld_glob I hg hm ?_ hdb)
  refine PySem.W.callWith_S (h₀ := X.base) I.ok.mod.kin M.kp (thn (he.run pins s σ H _ I h) fun v s1 ⟨y, H1, I1, ry, a, xs, ey, hxs, q⟩ => ?_) hst
  subst ey
  obtain rfl : v = Value.ref a := ry
  exact StX.star_any I1 hxs fun us s2 I2 rv => ⟨I2.kIn, StX.run_makeR M F hr pass0 I2 rv q⟩
end
/-! ### properties that tell a field -/
structure MPf (P : Program) (w : World) (K : PySem.W.Frag) (mg : Str → Option Value) (base : Heap) (C : Addr) (x f : Str) : Prop where
  cl : Cls K C
  ex : ∃ g fd p, FnOk P w K mg base CX0 1 g fd ["self"] (getSp C f) ∧ Binds K fd ["self"] [] ∧ PropOf K C x p g
theorem pe_pf {X : Cx} {C : Addr} {x f : Str} {e : Expr} {te : TE} {pos : Pos} (M : MPf X.prog X.w X.K X.mg X.base C x f) (hr : Room 2 X.A) (he : PE X e te) (hab : attributeBase e x X.env (eval e X.env) = eval e X.env := by rfl) : PE X (.Attribute e x pos) (tProp C (getSp C f) [] E0 te) := by
  obtain ⟨g, fd, p, F, b, hp⟩ := M.ex
  exact pe_prop he M.cl hp F hr b .nil pass0 hab
theorem pf_of {C p dx : Addr} {H : Hp} {Q : VK} {fs : List (Str × V)} {f : Str} {z : V} (h : H p = some (.ins C dx fs)) (l : fs.lookup f = some z) (q : Q z H) : ∃ a dx fs, V.ref p = .ref a ∧ H a = some (.ins C dx fs) ∧ getSp C f (.ref a :: []) H Q E0 :=
  ⟨p, dx, fs, rfl, h, p, dx, fs, z, rfl, h, l, q⟩
/-! ### fields -/
theorem putF_len (x : Str) (v : V) : ∀ fs : List (Str × V), (putF x v fs).length ≤ fs.length + 1
  | [] => Nat.le_refl _
  | (y, u) :: fs => by
    unfold putF
    split
    · simp
    · have := putF_len x v fs
      simp only [List.length_cons]
      omega
/-- all is kept but an instance that is being made -/
theorem keepI_T {K : PySem.W.Frag} {H H' : Hp} {d p C dx : Addr} {fs : List (Str × V)} {xs : List V} (h : SqT K H p xs) (hd : H d = some (.ins C dx fs)) (k : Keep d H H') : SqT K H' p xs := by
  rcases h with (h | ⟨o, h⟩) | h
  · exact .inl (.inl (k _ _ (ne_of h hd (by intro z; cases z)) h))
  · exact .inl (.inr ⟨o, k _ _ (ne_of h hd (by intro z; cases z)) h⟩)
  · exact .inr h
/-! ### a def with a star parameter behind its others -/
theorem fun_star {P : Program} {w : World} {K : PySem.W.Frag} {mg : Str → Option Value} {base : Heap} {x qual : Str} {st : Stmt} {f : Addr} {fd : FuncData} {N ps : List Str} {pv : Str} {k : Nat} {sp : Sp} (F : Fun K x qual st f fd) (S : FnScope N (ps ++ [pv]) (defScope st))
    (hb : ∀ (kV doc pm : Value) (an : Option Addr) (cdv ct : Value) (us rest : List Value), us.length = ps.length → bindArgs (PySem.W.fnOf x qual (defArgs st) (defBody st) (defScope st) .none kV doc pm an cdv ct) ⟨us ++ rest, []⟩ = (newTuple rest >>= fun t => pure (ps.zip us ++ [(pv, t)])))
    (hbody : ∀ (cdv : Value) (A : Around) (outer : List Env) (s : Shared) (H : Hp) (vs : List V) (Q : VK) (E : XK), Room k (A.deeper (envOfC qual (defScope st) s.heap.objs.size f cdv)) → sp vs H Q E →
      ∃ t, PSs (cxOf CX0 P w K mg base N qual (defScope st) f cdv A outer s H E).nox (defBody st) t ∧ t { nx := fun _ H' => Q .non H', rt := Q } (start N vs) H) :
    FnR P w K mg base CX0 (k + 1) f (fun vs H Q E => ∃ ws rest, vs = ws ++ rest ∧ ws.length = ps.length ∧ rest.length ≤ sizeLine ∧ ∀ p, H p = Option.none → sp (ws ++ [V.ref p]) (upd H p (.tup rest)) Q E) := by
  obtain ⟨oc, od, kV, doc, pm, an, cdv, ct, osl, rfl, lk, hcd⟩ := F.ex
  refine StX.fn_star lk hcd S StX.cxUp_none (hb kV doc pm an cdv ct) fun A outer s H vs Q E hr hsp => ?_
  obtain ⟨t, h, q⟩ := hbody cdv A outer s H vs Q E hr hsp
  exact ⟨t, h.nox, q⟩
end My
namespace My
open PySem PySem.Spec PyProof.Rows L2 TS
/-! ### sorted(a set of tuples of ints of any sign): how many there are -/
/-- ints of any sign, ranked -/
def rkS (B : Int) (ns : List Int) : Int := code (2 * B) (ns.map (· + B))
def SdS (B : Int) (ns : List Int) : Prop := ∀ m ∈ ns, -B ≤ m ∧ m < B
theorem SdS.up {B : Int} {ns : List Int} (h : SdS B ns) : Bd (2 * B) (ns.map (· + B)) := fun m hm => by
  obtain ⟨k, hk, rfl⟩ := List.mem_map.mp hm
  have := h k hk
  constructor <;> omega
theorem SdS.tl {B k : Int} {ns : List Int} (h : SdS B (k :: ns)) : SdS B ns := fun m hm => h m (List.mem_cons_of_mem _ hm)
theorem rkS_lt {B k l : Int} {ns ms : List Int} (e : ns.length = ms.length) (h1 : SdS B ns) (h2 : SdS B ms) (h : k < l) : rkS B (k :: ns) < rkS B (l :: ms) :=
  code_lt (by rw [List.length_map, List.length_map]; exact e) h1.up h2.up (show k + B < l + B by omega)
theorem rkS_eq {B k : Int} {ns ms : List Int} (e : ns.length = ms.length) : rkS B (k :: ns) < rkS B (k :: ms) ↔ rkS B ns < rkS B ms := code_same (by rw [List.length_map, List.length_map]; exact e)
section
variable {prog : Program} {w : World} {A : Around} {E : Value → Shared → Prop} {s : Shared}
theorem lexS {Q : Bool → Shared → Prop} {B : Int} {c : Bool} {us : List Value} {ns : List Int} (hu : IntsAre us ns) : ∀ {ws : List Value} {ms : List Int} (j : Nat), IntsAre ws ms → ns.length = ms.length → SdS B ns → SdS B ms → Q (decide (rkS B ns < rkS B ms)) s → PySem.W.KatLex prog w A c false Q (us.zip ws) j s := by
  induction hu with
  | nil =>
    intro ws ms j hw hl _ _ q
    cases hw with
    | nil =>
      rw [decide_eq_false (Int.lt_irrefl _)] at q
      exact PySem.W.kat_nil q
    | cons _ _ _ => cases hl
  | @cons k tk us ns hu ih =>
    intro ws ms j hw hl b1 b2 q
    cases hw with
    | nil => cases hl
    | @cons l tl ws ms hw =>
      have el : ns.length = ms.length := Nat.succ.inj hl
      show PySem.W.KatLex prog w A c false Q ((.int k tk, .int l tl) :: us.zip ws) j s
      refine PySem.W.kat_cons (wpAny_eqBool_int ?_)
      by_cases same : k = l
      · subst same
        rw [decide_eq_decide.mpr (rkS_eq el)] at q
        rw [beq_self_eq_true]
        exact PySem.W.kat_yes (ih (j + 1) hw el b1.tl b2.tl q)
      · have er : decide (rkS B (k :: ns) < rkS B (l :: ms)) = decide (k < l) := decide_eq_decide.mpr ⟨fun y => by
            rcases Int.lt_or_gt_of_ne same with z | z
            · exact z
            · have := rkS_lt el.symm b2.tl b1.tl z
              omega, rkS_lt el b1.tl b2.tl⟩
        rw [er] at q
        rw [beq_eq_false_iff_ne.mpr same]
        exact PySem.W.kat_no (oneLt_ints _ q)
/-- tuples of d ints each -/
def TupsS (h : Heap) (d : Nat) (B : Int) (us : List Value) : Prop := ∀ u ∈ us, ∃ ns, TupInts h u ns ∧ ns.length = d + 1 ∧ SdS B ns
theorem headsS {h : Heap} {d : Nat} {B : Int} : ∀ us : List Value, TupsS h d B us → ∃ fs, PySem.W.KatTups h us fs ∧ fs.length = us.length ∧ ∀ y ∈ fs, ∃ k t, y = Value.int k t
  | [], _ => ⟨[], .nil, rfl, fun y hy => nomatch hy⟩
  | u :: us, T => by
    obtain ⟨fs, k1, k2, k3⟩ := headsS us fun z hz => T z (List.mem_cons_of_mem _ hz)
    obtain ⟨ns, ⟨a, arr, rfl, ⟨ob, g1, g2, m, g3⟩, ia⟩, ln, _⟩ := T u List.mem_cons_self
    cases ea : arr.toList with
    | nil =>
      rw [ea] at ia
      have := ia.length
      rw [ln] at this
      cases this
    | cons z zs =>
      obtain ⟨k, t, ez⟩ := ia.all z (by rw [ea]; exact List.mem_cons_self)
      have e0 : arr[0]? = some z := by
        rw [← Array.getElem?_toList, ea]; rfl
      refine ⟨z :: fs, .cons g1 g2 g3 e0 k1, congrArg Nat.succ k2, fun y hy => ?_⟩
      cases hy with
      | head => exact ⟨k, t, ez⟩
      | tail _ hy => exact k3 y hy
theorem TupsS.up {h h' : Heap} {d : Nat} {B : Int} {us : List Value} (T : TupsS h d B us) (k : ∀ b o, h.get? b = some o → o.cls = .type "tuple" → h'.get? b = some o) : TupsS h' d B us := fun u hu => by
  obtain ⟨ns, t, r⟩ := T u hu
  exact ⟨ns, t.keeps k, r⟩
theorem kindS {d : Nat} {B : Int} {us : List Value} {Q : SortKind → Shared → Prop} (two : 2 ≤ us.length) (T : TupsS s.heap d B us) (q : ∀ κ, Cmp prog w A s κ (pairsOf us) (fun u => rkS B (intsOf s.heap u)) → Q κ s) : wpAny (model prog w) A (keyKind' us.toArray) Q E s := by
  obtain ⟨fs, k1, k2, k3⟩ := headsS us T
  refine PySem.W.kat_kind (T := Value.type "int") k1 (by omega) (fun y hy => ?_) rfl (q _ fun x y hx hy Q2 E2 q2 => ?_)
  · obtain ⟨k, t, rfl⟩ := k3 y hy
    exact .of_pure rfl
  rw [pairsOf_toList] at hx hy
  obtain ⟨ns, tx, lx, bx⟩ := T _ (mem_zip_self hx).2
  obtain ⟨ms, ty, ly, by_⟩ := T _ (mem_zip_self hy).2
  have q2 : Q2 (decide (rkS B (intsOf s.heap x.1) < rkS B (intsOf s.heap y.1))) s := q2
  rw [tx.ints, ty.ints] at q2
  obtain ⟨a1, r1, f1, ⟨o1, u1, u2, m1, u3⟩, j1⟩ := tx
  obtain ⟨a2, r2, f2, ⟨o2, v1, v2, m2, v3⟩, j2⟩ := ty
  have sz : decide (r1.size < r2.size) = false := decide_eq_false (by have n1 := j1.length; have n2 := j2.length; rw [Array.length_toList] at n1 n2; omega)
  rw [f1, f2]
  refine PySem.W.kat_lt u1 u3 v1 v3 ?_
  rw [sz]
  exact lexS j1 0 j2 (by omega) bx by_ q2
theorem sortS {l : Addr} {us : List Value} {n d : Nat} {B : Int} {Q : Value → Shared → Prop} (ho : s.heap.get? l = some (seqObj "list" us.toArray n)) (few : us.length < 64) (T : TupsS s.heap d B us)
    (q : ∀ out : Array Value, out.toList.Perm us → Q .none { s with heap := sortedHeap s.heap l us out }) : wpAny (model prog w) A (call (.builtin "list.sort") [.ref l]) Q E s := by
  have nl : ∀ b o, s.heap.get? b = some o → o.cls = .type "tuple" → b ≠ l := fun b o e hc z => by
    rw [z, ho] at e
    rw [← Option.some.inj e] at hc
    have hc : Value.type "list" = Value.type "tuple" := hc
    injection hc with hc
    exact absurd hc (by decide)
  refine wpAny_call_entry slot_list_sort ⟨_, ho, rfl⟩ entry_list_sort (SK.plain_sort (r := fun u => rkS B (intsOf (midHeap s.heap l us) u)) ho few (fun two Q2 q2 => ?_) fun ps out e1 e2 _ => ⟨_, rfl, q out ?_⟩) (args_list_sort _)
  · exact kindS (s := { s with heap := midHeap s.heap l us }) two (T.up fun b o e hc => midHeap_old (nl b o e hc) e) q2
  · rw [e1]
    have := e2.map Prod.snd
    rwa [List.map_snd_zip (Nat.le_refl _)] at this
end
theorem u65 {k : Nat} {A : Around} (r : Room k A) : A.units + 65 < cLine := by have := r.un; omega
/-! ### shapes of data -/
theorem canAll : ∀ {xs : List PyData}, (∀ x ∈ xs, x.canLay0 = true) → PyData.canLayAll0 xs = true
  | [], _ => rfl
  | x :: xs, h => by
    unfold PyData.canLayAll0
    rw [h x List.mem_cons_self, canAll fun y hy => h y (List.mem_cons_of_mem _ hy)]
    rfl
theorem depAll {n : Nat} : ∀ {xs : List PyData}, (∀ x ∈ xs, x.depth ≤ n) → PyData.depthAll xs ≤ n
  | [], _ => Nat.zero_le _
  | x :: xs, h => by
    unfold PyData.depthAll
    have h1 := h x List.mem_cons_self
    have h2 := depAll fun y hy => h y (List.mem_cons_of_mem _ hy)
    omega
theorem shapedL {xs : List PyData} (h : ∀ x ∈ xs, x.canLay0 = true ∧ x.depth ≤ 60) : SeqAt.shaped (.list xs) = true := by
  show (PyData.canLayAll0 xs && decide (PyData.depthAll xs + 1 ≤ 64)) = true
  rw [canAll fun x hx => (h x hx).1, decide_eq_true (by have := depAll (n := 60) fun x hx => (h x hx).2; omega)]
  rfl
theorem eqvL : ∀ (xs : List PyData), PyData.eqv (.list xs) (.list []) = xs.isEmpty
  | [] => rfl
  | _ :: _ => rfl
theorem paired_perm {α β : Type} {R : α → β → Prop} {us ws : List α} (p : ws.Perm us) : ∀ {ps : List β}, Paired R us ps → ∃ qs : List β, qs.Perm ps ∧ Paired R ws qs := by
  induction p with
  | nil => intro ps h; cases h; exact ⟨[], .nil, .nil⟩
  | cons x _ ih =>
    intro ps h
    cases h with
    | cons r t =>
      obtain ⟨qs, a, b⟩ := ih t
      exact ⟨_ :: qs, a.cons _, .cons r b⟩
  | swap x y l =>
    intro ps h
    cases h with
    | cons r t =>
      cases t with
      | cons r2 t2 => exact ⟨_ :: _ :: _, .swap _ _ _, .cons r2 (.cons r t2)⟩
  | trans _ _ ih1 ih2 =>
    intro ps h
    obtain ⟨qs, a, b⟩ := ih2 h
    obtain ⟨rs, c, d⟩ := ih1 b
    exact ⟨rs, c.trans a, d⟩
section
variable {X : Cx}
def rSortedN (K : PySem.W.Frag) (P : Program) (w : World) : List V → Hp → VK → Prop := fun vs H Q => ∃ (a : Addr) (L : List (Addr × List Int)) (d : Nat) (B : Int), vs = [V.ref a] ∧ H a = some (SetTO P w a L) ∧ (∀ p ∈ L, SqT K H p.1 (p.2.map V.int) ∧ p.2.length = d + 1 ∧ SdS B p.2) ∧
  ((L.map (·.2)).Nodup → L.length < 64 → ∀ zs p, zs.length = L.length → H p = none → Q (.ref p) (upd H p (.lst zs)))
theorem cr_sortedN (hc : X.calm = true) : CallR X (.builtin "sorted") (rSortedN X.K X.prog X.w) := by
  intro pins s σ H vs us Q I r h
  obtain ⟨a, L, d, B, rfl, ha, hL, q⟩ := h
  obtain ⟨es, ep, t, R⟩ := ((I.hok a _ ha).1 : SetT0 X.prog X.w s.heap a L).full fun p hp => I.isT (hL p hp).1
  have few := R.few
  rw [Vals.ref1 r]
  refine Calls.call_function_entry kind_sorted plain_sorted entry_sorted (args_sorted1 _) ?_
  unfold Builtin.«sorted»
  refine wpAny_bind (m := checkCount "sorted" 1 1 _) (wpAny_pure ?_)
  obtain ⟨ob, g1, g2, g3⟩ := R.ob
  have hes : es.toList.map (·.2) = L.map fun q => Value.ref q.1 := by
    rw [R.rows, rowsOf, List.map_map]; rfl
  refine wpAny_bind (collect_set (A := X.A.in1) (I.ok.hd hc) ⟨ob, g1, g2.1, g3⟩ R.fits (by rw [R.size]; exact Nat.lt_of_lt_of_le few (by decide)) R.tab.ris R.led fun s1 out k1 k2 k3 k4 pm => ?_)
  rw [hes] at pm
  have lo : out.length = L.length := by rw [pm.length_eq, List.length_map]
  refine wpAny_bind (wpAny_newList ?_ (by rw [sizeLine_eq]; omega))
  have hl : (s1.heap.push (seqObj "list" out.toArray 0)).get? s1.heap.objs.size = some (seqObj "list" out.toArray 0) := Heap.get?_push_size _ rfl
  have up : ∀ b o, s.heap.get? b = some o → (s1.heap.push (seqObj "list" out.toArray 0)).get? b = some o := fun b o e => Heap.get?_push_of_some _ (k1 b o e)
  refine wpAny_bind (wpAny_holding (sortS (s := { s1 with heap := s1.heap.push (seqObj "list" out.toArray 0) }) (d := d) (B := B) hl (by omega) (fun u hu => ?_) fun arr pa => ?_))
  · obtain ⟨p, hp, rfl⟩ := List.mem_map.mp (pm.mem_iff.mp hu)
    exact ⟨p.2, tupInts_of (P := X.prog) (w := X.w) (isT_keep (R.tup p hp) up), (hL p hp).2⟩
  obtain ⟨c, hc'⟩ := sortedHeap_at (vs := out) (out := arr) hl
  have la : arr.toList.length = L.length := by rw [pa.length_eq, lo]
  have refs : ∀ u ∈ arr.toList, ∃ b, u = Value.ref b := fun u hu => by
    obtain ⟨p, _, rfl⟩ := List.mem_map.mp (pm.mem_iff.mp (pa.mem_iff.mp hu))
    exact ⟨_, rfl⟩
  have hn : H s1.heap.objs.size = none := I.hok.fresh k2
  have kall : ∀ b o, s.heap.get? b = some o → (sortedHeap (s1.heap.push (seqObj "list" out.toArray 0)) s1.heap.objs.size out arr).get? b = some o := fun b o e => by
    have lt := Heap.lt_size (k1 b o e)
    rw [sortedHeap_old (Nat.ne_of_lt lt) (by rw [size_push']; exact Nat.lt_succ_of_lt lt)]
    exact up b o e
  have hzl : (arr.toList.map backV).length ≤ sizeLine := by rw [List.length_map, sizeLine_eq]; omega
  have J : Inv X pins σ (upd H s1.heap.objs.size (.lst (arr.toList.map backV))) { s with heap := sortedHeap (s1.heap.push (seqObj "list" out.toArray 0)) s1.heap.objs.size out arr, gens := s1.gens, drawn := s1.drawn, toks := s1.toks } :=
    I.call (ch := []) (Un.laid kall k2 hn) (I.hok.laid kall k2 ⟨hzl, arr.toList, c, vals_back refs, hc'⟩) (by rw [k3]; exact I.bare) (fun _ z => nomatch z)
  have es1 : ({ s1 with heap := sortedHeap (s1.heap.push (seqObj "list" out.toArray 0)) s1.heap.objs.size out arr } : Shared) = { s with heap := sortedHeap (s1.heap.push (seqObj "list" out.toArray 0)) s1.heap.objs.size out arr, gens := s1.gens, drawn := s1.drawn, toks := s1.toks } := by
    cases s1
    cases s
    cases k4
    rfl
  refine wpAny_pure ⟨_, rfl, ?_⟩
  show EP X pins σ Q (.ref s1.heap.objs.size) ({ s1 with heap := sortedHeap (s1.heap.push (seqObj "list" out.toArray 0)) s1.heap.objs.size out arr } : Shared)
  rw [es1]
  exact ⟨.ref s1.heap.objs.size, _, J, rfl, q R.nd few _ _ (by rw [List.length_map]; exact la) hn⟩
end
end My
namespace My
open PySem PySem.Spec PyProof.Rows L2 RZ
/-! ### list(zip(a, b)) of two tuples -/
section
variable {prog : Program} {w : World} {A : Around} {E : Value → Shared → Prop} {s : Shared}
theorem zipT_item_held {z TI TO T i1 i2 l1 l2 : Addr} {f : Bool} {oT : Obj} {k1 k2 : Nat} {xs ys : Array Value} {x y : Value} {Q : Value → Shared → Prop} (D : ZipApart z TI TO i1 i2 l1 l2)
    (hz : IsZipHeld s.heap z TI TO T f) (hT : s.heap.get? T = some oT) (hTI : IsPair s.heap TI (.ref i1) (.ref i2))
    (h1 : s.heap.IsTupleIter i1 l1 k1) (h2 : s.heap.IsTupleIter i2 l2 k2) (hl1 : s.heap.IsTuple l1 xs) (hl2 : s.heap.IsTuple l2 ys) (hx : xs[k1]? = some x) (hy : ys[k2]? = some y)
    (hQ : ∀ h', IsZipHeld h' z TI TO T true → h'.IsTupleIter i1 l1 (k1 + 1) → h'.IsTupleIter i2 l2 (k2 + 1) → IsPair h' s.heap.objs.size x y → h'.objs.size = s.heap.objs.size + 1 →
      (∀ c o, c ≠ z → c ≠ i1 → c ≠ i2 → s.heap.get? c = some o → h'.get? c = some o) → Q (.ref s.heap.objs.size) { s with heap := h' }) :
    wpAny (model prog w) A (Builtin.«zip.__next__» ⟨[.ref z], []⟩) (fun fin s' => ∃ v, fin = .done (.ret v) ∧ Q v s') E s := by
  show wpAny _ _ (field (.ref z) 2 >>= _) _ _ _
  refine wpAny_bind (wpAny_field hz rfl (x := .bool false) rfl ?_)
  show wpAny _ _ (field (.ref z) 3 >>= _) _ _ _
  refine wpAny_bind (wpAny_field hz rfl (x := .ref TI) rfl ?_)
  refine wpAny_bind (wpAny_seqItems hTI rfl ?_)
  show wpAny _ _ (Builtin.SmallTypes.ownedTupleIsFree (.ref z) >>= _) _ _ _
  refine wpAny_bind (wpAny_tupleHeld_zip hz hT fun h₁ hz₁ hs₁ => ?_)
  simp only [Bool.false_eq_true, if_false]
  refine wpAny_bind ?_
  rw [← Array.forIn_toList]
  simp only [List.forIn_cons, List.forIn_nil]
  refine wpAny_bind (wpAny_bind (wpAny_holding ?_))
  show wpAny _ _ (Builtin.SmallTypes.nextOf (.ref i1) >>= _) _ _ _
  refine wpAny_bind (nextOf_tuple_item (s := { s with heap := h₁ }) (h1.extBut hs₁.extBut D.i1z) (hl1.extBut hs₁.extBut D.l1z) hx fun h₂ h1₂ hs₂ => wpAny_pure ?_)
  refine wpAny_pure ?_
  refine wpAny_bind (wpAny_bind (wpAny_holding ?_))
  show wpAny _ _ (Builtin.SmallTypes.nextOf (.ref i2) >>= _) _ _ _
  refine wpAny_bind (nextOf_tuple_item (s := { s with heap := h₂ }) ((h2.extBut hs₁.extBut D.i2z).extBut hs₂.extBut D.i12.symm) ((hl2.extBut hs₁.extBut D.l2z).extBut hs₂.extBut D.l2i1) hy fun h₃ h2₃ hs₃ => wpAny_pure ?_)
  refine wpAny_pure (wpAny_pure ?_)
  show wpAny _ _ (newTuple [x, y] >>= _) _ _ _
  refine wpAny_bind (wpAny_newTuple ?_)
  have hsz : h₃.objs.size = s.heap.objs.size := by rw [hs₃.1, hs₂.1, hs₁.1]
  have hz₃ : IsZipHeld h₃ z TI TO T true := hs₃.extBut _ _ D.i2z.symm (hs₂.extBut _ _ D.i1z.symm hz₁)
  have hk : ∀ c o, c ≠ z → c ≠ i1 → c ≠ i2 → s.heap.get? c = some o → h₃.get? c = some o := fun c o c1 c2 c3 e => hs₃.extBut _ _ c3 (hs₂.extBut _ _ c2 (hs₁.extBut _ _ c1 e))
  have h1₃ : h₃.IsTupleIter i1 l1 (k1 + 1) := h1₂.extBut hs₃.extBut D.i12
  refine wpAny_pure ⟨_, rfl, ?_⟩
  show Q (.ref h₃.objs.size) _
  have hp : IsPair (h₃.push { cls := .type "tuple", data := .seq #[x, y] }) h₃.objs.size x y := Heap.get?_push_size _ rfl
  have hz4 : (h₃.push { cls := .type "tuple", data := .seq #[x, y] }).objs.size = h₃.objs.size + 1 := Heap.size_push ..
  rw [hsz] at hp hz4 ⊢
  exact hQ _ (Heap.get?_push_of_some _ hz₃) (h1₃.at fun o e => Heap.get?_push_of_some _ e) (h2₃.at fun o e => Heap.get?_push_of_some _ e) hp hz4 fun c o c1 c2 c3 e => Heap.get?_push_of_some _ (hk c o c1 c2 c3 e)
theorem zipT_end_held {z TI TO T i1 i2 l1 l2 : Addr} {f : Bool} {oT : Obj} {k1 k2 : Nat} {xs ys : Array Value} {Q : PySem.Fin → Shared → Prop} (hh : A.handled = none) (D : ZipApart z TI TO i1 i2 l1 l2)
    (hz : IsZipHeld s.heap z TI TO T f) (hT : s.heap.get? T = some oT) (hTI : IsPair s.heap TI (.ref i1) (.ref i2))
    (h1 : s.heap.IsTupleIter i1 l1 k1) (h2 : s.heap.IsTupleIter i2 l2 k2) (hl1 : s.heap.IsTuple l1 xs) (hl2 : s.heap.IsTuple l2 ys) (hend : xs[k1]? = none ∨ ys[k2]? = none)
    (hE : ∀ h' e, (∀ c o, c ≠ z → c ≠ i1 → c ≠ i2 → s.heap.get? c = some o → h'.get? c = some o) → (∃ o, h'.get? e = some o ∧ o.cls = .type "StopIteration") → E (.ref e) { s with heap := h' }) :
    wpAny (model prog w) A (Builtin.«zip.__next__» ⟨[.ref z], []⟩) Q E s := by
  show wpAny _ _ (field (.ref z) 2 >>= _) _ _ _
  refine wpAny_bind (wpAny_field hz rfl (x := .bool false) rfl ?_)
  show wpAny _ _ (field (.ref z) 3 >>= _) _ _ _
  refine wpAny_bind (wpAny_field hz rfl (x := .ref TI) rfl ?_)
  refine wpAny_bind (wpAny_seqItems hTI rfl ?_)
  show wpAny _ _ (Builtin.SmallTypes.ownedTupleIsFree (.ref z) >>= _) _ _ _
  refine wpAny_bind (wpAny_tupleHeld_zip hz hT fun h₁ hz₁ hs₁ => ?_)
  simp only [Bool.false_eq_true, if_false]
  refine wpAny_bind ?_
  rw [← Array.forIn_toList]
  simp only [List.forIn_cons, List.forIn_nil]
  refine wpAny_bind (wpAny_bind (wpAny_holding ?_))
  show wpAny _ _ (Builtin.SmallTypes.nextOf (.ref i1) >>= _) _ _ _
  cases hx : xs[k1]? with
  | none =>
    refine wpAny_bind (nextOf_tuple_end (s := { s with heap := h₁ }) hh (h1.extBut hs₁.extBut D.i1z) (hl1.extBut hs₁.extBut D.l1z) hx fun h₂ e hs₂ he => ?_)
    exact hE h₂ e (fun c o c1 c2 _ x => hs₂ _ _ c2 (hs₁.extBut _ _ c1 x)) he
  | some x =>
    have hy : ys[k2]? = none := by rcases hend with h | h; rw [hx] at h; cases h; exact h
    refine wpAny_bind (nextOf_tuple_item (s := { s with heap := h₁ }) (h1.extBut hs₁.extBut D.i1z) (hl1.extBut hs₁.extBut D.l1z) hx fun h₂ h1₂ hs₂ => wpAny_pure ?_)
    refine wpAny_pure ?_
    refine wpAny_bind (wpAny_bind (wpAny_holding ?_))
    show wpAny _ _ (Builtin.SmallTypes.nextOf (.ref i2) >>= _) _ _ _
    refine wpAny_bind (nextOf_tuple_end (s := { s with heap := h₂ }) hh ((h2.extBut hs₁.extBut D.i2z).extBut hs₂.extBut D.i12.symm) ((hl2.extBut hs₁.extBut D.l2z).extBut hs₂.extBut D.l2i1) hy fun h₃ e hs₃ he => ?_)
    exact hE h₃ e (fun c o c1 c2 c3 x => hs₃ _ _ c3 (hs₂.extBut _ _ c2 (hs₁.extBut _ _ c1 x))) he
theorem nextT_item_held {z TI TO T i1 i2 l1 l2 : Addr} {f : Bool} {oT : Obj} {k1 k2 : Nat} {xs ys : Array Value} {x y : Value} {Q : Option Value → Shared → Prop} (D : ZipApart z TI TO i1 i2 l1 l2)
    (hz : IsZipHeld s.heap z TI TO T f) (hT : s.heap.get? T = some oT) (hTI : IsPair s.heap TI (.ref i1) (.ref i2))
    (h1 : s.heap.IsTupleIter i1 l1 k1) (h2 : s.heap.IsTupleIter i2 l2 k2) (hl1 : s.heap.IsTuple l1 xs) (hl2 : s.heap.IsTuple l2 ys) (hx : xs[k1]? = some x) (hy : ys[k2]? = some y)
    (hQ : ∀ h', IsZipHeld h' z TI TO T true → h'.IsTupleIter i1 l1 (k1 + 1) → h'.IsTupleIter i2 l2 (k2 + 1) → IsPair h' s.heap.objs.size x y → h'.objs.size = s.heap.objs.size + 1 →
      (∀ c o, c ≠ z → c ≠ i1 → c ≠ i2 → s.heap.get? c = some o → h'.get? c = some o) → Q (some (.ref s.heap.objs.size)) { s with heap := h' }) :
    wpAny (model prog w) A (pyNext (.ref z)) Q E s := by
  have hTy : s.TypeIs (.ref z) "zip" := ⟨_, hz, rfl⟩
  unfold pyNext
  exact wpAny_bind (wpAny_attempt (wpAny_callSpecial?_slot (name := Str.ofString "__next__") hTy F.slot_zip_next
    (wpAny_call_entry F.slot_zip_next hTy F.entry_zip_next
      (zipT_item_held D hz hT hTI h1 h2 hl1 hl2 hx hy fun h' a1 a3 a4 a5 a6 a7 => wpAny_pure (hQ h' a1 a3 a4 a5 a6 a7)) (F.args_zip_next_1 _))))
theorem nextT_end_held {z TI TO T i1 i2 l1 l2 : Addr} {f : Bool} {oT : Obj} {k1 k2 : Nat} {xs ys : Array Value} {Q : Option Value → Shared → Prop} (hh : A.handled = none) (D : ZipApart z TI TO i1 i2 l1 l2)
    (hz : IsZipHeld s.heap z TI TO T f) (hT : s.heap.get? T = some oT) (hTI : IsPair s.heap TI (.ref i1) (.ref i2))
    (h1 : s.heap.IsTupleIter i1 l1 k1) (h2 : s.heap.IsTupleIter i2 l2 k2) (hl1 : s.heap.IsTuple l1 xs) (hl2 : s.heap.IsTuple l2 ys) (hend : xs[k1]? = none ∨ ys[k2]? = none)
    (hQ : ∀ h', (∀ c o, c ≠ z → c ≠ i1 → c ≠ i2 → s.heap.get? c = some o → h'.get? c = some o) → Q none { s with heap := h' }) : wpAny (model prog w) A (pyNext (.ref z)) Q E s := by
  have hTy : s.TypeIs (.ref z) "zip" := ⟨_, hz, rfl⟩
  unfold pyNext
  refine wpAny_bind (wpAny_attempt (wpAny_callSpecial?_slot (name := Str.ofString "__next__") hTy F.slot_zip_next
    (wpAny_call_entry F.slot_zip_next hTy F.entry_zip_next (zipT_end_held hh D hz hT hTI h1 h2 hl1 hl2 hend fun h' e hk he => ?_) (F.args_zip_next_1 _))))
  obtain ⟨o, ho, hc⟩ := he
  refine wpAny_bind (wpAny_isInstance (T := "StopIteration") (b := true) ⟨o, ho, hc⟩ isSubtype_stop ?_)
  exact wpAny_pure (hQ _ hk)
/-- the zip behind i turns, its first pair (at base) still held -/
structure ZSt (z TI TO i1 i2 l1 l2 base : Addr) (xs ys : Array Value) (i : Nat) (h : Heap) : Prop where
  ti : IsPair h TI (.ref i1) (.ref i2)
  a1 : h.IsTupleIter i1 l1 i
  a2 : h.IsTupleIter i2 l2 i
  t1 : h.IsTuple l1 xs
  t2 : h.IsTuple l2 ys
  zz : (i = 0 ∧ IsZip h z TI TO .none ∧ ∃ a b, IsPair h TO a b) ∨ (0 < i ∧ ∃ f, IsZipHeld h z TI TO base f)
theorem zip_no_len : typeLookup (.type "zip") "__len__" = pure none := by rw [typeLookup_type, builtinLookup_eq_fast]; kernel_rfl
theorem zip_no_hint : typeLookup (.type "zip") "__length_hint__" = pure none := by rw [typeLookup_type, builtinLookup_eq_fast]; kernel_rfl

abbrev rfs (base n : Nat) : Array Value := ((List.range n).map fun j => Value.ref (base + j)).toArray
theorem rfs_push (base i : Nat) : (rfs base i).push (.ref (base + i)) = rfs base (i + 1) := by
  show (((List.range i).map fun j => Value.ref (base + j)).toArray).push _ = ((List.range (i + 1)).map fun j => Value.ref (base + j)).toArray
  rw [List.range_succ, List.map_append, List.push_toArray]
  rfl
theorem rfs_size (base i : Nat) : (rfs base i).size = i := by
  show (((List.range i).map fun j => Value.ref (base + j)).toArray).size = i
  rw [List.size_toArray, List.length_map, List.length_range]
theorem zloop {z TI TO i1 i2 l1 l2 base S : Addr} {xs ys : Array Value} {n : Nat} {R : Result → Shared → Prop} (hh : A.handled = none) (D : ZipApart z TI TO i1 i2 l1 l2) (hn : n ≤ sizeLine) (hx : n ≤ xs.size) (hy : n ≤ ys.size) (he : xs.size ≤ n ∨ ys.size ≤ n)
    (Sz : S ≠ z) (STO : S ≠ TO) (STI : S ≠ TI) (Si1 : S ≠ i1) (Si2 : S ≠ i2) (Sl1 : S ≠ l1) (Sl2 : S ≠ l2) (bS : S < base) (bz : z < base) (bTO : TO < base) (bi1 : i1 < base) (bi2 : i2 < base) (res : Value) :
    ∀ (k i : Nat) (s : Shared) (c : Nat), n - i = k → i ≤ n → s.heap.objs.size = base + i → ZSt z TI TO i1 i2 l1 l2 base xs ys i s.heap → s.heap.get? S = some { cls := .type "list", dict := none, data := .seq (rfs base i) c, slots := #[] } →
    (∀ j x y, j < i → xs[j]? = some x → ys[j]? = some y → IsPair s.heap (base + j) x y) →
    (∀ h' c', (∀ b o, b ≠ z → b ≠ TO → b ≠ i1 → b ≠ i2 → b ≠ S → s.heap.get? b = some o → h'.get? b = some o) → h'.get? S = some { cls := .type "list", dict := none, data := .seq (rfs base n) c', slots := #[] } →
      (∀ j x y, j < n → xs[j]? = some x → ys[j]? = some y → IsPair h' (base + j) x y) → R (.ok (.ret res)) { s with heap := h' }) →
    codeAny (model prog w) A (.builtin "list.extend.loop" ⟨[.ref S, .ref z, res], []⟩) R s := by
  have hh1 : A.in1.handled = none := hh
  have nz : ∀ j, base + j ≠ z := fun j => Nat.ne_of_gt (Nat.lt_of_lt_of_le bz (Nat.le_add_right _ _))
  have nTO : ∀ j, base + j ≠ TO := fun j => Nat.ne_of_gt (Nat.lt_of_lt_of_le bTO (Nat.le_add_right _ _))
  have ni1 : ∀ j, base + j ≠ i1 := fun j => Nat.ne_of_gt (Nat.lt_of_lt_of_le bi1 (Nat.le_add_right _ _))
  have ni2 : ∀ j, base + j ≠ i2 := fun j => Nat.ne_of_gt (Nat.lt_of_lt_of_le bi2 (Nat.le_add_right _ _))
  have nS : ∀ j, base + j ≠ S := fun j => Nat.ne_of_gt (Nat.lt_of_lt_of_le bS (Nat.le_add_right _ _))
  intro k
  induction k with
  | zero =>
    intro i s c hk hi hsz st hS hp hR
    have hin : i = n := by omega
    subst hin
    refine codeAny_builtin F.entry_extend_loop ?_
    rw [Around.under_plainId F.plain_extend_loop _]
    show wpAny _ A.in1 (pyNext (.ref z) >>= _) _ _ s
    have hend : xs[i]? = none ∨ ys[i]? = none := by
      rcases he with h | h
      · exact .inl (by simp; omega)
      · exact .inr (by simp; omega)
    refine wpAny_bind ?_
    have fin : ∀ h', (∀ b o, b ≠ z → b ≠ TO → b ≠ i1 → b ≠ i2 → s.heap.get? b = some o → h'.get? b = some o) → R (.ok (.ret res)) { s with heap := h' } := fun h' hk' =>
      hR h' c (fun b o c1 c2 c3 c4 _ e => hk' b o c1 c2 c3 c4 e) (hk' S _ Sz STO Si1 Si2 hS) fun j x y hj ex ey => hk' _ _ (nz j) (nTO j) (ni1 j) (ni2 j) (hp j x y hj ex ey)
    rcases st.zz with ⟨_, hz, a, b, hTO⟩ | ⟨hp0, f, hz⟩
    · exact pyNext_zipT_end hh1 D hz st.ti hTO st.a1 st.a2 st.t1 st.t2 hend fun h' hk' => wpAny_pure (fin h' hk')
    · have x0 : ∃ x, xs[0]? = some x := ⟨xs[0]'(by omega), by simp⟩
      have y0 : ∃ y, ys[0]? = some y := ⟨ys[0]'(by omega), by simp⟩
      obtain ⟨x, ex⟩ := x0
      obtain ⟨y, ey⟩ := y0
      exact nextT_end_held hh1 D hz (hp 0 x y hp0 ex ey) st.ti st.a1 st.a2 st.t1 st.t2 hend fun h' hk' => wpAny_pure (fin h' fun b o c1 _ c3 c4 e => hk' b o c1 c3 c4 e)
  | succ k ih =>
    intro i s c hk hi hsz st hS hp hR
    have hlt : i < n := by omega
    obtain ⟨x, ex⟩ : ∃ x, xs[i]? = some x := ⟨xs[i]'(by omega), by simp⟩
    obtain ⟨y, ey⟩ : ∃ y, ys[i]? = some y := ⟨ys[i]'(by omega), by simp⟩
    refine codeAny_builtin F.entry_extend_loop ?_
    rw [Around.under_plainId F.plain_extend_loop _]
    show wpAny _ A.in1 (pyNext (.ref z) >>= _) _ _ s
    refine wpAny_bind ?_
    have go : ∀ h', (∃ f, IsZipHeld h' z TI TO base f) → h'.IsTupleIter i1 l1 (i + 1) → h'.IsTupleIter i2 l2 (i + 1) → IsPair h' s.heap.objs.size x y → h'.objs.size = s.heap.objs.size + 1 →
        (∀ c o, c ≠ z → c ≠ TO → c ≠ i1 → c ≠ i2 → s.heap.get? c = some o → h'.get? c = some o) →
        wpAny (model prog w) A.in1 (updateSeq S (·.push (.ref s.heap.objs.size)) >>= fun _ => again (.builtin "list.extend.loop" ⟨[.ref S, .ref z, res], []⟩))
          (fun fin s' => match fin with | .done f => R (.ok f) s' | .again c' => c'.quiet = true ∧ codeAny (model prog w) A c' R s') (fun e s' => R (.error e) s') { s with heap := h' } := by
      rintro h' ⟨f, hz'⟩ b1 b2 hT hs' hk'
      have hS' := hk' S _ Sz STO Si1 Si2 hS
      refine wpAny_bind ?_
      have sb : Heap.SameBut S h' (h'.update S (Obj.mapSeq (·.push (.ref s.heap.objs.size)))) := Heap.SameBut.update ..
      have up : ∀ b o, b ≠ S → h'.get? b = some o → (h'.update S (Obj.mapSeq (·.push (.ref s.heap.objs.size)))).get? b = some o := fun b o hb e => sb.extBut _ _ hb e
      obtain ⟨c2, qS⟩ : ∃ c2, (h'.update S (Obj.mapSeq (·.push (Value.ref s.heap.objs.size)))).get? S = some { cls := .type "list", dict := none, data := .seq (rfs base (i + 1)) c2, slots := #[] } := by
        have q := Heap.get?_update_self (Obj.mapSeq (·.push (Value.ref s.heap.objs.size))) hS' rfl
        have e1 : (rfs base i).push (Value.ref s.heap.objs.size) = rfs base (i + 1) := by rw [hsz]; exact rfs_push base i
        rw [← e1]
        exact ⟨_, q⟩
      refine wpAny_updateSeq hS' rfl (wpAny_pure ⟨plainId_quiet F.plain_extend_loop _, ih (i + 1) _ c2 (by omega) hlt ?_ ?_ qS ?_ ?_⟩) (by rw [rfs_size]; omega) (by show ((rfs base i).push _).size ≤ sizeLine + 1; rw [Array.size_push, rfs_size]; omega)
      · show (h'.update S _).objs.size = _
        rw [Heap.size_update, hs', hsz]
        rfl
      · refine ⟨up _ _ STI.symm (hk' _ _ D.TIz D.TITO D.TIi1 D.TIi2 st.ti), b1.at fun o e => up _ _ Si1.symm e, b2.at fun o e => up _ _ Si2.symm e, ?_, ?_, .inr ⟨by omega, f, up _ _ Sz.symm hz'⟩⟩
        · obtain ⟨o, ho, r⟩ := st.t1
          exact ⟨o, up _ _ Sl1.symm (hk' _ _ D.l1z D.l1TO D.l1i1 D.l1i2 ho), r⟩
        · obtain ⟨o, ho, r⟩ := st.t2
          exact ⟨o, up _ _ Sl2.symm (hk' _ _ D.l2z D.l2TO D.l2i1 D.l2i2 ho), r⟩
      · intro j x' y' hj ex' ey'
        by_cases hji : j = i
        · subst hji
          rw [ex] at ex'
          rw [ey] at ey'
          cases ex'
          cases ey'
          rw [hsz] at hT
          exact up _ _ (nS j) hT
        · exact up _ _ (nS j) (hk' _ _ (nz j) (nTO j) (ni1 j) (ni2 j) (hp j x' y' (by omega) ex' ey'))
      · intro h'' c' hk'' hS'' hp''
        exact hR h'' c' (fun b o c1 c2 c3 c4 c5 e => hk'' b o c1 c2 c3 c4 c5 (up _ _ c5 (hk' b o c1 c2 c3 c4 e))) hS'' hp''
    rcases st.zz with ⟨hi0, hz, a, b, hTO⟩ | ⟨hp0, f, hz⟩
    · refine pyNext_zipT_item D hz st.ti hTO st.a1 st.a2 st.t1 st.t2 ex ey fun h' z' TO' h1' h2' hT hs' hk' => go h' ⟨false, ?_⟩ h1' h2' hT hs' hk'
      have e0 : s.heap.objs.size = base := by rw [hsz, hi0]; rfl
      rw [e0] at z'
      exact z'
    · have x0 : ∃ x, xs[0]? = some x := ⟨xs[0]'(by omega), by simp⟩
      have y0 : ∃ y, ys[0]? = some y := ⟨ys[0]'(by omega), by simp⟩
      obtain ⟨x', ex'⟩ := x0
      obtain ⟨y', ey'⟩ := y0
      exact nextT_item_held D hz (hp 0 x' y' hp0 ex' ey') st.ti st.a1 st.a2 st.t1 st.t2 ex ey fun h' z' h1' h2' hT hs' hk' => go h' ⟨true, z'⟩ h1' h2' hT hs' fun c o c1 _ c3 c4 e => hk' c o c1 c3 c4 e

theorem call_list_zipT {z TI TO i1 i2 l1 l2 : Addr} {xs ys : Array Value} {n : Nat} {Q : Value → Shared → Prop} (hh : A.handled = none) (D : ZipApart z TI TO i1 i2 l1 l2) (hn : n ≤ sizeLine) (hx : n ≤ xs.size) (hy : n ≤ ys.size) (he : xs.size ≤ n ∨ ys.size ≤ n)
    (hz : IsZip s.heap z TI TO .none) (hTI : IsPair s.heap TI (.ref i1) (.ref i2)) {a b : Value} (hTO : IsPair s.heap TO a b) (h1 : s.heap.IsTupleIter i1 l1 0) (h2 : s.heap.IsTupleIter i2 l2 0) (hl1 : s.heap.IsTuple l1 xs) (hl2 : s.heap.IsTuple l2 ys)
    (hQ : ∀ h' c', (∀ b o, b ≠ z → b ≠ TO → b ≠ i1 → b ≠ i2 → s.heap.get? b = some o → h'.get? b = some o) → h'.get? s.heap.objs.size = some { cls := .type "list", dict := none, data := .seq (rfs (s.heap.objs.size + 1) n) c', slots := #[] } →
      (∀ j x y, j < n → xs[j]? = some x → ys[j]? = some y → IsPair h' (s.heap.objs.size + 1 + j) x y) → Q (.ref s.heap.objs.size) { s with heap := h' }) :
    wpAny (model prog w) A (call (.type "list") [.ref z]) Q E s := by
  have zl : z < s.heap.objs.size := Heap.lt_size hz
  have TIl : TI < s.heap.objs.size := Heap.lt_size hTI
  have TOl : TO < s.heap.objs.size := Heap.lt_size hTO
  have i1l : i1 < s.heap.objs.size := by obtain ⟨_, e, _⟩ := h1; exact Heap.lt_size e
  have i2l : i2 < s.heap.objs.size := by obtain ⟨_, e, _⟩ := h2; exact Heap.lt_size e
  have l1l : l1 < s.heap.objs.size := by obtain ⟨_, e, _⟩ := hl1; exact Heap.lt_size e
  have l2l : l2 < s.heap.objs.size := by obtain ⟨_, e, _⟩ := hl2; exact Heap.lt_size e
  have hSz : s.heap.objs.size ≠ z := Nat.ne_of_gt zl
  refine callType_codes (Q₁ := fun obj s₁ => obj = .ref s.heap.objs.size ∧ s₁ = { s with heap := s.heap.push { cls := .type "list", data := .seq #[] } }) F.called_list (F.typeCall_list_1 _) F.entry_list_init
    (code_list_new _ ⟨rfl, rfl⟩) fun obj s₁ h₁ => ?_
  obtain ⟨rfl, rfl⟩ := h₁
  have hS : (s.heap.push { cls := .type "list", data := .seq #[] }).get? s.heap.objs.size = some { cls := .type "list", data := .seq #[] } := Heap.get?_push_size _ rfl
  refine ⟨⟨_, hS, rfl⟩, F.args_list_init_2 _ _, ?_⟩
  show wpAny _ A.in1.in1 (do let old ← Builtin.List.listItems (.ref s.heap.objs.size); Builtin.List.listUpdate (.ref s.heap.objs.size) (fun _ => #[]); letGo old.toList.reverse; Builtin.List.listExtendWith (.ref s.heap.objs.size) (.ref z) .none) _ _ _
  refine wpAny_bind ?_
  unfold Builtin.List.listItems
  refine wpAny_bind (wpAny_seqItems hS rfl (wpAny_pure ?_))
  show wpAny _ A.in1.in1 (updateSeq s.heap.objs.size (fun _ => #[]) >>= fun _ => letGo (#[] : Array Value).toList.reverse >>= fun _ => Builtin.List.listExtendWith (.ref s.heap.objs.size) (.ref z) .none) _ _ _
  refine wpAny_bind (wpAny_updateSeq hS rfl ?_)
  have hS2 := Heap.get?_update_self (Obj.mapSeq (fun _ => (#[] : Array Value))) hS rfl
  refine wpAny_bind (wpAny_letGo ?_)
  unfold Builtin.List.listExtendWith
  have up : ∀ (h : Heap) (f : Obj → Obj), (∀ b o, s.heap.get? b = some o → h.get? b = some o) → ∀ b o, s.heap.get? b = some o → (h.update s.heap.objs.size f).get? b = some o := fun h f q b o e =>
    (Heap.get?_update_other _ _ (Ne.symm (Nat.ne_of_lt (Heap.lt_size e)))).trans (q b o e)
  have k1 : ∀ b o, s.heap.get? b = some o → (s.heap.push { cls := .type "list", data := .seq #[] }).get? b = some o := fun b o e => Heap.get?_push_of_some _ e
  have k2 := up _ (Obj.mapSeq (fun _ => (#[] : Array Value))) k1
  refine wpAny_bind (wpAny_typeOf (T := "zip") ⟨_, k2 _ _ hz, rfl⟩ ?_)
  have h1' : Builtin.List.listSameRef (.ref s.heap.objs.size) (.ref z) = false := by simp [Builtin.List.listSameRef, hSz]
  have h2' : (Value.type "zip" == Value.type "list") = false := by decide
  have h3' : (Value.type "zip" == Value.type "tuple") = false := by decide
  simp only [h1', h2', h3', Bool.or_false, Bool.false_eq_true, if_false]
  refine wpAny_bind (wpAny_pyIter_zip (k2 _ _ hz) ?_)
  refine wpAny_bind (wpAny_holding ?_)
  unfold Builtin.List.listLengthHint
  refine wpAny_bind (wpAny_specialOf (T := "zip") ⟨_, k2 _ _ hz, rfl⟩ zip_no_len ?_)
  show wpAny _ A.in1.in1 (specialOf (Value.ref z) (Str.ofString "__length_hint__") >>= _) _ _ _
  refine wpAny_bind (wpAny_specialOf (T := "zip") ⟨_, k2 _ _ hz, rfl⟩ zip_no_hint ?_)
  refine wpAny_pure ?_
  show wpAny _ A.in1.in1 (rule "list.extend.makes-room" >>= fun _ => Builtin.List.listTouch (.ref s.heap.objs.size) >>= fun _ =>
    again (.builtin "list.extend.loop" ⟨[.ref s.heap.objs.size, .ref z, .none], []⟩)) _ _ _
  refine wpAny_bind (wpAny_rule ?_)
  refine wpAny_bind ?_
  show wpAny _ A.in1.in1 (updateSeq s.heap.objs.size (·.push .none) >>= fun _ => updateSeq s.heap.objs.size (·.pop)) _ _ _
  refine wpAny_bind (wpAny_updateSeq hS2 rfl ?_)
  have hS3 := Heap.get?_update_self (Obj.mapSeq (·.push Value.none)) hS2 rfl
  refine wpAny_updateSeq (hz := by seq_fits) hS3 rfl ?_
  have hS4 := Heap.get?_update_self (Obj.mapSeq (·.pop)) hS3 rfl
  have k4 := up _ (Obj.mapSeq (·.pop)) (up _ (Obj.mapSeq (·.push Value.none)) k2)
  refine wpAny_pure ⟨plainId_quiet F.plain_extend_loop _, ?_⟩
  refine zloop (A := A.in1) (base := s.heap.objs.size + 1) hh D hn hx hy he hSz (Nat.ne_of_gt TOl) (Nat.ne_of_gt TIl) (Nat.ne_of_gt i1l) (Nat.ne_of_gt i2l) (Nat.ne_of_gt l1l) (Nat.ne_of_gt l2l) (Nat.lt_succ_self _) (Nat.lt_succ_of_lt zl) (Nat.lt_succ_of_lt TOl) (Nat.lt_succ_of_lt i1l) (Nat.lt_succ_of_lt i2l) .none n 0 _ _ rfl (Nat.zero_le _) ?_ ?_ hS4 (fun j x y hj => absurd hj (Nat.not_lt_zero _)) fun h' c' hk' hS' hp' => ?_
  · show (((((s.heap.push _).update _ _).update _ _).update _ _)).objs.size = _
    rw [Heap.size_update, Heap.size_update, Heap.size_update, Heap.size_push]
  · exact ⟨k4 _ _ hTI, h1.at fun o e => k4 _ _ e, h2.at fun o e => k4 _ _ e, let ⟨o, ho, r⟩ := hl1; ⟨o, k4 _ _ ho, r⟩, let ⟨o, ho, r⟩ := hl2; ⟨o, k4 _ _ ho, r⟩, .inl ⟨rfl, k4 _ _ hz, a, b, k4 _ _ hTO⟩⟩
  · exact ⟨rfl, hQ h' c' (fun b o c1 c2 c3 c4 e => hk' b o c1 c2 c3 c4 (Nat.ne_of_lt (Heap.lt_size e)) (k4 _ _ e)) hS' hp'⟩
end
/-! #### over the layer -/
section
variable {X : Cx} {pins : List (Addr × Obj)} {σ : L2.St} {H : Hp} {s : Shared}
def layZ (H : Hp) (S base n : Addr) (o : HO) (f : Nat → HO) : Hp := fun b => if b = S then some o else if base ≤ b ∧ b < base + n then some (f (b - base)) else H b
theorem layZ_S {S base n : Addr} {o : HO} {f : Nat → HO} : layZ H S base n o f S = some o := if_pos rfl
theorem layZ_T {S base n j : Addr} {o : HO} {f : Nat → HO} (hS : S < base) (hj : j < n) : layZ H S base n o f (base + j) = some (f j) := by
  unfold layZ
  rw [if_neg (Nat.ne_of_gt (Nat.lt_of_lt_of_le hS (Nat.le_add_right _ _))), if_pos ⟨Nat.le_add_right _ _, Nat.add_lt_add_left hj _⟩, Nat.add_sub_cancel_left]
theorem layZ_old {S base n b : Addr} {o : HO} {f : Nat → HO} (h1 : b < S) (h2 : b < base) : layZ H S base n o f b = H b := by
  unfold layZ
  rw [if_neg (Nat.ne_of_lt h1), if_neg (fun z => absurd h2 (Nat.not_lt.mpr z.1))]
theorem inv_layZ {h' : Heap} {t' : Nat} {S base n : Addr} {o : HO} {f : Nat → HO} (I : Inv X pins σ H s) (k : ∀ b u, s.heap.get? b = some u → h'.get? b = some u) (hS : s.heap.objs.size ≤ S) (hB : S < base)
    (oS : ObjOk X.prog X.w (layZ H S base n o f) h' S o) (oT : ∀ j, j < n → ObjOk X.prog X.w (layZ H S base n o f) h' (base + j) (f j)) : Inv X pins σ (layZ H S base n o f) { s with heap := h', toks := t' } := by
  have old : ∀ b u, H b = some u → layZ H S base n o f b = some u := fun b u e => by
    have hl : b < s.heap.objs.size := (I.hok b u e).lt
    rw [layZ_old (Nat.lt_of_lt_of_le hl hS) (Nat.lt_trans (Nat.lt_of_lt_of_le hl hS) hB)]
    exact e
  refine I.un ⟨fun b u e _ _ _ => k b u e, fun b u e _ _ _ => ⟨u.slots, k b u e⟩, fun b u e n _ => ?_, fun b u e _ => ⟨u, k b u e⟩, fun b xs e => old _ _ e, fun b u v e => old _ _ e, fun b ps e => ⟨#[], by rw [old _ _ e]; simp⟩⟩ fun b u e => ?_
  · have hl : b < s.heap.objs.size := Heap.lt_size e
    rw [layZ_old (Nat.lt_of_lt_of_le hl hS) (Nat.lt_trans (Nat.lt_of_lt_of_le hl hS) hB)]
    exact n
  · by_cases hb : b = S
    · subst hb
      rw [layZ_S] at e
      cases e
      exact oS
    · by_cases hr : base ≤ b ∧ b < base + n
      · have e' : layZ H S base n o f b = some (f (b - base)) := by unfold layZ; rw [if_neg hb, if_pos hr]
        rw [e'] at e
        cases e
        have hj := oT (b - base) (by have := hr.1; have := hr.2; exact Nat.sub_lt_left_of_lt_add hr.1 hr.2)
        rw [Nat.add_sub_cancel' hr.1] at hj
        exact hj
      · have e' : layZ H S base n o f b = H b := by unfold layZ; rw [if_neg hb, if_neg hr]
        rw [e'] at e
        exact (I.hok b u e).stay (fun c v _ q => k c v q) (fun c q => old _ _ q) fun c xs q => old _ _ q
/-- list(zip(x, y)): a new list of new pairs -/
def tLZ (K : PySem.W.Frag) (ta : TA) : TE := fun σ H Q => ta σ H fun vs H1 => ∃ a b xs ys, vs = [.ref a, .ref b] ∧ SqT K H1 a xs ∧ SqT K H1 b ys ∧
  ∀ H2 L ps, Same H1 H2 → H1 L = none → H2 L = some (.lst ps) → ps.length = min xs.length ys.length → (∀ (j : Nat) x y, xs[j]? = some x → ys[j]? = some y → ∃ T, ps[j]? = some (.ref T) ∧ H1 T = none ∧ H2 T = some (.tup [x, y])) → Q (.ref L) H2
theorem pe_listZip {e e2 : Expr} {ta : TA} {p p2 pos pos2 : Pos} (hc : X.calm = true) (hg : Gl X "list") (hm : X.mg "list" = none) (hg2 : Gl X "zip") (hm2 : X.mg "zip" = none) (ha : PA X [e, e2] ta)
    (na : starEach [.Call (.Name "zip" p2) [e, e2] [] pos2] X.env = (false, eval (.Call (.Name "zip" p2) [e, e2] [] pos2) X.env) :: starEach [] X.env := by rfl)
    (hs : starEach [e, e2] X.env = (false, eval e X.env) :: starEach [e2] X.env := by rfl) (hpl : (backTo pos2 (starEach [e2] X.env)).any (·.1) = false := by rfl) :
    PE X (.Call (.Name "list" p) [.Call (.Name "zip" p2) [e, e2] [] pos2] [] pos) (tLZ X.K ta) := by
  refine ⟨fun pins s σ H Q I h => ?_⟩
  have hz : wpAny (model X.prog X.w) X.A (eval (.Call (.Name "zip" p2) [e, e2] [] pos2) X.env) (fun v s2 => wpAny (model X.prog X.w) X.A (call (.type "list") [v]) (EP X pins σ Q) X.xe s2) X.xe s := by
    refine Call_ (ld_blt I hg2 hm2 PyProof.Rows.boot_zip (PyProof.Rows.callWith_type1 (thn (ha.run pos2 pins s σ H _ I h) fun us s1 ⟨vs, H1, I1, r1, q1⟩ => ?_) hs hpl))
    obtain ⟨a, b, xs, ys, ex, hqx, hqy, q⟩ := q1
    subst ex
    cases r1 with
    | cons r rr =>
      cases rr with
      | cons r' rr =>
        cases rr
        cases r
        cases r'
        obtain ⟨its, rv, p1, z1⟩ := I1.tuple hqx
        obtain ⟨its2, rv2, p2', z2⟩ := I1.tuple hqy
        have al : a < s1.heap.objs.size := p1.lt
        have bl : b < s1.heap.objs.size := p2'.lt
        refine call_zipT p1 p2' fun h' hz hTI hTO h1 h2 hsz hk => ?_
        have ls := rv.length
        have ls2 := rv2.length
        have ap : ZipApart (s1.heap.objs.size + 4) (s1.heap.objs.size + 2) (s1.heap.objs.size + 3) s1.heap.objs.size (s1.heap.objs.size + 1) a b := by
          have nn : ∀ {c : Addr}, c < s1.heap.objs.size → ∀ i, c ≠ s1.heap.objs.size + i := fun {c} hc i => Nat.ne_of_lt (Nat.lt_of_lt_of_le hc (Nat.le_add_right _ _))
          have nm : ∀ {i j : Nat}, i ≠ j → s1.heap.objs.size + i ≠ s1.heap.objs.size + j := fun {i j} hij z => hij (Nat.add_left_cancel z)
          exact ⟨nm (by decide), nm (by decide), nm (i := 0) (by decide), nm (by decide), nm (by decide), nm (j := 0) (by decide), nm (by decide), nm (j := 0) (by decide), nm (by decide), nm (i := 0) (by decide), nn al _, nn al _, nn al 0, nn al _, nn bl _, nn bl _, nn bl 0, nn bl _⟩
        have t1 : h'.IsTuple a its.toArray := let ⟨o, ho, r⟩ := p1; ⟨o, hk _ _ ho, r⟩
        have t2 : h'.IsTuple b its2.toArray := let ⟨o, ho, r⟩ := p2'; ⟨o, hk _ _ ho, r⟩
        refine call_list_zipT (n := min xs.length ys.length) (I1.ok.hd hc) ap (by omega) (by rw [List.size_toArray]; omega) (by rw [List.size_toArray]; omega) (by rw [List.size_toArray, List.size_toArray]; omega) hz hTI hTO h1 h2 t1 t2 fun h'' c' hk2 hS hp => ?_
        have hsz' : h'.objs.size = s1.heap.objs.size + 5 := hsz
        have gt : ∀ {c : Addr} {u : Obj}, s1.heap.get? c = some u → ∀ i, c ≠ s1.heap.objs.size + i := fun {c u} e i => Nat.ne_of_lt (Nat.lt_of_lt_of_le (Heap.lt_size e) (Nat.le_add_right _ _))
        have kk : ∀ c u, s1.heap.get? c = some u → h''.get? c = some u := fun c u e => hk2 c u (gt e 4) (gt e 3) (gt e 0) (gt e 1) (hk c u e)
        have nS : s1.heap.objs.size ≤ h'.objs.size := by rw [hsz']; exact Nat.le_add_right _ _
        have hS1 : H1 h'.objs.size = none := I1.hok.fresh nS
        have hT1 : ∀ j, H1 (h'.objs.size + 1 + j) = none := fun j => I1.hok.fresh (Nat.le_trans nS (by rw [Nat.add_assoc]; exact Nat.le_add_right _ _))
        let f : Nat → HO := fun j => .tup [xs.getD j .non, ys.getD j .non]
        let ps : List V := (List.range (min xs.length ys.length)).map fun j => V.ref (h'.objs.size + 1 + j)
        have hlen : ps.length = min xs.length ys.length := by show ((List.range _).map _).length = _; rw [List.length_map, List.length_range]
        have I2 : Inv X pins σ (layZ H1 h'.objs.size (h'.objs.size + 1) (min xs.length ys.length) (.lst ps) f) { s1 with heap := h'', toks := s1.toks } := by
          refine inv_layZ I1 kk nS (Nat.lt_succ_self _) ⟨by rw [hlen]; omega, (List.range (min xs.length ys.length)).map fun j => Value.ref (h'.objs.size + 1 + j), c', ?_, hS⟩ fun j hj => ?_
          · have key : ∀ l : List Nat, Vals (l.map fun j => V.ref (h'.objs.size + 1 + j)) (l.map fun j => Value.ref (h'.objs.size + 1 + j)) := fun l => by
              induction l with
              | nil => exact .nil
              | cons a l ih => exact .cons rfl ih
            exact key _
          · obtain ⟨x, ex⟩ : ∃ x, xs[j]? = some x := ⟨xs[j]'(Nat.lt_of_lt_of_le hj (Nat.min_le_left _ _)), by simp⟩
            obtain ⟨y, ey⟩ : ∃ y, ys[j]? = some y := ⟨ys[j]'(Nat.lt_of_lt_of_le hj (Nat.min_le_right _ _)), by simp⟩
            obtain ⟨u, hu, ru⟩ := rv.get ex
            obtain ⟨u2, hu2, ru2⟩ := rv2.get ey
            have hT := hp j u u2 hj (by simpa using hu) (by simpa using hu2)
            have ef : f j = .tup [x, y] := by show HO.tup [xs.getD j .non, ys.getD j .non] = _; rw [List.getD_eq_getElem?_getD, List.getD_eq_getElem?_getD, ex, ey]; rfl
            rw [ef]
            exact ⟨by show 2 ≤ sizeLine; decide, [u, u2], .cons ru (.cons ru2 .nil), ⟨_, hT, rfl, _, rfl⟩⟩
        have old : Same H1 (layZ H1 h'.objs.size (h'.objs.size + 1) (min xs.length ys.length) (.lst ps) f) := fun c o e => by
          have hl : c < s1.heap.objs.size := (I1.hok c o e).lt
          rw [layZ_old (Nat.lt_of_lt_of_le hl nS) (Nat.lt_succ_of_lt (Nat.lt_of_lt_of_le hl nS))]
          exact e
        refine ⟨.ref h'.objs.size, _, I2, rfl, q _ _ ps old hS1 layZ_S hlen fun j x y ex ey => ⟨h'.objs.size + 1 + j, ?_, hT1 j, ?_⟩⟩
        · have hj : j < min xs.length ys.length := by
            have := (List.getElem?_eq_some_iff.mp ex).1
            have := (List.getElem?_eq_some_iff.mp ey).1
            omega
          show ((List.range _).map _)[j]? = _
          rw [List.getElem?_map, List.getElem?_range hj]
          rfl
        · have hj : j < min xs.length ys.length := by
            have := (List.getElem?_eq_some_iff.mp ex).1
            have := (List.getElem?_eq_some_iff.mp ey).1
            omega
          rw [layZ_T (Nat.lt_succ_self _) hj]
          show some (HO.tup [xs.getD j .non, ys.getD j .non]) = _
          rw [List.getD_eq_getElem?_getD, List.getD_eq_getElem?_getD, ex, ey]
          rfl
  exact Call_ (ld_blt I hg hm boot_list (PyProof.Rows.callWith_type1 (args_cons (thn hz fun v s2 hv => args_nil hv) na) na))
end
end My
/-! isinstance of a caught error of an own class that has a dict of its own -/
namespace My
open PySem PySem.Spec PySem.W PySem.Calls PyProof.Rows
section
variable {prog : Program} {w : World} {A : Around} {E : Value → Shared → Prop} {s : Shared} {K : PySem.W.Frag} {x D : Addr} {ox : Obj} {od : Option Obj}
theorem findObj_dataO {C : Addr} {name : Str} {a g : Value} (hc : (clsIn K C).isSome = true) (ha : findIn K (.ref C) name = some (some a)) (hg : specialIn K a "__get__" = some (some g)) (ht : takesIn K a = some true) : findObj K C od name = some (.bind g a) := by
  obtain ⟨cd, hc⟩ := Option.isSome_iff_exists.mp hc
  unfold findObj
  rw [hc, Option.bind_some, ha, Option.bind_some]
  simp [hg, ht]
theorem kin_classO {Q : Option Value → Shared → Prop} (C : L2.ExcC K D) (X : K.In s.heap) (I : PySem.W.InstAt s.heap x ox D od) (h : Q (some (.ref D)) { s with toks := s.toks + 1 }) : wpAny (model prog w) A (getAttr? (.ref x) "__class__") Q E s := by
  have hf : findObj K D od "__class__" = some (.bind (.builtin "getset_descriptor.__get__") (.builtin "object.__class__")) := findObj_dataO (by obtain ⟨cd, hc, _⟩ := any_some C.hd; rw [hc]; rfl) C.ha C.hn C.ht
  obtain ⟨hp, g, d, t, os⟩ := s
  have tyL := I.type (M := model prog w)
  have gaL := looks_findIn (M := model prog w) X C.hg
  have gtL := looks_findIn (M := model prog w) X C.hk
  have fdL := looks_find (M := model prog w) X I hf
  have sub : Looks (model prog w) hp (isInstance (.ref x) (.type "BaseException")) true := tyL.andThen (looks_subIn X C.hs)
  have ne : (Value.builtin "BaseException.__getattribute__" == Value.builtin "object.__getattribute__") = false := by decide +kernel
  have ne1 : (onTheHeap (Value.ref D) && Value.builtin "BaseException.__getattribute__" == Value.builtin "object.__getattribute__") = false := by rw [ne]; rfl
  unfold getAttr? getAttrBy? getAttrBy
  refine wpAny_bind (wpAny_mkText (wpAny_bind (wpAny_attempt (wpAny_holding (wpAny_bind (tyL.at (wpAny_bind (gaL.at ?_))))))))
  show wpAny _ _ (if (onTheHeap (Value.ref D) && Value.builtin "BaseException.__getattribute__" == Value.builtin "object.__getattribute__") = true then _ else _) _ _ _
  rw [ne1, if_neg Bool.false_ne_true]
  unfold getAttrByItsOwn hookBefore
  refine wpAny_bind ?_
  rw [if_pos (show onTheHeap (Value.ref D) = true from rfl)]
  refine gtL.at (wpAny_bind (wpAny_attempt (wpAny_holding ?_)))
  unfold callGetattribute
  rw [show (false && onTheHeap (Value.builtin "BaseException.__getattribute__")) = false from rfl, if_neg Bool.false_ne_true]
  unfold boundAndCalled
  rw [PySem.F.excAttr_ValueError.ga.bind (.ref x)]
  refine wpAny_bind (wpAny_pure ?_)
  show wpAny _ _ (call (.builtin "BaseException.__getattribute__") [.ref x, .str "__class__" t]) _ _ _
  refine wpAny_call (codeAny_call_builtin PySem.F.excAttr_ValueError.ga.plain PySem.F.entry_bexc_ga ?_)
  refine @check_slot (model prog w) _ _ ⟨hp, g, d, t + 1, os⟩ "BaseException.__getattribute__" "BaseException" "__getattribute__" (.ref x) [.str "__class__" t] [] _ (by decide +kernel) (by decide +kernel) sub (PySem.F.args_bexc_ga (.ref x) (.str "__class__" t)) ?_
  unfold Builtin.«object.__getattribute__»
  refine wpAny_bind (wpAny_of_eq (a := ((Value.ref x : Value), [Value.str "__class__" t])) (by first | rfl | (simp only [slotArgs]; rfl)) ?_)
  refine wpAny_bind (wpAny_pure (wpAny_bind (tyL.at (wpAny_bind (fdL.at ?_)))))
  show wpAny _ _ (holding [Value.builtin "object.__class__"] (call (.builtin "getset_descriptor.__get__") [.builtin "object.__class__", .ref x, .ref D]) >>= ret) _ _ _
  refine wpAny_bind (wpAny_holding (wpAny_call (class_get (s := ⟨hp, g, d, t + 1, os⟩) (ox := ox) (od := od) X I C.hm ?_)))
  refine wpAny_pure ?_
  show wpAny _ _ (handedOut (.ref D)) _ _ _
  rw [handedOut_of (v := .ref D) rfl]
  first
    | exact wpAny_pure (wpAny_pure h)
    | exact wpAny_pure h
    | exact wpAny_pure (wpAny_bind (wpAny_pure (wpAny_pure h)))
theorem kitx_O (C : L2.ExcC K D) : KitX K (.ref x) (.ref D) (fun h => PySem.W.InstAt h x ox D od) where
  ty := fun _ _ _ I => I.type
  it := fun _ _ X _ => by
    obtain ⟨cdD, hcD, _⟩ := any_some C.hd
    unfold clsIn at hcD
    split at hcD
    · rename_i c' d' cd' sl' ho
      intro A' Q' E' s' k q
      unfold isType loadHead
      exact wpAny_bind (wpAny_loadPart (k _ _ (X _ _ ho)) (wpAny_pure q))
    · cases hcD
  ne := fun h tp dd its n sl X htp => by
    obtain ⟨cdD, hcD, _⟩ := any_some C.hd
    refine Bool.eq_false_iff.mpr fun q => ?_
    have e : D = tp := Value.ref.inj (beq_iff_eq.mp q)
    subst e
    unfold clsIn at hcD
    split at hcD
    · rename_i c' d' cd' sl' ho
      have z := (X _ _ ho).symm.trans htp
      cases z
    · cases hcD
  ca := fun X I k => kin_classO C X I k
end
open L2
/-- isinstance(e, c), e the exception that the suite holds, its dict at dd -/
def rIsV (K : PySem.W.Frag) (D a dd : Addr) : List V → Hp → VK → Prop := fun xs H Q => ∃ (c : V) (cv : Value) (b : Bool) (fs : List (Str × V)), xs = [.ref a, c] ∧ H dd = some (.xd fs) ∧ (∀ u, RelV c u → u = cv) ∧ PySem.W.kitOne K (.ref D) cv = some b ∧ Q (.bl b) H
theorem call_isV {X : Cx} {a D dd : Addr} {oe : Obj} {pn : List (Addr × Obj)} (C : ExcC X.K D) (hz : Zc (.ref D) (some dd) oe) (hf : ∃ vs, oe.data = .fields vs) : CallR (X.suite a ((a, oe) :: pn)) (.builtin "isinstance") (rIsV X.K D a dd) := by
  intro pins s σ H xs us Q I r h
  obtain ⟨c, cv, b, fs, rfl, hd, hcv, e, q⟩ := h
  cases r with
  | cons rx rr =>
    cases rr with
    | cons rt rr =>
      cases rr
      cases rx
      have ec := hcv _ rt
      subst ec
      obtain ⟨hget, _⟩ := I.pin (a, oe) (List.mem_append.mpr (.inl List.mem_cons_self))
      obtain ⟨vs, hv⟩ := hf
      have hx : ObjOk X.prog X.w H s.heap dd (.xd fs) := I.hok dd _ hd
      obtain ⟨mA, ⟨od, es, ep, ho, _⟩, _⟩ := hx
      have J : PySem.W.InstAt s.heap a oe D (some od) := by
        obtain ⟨oc, od', oda, osl⟩ := oe
        obtain ⟨h1, h2⟩ := hz
        dsimp only at h1 h2 hv
        subst h1 h2 hv
        exact ⟨hget, rfl, rfl, ho⟩
      exact PySem.W.kia_one (kitx_O C) I.kIn J e (fun z => nomatch z) fun tk => ⟨.bl b, H, I.kept (t' := tk) fun _ _ z => z, rfl, q⟩
def tIsV (a dd : Addr) (i : Nat) (bs : List Bool) : TA := fun σ H Q => σ[i]? = some (some (.ref a)) ∧ (∃ fs, H dd = some (.xd fs)) ∧ Q (bs.map V.bl) H
section
variable {X : Cx} {a D dd : Addr} {oe : Obj} {pn : List (Addr × Obj)} {i : Nat}
theorem paIsV0 : PA (X.suite a ((a, oe) :: pn)) [] (tIsV a dd i []) := ⟨fun pos pins s σ H Q I h => (pa_nil (X := X.suite a ((a, oe) :: pn))).run pos pins s σ H Q I h.2.2⟩
theorem paIsV {x n : Str} {p p1 p2 pos : Pos} {C : Addr} {b : Bool} {bs : List Bool} {es : List Expr} (EC : ExcC X.K D) (hz : Zc (.ref D) (some dd) oe) (hf : ∃ vs, oe.data = .fields vs) (hk : PySem.W.kitOne X.K (.ref D) (.ref C) = some b)
    (hm : X.mg x = some (.ref C)) (bi : X.mg "isinstance" = none) (hg : Gl X x) (hgi : Gl X "isinstance") (hd : (x == ("__debug__" : Str)) = false) (hN : X.N[i]? = some n) (hv : Vis X.env.scope n) (hnd : (n == ("__debug__" : Str)) = false) (hnc : (n == ("__classdict__" : Str)) = false)
    (hr : PA (X.suite a ((a, oe) :: pn)) es (tIsV a dd i bs))
    (hs : starEach ((.Call (.Name "isinstance" p) [.Name n p1, .Name x p2] [] pos) :: es) X.env = (false, eval (.Call (.Name "isinstance" p) [.Name n p1, .Name x p2] [] pos) X.env) :: starEach es X.env := by rfl)
    (he : starEach (.Name n p1 :: [.Name x p2]) X.env = (false, eval (.Name n p1) X.env) :: starEach [.Name x p2] X.env := by rfl) :
    PA (X.suite a ((a, oe) :: pn)) ((.Call (.Name "isinstance" p) [.Name n p1, .Name x p2] [] pos) :: es) (tIsV a dd i (b :: bs)) := by
  have h1 : PE (X.suite a ((a, oe) :: pn)) (.Call (.Name "isinstance" p) [.Name n p1, .Name x p2] [] pos) (tCB (rIsV X.K D a dd) (tCons (tVar i) (tCons (tC (.ref C)) tNil))) :=
    pe_callB (call_isV EC hz hf) hgi bi (by decide +kernel) (pa_cons (pe_var hN hv hnd hnc) (pa_cons (pe_glob (v := .ref C) hg hm rfl hd) pa_nil rfl) he) (by decide) (by decide) rfl rfl
  refine ⟨fun pos' pins s σ H Q I h => (pa_cons h1 hr hs).run pos' pins s σ H Q I ?_⟩
  obtain ⟨h2, ⟨fs, hx⟩, h3⟩ := h
  exact ⟨_, h2, .ref C, .ref C, b, fs, rfl, hx, fun u r => r, hk, h2, ⟨fs, hx⟩, h3⟩
end
end My
/-! t[::-1] of a tuple -/
namespace My
open PySem PySem.Spec PyProof.Rows L2
theorem adjust_rev (n : Nat) : Builtin.Slice.sliceAdjust none none (-1) (n : Int) = ((n : Int) - 1, -1) := by
  unfold Builtin.Slice.sliceAdjust
  simp
theorem places_rev (n : Nat) : Builtin.Slice.slicePlaces ((n : Int) - 1) (-1) (-1) = n := by
  unfold Builtin.Slice.slicePlaces
  simp
  try omega
theorem fm_congr {α β : Type} {f g : α → Option β} : ∀ {l : List α}, (∀ x ∈ l, f x = g x) → l.filterMap f = l.filterMap g
  | [], _ => rfl
  | a :: l, h => by
    rw [List.filterMap_cons, List.filterMap_cons, h a (List.mem_cons_self ..), fm_congr fun x hx => h x (List.mem_cons_of_mem _ hx)]
theorem pick_rev (xs : Array Value) : ((List.range xs.size).filterMap fun (m : Nat) => xs[(((xs.size : Int) - 1) + (m : Int) * (-1)).toNat]?).toArray = xs.toList.reverse.toArray := by
  have e : (List.range xs.size).filterMap (fun (m : Nat) => xs[(((xs.size : Int) - 1) + (m : Int) * (-1)).toNat]?) = ((List.range xs.size).map fun k => xs.size - 1 - k).filterMap (xs[·]?) := by
    rw [List.filterMap_map]
    refine fm_congr fun k hk => ?_
    have := List.mem_range.mp hk
    have ei : (((xs.size : Int) - 1) + (k : Int) * (-1)).toNat = xs.size - 1 - k := by omega
    rw [ei]
    rfl
  rw [e, PySem.W.krv_range, List.filterMap_reverse, PySem.W.krv_all]
section
variable {prog : Program} {w : World} {A : Around} {E : Value → Shared → Prop} {s : Shared}
theorem sliceApplied_rev {sl : Addr} {vk : Value} {n : Nat} {Q : Int × Int × Nat → Shared → Prop} (hs : s.heap.IsSliceOf sl .none .none vk) (pk : IsPart vk (some (-1)))
    (h : Q ((n : Int) - 1, -1, n) s) : wpAny (model prog w) A (Builtin.Slice.sliceApplied (.ref sl) (pure (n : Int))) Q E s := by
  obtain ⟨os, hos, hcs, hds⟩ := id hs
  unfold Builtin.Slice.sliceApplied Builtin.Slice.sliceFields
  refine wpAny_bind (wpAny_bind (wpAny_field hos hds (x := .none) rfl (wpAny_bind (wpAny_field hos hds (x := .none) rfl (wpAny_bind (wpAny_field hos hds (x := vk) rfl (wpAny_pure ?_)))))))
  refine wpAny_bind (HT.slicePart_ pk ?_)
  show wpAny _ _ (if ((-1 : Int) == 0) = true then _ else _) _ _ s
  rw [if_neg (by decide)]
  refine wpAny_bind (HT.slicePart_ .none (wpAny_bind (HT.slicePart_ .none (wpAny_bind (wpAny_pure ?_)))))
  show wpAny _ _ (match Builtin.Slice.sliceAdjust none none (-1) (n : Int) with | (lo, hi) => pure (lo, (-1 : Int), Builtin.Slice.slicePlaces lo hi (-1))) _ _ s
  rw [adjust_rev n]
  show wpAny _ _ (pure ((n : Int) - 1, (-1 : Int), Builtin.Slice.slicePlaces ((n : Int) - 1) (-1) (-1))) _ _ s
  rw [places_rev]
  exact wpAny_pure h
theorem getItem_tuple_rev {t sl : Addr} {items : Array Value} {vk : Value} {Q : Value → Shared → Prop} (ht : IsTup s.heap t items) (hs : s.heap.IsSliceOf sl .none .none vk) (pk : IsPart vk (some (-1)))
    (h : Q (.ref s.heap.objs.size) { s with heap := s.heap.push { cls := .type "tuple", data := .seq items.toList.reverse.toArray } }) (hsz : items.size ≤ sizeLine) : wpAny (model prog w) A (getItem (.ref t) (.ref sl)) Q E s := by
  have hfit : sizeOk (.seq items.toList.reverse.toArray) := by
    show items.toList.reverse.toArray.size ≤ sizeLine
    rw [List.size_toArray, List.length_reverse, Array.length_toList]
    exact hsz
  obtain ⟨os, hos, hcs, hds⟩ := id hs
  have hTs : s.TypeIs (.ref sl) "slice" := ⟨os, hos, hcs⟩
  unfold getItem
  try with_reducible refine wpAny_holding ?_
  first | refine wpAny_bind (wpAny_pure ?_) | skip
  refine wpAny_bind (wpAny_sequenceKey ht.typeIs (by decide) ?_)
  refine wpAny_bind (wpAny_callSpecial?_slot (name := Str.ofString "__getitem__") ht.typeIs PyProof.Rows.slot_tuple_getitem
    (wpAny_call_entry PyProof.Rows.slot_tuple_getitem ht.typeIs PyProof.Rows.entry_tuple_getitem ?_ (PyProof.Rows.args_tuple_getitem _ _)))
  show wpAny _ _ (Builtin.Tuple.tupleItemsOf (.ref t) >>= _) _ _ s
  refine wpAny_bind (PyProof.Rows.tupleItemsOf_ ht ?_)
  refine wpAny_bind (wpAny_typeOf hTs ?_)
  rw [if_pos (by decide)]
  refine wpAny_bind (sliceApplied_rev hs pk ?_)
  show wpAny _ _ (if (((items.size : Int) - 1) == 0 && (-1 : Int) == 1 && items.size == items.size) = true then _ else _) _ _ s
  rw [if_neg (by simp), pick_rev]
  first
    | exact wpAny_bind (m := Builtin.Tuple.tupleExact _) (wpAny_newObj_type (wpAny_pure ⟨_, rfl, wpAny_pure h⟩) hfit)
    | exact wpAny_bind (m := Builtin.Tuple.tupleExact _) (wpAny_newObj_type (wpAny_bind (wpAny_pure (wpAny_pure ⟨_, rfl, wpAny_pure h⟩))) hfit)
    | exact wpAny_bind (wpAny_bind (m := Builtin.Tuple.tupleExact _) (wpAny_newObj_type (wpAny_pure (wpAny_pure ⟨_, rfl, wpAny_pure h⟩)) hfit))
    | exact wpAny_bind (wpAny_bind (m := Builtin.Tuple.tupleExact _) (wpAny_newObj_type (wpAny_pure ⟨_, rfl, wpAny_pure h⟩) hfit))
end
section
variable {X : Cx} {e k : Expr} {te tk : TE} {p2 pos : Pos}
/-- t[::-1] -/
def tRevT (K : PySem.W.Frag) (te : TE) (tk : TO) : TE := fun σ H Q => te σ H fun x H1 => tk σ H1 fun u H2 => ∃ a xs, x = .ref a ∧ u = some (-1) ∧ SqT K H2 a xs ∧ ∀ p, H2 p = none → Q (.ref p) (upd H2 p (.tup xs.reverse))
theorem pe_revT {to : TO} (he : PE X e te) (hk : PO X (some k) to) : PE X (.Subscript e (.Slice none none (some k) p2) pos) (tRevT X.K te to) := by
  refine ⟨fun pins s σ H Q I h => ?_⟩
  refine Subscript_ (thn (he.run pins s σ H _ I h) fun v s1 ⟨x, H1, I1, r1, q1⟩ => ?_)
  refine wpAny_Slice ?_
  rw [evalPart_none]
  refine wpAny_pure (wpAny_pure ?_)
  refine thn (hk.run pins s1 σ H1 _ I1 q1) fun vk s3 ⟨u, H3, I3, pk, a, xs, ex, eu, hx, q⟩ => ?_
  subst ex
  subst eu
  cases r1
  have I4 : Inv X pins σ H3 { s3 with heap := s3.heap.push { cls := .type "slice", data := .fields #[.none, .none, vk] } } := I3.kept (t' := s3.toks) fun b ob q => Heap.get?_push_of_some _ q
  obtain ⟨its, r, ht, hz⟩ := I4.tuple hx
  show wpAny (model X.prog X.w) X.A (subscriptTail e (.Slice none none (some k) p2) (.ref a) (.ref s3.heap.objs.size)) (EP X pins σ Q) X.xe { s3 with heap := s3.heap.push { cls := .type "slice", data := .fields #[.none, .none, vk] } }
  refine tail_any (ops := [.ref a, .ref s3.heap.objs.size]) ht.typeIs PyProof.Rows.slot_tuple_getitem.lookup ?_ (by with_unfolding_all rfl)
  refine getItem_tuple_rev ht (Heap.IsSliceOf.new ..) pk ?_ (by rw [List.size_toArray, ← r.length]; exact hz)
  refine ⟨.ref _, _, I4.laid (t' := s3.toks) (o := .tup xs.reverse) (fun b ob q => Heap.get?_push_of_some _ q) (Nat.le_refl _) ?_, rfl, q _ (I4.hok.fresh (Nat.le_refl _))⟩
  have rr : ∀ {xs : List V} {us : List Value}, Vals xs us → Vals xs.reverse us.reverse := fun {xs us} r => by
    induction r with
    | nil => exact .nil
    | cons a t ih => rw [List.reverse_cons, List.reverse_cons]; exact ih.append (.cons a .nil)
  exact ⟨by rw [List.length_reverse]; exact hz, its.reverse, rr r, IsTup.new _ _⟩
end
end My
/-! rules under a comprehension's letters -/
namespace My
open PySem L2
theorem pe_conv {X : Cx} {e : Expr} {t t' : TE} (h : PE X e t) (q : t = t') : PE X e t' := q ▸ h
end My
/-! x not in l, items by their own == -/
namespace My
open PySem PySem.Spec L2 PyProof.Rows PySem.MeetsSeq
section
variable {X : Cx} {k : Nat} {f C : Addr} {sp : Sp}
theorem eqB_own {A : Around} {pins : List (Addr × Obj)} {σ : L2.St} {H : Hp} {s : Shared} {a b dx dy : Addr} {fs gs : List (Str × V)} {e : Bool} (F : FnR X.prog X.w X.K X.mg X.base CX0 k f sp) (sb : Sub X k A)
    (hs : PySem.W.findIn X.K (.ref C) "__eq__" = some (some (.ref f))) (hf : PySem.W.isFn X.K (.ref f) = true) (I : Inv X pins σ H s) (ha : H a = some (.ins C dx fs)) (hb : H b = some (.ins C dy gs)) (self : a = b → e = true)
    (h : sp [.ref a, .ref b] H (fun v H' => v = .bl e ∧ H' = H) E0) : wpAny (model X.prog X.w) A (eqBool (.ref a) (.ref b)) (fun r s' => r = e ∧ Inv X pins σ H s') X.xe s := by
  by_cases hab : a = b
  · subst hab
    exact SeqAt.EqAt.same (A := A) (s := s) (.ref a) X.prog X.w X.xe _ ⟨(self rfl).symm, I⟩
  obtain ⟨mA, J, _⟩ := ins_get I.hok ha
  obtain ⟨mB, J', _⟩ := ins_get I.hok hb
  obtain ⟨od, J, _⟩ := J.look
  obtain ⟨od', J', _⟩ := J'.look
  obtain ⟨m, hF⟩ := I.fr
  refine GQ.eqBool_refG hab ?_
  refine PySem.W.cmp_K (op := .Eq) (tb := .ref C) sb.room.units0 hF I.ok.mod.kin J J'.type (by simp [PySem.W.notFirst]) hs hf ?_
  have e0 : Env0 X.prog X.w X.K X.mg X.base A X.stack s H := by
    have e := I.env0
    exact ⟨by rw [sb.fr]; exact e.frames, e.mod, e.bs, e.bsz, e.funs, e.frf, e.hok, e.bare⟩
  refine wpAny_call (codeAny_mono (F A X.stack s H [.ref a, .ref b] [.ref a, .ref b] _ E0 sb.room e0 (.cons rfl (.cons rfl .nil)) h) fun r s' hq => ?_)
  cases r with
  | error e => exact (show False from hq).elim
  | ok fl =>
    cases fl with
    | ret w =>
      obtain ⟨z, H', I', rz, ez, eH⟩ := I.after hq
      subst ez eH
      cases rz
      exact ⟨e, rfl, rfl, I'⟩
    | next => exact False.elim hq
    | brk => exact False.elim hq
    | cont => exact False.elim hq
open PySem.SeqAt in
theorem has_loopO {A : Around} {pins : List (Addr × Obj)} {σ : L2.St} {H : Hp} {R : Result → Shared → Prop} {l a : Addr} {xs : List V} {es : List Bool} (hl : H l = some (.lst xs)) (hle : es.length = xs.length)
    (turn : ∀ (i : Nat) (x : V), xs[i]? = some x → ∃ (b : Addr) (e : Bool), x = .ref b ∧ es[i]? = some e ∧ ∀ s, Inv X pins σ H s → wpAny (model X.prog X.w) A.in1 (eqBool (.ref b) (.ref a)) (fun r s' => r = e ∧ Inv X pins σ H s') (fun e s' => R (.error e) s') s) (n : Nat) :
    ∀ (i : Nat), xs.length - i = n → i ≤ xs.length → (∀ s, Inv X pins σ H s → R (.ok (.ret (.bool ((es.drop i).any id)))) s) → ∀ s, Inv X pins σ H s →
      wpAny (model X.prog X.w) A.in1 (Builtin.«list.__contains__.loop» ⟨[.ref l, .ref a, rawInt i], []⟩) (GQ.FinOf X.prog X.w A R) (fun e s' => R (.error e) s') s := by
  induction n with
  | zero =>
    intro i hk hi hR s I
    obtain ⟨hz, its, ep, rv, hob⟩ := I.hok l _ hl
    have hR := hR s I
    have hsz : its.toArray.size = xs.length := by rw [List.size_toArray, rv.length]
    rw [List.drop_eq_nil_of_le (by omega)] at hR
    obtain ⟨hp, g, d, tk, os⟩ := s
    wp_walk using wpAny_loadPart' hob
    have hi1 : its.toArray[((i : Nat) : Int).toNat]? = none := by simp; rw [← rv.length]; omega
    rw [hi1]
    wp_walk
    exact hR
  | succ n ih =>
    intro i hk hi hR s I
    obtain ⟨hz, its, ep, rv, hob⟩ := I.hok l _ hl
    have hlt : i < xs.length := by omega
    obtain ⟨b, e, eb, ee, ht⟩ := turn i xs[i] (List.getElem?_eq_getElem hlt)
    have ht := ht s I
    have hsz : i < its.length := by rw [← rv.length]; exact hlt
    have hv : its[i]? = some (.ref b) := by
      obtain ⟨u, hu, ru⟩ := rv.get (List.getElem?_eq_getElem hlt)
      rw [eb] at ru
      cases ru
      exact hu
    have hd : es.drop i = e :: es.drop (i + 1) := by
      obtain ⟨h1, h2⟩ := List.getElem?_eq_some_iff.mp ee
      rw [List.drop_eq_getElem_cons h1, h2]
    obtain ⟨hp, g, d, tk, os⟩ := s
    wp_walk using wpAny_loadPart' hob
    have hi1 : its.toArray[((i : Nat) : Int).toNat]? = some (.ref b) := by simpa using hv
    have hc : ((i : Int) + 1) = ((i + 1 : Nat) : Int) := by omega
    rw [hi1]
    refine wpAny_bind (wpAny_mono ht (fun r s2 h2 => ?_) fun _ _ x => x)
    obtain ⟨hr, I2⟩ := h2
    rw [← hr] at hd
    cases he : r with
    | true =>
      have := hR s2 I2
      rw [hd, List.any_cons, he] at this
      obtain ⟨hp2, g2, d2, tk2, os2⟩ := s2
      wp_walk
      exact this
    | false =>
      have hrec := ih (i + 1) (by omega) (by omega) (fun s' I' => by have := hR s' I'; rw [hd, List.any_cons, he] at this; simpa using this) s2 I2
      obtain ⟨hp2, g2, d2, tk2, os2⟩ := s2
      wp_walk
      rw [hc]
      exact ⟨plainId_quiet plain_contains_loop _, codeAny_builtin entry_contains_loop (by
        rw [Around.under_plainId plain_contains_loop _]
        exact hrec)⟩
def rNotInO (C : Addr) (sp : Sp) : R2 := fun x y H Q => ∃ l xs a dx fs, ∃ es : List Bool, y = .ref l ∧ x = .ref a ∧ H l = some (.lst xs) ∧ H a = some (.ins C dx fs) ∧ es.length = xs.length ∧ (∀ (i : Nat) (z : V), xs[i]? = some z → ∃ (b dy : Addr) (gs : List (Str × V)) (e : Bool), z = .ref b ∧ es[i]? = some e ∧ H b = some (.ins C dy gs) ∧ (b = a → e = true) ∧ sp [.ref b, .ref a] H (fun v H' => v = .bl e ∧ H' = H) E0) ∧ Q (.bl (!es.any id)) H
theorem op_notInO (F0 : FnR X.prog X.w X.K X.mg X.base CX0 k f sp) (hr : Room (k + 1) X.A)
    (hs : PySem.W.findIn X.K (.ref C) "__eq__" = some (some (.ref f))) (hf : PySem.W.isFn X.K (.ref f) = true) : OpR X (compareOp .NotIn) (rNotInO C sp) := by
  intro pins s σ H x y v u Q I rx ry hq
  obtain ⟨l, xs, a, dx, fs, es, rfl, rfl, hl, ha, hle, turn, q⟩ := hq
  cases rx
  cases ry
  obtain ⟨hz, its, ep, rv, hob⟩ := I.hok l _ hl
  have key : ∀ (Qv : Value → Shared → Prop), (∀ s', Inv X pins σ H s' → Qv (.bool (es.any id)) s') → wpAny (model X.prog X.w) X.A (call (.builtin "list.__contains__") [.ref l, .ref a]) Qv X.xe s := by
    intro Qv hQ
    refine GQ.call_here F.slot_list_contains ⟨_, hob, rfl⟩ F.entry_list_contains (F.args_list_contains_2 _ _) ?_
    have hrec := has_loopO (A := X.A) (R := wants Qv X.xe) (es := es) (a := a) hl hle (fun i z hz => by
      obtain ⟨b, dy, gs, e, rfl, ee, hb, self, h⟩ := turn i z hz
      exact ⟨b, e, rfl, ee, fun s' I' => eqB_own F0 (Sub.in1 (n := k) ⟨hr, rfl⟩) hs hf I' hb ha self h⟩) _ 0 rfl (Nat.zero_le _) (fun s' I' => hQ s' I') s I
    obtain ⟨hp, g, d, tk, os⟩ := s
    wp_walk using wpAny_loadPart' hob
    exact ⟨plainId_quiet plain_contains_loop _, codeAny_builtin entry_contains_loop (by
      rw [Around.under_plainId plain_contains_loop _]
      exact hrec)⟩
  show wpAny _ X.A (do return Value.bool (!(← contains (.ref l) (.ref a)))) _ X.xe s
  exact wpAny_bind (wpAny_contains_slot ⟨_, hob, rfl⟩ F.slot_list_contains (key _ fun s' I' => wpAny_truthy_bool (wpAny_pure ⟨.bl _, H, I', rfl, q⟩)))
end
end My
/-! sorted(xs, key=lambda a: ..) -/
namespace My
open PySem PySem.Spec L2 LamX PyProof.Rows PySem.W PySem.Calls
/-- one parameter, no other name of its own: captured ones and globals -/
structure LamS1 (sc scope : Scope) (a : Str) : Prop where
  kind : scope.kind = .function
  co : scope.isCoroutine = false
  gen : scope.isGenerator = false
  par : scope.names.lookup a = some .local
  own : ∀ y ∈ scope.names, y.2 ≠ .cell ∧ (y.2 = .local → y.1 = a)
  free : ∀ y ∈ scope.names, y.2 = .free → sc.names.lookup y.1 = some .cell ∨ sc.names.lookup y.1 = some .free
def lamS1B (sc scope : Scope) (a : Str) : Bool :=
  decide (scope.kind = .function) && !scope.isCoroutine && !scope.isGenerator && decide (scope.names.lookup a = some .local) && scope.names.all fun y => !decide (y.2 = .cell) && (!decide (y.2 = .local) || decide (y.1 = a)) && (!decide (y.2 = .free) || decide (sc.names.lookup y.1 = some .cell) || decide (sc.names.lookup y.1 = some .free))
theorem lamS1_by {sc scope : Scope} {a : Str} (h : lamS1B sc scope a = true) : LamS1 sc scope a := by
  unfold lamS1B at h
  simp only [Bool.and_eq_true, Bool.or_eq_true, Bool.not_eq_true', decide_eq_true_eq, decide_eq_false_iff_not, List.all_eq_true] at h
  obtain ⟨⟨⟨⟨h1, h2⟩, h3⟩, h5⟩, h4⟩ := h
  refine ⟨h1, h2, h3, h5, fun y hy => ⟨(h4 y hy).1.1, fun e => ?_⟩, fun y hy e => ?_⟩
  · rcases (h4 y hy).1.2 with z | z
    · exact absurd e z
    · exact z
  · rcases (h4 y hy).2 with (z | z) | z
    · exact absurd e z
    · exact .inl z
    · exact .inr z
theorem LamS1.has {X : Cx} {scope : Scope} {a : Str} (L : LamS1 X.env.scope scope a) (ok : X.Ok) : ∀ y ∈ scope.names, y.2 = .free → ∃ c, X.env.cells.lookup y.1 = some c := fun y hy e => by
  rcases L.free y hy e with k | k
  · exact ok.has _ (.inl k)
  · exact ok.has _ (.inr k)
/-- the context of the lambda's body, entered at s from the frames outer -/
def lamCx1 (X : Cx) (A : Around) (outer : List Env) (s : Shared) (H : Hp) (E : XK) (scope : Scope) (f c' : Addr) (a : Str) : Cx where
  prog := X.prog
  w := X.w
  K := X.K
  mg := X.mg
  base := X.base
  A := A.deeper (lamEnv X scope s.heap.objs.size f c')
  N := X.N ++ [a]
  s_0 := s
  H_0 := H
  env := lamEnv X scope s.heap.objs.size f c'
  outer := outer
  stack := lamEnv X scope s.heap.objs.size f c' :: outer
  ex := []
  fn := fun _ => false
  calm := true
  pn := []
  xe := fun e s' => wpAny (model X.prog X.w) (A.deeper (lamEnv X scope s.heap.objs.size f c')) (leaving (lamEnv X scope s.heap.objs.size f c') e) (fun _ s'' => L2.CX X.prog X.w outer H s E e s'') (fun e' s'' => L2.CX X.prog X.w outer H s E e' s'') s'
section
variable {X : Cx} {pins : List (Addr × Obj)} {σ : L2.St} {H : Hp} {s : Shared}
theorem lam_start1 {A : Around} {outer : List Env} {E : XK} {scope : Scope} {f c' : Addr} {a : Str} {x : V} {v : Value} {h₁ : Heap} {tk : Nat} (I : Inv X pins σ H s) (L : LamS1 X.env.scope scope a) (hna : a ∉ X.N) (e0 : Env0 X.prog X.w X.K X.mg X.base A outer s H) (hd : A.handled = none) (rx : RelV x v)
    (hns : h₁.Ns s.heap.objs.size fun y => ([(a, v)] : List (Str × Value)).reverse.lookup y) (kp : ∀ b o, s.heap.get? b = some o → h₁.get? b = some o) :
    Inv (lamCx1 X A outer s H E scope f c' a) [] (σ ++ [some x]) H { s with heap := h₁, toks := tk } := by
  have hfree := L.has I.ok
  have cm : ∀ {y c}, (cloFrom X.env.cells scope.names []).lookup y = some c → X.env.cells.lookup y = some c := fun {y c} e => by
    rcases cloFrom_mem (PySem.mem_of_lookup e) with hm | ⟨h1, h2⟩
    · cases hm
    · obtain ⟨c1, hc⟩ := hfree _ h1 rfl
      have hc : X.env.cells.lookup y = some c1 := hc
      have e2 : c = c1 := by
        rw [h2, hc] <;> rfl
      rw [e2]
      exact hc
  have look : ∀ {y}, scope.names.lookup y = some .free → ∃ c, (cloFrom X.env.cells scope.names []).lookup y = some c := fun {y} hl => by
    have hy : (y, NameKind.free) ∈ scope.names := PySem.mem_of_lookup hl
    exact mem_lookup (cloFrom_has (cells := X.env.cells) (acc := []) hy)
  have cellK : ∀ {c : Addr} {v : Option Value}, s.heap.IsCell c v → h₁.IsCell c v := fun {c v} ⟨o, ho, hd⟩ => ⟨_, kp _ _ ho, hd⟩
  have noA : ∀ b : Addr, b ∉ (lamCx1 X A outer s H E scope f c' a).ex := fun b z => absurd (show b ∈ ([] : List Addr) from z) (by simp)
  refine ⟨⟨e0.mod, L.kind, rfl, rfl, Nat.le_refl _, fun y z c e1 e2 => I.ok.inj y z c (cm e1) (cm e2), fun y hy => ?_, fun y c z _ => ?_, fun _ => hd, Around.frames_deeper e0.frames, .inr ⟨rfl, rfl⟩, fun b z => absurd z (noA b), e0.bs, e0.bsz, fun b _ _ => noA b,
      fun b z => absurd z (noA b), e0.funs, e0.frf⟩,
    rfl, e0.bare, Un.kept kp, ⟨_, hns, fun i y v' e1 e2 e3 => ?_⟩, fun y c e => ?_, e0.hok.fresh (Nat.le_refl _), fun y c e => I.freeC y c (cm e), fun q hq => absurd (show q ∈ ([] : List (Addr × Obj)) ++ [] from hq) (by simp), e0.hok.kept kp, ?_⟩
  · have hy : scope.names.lookup y = some .cell ∨ scope.names.lookup y = some .free := hy
    rcases hy with hy | hy
    · exact absurd rfl (L.own _ (PySem.mem_of_lookup hy)).1
    · exact look hy
  · have z : false = true := z
    cases z
  · have e1 : (X.N ++ [a])[i]? = some y := e1
    have e3 : Vis scope y := e3
    by_cases hi : i < X.N.length
    · rw [List.getElem?_append_left hi] at e1
      rw [List.getElem?_append_left (by rw [I.len]; exact hi)] at e2
      have ny : y ≠ a := fun z => hna (by rw [← z]; exact List.mem_of_getElem? e1)
      rcases e3 with k | k | k
      · exact absurd ((L.own _ (PySem.mem_of_lookup k)).2 rfl) ny
      · exact absurd rfl (L.own _ (PySem.mem_of_lookup k)).1
      · obtain ⟨m, hn, hl⟩ := I.loc
        have hvis : Vis X.env.scope y := (L.free _ (PySem.mem_of_lookup k) rfl).elim (fun k => .inr (.inl k)) (fun k => .inr (.inr k))
        obtain ⟨w', r, q⟩ := hl i y v' e1 e2 hvis
        obtain ⟨c2, h2⟩ := look k
        refine ⟨w', r, .inr ⟨.inr k, c2, h2, ?_⟩⟩
        have c1 := cm h2
        rcases q with ⟨k', _⟩ | ⟨_, c3, e', z⟩
        · have k' : X.env.scope.names.lookup y = some .local := k'
          rcases L.free _ (PySem.mem_of_lookup k) rfl with k2 | k2 <;> rw [show X.env.scope.names.lookup y = _ from k2] at k' <;> cases k'
        · rw [c1] at e'
          cases e'
          exact cellK z
    · rw [List.getElem?_append_right (by omega)] at e1
      rw [List.getElem?_append_right (by rw [I.len]; omega)] at e2
      have hz : i - X.N.length = 0 := by
        have := (List.getElem?_eq_some_iff.mp e1).1
        rw [List.length_singleton] at this
        omega
      rw [hz] at e1
      rw [I.len, hz] at e2
      have ey : y = a := (Option.some.inj e1).symm
      have ev : v' = x := (Option.some.inj (Option.some.inj e2)).symm
      subst ey ev
      refine ⟨v, rx, .inl ⟨L.par, ?_⟩⟩
      simp [List.lookup]
  · obtain ⟨w', z⟩ := I.cell y c (cm e)
    exact ⟨w', cellK z⟩
  · show (σ ++ [some x]).length = (X.N ++ [a]).length
    rw [List.length_append, List.length_append, I.len]
    rfl
/-- the lambda is called -/
theorem lam_call1 {A : Around} {params : Arguments} {body : Expr} {scope : Scope} {f c' : Addr} {a : Str} {k : Nat} {x : V} {v pm ctv : Value} {tb : TE} {Q : VK} {E : Value → Shared → Prop} (I : Inv X pins σ H s) (L : LamS1 X.env.scope scope a) (hna : a ∉ X.N) (sb : Sub X (k + 1) A)
    (hf : s.heap.get? f = some (PySem.W.kla_obj "<lambda>" (X.env.qual ++ "<lambda>") params body scope (cloFrom X.env.cells scope.names []) pm c' ctv)) (hfn : H f = none) (hfr : f ∉ frs X.stack) (hc : H c' = some (CodeO c' (X.env.qual ++ "<lambda>")))
    (hbind : ∀ v, bindArgs (PySem.W.kla_fn "<lambda>" (X.env.qual ++ "<lambda>") params body scope (cloFrom X.env.cells scope.names []) pm (.ref c') ctv) ⟨[v], []⟩ = pure [(a, v)])
    (hbody : ∀ (A : Around) (outer : List Env) (s : Shared) (H : Hp), Room k (A.deeper (lamEnv X scope s.heap.objs.size f c')) → PE (lamCx1 X A outer s H C8.E0 scope f c' a) body tb) (rx : RelV x v) (ht : tb (σ ++ [some x]) H Q) :
    wpAny (model X.prog X.w) A (call (.ref f) [v]) (fun r s' => ∃ z H', Inv X pins σ H' s' ∧ RelV z r ∧ Q z H' ∧ H' f = none ∧ s'.heap.get? f = some (PySem.W.kla_obj "<lambda>" (X.env.qual ++ "<lambda>") params body scope (cloFrom X.env.cells scope.names []) pm c' ctv)) E s := by
  obtain ⟨⟨oc, vs, t, hoc, hdc, hvc⟩, _, _⟩ := I.hok c' _ hc
  have e0 : Env0 X.prog X.w X.K X.mg X.base A X.stack s H := by
    have e := I.env0
    exact ⟨by rw [sb.fr]; exact e.frames, e.mod, e.bs, e.bsz, e.funs, e.frf, e.hok, e.bare⟩
  have rc : codeAny (model X.prog X.w) A (.call (.ref f) ⟨[v], []⟩) (CR (L2.CX X.prog X.w) X.stack X.prog X.w H s Q C8.E0) s := by
    refine PySem.W.kla_callFunE sb.room.depth hf rfl L.co L.gen rfl ⟨c', oc, vs, t, rfl, hoc, hdc, hvc⟩ ?_
    rw [hbind v]
    refine wpAny_pure (wpAny_newFunctionEnv (fun y hy => (L.own y hy).1) (fun y hy => by
      rw [List.mem_singleton.mp hy]; exact L.par) (fun h₁ hns hsb => ⟨I.nolimit.fresh _ hsb, ?_⟩) L.kind)
    show codeAny _ _ (.expr body (lamEnv X scope s.heap.objs.size f c')) _ _
    have kp : ∀ b o, s.heap.get? b = some o → h₁.get? b = some o := fun b o e => hsb.extBut b o (Nat.ne_of_lt (Heap.lt_size e)) (Heap.get?_push_of_some _ e)
    have J : Inv (lamCx1 X A X.stack s H C8.E0 scope f c' a) [] (σ ++ [some x]) H { s with heap := h₁, toks := s.toks + ([(a, v)] : List (Str × Value)).length } :=
      lam_start1 I L hna e0 sb.room.hd rx hns kp
    refine PySem.W.kla_codeExpr (wpAny_mono ((hbody _ _ s H (sb.room.deeper _)).run [] _ _ H Q J ht) (fun v s' hq => ?_) fun e s' hq => hq)
    obtain ⟨w', H', J', rv, q⟩ := hq
    exact ⟨w', H', J'.os, J'.bare, J'.base, J'.hok, rv, q⟩
  refine wpAny_call (codeAny_mono rc fun r s' hq => ?_)
  cases r with
  | error e =>
    exfalso
    obtain ⟨_, _, _, _, _, _, _, _, _, _, _, _, _, _, _, _, z⟩ := hq
  | ok fl =>
    cases fl with
    | ret u =>
      have un : ∃ z H', s'.os = s.os ∧ AllBare s'.gens ∧ Un (frs X.stack) [] H H' s.heap s'.heap ∧ HOk X.prog X.w H' s'.heap ∧ RelV z u ∧ Q z H' := hq
      obtain ⟨z, H', os, bare, un, hok, rz, q⟩ := un
      exact ⟨z, H', I.call' (ch := []) os un hok bare (fun b z => absurd z (by simp)), rz, q, un.free f _ hf hfn (by simp), un.keep f _ hf hfn hfr (by simp)⟩
    | next => exact False.elim hq
    | brk => exact False.elim hq
    | cont => exact False.elim hq
/-- one object, known to the letter -/
def ExactO (ob : Obj) (a : Addr) : HO := .ext fun h => h.get? a = some ob
theorem exact_ok {P : Program} {w : World} {H : Hp} {h : Heap} {a : Addr} {ob : Obj} (e : h.get? a = some ob) : ObjOk P w H h a (ExactO ob a) := ⟨e, ⟨ob, e⟩, fun g1 g2 z k => k ob z⟩
/-! keys without lists -/
mutual
def nlB : PyData → Bool
  | .list _ => false
  | .tuple xs => nlAll xs
  | _ => true
def nlAll : List PyData → Bool
  | [] => true
  | x :: xs => nlB x && nlAll xs
end
mutual
theorem Dp.keepN {K : PySem.W.Frag} {H H' : Hp} {d : Addr} {ys : List V} (hd : H d = some (.lst ys)) (k : Keep d H H') : ∀ {v : V} {p : PyData}, nlB p = true → Dp K H v p → Dp K H' v p
  | _, _, _, .non => .non
  | _, _, _, .bl b => .bl b
  | _, _, _, .int i => .int i
  | _, _, _, .str x => .str x
  | _, _, n, .lst _ _ => by cases n
  | _, _, n, .tup h t => .tup (keep_T h hd k) (DpAll.keepN hd k n t)
theorem DpAll.keepN {K : PySem.W.Frag} {H H' : Hp} {d : Addr} {ys : List V} (hd : H d = some (.lst ys)) (k : Keep d H H') : ∀ {vs : List V} {ps : List PyData}, nlAll ps = true → DpAll K H vs ps → DpAll K H' vs ps
  | _, _, _, .nil => .nil
  | _, _, n, .cons h t => by
    have n := (Bool.and_eq_true _ _).mp n
    exact .cons (Dp.keepN hd k n.1 h) (DpAll.keepN hd k n.2 t)
end
mutual
theorem dp_same {K : PySem.W.Frag} {H H' : Hp} (s : Same H H') : ∀ {v : V} {p : PyData}, Dp K H v p → Dp K H' v p
  | _, _, .non => .non
  | _, _, .bl b => .bl b
  | _, _, .int i => .int i
  | _, _, .str x => .str x
  | _, _, .lst h t => .lst (s.seq h) (dps_same s t)
  | _, _, .tup h t => .tup (same_T s h) (dps_same s t)
theorem dps_same {K : PySem.W.Frag} {H H' : Hp} (s : Same H H') : ∀ {vs : List V} {ps : List PyData}, DpAll K H vs ps → DpAll K H' vs ps
  | _, _, .nil => .nil
  | _, _, .cons h t => .cons (dp_same s h) (dps_same s t)
end
theorem nl_take : ∀ {ps : List PyData}, nlAll ps = true → ∀ i, nlAll (ps.take i) = true
  | [], _, i => by rw [List.take_nil]; rfl
  | x :: xs, n, 0 => rfl
  | x :: xs, n, i + 1 => by
    have n := (Bool.and_eq_true _ _).mp n
    show (nlB x && nlAll (xs.take i)) = true
    rw [n.1, nl_take n.2 i]
    rfl
theorem nl_at : ∀ {ps : List PyData}, nlAll ps = true → ∀ {i : Nat} {p : PyData}, ps[i]? = some p → nlB p = true
  | x :: xs, n, 0, p, h => by cases h; exact ((Bool.and_eq_true _ _).mp n).1
  | x :: xs, n, i + 1, p, h => nl_at ((Bool.and_eq_true _ _).mp n).2 (i := i) (by simpa using h)
theorem dp_snoc {K : PySem.W.Frag} {H : Hp} {v : V} {p : PyData} (h : Dp K H v p) : ∀ {vs : List V} {ps : List PyData}, DpAll K H vs ps → DpAll K H (vs ++ [v]) (ps ++ [p])
  | _, _, .nil => .cons h .nil
  | _, _, .cons g t => .cons g (dp_snoc h t)
theorem vals_snoc {v : V} {u : Value} (h : RelV v u) : ∀ {vs : List V} {us : List Value}, Vals vs us → Vals (vs ++ [v]) (us ++ [u])
  | _, _, .nil => .cons h .nil
  | _, _, .cons g t => .cons g (vals_snoc h t)
/-- the keys are let go, the items stand in the list -/
def Ended (a kS : Addr) (out : List Value) (P : PySem.Fin → Shared → Prop) (s : Shared) : Prop := ∀ tk, P (.done (.ret .none)) { s with heap := (s.heap.update kS (Obj.mapSeq fun _ => (#[] : Array Value))).update a (Obj.mapSeq fun _ => out.toArray), toks := tk }
theorem endI {A : Around} {E : Value → Shared → Prop} {P : PySem.Fin → Shared → Prop} {a kS : Addr} {e1 n : Nat} {st : SortSt} {ka : Array Value} {out : List Value} (hk : s.heap.get? kS = some (seqObj "list" ka n)) (ha : s.heap.get? a = some (seqObj "list" #[] e1)) (ne : kS ≠ a)
    (z1 : ka.size ≤ sizeLine) (z2 : out.length ≤ sizeLine) (nf : failedOf st = none) (eo : (arrOf st).map (·.2) = out.toArray) (fin : Ended a kS out P s) :
    wpAny (model X.prog X.w) A (ksk_tail a false e1 (.ref kS) st) P E s := by
  have g1 := get?_update_seq hk fun _ => (#[] : Array Value)
  have a1 : (s.heap.update kS (Obj.mapSeq fun _ => (#[] : Array Value))).get? a = some (seqObj "list" #[] e1) := by rw [Heap.get?_update_ne _ _ _ _ ne.symm]; exact ha
  unfold ksk_tail
  dsimp only
  rw [eo, nf]
  refine wpAny_bind (listUpdate_at hk rfl ?_ z1 (Nat.zero_le _))
  refine wpAny_bind (wpAny_letGo (wpAny_bind (seqEpoch_at a1 rfl ?_)))
  refine wpAny_bind (listUpdate_at a1 rfl ?_ (Nat.zero_le _) (by rw [if_neg (by decide)]; show out.toArray.size ≤ _; rw [List.size_toArray]; omega))
  simp only [bne_self_eq_false, Bool.false_eq_true, if_false]
  exact wpAny_pure (fin _)
theorem mergeI {A : Around} {E : Value → Shared → Prop} {P : PySem.Fin → Shared → Prop} {a kS : Addr} {e1 n : Nat} {ka : Array Value} {its : List Value} {κ : PyProof.Rows.KeyKind} (hk : s.heap.get? kS = some (seqObj "list" ka n)) (ha : s.heap.get? a = some (seqObj "list" #[] e1)) (ne : kS ≠ a)
    (S : SortsAt X.prog X.w A s κ ka.toList) (hz : ka.size = its.length) (z : its.length ≤ sizeLine) (fin : Ended a kS (sortVals κ false ka.toList its) P s) :
    wpAny (model X.prog X.w) A (ksk_end a false its.toArray e1 (.ref kS) ka) P E s := by
  obtain ⟨kd, lt, kn⟩ := S.kind
  have KO : PyProof.Rows.KeysOf κ (ka.zip its.toArray) := keysOf_zip S.keys
  have lo : (sortVals κ false ka.toList its).length = its.length := sortVals_length false (by rw [Array.length_toList]; exact hz)
  have zz : (ka.zip its.toArray).size = its.length := by rw [Array.size_zip, hz, List.size_toArray, Nat.min_self]
  have outs : ∀ st' : SortSt, (arrOf st').Perm (ka.zip its.toArray) → SortedToK κ (arrOf st') (ka.zip its.toArray).size → Stable κ (arrOf st') (ka.zip its.toArray) → (arrOf st').map (·.2) = (sortVals κ false ka.toList its).toArray := fun st' p1 p2 p3 => by
    have r := sort_out (rev := false) (keys := ka) (items := its.toArray) (xs := arrOf st') (κ := κ) KO p1 p2 p3
    have r := congrArg List.toArray r
    rw [Array.toArray_toList] at r
    exact r
  unfold ksk_end
  dsimp only
  rw [if_neg (show ¬ (false = true) by decide)]
  by_cases few : its.toArray.size < 2
  · rw [if_pos few, if_pos few]
    refine wpAny_bind (wpAny_pure ?_)
    rw [StateT.run_pure]
    refine wpAny_bind (wpAny_pure ?_)
    refine endI (X := X) (st := SortSt.mk' general' (ka.zip its.toArray) #[] 7 none) hk ha ne (by omega) (by omega) rfl (outs _ (Array.Perm.refl _) (fun i j hij hj => ?_) (Stable.refl _)) fin
    rw [zz] at hj
    rw [List.size_toArray] at few
    obtain rfl : i = j := by omega
    exact KeyOrd.kle_refl _
  · rw [if_neg few, if_neg few]
    rw [List.size_toArray] at few
    refine wpAny_bind (kn (by rw [Array.length_toList]; omega) _ ?_)
    refine wpAny_bind (wpAny_mono (H.wpS_sortRunsSt (κ := κ) (kd := kd) (a₀ := ka.zip its.toArray) (st := SortSt.mk' kd (ka.zip its.toArray) #[] 7 none) (Q := fun _ st' => failedOf st' = none ∧ (arrOf st').map (·.2) = (sortVals κ false ka.toList its).toArray) lt KO ⟨Array.Perm.refl _, rfl, rfl⟩ rfl (Stable.refl _) (by omega) fun st' p1 p2 p3 p4 => ⟨p2, outs st' p1 p3 p4⟩) ?_ fun _ _ e => e)
    rintro ⟨⟨⟩, st'⟩ s' ⟨rfl, f1, f2⟩
    exact endI (X := X) hk ha ne (by omega) (by omega) f1 f2 fin
/-- what stands while the keys are made -/
structure Keying (X : Cx) (pins : List (Addr × Obj)) (σ : L2.St) (H : Hp) (a kS f : Addr) (ob fo : Obj) (ds : List PyData) (i : Nat) (s : Shared) : Prop where
  ex : ∃ Hi ks, Inv X pins σ Hi s ∧ Same H Hi ∧ Hi kS = some (.lst ks) ∧ Hi a = some (ExactO ob a) ∧ Hi f = none ∧ s.heap.get? f = some fo ∧ DpAll X.K Hi ks (ds.take i)
theorem dpl {K : PySem.W.Frag} {H : Hp} : ∀ {vs : List V} {ps : List PyData}, DpAll K H vs ps → vs.length = ps.length
  | _, _, .nil => rfl
  | _, _, .cons _ t => congrArg Nat.succ (dpl t)
theorem each_reads {us : List Value} {ds : List PyData} (I : Inv X pins σ H s) : ∀ {vs : List V} {us : List Value} {ds : List PyData}, Vals vs us → DpAll X.K H vs ds → EachIs (fun v d => ∃ as, Reads s.heap v d as) us ds
  | _, _, _, .nil, .nil => .nil
  | _, _, _, .cons r t, .cons h g => .cons (Dp.reads I _ _ _ h r) (each_reads (us := us) (ds := ds) I t g)
theorem restI {A : Around} {E : Value → Shared → Prop} {P : PySem.Fin → Shared → Prop} {params : Arguments} {body : Expr} {scope : Scope} {f c' a kS : Addr} {nm : Str} {k e1 : Nat} {pm ctv : Value} {tb : TE} {xs : List V} {its : List Value} {ds : List PyData}
    (L : LamS1 X.env.scope scope nm) (hna : nm ∉ X.N) (sb : Sub X (k + 1) A) (hfr : f ∉ frs X.stack)
    (hbind : ∀ v, bindArgs (PySem.W.kla_fn "<lambda>" (X.env.qual ++ "<lambda>") params body scope (cloFrom X.env.cells scope.names []) pm (.ref c') ctv) ⟨[v], []⟩ = pure [(nm, v)])
    (hbody : ∀ (A : Around) (outer : List Env) (s : Shared) (H : Hp), Room k (A.deeper (lamEnv X scope s.heap.objs.size f c')) → PE (lamCx1 X A outer s H C8.E0 scope f c' nm) body tb)
    (K0 : Keying X pins σ H a kS f (seqObj "list" #[] e1) (PySem.W.kla_obj "<lambda>" (X.env.qual ++ "<lambda>") params body scope (cloFrom X.env.cells scope.names []) pm c' ctv) ds 0 s) (hka : kS ≠ a) (hkn : H kS = none) (hc : H c' = some (CodeO c' (X.env.qual ++ "<lambda>")))
    (rv : Vals xs its) (hz : xs.length ≤ sizeLine) (hld : ds.length = xs.length) (al : AllAlike ds) (so : Sortable ds) (nl : nlAll ds = true) (dep : ∀ d ∈ ds, A.units + d.depth < cLine)
    (turn : ∀ (i : Nat) (x : V) (d : PyData), xs[i]? = some x → ds[i]? = some d → ∀ H3, Same H H3 → tb (σ ++ [some x]) H3 (fun v H4 => Same H3 H4 ∧ Dp X.K H4 v d))
    (fin : ∀ (s' : Shared) (Hi : Hp) (ks : List V) (out : List Value), Inv X pins σ Hi s' → Same H Hi → Hi kS = some (.lst ks) → Hi a = some (ExactO (seqObj "list" #[] e1) a) → KeyedOut false ds its out → Ended a kS out P s') :
    wpAny (model X.prog X.w) A (ksk_rest a (.ref f) false its.toArray e1 (.ref kS)) P E s := by
  have hl := rv.length
  unfold ksk_rest
  refine wpAny_bind (wpAny_rule ?_)
  rw [List.forIn_toArray]
  refine wpAny_bind (ksk_fold (fun i s' => Keying X pins σ H a kS f (seqObj "list" #[] e1) (PySem.W.kla_obj "<lambda>" (X.env.qual ++ "<lambda>") params body scope (cloFrom X.env.cells scope.names []) pm c' ctv) ds i s') its 0 s K0 ?_ ?_)
  · rintro j u s' hu ⟨Hi, ks, I, sm, hk, ha, hf0, hf1, dk⟩
    rw [Nat.zero_add] at dk ⊢
    have jl : j < its.length := (List.getElem?_eq_some_iff.mp hu).1
    have hx : xs[j]? = some (xs[j]'(by omega)) := List.getElem?_eq_getElem _
    obtain ⟨u', hu', ru⟩ := rv.get hx
    rw [hu] at hu'
    cases hu'
    have hd : ds[j]? = some (ds[j]'(by omega)) := List.getElem?_eq_getElem _
    generalize xs[j]'(by omega) = x at *
    generalize ds[j]'(by omega) = d at *
    refine wpAny_bind (wpAny_attempt (wpAny_mono (lam_call1 (tb := tb) I L hna sb hf1 hf0 hfr (sm _ _ hc) hbind hbody ru (turn j x d hx hd Hi sm)) (fun v s2 h2 => ?_) fun _ _ z => z))
    obtain ⟨z, H4, I4, rz, ⟨s4, dz⟩, f4, g4⟩ := h2
    dsimp only
    have hk4 := s4 _ _ hk
    obtain ⟨hkz, ki, kn, krv, kob⟩ := I4.hok kS _ hk4
    have lks := dpl dk
    rw [List.length_take] at lks
    have lki := krv.length
    refine wpAny_bind (listUpdate_at kob rfl ?_ (by rw [List.size_toArray]; omega) (by rw [Array.size_push, List.size_toArray]; omega))
    have gk := get?_update_seq kob (·.push v)
    have nfk : f ≠ kS := fun e => by rw [e, hk4] at f4; cases f4
    have hv : ki.toArray.push v = (ki ++ [v]).toArray := by simp
    rw [hv] at gk
    have I5 := I4.write (x := kS) (e := kS) (o := .lst (ks ++ [z])) (t' := s2.toks) (h' := s2.heap.update kS (Obj.mapSeq (·.push v))) (by rw [hk4]; trivial) (.inl rfl) (fun b o nb e => by rw [Heap.get?_update_ne _ _ _ _ nb]; exact e) ⟨_, gk⟩ ⟨by rw [List.length_append, List.length_singleton]; omega, _, _, vals_snoc rz krv, gk⟩
    have kk := keep_upd (d := kS) (H := H4) (o := .lst (ks ++ [z]))
    refine wpAny_pure ⟨rfl, ⟨_, ks ++ [z], I5, ?_, upd_same, kk _ _ hka.symm (s4 _ _ ha), by rw [upd_ne nfk]; exact f4, by rw [Heap.get?_update_ne _ _ _ _ nfk]; exact g4, ?_⟩⟩
    · intro b o e
      rw [upd_ne (ne_of_none e hkn)]
      exact s4 _ _ (sm _ _ e)
    · have et : ds.take (j + 1) = ds.take j ++ [d] := by rw [List.take_succ, hd]; rfl
      rw [et]
      exact dp_snoc (Dp.keepN hk4 kk (nl_at nl hd) dz) (DpAll.keepN hk4 kk (nl_take nl j) (dps_same s4 dk))
  · rintro s' ⟨Hi, ks, I, sm, hk, ha, hf0, hf1, dk⟩
    rw [Nat.zero_add, List.take_of_length_le (by omega)] at dk
    obtain ⟨hkz, ki, kn, krv, kob⟩ := I.hok kS _ hk
    have lks := dpl dk
    have lki := krv.length
    have ga : s'.heap.get? a = some (seqObj "list" #[] e1) := (I.hok a _ ha).1
    have er := each_reads (us := []) (ds := []) I krv dk
    refine wpAny_bind (listItems_at kob rfl ?_)
    refine mergeI (X := X) (κ := dataKind s'.heap ds) kob ga hka (SortsAt.data (s := s') (by show EachIs _ ki ds; exact er) al so dep) (by rw [List.size_toArray]; omega) (by omega) (fin s' Hi ks _ I sm hk ha ⟨s'.heap, ki, al, rfl, er⟩)
theorem each_zip : ∀ {xs : List V} {us : List Value} {ds : List PyData}, Vals xs us → ds.length = xs.length → EachIs (fun v (b : V × PyData) => RelV b.1 v) us (xs.zip ds)
  | _, _, [], .nil, _ => .nil
  | _, _, d :: ds, .cons r t, h => .cons r (each_zip t (Nat.succ.inj h))
theorem vals_of_each : ∀ {us : List Value} {bs : List (V × PyData)}, EachIs (fun v (b : V × PyData) => RelV b.1 v) us bs → Vals (bs.map (·.1)) us
  | _, _, .nil => .nil
  | _, _, .cons r t => .cons r (vals_of_each t)
/-- sorted(l, key=f), f a lambda of this frame -/
theorem sortedI {params : Arguments} {body : Expr} {scope : Scope} {f c' l : Addr} {nm : Str} {k : Nat} {pm ctv : Value} {tb : TE} {xs : List V} {ds : List PyData} {Q : VK}
    (I : Inv X pins σ H s) (L : LamS1 X.env.scope scope nm) (hna : nm ∉ X.N) (hr : Room (k + 3) X.A) (hfr : f ∉ frs X.stack)
    (hbind : ∀ v, bindArgs (PySem.W.kla_fn "<lambda>" (X.env.qual ++ "<lambda>") params body scope (cloFrom X.env.cells scope.names []) pm (.ref c') ctv) ⟨[v], []⟩ = pure [(nm, v)])
    (hbody : ∀ (A : Around) (outer : List Env) (s : Shared) (H : Hp), Room k (A.deeper (lamEnv X scope s.heap.objs.size f c')) → PE (lamCx1 X A outer s H C8.E0 scope f c' nm) body tb)
    (hf : s.heap.get? f = some (PySem.W.kla_obj "<lambda>" (X.env.qual ++ "<lambda>") params body scope (cloFrom X.env.cells scope.names []) pm c' ctv)) (hfn : H f = none) (hc : H c' = some (CodeO c' (X.env.qual ++ "<lambda>")))
    (hl : SqL X.K H l xs) (hld : ds.length = xs.length) (al : AllAlike ds) (so : Sortable ds) (nl : nlAll ds = true) (dep : ∀ d ∈ ds, d.depth ≤ 60) (hu : X.A.units + 65 < cLine)
    (turn : ∀ (i : Nat) (x : V) (d : PyData), xs[i]? = some x → ds[i]? = some d → ∀ H3, Same H H3 → tb (σ ++ [some x]) H3 (fun v H4 => Same H3 H4 ∧ Dp X.K H4 v d))
    (q : ∀ H5 p, Same H H5 → H p = none → H5 p = some (.lst (((xs.zip ds).mergeSort (dataLe false (·.2))).map (·.1))) → Q (.ref p) H5) :
    wpAny (model X.prog X.w) X.A (call (.builtin "sorted") [.ref l] [(Str.ofString "key", .ref f)]) (EP X pins σ Q) X.xe s := by
  obtain ⟨its, rv, pl, hz⟩ := I.list hl
  have li := rv.length
  refine sorted_of_sort pl.isList (by omega) (ksk_s1 _ _) (fun _ => ksk_l1 _ _) fun E' => ?_
  rw [ksk_t1]
  have c0 := copyHeap_at s.heap its
  have g1 := get?_update_seq c0 fun _ => (#[] : Array Value)
  unfold ksk_tree
  refine wpAny_bind (listItems_at c0 rfl ?_)
  refine wpAny_bind (listUpdate_at c0 rfl ?_ (by rw [List.size_toArray]; omega) (Nat.zero_le _))
  refine wpAny_bind (seqEpoch_at g1 rfl ?_)
  refine wpAny_bind (wpAny_newTuple ?_ (by show its.length ≤ _; omega))
  refine wpAny_bind (wpAny_newList ?_ (Nat.zero_le _))
  refine wpAny_holding ?_
  have za : (copyHeap s.heap its).objs.size = s.heap.objs.size + 2 := by unfold copyHeap; rw [size_push', Heap.size_update, size_push']
  have old : ∀ b o, s.heap.get? b = some o → ((copyHeap s.heap its).update (s.heap.objs.size + 1) (Obj.mapSeq fun _ => (#[] : Array Value))).get? b = some o := fun b o e => by
    rw [Heap.get?_update_ne _ _ _ _ (Nat.ne_of_lt (Nat.lt_succ_of_lt (Heap.lt_size e)))]
    exact copyHeap_old e
  generalize hcase : (if ((#[] : Array Value).size == its.toArray.size) = true then 0 else 0 + 1) = e1 at *
  have za1 : ((copyHeap s.heap its).update (s.heap.objs.size + 1) (Obj.mapSeq fun _ => (#[] : Array Value))).objs.size = s.heap.objs.size + 2 := by rw [Heap.size_update, za]
  generalize (copyHeap s.heap its).update (s.heap.objs.size + 1) (Obj.mapSeq fun _ => (#[] : Array Value)) = h1 at *
  have za2 : (h1.push (seqObj "tuple" its.toArray 0)).objs.size = s.heap.objs.size + 3 := by rw [size_push', za1]
  have g2 := Heap.get?_push_of_some (seqObj "tuple" its.toArray 0) g1
  have I1 := I.laid (a := s.heap.objs.size + 1) (o := ExactO (seqObj "list" #[] e1) (s.heap.objs.size + 1)) (t' := s.toks) (h' := h1.push (seqObj "tuple" its.toArray 0)) (fun b o e => Heap.get?_push_of_some _ (old b o e)) (Nat.le_succ _) (exact_ok g2)
  generalize hh2 : h1.push (seqObj "tuple" its.toArray 0) = h2 at *
  have I2 := I1.laid (a := h2.objs.size) (o := .lst []) (t' := s.toks) (h' := h2.push (seqObj "list" #[] 0)) (fun b o e => Heap.get?_push_of_some _ e) (Nat.le_refl _) ⟨Nat.zero_le _, [], 0, .nil, Heap.get?_push_size _ rfl⟩
  have na : H (s.heap.objs.size + 1) = none := I.hok.fresh (Nat.le_succ _)
  have nk : H h2.objs.size = none := I.hok.fresh (by omega)
  have nka : h2.objs.size ≠ s.heap.objs.size + 1 := by omega
  have lf := Heap.lt_size hf
  have nfk : f ≠ h2.objs.size := Nat.ne_of_lt (Nat.lt_of_lt_of_le lf (by omega))
  have nfa : f ≠ s.heap.objs.size + 1 := Nat.ne_of_lt (Nat.lt_succ_of_lt lf)
  have sm : Same H (upd (upd H (s.heap.objs.size + 1) (ExactO (seqObj "list" #[] e1) (s.heap.objs.size + 1))) h2.objs.size (.lst [])) := (same_new na _).trans (same_new (by rw [upd_ne nka]; exact nk) _)
  have kept : ∀ b o, s.heap.get? b = some o → (h2.push (seqObj "list" #[] 0)).get? b = some o := fun b o e => Heap.get?_push_of_some _ (by rw [← hh2]; exact Heap.get?_push_of_some _ (old b o e))
  refine restI (X := X) (pins := pins) (σ := σ) (H := H) (its := its) (kS := h2.objs.size) L hna (Sub.in1 (Sub.in1 (n := k + 2) ⟨hr, rfl⟩)) hfr hbind hbody ⟨_, [], I2, sm, upd_same, by rw [upd_ne nka.symm]; exact upd_same, by rw [upd_ne nfk, upd_ne nfa]; exact hfn, kept _ _ hf, .nil⟩ nka nk hc rv hz hld al so nl (fun d hd => by have := dep d hd; show X.A.units + 1 + 1 + d.depth < cLine; omega) turn ?_
  intro s' Hi ks out J smi hk ha ko tk
  refine ⟨rfl, ?_⟩
  obtain ⟨_, ki, kn, krv, kob⟩ := J.hok _ _ hk
  have ga0 : s'.heap.get? (s.heap.objs.size + 1) = some (seqObj "list" #[] e1) := (J.hok _ _ ha).1
  generalize h2.objs.size = kS at *
  generalize s.heap.objs.size + 1 = a at *
  have gk := get?_update_seq kob fun _ => (#[] : Array Value)
  have ga1 : (s'.heap.update kS (Obj.mapSeq fun _ => (#[] : Array Value))).get? a = some (seqObj "list" #[] e1) := by rw [Heap.get?_update_ne _ _ _ _ nka.symm]; exact ga0
  have ga2 := get?_update_seq ga1 fun _ => out.toArray
  have J1 := J.write (x := kS) (e := kS) (o := .lst []) (t' := s'.toks) (h' := s'.heap.update kS (Obj.mapSeq fun _ => (#[] : Array Value))) (by rw [hk]; trivial) (.inl rfl) (fun b o nb e => by rw [Heap.get?_update_ne _ _ _ _ nb]; exact e) ⟨_, gk⟩ ⟨Nat.zero_le _, [], _, .nil, gk⟩
  have e2 : (xs.zip ds).map (·.2) = ds := List.map_snd_zip (by omega)
  have ez : EachIs (fun v (b : V × PyData) => RelV b.1 v) its (xs.zip ds) := each_zip rv hld
  have eo := keyedOut_each (β := V × PyData) (bs := xs.zip ds) (R := fun v b => RelV b.1 v) (·.2) (by rw [e2]; exact ko) ez
  have vo := vals_of_each eo
  have lo : (((xs.zip ds).mergeSort (dataLe false (·.2))).map (·.1)).length = xs.length := by rw [List.length_map, List.length_mergeSort, List.length_zip]; omega
  generalize ((xs.zip ds).mergeSort (dataLe false (·.2))).map (·.1) = ys at *
  have J2 := J1.write (x := a) (e := a) (o := .lst ys) (t' := tk) (h' := (s'.heap.update kS (Obj.mapSeq fun _ => (#[] : Array Value))).update a (Obj.mapSeq fun _ => out.toArray)) (by rw [upd_ne nka.symm, ha]; trivial) (.inl rfl) (fun b o nb e => by rw [Heap.get?_update_ne _ _ _ _ nb]; exact e) ⟨_, ga2⟩ ⟨by omega, out, _, vo, ga2⟩
  refine ⟨.ref a, _, J2, rfl, q _ _ (fun b o e => ?_) na upd_same⟩
  rw [upd_ne (ne_of_none e na), upd_ne (ne_of_none e nk)]
  exact smi _ _ e
/-- what is wanted behind the making of the lambda -/
def SortL (K : PySem.W.Frag) (tb : TE) (l : Addr) (σ : L2.St) (H : Hp) (Q : VK) : Prop := ∃ (xs : List V) (ds : List PyData), SqL K H l xs ∧ ds.length = xs.length ∧ AllAlike ds ∧ Sortable ds ∧ nlAll ds = true ∧ (∀ d ∈ ds, d.depth ≤ 60) ∧
  (∀ (i : Nat) (x : V) (d : PyData), xs[i]? = some x → ds[i]? = some d → ∀ H3, Same H H3 → tb (σ ++ [some x]) H3 (fun v H4 => Same H3 H4 ∧ Dp K H4 v d)) ∧
  ∀ H5 p, Same H H5 → H p = none → H5 p = some (.lst (((xs.zip ds).mergeSort (dataLe false (·.2))).map (·.1))) → Q (.ref p) H5
def tSortL (K : PySem.W.Frag) (T : List (Addr × Str)) (te tb : TE) : TE := fun σ H Q => te σ H fun y H1 => ∃ l, y = .ref l ∧ Tabs T H1 ∧ ∀ H2, ExtN H1 H2 → Tabs T H2 → SortL K tb l σ H2 Q
/-- sorted(e, key=lambda a: body) -/
theorem pe_sortL {T : List (Addr × Str)} {c P : Addr} {k : Nat} {params : Arguments} {e body : Expr} {scope : Scope} {te tb : TE} {nm : Str} {p lpos kpos pos : Pos} (hg : Gl X "sorted") (hm : X.mg "sorted" = none) (he : PE X e te)
    (TB : TabB X.base X.mg c P) (hcode : X.env.code = .ref c) (hmT : (P, X.env.qual ++ "<lambda>") ∈ T) (hu : ∀ p ∈ T, p.1 = P → p.2 = X.env.qual ++ "<lambda>") (hr : Room (k + 3) X.A) (hua : X.A.units + 65 < cLine) (L : LamS1 X.env.scope scope nm) (hna : nm ∉ X.N) (hdef : defaultsOf params X.env = ([], []))
    (hbind : ∀ (q : Str) (cl : List (Str × Addr)) (pm cv ctv : Value) (v : Value), bindArgs (PySem.W.kla_fn "<lambda>" q params body scope cl pm cv ctv) ⟨[v], []⟩ = pure [(nm, v)])
    (hbody : ∀ (A : Around) (outer : List Env) (s : Shared) (H : Hp) (f c' : Addr), Room k (A.deeper (lamEnv X scope s.heap.objs.size f c')) → PE (lamCx1 X A outer s H C8.E0 scope f c' nm) body tb)
    (hse : starEach [e] X.env = (false, eval e X.env) :: starEach [] X.env := by rfl) (hst : backTo pos (starEach [e] X.env) = (false, eval e X.env) :: backTo pos (starEach [] X.env) := by rfl) (hpl : (backTo pos (starEach [e] X.env)).any (·.1) = false := by rfl) :
    PE X (.Call (.Name "sorted" p) [e] [⟨some "key", .Lambda params body scope lpos, kpos⟩] pos) (tSortL X.K T te tb) := by
  refine ⟨fun pins s σ H Q I h => ?_⟩
  refine wpAny_Call_Name_kw (ld_blt (u := .builtin "sorted") I hg hm (by decide +kernel) ?_ (by decide) (by decide))
  have ha : PA X [e] (tCons te tNil) := pa_cons he pa_nil hse
  refine PyProof.Rows.callWith_kw (thn (ha.run pos pins s σ H (fun vs H1 => match vs with | [y] => ∃ l, y = V.ref l ∧ Tabs T H1 ∧ ∀ H2, ExtN H1 H2 → Tabs T H2 → SortL X.K tb l σ H2 Q | _ => False) I h) fun us s1 ⟨vs, H1, I1, r1, q1⟩ => ?_) hst hpl (by rfl) (by rfl)
  obtain ⟨l, rfl, hT, q1⟩ : ∃ l, vs = [V.ref l] ∧ Tabs T H1 ∧ ∀ H2, ExtN H1 H2 → Tabs T H2 → SortL X.K tb l σ H2 Q := by
    match vs, q1 with
    | [y], ⟨l, ey, z⟩ => exact ⟨l, by rw [ey], z⟩
  obtain rfl := Vals.ref1 r1
  show wpAny _ _ (evalAll ((do let v ← eval (.Lambda params body scope lpos) X.env; standAt pos; pure v) :: [])) _ _ s1
  refine wpAny_evalAll_cons (wpAny_bind (lam_make2 I1 TB hcode hmT hu hT hdef (L.has I1.ok) fun f c' pm ctv H2 s2 I2 eN T2 hf hfn hfr hco => wpAny_bind (wpAny_standAt (wpAny_pure (wpAny_evalAll_nil ?_)))))
  obtain ⟨xs, ds, hl, hld, al, so, nl, dep, turn, q⟩ := q1 H2 eN T2
  show wpAny _ _ (call (.builtin "sorted") [.ref l] [(Str.ofString "key", .ref f)]) _ _ s2
  exact sortedI I2 L hna hr hfr (fun v => hbind _ _ _ _ _ v) (fun A outer s H hr' => hbody A outer s H f c' hr') hf hfn hco hl hld al so nl dep hua turn q
end
end My
/-! for i, x in enumerate(t), t a tuple -/
namespace My
open PySem PySem.Spec L2 PyProof.Rows
open AutoSeq1 (wpAny_loadPart')
theorem new_enumT (t : Addr) (its : Array Value) (m : Nat) (dd : Option Addr) (ss : Array (Option Value)) :
    Meets (Builtin.«enumerate.__new__» ⟨[.type "enumerate", .ref t], []⟩) (fun _ R s => s.heap.get? t = some { cls := .type "tuple", dict := dd, data := .seq its m, slots := ss } ∧
      R (.ok (.ret (.ref (s.heap.push { cls := .type "tuple_iterator", data := .fields #[.ref t, .int 0 0] }).objs.size)))
        { s with heap := (s.heap.push { cls := .type "tuple_iterator", data := .fields #[.ref t, .int 0 0] }).push { cls := .type "enumerate", data := .fields #[.none, .bool false, .ref s.heap.objs.size, rawInt 0, .none, .none] } }) :=
  .of_wp fun P0 w0 A0 R s h => by
    obtain ⟨hp, g, d, tk, os⟩ := s
    obtain ⟨ht, h⟩ := h
    have f1 := sub_enumerate
    have f2 : Heap.IsTuple (Shared.heap ⟨hp, g, d, tk, os⟩) t its := ⟨_, ht, rfl, m, rfl⟩
    wp_walk using wpAny_loadPart' ht
    refine wpAny_stack_any fun st => wpAny_pure ?_
    split
    · rename_i cc _ _ _ _ _
      cases (cc == Value.type "enumerate") <;> (wp_walk using wpAny_loadPart' ht, wpAny_pyIter_tuple f2; exact ⟨_, rfl, h⟩)
    · wp_walk using wpAny_loadPart' ht, wpAny_pyIter_tuple f2
      exact ⟨_, rfl, h⟩
section
variable {P0 : Program} {w0 : World} {A : Around} {E : Value → Shared → Prop} {s : Shared}
theorem call_enumT {t : Addr} {its : Array Value} {Q : Value → Shared → Prop} (hT : s.heap.IsTuple t its)
    (h : ∀ g, IsEnum g (s.heap.objs.size + 1) s.heap.objs.size 0 .none → g.IsTupleIter s.heap.objs.size t 0 → (∀ b o, s.heap.get? b = some o → g.get? b = some o) → Q (.ref (s.heap.objs.size + 1)) { s with heap := g }) :
    wpAny (model P0 w0) A (call (.type "enumerate") [.ref t]) Q E s := by
  obtain ⟨⟨cc, dd, dt, ss⟩, hl, e1, m, e2⟩ := hT
  obtain rfl : cc = .type "tuple" := e1
  obtain rfl : dt = .seq its m := e2
  refine callType_new F.called_enumerate (by decide) (F.typeCall_enumerate_1 _) (F.newCall_enumerate_1 _) (fun obj => F.args_object_init_2 obj _) F.entry_enumerate_new (new_enumT t its m dd ss) ⟨hl, ?_⟩
  have z1 : (s.heap.push { cls := .type "tuple_iterator", data := .fields #[.ref t, .int 0 0] }).objs.size = s.heap.objs.size + 1 := Heap.size_push ..
  show _ ∧ _
  rw [z1]
  have en : IsEnum ((s.heap.push { cls := .type "tuple_iterator", data := .fields #[.ref t, .int 0 0] }).push { cls := .type "enumerate", data := .fields #[.none, .bool false, .ref s.heap.objs.size, rawInt 0, .none, .none] }) (s.heap.objs.size + 1) s.heap.objs.size 0 .none := by
    have z2 := Heap.get?_push_size (s.heap.push { cls := .type "tuple_iterator", data := .fields #[.ref t, .int 0 0] }) (o := { cls := .type "enumerate", data := .fields #[.none, .bool false, .ref s.heap.objs.size, rawInt 0, .none, .none] }) rfl
    rw [z1] at z2
    exact z2
  exact ⟨⟨_, en, rfl⟩, h _ en ⟨_, Heap.get?_push_of_some _ (Heap.get?_push_size _ rfl), rfl, rfl⟩ fun b o y => Heap.get?_push_of_some _ (Heap.get?_push_of_some _ y)⟩
end
/-- each item of the tuple at a in a new pair -/
def IteT (K : PySem.W.Frag) (a : Addr) : It :=
  ⟨fun i H => ∃ (xs : List V) (x : V), SqT K H a xs ∧ xs[i]? = some x, fun i H v H' => ∃ T x, v = .ref T ∧ H T = none ∧ H' = upd H T (.tup [.int (i : Nat), x]) ∧ ∀ xs, SqT K H a xs → xs[i]? = some x, fun i H => ∃ xs : List V, SqT K H a xs ∧ xs.length = i⟩
theorem turn_enumT {P : Program} {w : World} {K : PySem.W.Frag} {elts : List Expr} {kk : Nat} {tpos : Pos} (a e it : Addr) :
    Turn P w K (.Tuple elts kk tpos) (IteT K a) [e, it] e (fun i h => (∃ old, IsEnum h e it ((i : Nat) : Int) old) ∧ h.IsTupleIter it a i ∧ e ≠ it ∧ e ≠ a ∧ a ≠ it) where
  mem := by simp
  obj := fun i h ⟨⟨old, he⟩, ⟨o, ho, hc, hd⟩, _⟩ b hb => by
    rcases (show b = e ∨ b = it by simpa using hb) with rfl | rfl
    · exact ⟨_, he, fun v q => nomatch q⟩
    · exact ⟨o, ho, fun v q => by rw [hd] at q; cases q⟩
  keep := fun i h h' ⟨⟨old, he⟩, hi, r⟩ k => ⟨⟨old, k e (by simp) _ he⟩, hi.at fun o q => k it (by simp) o q, r⟩
  item := by
    intro X e1 e2 e3 hc i pins s σ H E I hf st hg
    subst e1 e2 e3
    obtain ⟨⟨old, he⟩, hit, n1, n2, n3⟩ := st
    obtain ⟨xs, x, hq, hx⟩ := hg
    obtain ⟨its, rv, p, hz⟩ := I.tuple hq
    obtain ⟨u, hu, ru⟩ := rv.get hx
    have le : e < s.heap.objs.size := Heap.lt_size he
    have li : it < s.heap.objs.size := by obtain ⟨_, q, _⟩ := hit; exact Heap.lt_size q
    have lt : i < its.toArray.size := by rw [List.size_toArray]; exact (List.getElem?_eq_some_iff.mp hu).1
    refine wpAny_pyNext_enum_itemD (Draws.tuple (A := X.A.in1) (I.ok.hd hc) it a n3 its.toArray) he ⟨hit, p⟩ lt n1 (by simp [n1, n2]) fun v h' tk pv ho st' hT hsz hk => ?_
    have ev : v = u := by
      have pv : its.toArray[i]? = some v := pv
      have pv : its[i]? = some v := by simpa using pv
      rw [hu] at pv
      exact (Option.some.inj pv).symm
    subst ev
    refine ⟨_, rfl, wpAny_letOwnedTupleGo_enum (s := { s with heap := h', toks := tk + 1 }) ho fun h2 he2 sb => ?_⟩
    have hT2 : h2.get? s.heap.objs.size = some { cls := .type "tuple", data := .seq #[.int i tk, v] } := (sb.2 _ (Nat.ne_of_gt le)).trans hT
    have I1 := I.turnedNew (t' := tk + 1) (h' := h2) (ch := [e, it]) (T := s.heap.objs.size) (ob := .tup [.int (i : Nat), x]) (fun b ob hb q => (sb.2 b (fun z => hb (by simp [z]))).trans (hk b ob (fun z => hb (by simp [z])) (fun z => hb (by simp [z])) q)) hf (Nat.le_refl _)
      ⟨by show 2 ≤ sizeLine; decide, [.int i tk, v], .cons ⟨_, rfl⟩ (.cons ru .nil), ⟨_, hT2, rfl, _, rfl⟩⟩
    refine ⟨.ref s.heap.objs.size, _, I1, rfl, ⟨_, x, rfl, I.hok.fresh (Nat.le_refl _), rfl, fun ys hy => by rw [I.tuple_inj hy hq]; exact hx⟩, ⟨⟨v, ?_⟩, st'.1.at fun o q => (sb.2 it n1.symm).trans q, n1, n2, n3⟩, fun b hb => ?_⟩
    · rw [show ((i + 1 : Nat) : Int) = (i : Int) + 1 by omega]; exact he2
    · have lb : b < s.heap.objs.size := by rcases (show b = e ∨ b = it by simpa using hb) with rfl | rfl <;> assumption
      rw [upd_ne (Nat.ne_of_lt lb)]
      exact (hf b hb).1
  done := by
    intro X e1 e2 e3 hc i pins s σ H E I hf st hg
    subst e1 e2 e3
    obtain ⟨⟨old, he⟩, hit, n1, n2, n3⟩ := st
    obtain ⟨xs, hq, hx⟩ := hg
    obtain ⟨its, rv, p, hz⟩ := I.tuple hq
    obtain ⟨f0, f1, f2, f3, f4, f5⟩ := hf it (by simp)
    have hl : i = its.toArray.size := by rw [List.size_toArray, ← rv.length]; exact hx.symm
    rw [hl] at hit
    exact wpAny_pyNext_enum_endD (Draws.tuple (A := X.A.in1) (I.ok.hd hc) it a n3 its.toArray) he ⟨hit, p⟩ fun h' eb => ⟨rfl, I.turned (t' := s.toks) (fun b o hb q => eb b o hb q) f0 f1 f3 f4 f5⟩
  self := fun A i s Q E ⟨⟨_, he⟩, _⟩ h => wpAny_pyIter_enum he h
def iEnumT (K : PySem.W.Frag) (ta : TA) : TI := fun σ H R => ta σ H fun vs H1 => ∃ a xs, vs = [.ref a] ∧ SqT K H1 a xs ∧ R (IteT K a) H1
theorem pi_enumT {X : Cx} {e : Expr} {ta : TA} {p pos tpos : Pos} {elts : List Expr} {kk : Nat} (hg : Gl X "enumerate") (hm : X.mg "enumerate" = none) (ha : PA X [e] ta) (hs : starEach [e] X.env = [(false, eval e X.env)] := by rfl) :
    PI X (.Tuple elts kk tpos) (.Call (.Name "enumerate" p) [e] [] pos) (iEnumT X.K ta) := by
  refine ⟨fun pins s σ H R I h => ?_⟩
  refine Call_ (ld_blt I hg hm boot_enumerate (PyProof.Rows.callWith_type1 (thn (ha.run pos pins s σ H _ I h) fun us s1 ⟨vs, H1, I1, r1, a, xs, ev, hq, q⟩ => ?_) hs rfl))
  subst ev
  rw [Vals.ref1 r1]
  obtain ⟨its, rv, pt, hz⟩ := I1.tuple hq
  have la : a < s1.heap.objs.size := pt.lt
  refine call_enumT pt fun g en it hk => wpAny_pyIter_enum en ?_
  have I2 : Inv X pins σ H1 { s1 with heap := g } := I1.kept (t' := s1.toks) hk
  refine ⟨s1.heap.objs.size + 1, [s1.heap.objs.size + 1, s1.heap.objs.size], _, _, H1, rfl, I2, turn_enumT a (s1.heap.objs.size + 1) s1.heap.objs.size, ⟨⟨.none, en⟩, it, Nat.succ_ne_self _, Nat.ne_of_gt (Nat.lt_succ_of_lt la), Nat.ne_of_lt la⟩, fun b hb => ?_, q⟩
  have lb : s1.heap.objs.size ≤ b := by
    rcases (show b = s1.heap.objs.size + 1 ∨ b = s1.heap.objs.size by simpa using hb) with z | z
    · rw [z]; exact Nat.le_succ _
    · rw [z]; exact Nat.le_refl _
  exact I1.fpOk lb (I1.hok.fresh lb)
/-- the loop: a new pair each turn -/
theorem for_enumT {K : PySem.W.Frag} {a : Addr} {xs : List V} {g : TG} {tb : TS} {D : Ends} {σ : L2.St} {H : Hp} (Pv : Nat → L2.St → Hp → Prop) (h0 : Pv 0 σ H) (hT : ∀ i σ H, i ≤ xs.length → Pv i σ H → SqT K H a xs)
    (hs : ∀ i x σ H T, xs[i]? = some x → Pv i σ H → H T = none → g (.ref T) σ (upd H T (.tup [.int (i : Nat), x])) fun σ2 H2 => tb { D with nx := Pv (i + 1), ct := Pv (i + 1), bk := D.nx } σ2 H2) (hd : ∀ σ H, Pv xs.length σ H → D.nx σ H) :
    ∃ W : Nat → Nat → L2.St → Hp → Prop, (∃ m, W 0 m σ H) ∧ ∀ i m σ H, W i m σ H →
      ((IteT K a).stop i H ∧ D.nx σ H) ∨ ((IteT K a).go i H ∧ ∃ N : L2.St → Hp → Prop, (∀ σ' H', N σ' H' → ∃ m', m' < m ∧ W (i + 1) m' σ' H') ∧ ∀ x H', (IteT K a).yld i H x H' → g x σ H' fun σ2 H2 => tb { D with nx := N, ct := N, bk := D.nx } σ2 H2) := by
  refine ⟨fun i m σ H => m = xs.length - i ∧ i ≤ xs.length ∧ Pv i σ H, ⟨_, rfl, Nat.zero_le _, h0⟩, ?_⟩
  rintro i m σ H ⟨rfl, hi, p⟩
  have t := hT i σ H hi p
  by_cases lt : i < xs.length
  · refine .inr ⟨⟨xs, xs[i], t, List.getElem?_eq_getElem lt⟩, Pv (i + 1), fun σ' H' p' => ⟨_, by omega, rfl, lt, p'⟩, ?_⟩
    rintro v H' ⟨T, x, rfl, n, rfl, hx⟩
    exact hs i x σ H T (hx xs t) p n
  · obtain rfl : i = xs.length := by omega
    exact .inl ⟨⟨xs, t, rfl⟩, hd σ H p⟩
end My
/-! max(xs, default=k) of a list of ints that is not empty -/
namespace My
open PySem PySem.Spec L2 PyProof.Rows
open Sem (wp)
theorem fn_kw {P0 : Program} {w0 : World} {B : Around} {Ex : Value → Shared → Prop} {z : Shared} {nm : String} {bi : Builtin} {av : List Value} {kv : List (Str × Value)} {Post : Value → Shared → Prop} (h1 : builtinKind nm = none) (h2 : plainId nm = true)
    (h3 : entryFor table nm = some bi) (h4 : argsOk nm ⟨av, kv⟩)
    (h5 : wpAny (model P0 w0) B.in1 (bi ⟨av, kv⟩) (fun fin z' => match fin with
      | .done f => (match (Except.ok f : Result) with | .ok (.ret v) => Post v z' | .ok _ => False | .error e => Ex e z')
      | .again c => c.quiet = true ∧ codeAny (model P0 w0) B c (fun r z' => match r with | .ok (.ret v) => Post v z' | .ok _ => False | .error e => Ex e z') z') Ex z) :
    wpAny (model P0 w0) B (call (.builtin nm) av kv) Post Ex z := by
  refine wpAny_call (codeAny_call_builtin h2 h3 ?_)
  simp only [checkBuiltinCall, h1]
  cases hg : Manifest.signature? nm with
  | none => exact wpAny_pure h5
  | some sg =>
    simp only [argsOk, hg] at h4
    have h6 : Bind.checkArgs nm sg ⟨av, kv⟩ = pure () := h4
    simp only [h6]
    exact wpAny_pure h5
section
variable {P0 : Program} {w0 : World} {B : Around} {Res : Result → Shared → Prop} {it : Addr} {fpr wri : List Addr} {m : Nat} {Pi : Nat → Value → Prop} {Sti : Nat → Heap → Prop} {kv : List (Str × Value)}
theorem mxd_name : (toString "max" ++ toString ".loop" : String) = "max.loop" := by decide
theorem mxd_loop (Wk : Walks P0 w0 B.in1 it fpr wri m Pi Sti) (gt : Nat → Nat → Bool) (cmp : CmpOf P0 w0 B.in1 .Gt Pi gt) (b : Addr) (bf : b ∉ fpr) :
    ∀ (r i : Nat) (z : Shared) (top : Value) (cap : Nat), m - (i + 1) = r → i + 1 ≤ m → Sti (i + 1) z.heap → Pi (argBest gt i) top →
    z.heap.get? b = some { cls := .type "list", dict := none, data := .seq #[top, top] cap, slots := #[] } →
    (∀ v hp tk, Pi (argBest gt (m - 1)) v → (∀ a o, a ∉ wri → a ≠ b → z.heap.get? a = some o → hp.get? a = some o) → Res (.ok (.ret v)) { z with heap := hp, toks := tk }) →
    codeAny (model P0 w0) B (.builtin "max.loop" ⟨[.ref it, .none, .ref b], kv⟩) Res z := by
  have bw : b ∉ wri := fun h => bf (Wk.sub _ h)
  intro r
  induction r with
  | zero =>
    intro i z top cap er ei st pt hb hR
    have em : i + 1 = m := by omega
    refine codeAny_builtin F.entry_max_loop ?_
    rw [Around.under_plainId F.plain_max_loop _]
    show wpAny _ B.in1 (seqItems? (.ref b) >>= _) _ _ z
    refine wpAny_bind (wpAny_seqItems hb rfl ?_)
    show wpAny _ B.in1 (tryCatch (pyNext (.ref it)) _ >>= _) _ _ z
    refine wpAny_bind (wpAny_tryCatch (Wk.done z _ _ (em ▸ st) fun hp tk hk => ?_))
    have hb' := hk b _ bw hb
    show wpAny _ B.in1 (updateSeq b (fun _ => #[]) >>= _) _ _ _
    refine wpAny_bind (wpAny_updateSeq hb' rfl (wpAny_bind (wpAny_letGo (wpAny_pure ?_))))
    exact hR top _ tk (em ▸ pt) fun a o aw ab e => (Heap.get?_update_other _ _ (Ne.symm ab)).trans (hk a o aw e)
  | succ r ih =>
    intro i z top cap er ei st pt hb hR
    have lt : i + 1 < m := by omega
    refine codeAny_builtin F.entry_max_loop ?_
    rw [Around.under_plainId F.plain_max_loop _]
    show wpAny _ B.in1 (seqItems? (.ref b) >>= _) _ _ z
    refine wpAny_bind (wpAny_seqItems hb rfl ?_)
    show wpAny _ B.in1 (tryCatch (pyNext (.ref it)) _ >>= _) _ _ z
    refine wpAny_bind (wpAny_tryCatch (Wk.item (i + 1) z _ _ lt st fun v hp tk pv st' hk => ?_))
    have hb' := hk b _ bw hb
    show wpAny _ B.in1 (tryCatch (holding [v, v] (richCompare .Gt v top >>= _)) _ >>= _) _ _ _
    refine wpAny_bind (wpAny_tryCatch (wpAny_holding (wpAny_bind (cmp (i + 1) (argBest gt i) v top _ _ _ pv pt ?_))))
    refine wpAny_bind (wpAny_holding (wpAny_truthy_bool (wpAny_bind (wpAny_letGo (wpAny_pure ?_)))))
    cases eb : gt (i + 1) (argBest gt i) with
    | true =>
      simp only [if_true]
      refine wpAny_bind (wpAny_updateSeq hb' rfl (wpAny_bind (wpAny_letGo ?_)))
      rw [mxd_name]
      refine wpAny_pure ⟨plainId_quiet F.plain_max_loop _, ih (i + 1) _ v _ (by omega) lt (Wk.frame _ _ _ st' fun a af o e => (Heap.get?_update_other _ _ (fun h : b = a => bf (by rw [h]; exact af))).trans e)
        (by simp only [argBest, eb, if_true]; exact pv) (Heap.get?_update_self _ hb' rfl) fun v2 hp2 tk2 p2 hk2 => hR v2 hp2 tk2 p2 fun a o aw ab e => hk2 a o aw ab ((Heap.get?_update_other _ _ (Ne.symm ab)).trans (hk a o aw e))⟩
    | false =>
      simp only [Bool.false_eq_true, if_false]
      refine wpAny_bind (wpAny_letGo ?_)
      rw [mxd_name]
      exact wpAny_pure ⟨plainId_quiet F.plain_max_loop _, ih (i + 1) _ top cap (by omega) lt st' (by simp only [argBest, eb, Bool.false_eq_true, if_false]; exact pt) hb' fun v2 hp2 tk2 p2 hk2 => hR v2 hp2 tk2 p2 fun a o aw ab e => hk2 a o aw ab (hk a o aw e)⟩
theorem mxd_first (Wk : Walks P0 w0 B.in1 it fpr wri m Pi Sti) (gt : Nat → Nat → Bool) (cmp : CmpOf P0 w0 B.in1 .Gt Pi gt) (b : Addr) (bf : b ∉ fpr) (pos : 0 < m) {z : Shared} {cap : Nat} (st : Sti 0 z.heap)
    (hb : z.heap.get? b = some { cls := .type "list", dict := none, data := .seq #[] cap, slots := #[] })
    (hR : ∀ v hp tk, Pi (argBest gt (m - 1)) v → (∀ a o, a ∉ wri → a ≠ b → z.heap.get? a = some o → hp.get? a = some o) → Res (.ok (.ret v)) { z with heap := hp, toks := tk }) :
    codeAny (model P0 w0) B (.builtin "max.loop" ⟨[.ref it, .none, .ref b], kv⟩) Res z := by
  have bw : b ∉ wri := fun h => bf (Wk.sub _ h)
  refine codeAny_builtin F.entry_max_loop ?_
  rw [Around.under_plainId F.plain_max_loop _]
  show wpAny _ B.in1 (seqItems? (.ref b) >>= _) _ _ z
  refine wpAny_bind (wpAny_seqItems hb rfl ?_)
  show wpAny _ B.in1 (tryCatch (pyNext (.ref it)) _ >>= _) _ _ z
  refine wpAny_bind (wpAny_tryCatch (Wk.item 0 z _ _ pos st fun v hp tk pv st' hk => ?_))
  have hb' := hk b _ bw hb
  show wpAny _ B.in1 (updateSeq b (fun _ => #[v, v]) >>= _) _ _ _
  refine wpAny_bind (wpAny_updateSeq hb' rfl ?_)
  rw [mxd_name]
  exact wpAny_pure ⟨plainId_quiet F.plain_max_loop _, mxd_loop Wk gt cmp b bf _ 0 _ v _ rfl pos (Wk.frame _ _ _ st' fun a af o e => (Heap.get?_update_other _ _ (fun h : b = a => bf (by rw [h]; exact af))).trans e) pv (Heap.get?_update_self _ hb' rfl)
    fun v2 hp2 tk2 p2 hk2 => hR v2 hp2 tk2 p2 fun a o aw ab e => hk2 a o aw ab ((Heap.get?_update_other _ _ (Ne.symm ab)).trans (hk a o aw e))⟩
end
section
variable {P0 : Program} {w0 : World} {B : Around} {Ex : Value → Shared → Prop} {z : Shared}
theorem mxd_args (a d : Value) : argsOk "max" ⟨[a], [(Str.ofString "default", d)]⟩ := by unfold argsOk; kernel_rfl
theorem mxd_bind (d : Value) : Builtin.Builtins.bindParams "max" ["key", "default"] 0 ⟨[], [(Str.ofString "default", d)]⟩ = pure [none, some d] := by kernel_rfl
theorem mxd_ints {l : Addr} {xs : Array (Int × Tok)} {d : Value} {Post : Value → Shared → Prop} (hh : B.handled = none) (hl : z.heap.IsList l (intItems xs)) (hne : 0 < xs.size)
    (h : ∀ v hp tk, (intItems xs)[argBest (fun i j => decide (numAt xs i > numAt xs j)) (xs.size - 1)]? = some v → (∀ a o, z.heap.get? a = some o → hp.get? a = some o) → Post v { z with heap := hp, toks := tk }) :
    wpAny (model P0 w0) B (call (.builtin "max") [.ref l] [(Str.ofString "default", d)]) Post Ex z := by
  refine fn_kw F.kind_max F.plain_max F.entry_max (mxd_args _ _) ?_
  show wpAny _ B.in1 (Builtin.Builtins.bindParams "max" ["key", "default"] 0 ⟨[], [(Str.ofString "default", d)]⟩ >>= _) _ _ z
  refine wpAny_bind (wpAny_of_eq (mxd_bind d) (wpAny_bind (wpAny_pure (wpAny_bind (iter_intList hl fun z2 e st hfp hlI => ?_)))))
  subst e
  refine wpAny_bind (wpAny_newObj_type ?_)
  rw [mxd_name]
  refine wpAny_pure ⟨plainId_quiet F.plain_max_loop _, mxd_first (Walks.list (A := B.in1) hh _ l hlI (intItems xs)) _ (CmpOf.ints_gt (numAt xs) (fun _ _ => intItems_at)) _ (fun hm => Nat.lt_irrefl _ (hfp _ hm)) (by simpa [intItems] using hne)
    ((Walks.list (prog := P0) (w := w0) (A := B.in1) hh _ l hlI (intItems xs)).frame _ _ _ st fun a _ o e => Heap.get?_push_of_some _ e) (Heap.get?_push_size _ rfl) fun v hp tk pv hk => ?_⟩
  exact h v hp tk (by simpa [intItems] using pv) (old_kept fun a o aw e => hk a o aw (Nat.ne_of_lt (Heap.lt_size e)) (Heap.get?_push_of_some _ e))
theorem mxd_raw {l : Addr} {its : List Value} {ns : List Int} {d : Value} {Post : Value → Shared → Prop} (hh : B.handled = none) (hl : z.heap.IsList l its.toArray) (hi : IntsAre its ns) (hne : 0 < ns.length)
    (h : ∀ hp tk M t, (∀ a o, z.heap.get? a = some o → hp.get? a = some o) → M ∈ ns → (∀ a, a ∈ ns → a ≤ M) → Post (.int M t) { z with heap := hp, toks := tk }) : wpAny (model P0 w0) B (call (.builtin "max") [.ref l] [(Str.ofString "default", d)]) Post Ex z := by
  obtain ⟨ys, e⟩ := hi.allInts.items
  have en : numsOf (intItems ys).toList = ns := by rw [← e]; exact hi.numsOf
  rw [nums_intItems] at en
  subst en
  rw [e] at hl
  have sz : 0 < ys.size := by simpa using hne
  refine mxd_ints hh hl sz fun v hp tk hv hk => ?_
  obtain ⟨t, rfl⟩ := intItems_at hv
  obtain ⟨g1, g2⟩ := argBest_gt (numAt ys) (ys.size - 1)
  refine h hp tk _ t hk (by rw [numAt_eq]; exact PySem.getD_mem (by rw [List.length_map, Array.length_toList]; omega)) fun a ha => ?_
  obtain ⟨j, hj, rfl⟩ := mem_getD ha
  rw [List.length_map, Array.length_toList] at hj
  rw [← numAt_eq]
  exact g2 j (by omega)
end
section
variable {X : Cx}
def tMaxD (K : PySem.W.Frag) (te tk : TE) : TE := fun σ H Q => te σ H fun y H1 => tk σ H1 fun _ H2 => rMax K [y] H2 Q
/-- max(e, default=k) -/
theorem pe_maxD {e ek : Expr} {te tk : TE} {p kpos pos : Pos} (hc : X.calm = true) (hg : Gl X "max") (hm : X.mg "max" = none) (he : PE X e te) (hek : PE X ek tk)
    (hse : starEach [e] X.env = (false, eval e X.env) :: starEach [] X.env := by rfl) (hst : backTo pos (starEach [e] X.env) = (false, eval e X.env) :: backTo pos (starEach [] X.env) := by rfl) (hpl : (backTo pos (starEach [e] X.env)).any (·.1) = false := by rfl) :
    PE X (.Call (.Name "max" p) [e] [⟨some "default", ek, kpos⟩] pos) (tMaxD X.K te tk) := by
  refine ⟨fun pins s σ H Q I h => ?_⟩
  refine wpAny_Call_Name_kw (ld_blt (u := .builtin "max") I hg hm (by decide +kernel) ?_ (by decide) (by decide))
  have ha : PA X [e] (tCons te tNil) := pa_cons he pa_nil hse
  refine PyProof.Rows.callWith_kw (thn (ha.run pos pins s σ H (fun vs H1 => match vs with | [y] => tk σ H1 fun _ H2 => rMax X.K [y] H2 Q | _ => False) I h) fun us s1 ⟨vs, H1, I1, r1, q1⟩ => ?_) hst hpl (by rfl) (by rfl)
  obtain ⟨y, rfl, q1⟩ : ∃ y, vs = [y] ∧ tk σ H1 fun _ H2 => rMax X.K [y] H2 Q := by
    match vs, q1 with
    | [y], z => exact ⟨y, rfl, z⟩
  show wpAny _ _ (evalAll ((do let v ← eval ek X.env; standAt pos; pure v) :: [])) _ _ s1
  refine wpAny_evalAll_cons (wpAny_bind (thn (hek.run _ s1 σ H1 _ I1 q1) fun u s2 ⟨d, H2, I2, rd, a, ns, ey, hs, hne, q⟩ => wpAny_bind (wpAny_standAt (wpAny_pure (wpAny_evalAll_nil ?_)))))
  cases ey
  obtain rfl := Vals.ref1 r1
  obtain ⟨its, rv, hl, _⟩ := I2.list hs
  show wpAny _ _ (call (.builtin "max") [.ref a] [(Str.ofString "default", u)]) _ _ s2
  exact mxd_raw (I2.ok.hd hc) hl.isList rv.ints hne fun h' tk m t' hk h1 h2 => ⟨.int _, H2, I2.kept hk, ⟨_, rfl⟩, q m h1 h2⟩
end
/-! [x for one in t for x in one], all of them tuples -/
theorem pairedAt {α β : Type} {R : α → β → Prop} : ∀ {ps : List α} {ts : List β}, Paired R ps ts → ∀ {i : Nat} {p : α}, ps[i]? = some p → ∃ t, ts[i]? = some t ∧ R p t
  | _, _, .nil, i, p, h => by simp at h
  | _, _, .cons r t, 0, p, h => by
    cases h
    exact ⟨_, rfl, r⟩
  | _, _, .cons r t, i + 1, p, h => pairedAt t h
theorem flat_of {K : PySem.W.Frag} {a : Addr} {xs : List V} {yss : List (List V)} {σ : L2.St} {H1 : Hp} {D : Addr} {p q : Nat} {vs vs1 : List Nat} {Qd : Hp → Prop} (hD : H1 D = none) (hT : SqT K H1 a xs) (hP : Paired (fun x ys => ∃ b, x = V.ref b ∧ SqT K H1 b ys) xs yss)
    (hl : yss.flatten.length ≤ sizeLine) (w1 : ∀ x, wipe ((wipe σ vs).set p (some x)) vs = wipe σ vs) (l1 : ∀ x : V, ((wipe σ vs).set p (some x))[p]? = some (some x))
    (w2 : ∀ x y, wipe ((wipe ((wipe σ vs).set p (some x)) vs1).set q (some y)) vs1 = wipe ((wipe σ vs).set p (some x)) vs1) (l2 : ∀ x y : V, ((wipe ((wipe σ vs).set p (some x)) vs1).set q (some y))[q]? = some (some y))
    (hQ : ∀ H', Same H1 H' → H' D = some (.lst yss.flatten) → Qd H') :
    ∃ W : Nat → Nat → Hp → Prop, (∃ m, W 0 m (upd H1 D (.lst []))) ∧ ∀ i m H, W i m H →
      ((Itt K a).stop i H ∧ Qd H) ∨ ((Itt K a).go i H ∧ ∃ Nx : Hp → Prop, (∀ H', Nx H' → ∃ m', m' < m ∧ W (i + 1) m' H') ∧ ∀ x H', (Itt K a).yld i H x H' → gName p x (wipe σ vs) H' fun σ2 H2 => wipe σ2 vs = wipe σ vs ∧ tYes σ2 H2 fun b H3 =>
        if b = true then iTup K (tVar p) σ2 H3 fun J1 H4 => ∃ W1 : Nat → Nat → Hp → Prop, (∃ m, W1 0 m H4) ∧ ∀ j k H, W1 j k H →
          (J1.stop j H ∧ Nx H) ∨ (J1.go j H ∧ ∃ Nx1 : Hp → Prop, (∀ H', Nx1 H' → ∃ k', k' < k ∧ W1 (j + 1) k' H') ∧ ∀ x H', J1.yld j H x H' → gName q x (wipe σ2 vs1) H' fun σ3 H5 => wipe σ3 vs1 = wipe σ2 vs1 ∧ tYes σ3 H5 fun b H6 =>
            if b = true then tVar q σ3 H6 fun y H7 => ∃ acc, H7 D = some (.lst acc) ∧ acc.length < sizeLine ∧ Nx1 (upd H7 D (.lst (acc ++ [y]))) else Nx1 H6)
        else Nx H3) := by
  have hlen := Paired.length hP
  refine ⟨fun i m H => m = xs.length - i ∧ i ≤ xs.length ∧ Same H1 H ∧ H D = some (.lst (yss.take i).flatten), ⟨xs.length, by simp, Nat.zero_le _, same_new hD _, by rw [upd_same]; rfl⟩, ?_⟩
  rintro i m H ⟨rfl, hi, s1, hb⟩
  by_cases hlt : i < xs.length
  · refine .inr ⟨⟨xs, xs[i], same_T s1 hT, by simp [hlt]⟩, fun H => Same H1 H ∧ H D = some (.lst (yss.take (i + 1)).flatten), fun H' p' => ⟨xs.length - (i + 1), by omega, rfl, hlt, p'⟩, fun x H' y => ?_⟩
    obtain ⟨rfl, y⟩ := y
    obtain ⟨ys, ey, b, rfl, hB⟩ := pairedAt hP (y xs (same_T s1 hT))
    have et : yss.take (i + 1) = yss.take i ++ [ys] := by rw [List.take_succ, ey]; rfl
    have le : (yss.take (i + 1)).flatten.length ≤ yss.flatten.length := by
      conv => rhs; rw [← List.take_append_drop (i + 1) yss, List.flatten_append, List.length_append]
      omega
    rw [et, List.flatten_append, List.length_append] at le
    have le : (yss.take i).flatten.length + ys.length ≤ yss.flatten.length := by simpa using le
    refine ⟨w1 _, yes_of ⟨_, l1 _, b, rfl, ⟨_, same_T s1 hB⟩, fun j k H => k = ys.length - j ∧ j ≤ ys.length ∧ Same H1 H ∧ H D = some (.lst ((yss.take i).flatten ++ ys.take j)), ⟨ys.length, by simp, Nat.zero_le _, s1, by rw [hb]; simp⟩, ?_⟩⟩
    rintro j k H2 ⟨rfl, hj, s2, hb2⟩
    by_cases hjt : j < ys.length
    · refine .inr ⟨⟨ys, ys[j], same_T s2 hB, by simp [hjt]⟩, fun H => Same H1 H ∧ H D = some (.lst ((yss.take i).flatten ++ ys.take (j + 1))), fun H' p' => ⟨ys.length - (j + 1), by omega, rfl, hjt, p'⟩, fun z H' y2 => ?_⟩
      obtain ⟨rfl, y2⟩ := y2
      have ez := y2 ys (same_T s2 hB)
      refine ⟨w2 _ _, yes_of ⟨_, l2 _ _, _, hb2, ?_, fun c o e => ?_, ?_⟩⟩
      · rw [List.length_append, List.length_take]
        omega
      · rw [upd_ne (ne_of_none e hD)]
        exact s2 _ _ e
      · rw [upd_same, List.take_succ, ez, List.append_assoc]
        rfl
    · have e : j = ys.length := by omega
      subst e
      refine .inl ⟨⟨ys, same_T s2 hB, Nat.le_refl _⟩, s2, ?_⟩
      rw [hb2, et, List.take_length]
      simp
  · have e : i = xs.length := by omega
    subst e
    refine .inl ⟨⟨xs, same_T s1 hT, Nat.le_refl _⟩, hQ H s1 ?_⟩
    rw [hb, hlen, List.take_length]
end My
/-! the end of a law where some defs hold lambdas: their tables are empty when the law is called -/
namespace My
open PySem PySem.Spec PyProof.Rows L2 LamX
def Blank (K : PySem.W.Frag) (mg : Str → Option Value) (nms : List Str) (hp : Heap) : Prop := ∀ nm ∈ nms, ∀ g : Addr, mg nm = some (.ref g) → OwnTab K g hp
theorem walk_blank {lw : PySem.W.OpenLaw} {most lev : Nat} {pr : Program} {lo : List Str} {XQ : (Str → Option Value) → Heap → Prop} {YQ : World → Heap → Prop} {dr : DefRec} {KK : Params → PySem.W.Frag} {CQ : World → CXT} {par : Str} (nms : List Str)
    (e1 : lw.most = some most) (e2 : most ≤ sizeLine) (e3 : dr.params.defaults = []) (e4 : Room lev callerA) (e5 : (nms.all fun nm => (recsOf pr).any fun r => r.name == nm) = true) (e6 : ∀ (w0 : World) (hp : Heap), YQ w0 hp → (KK w0.params).In hp)
    (e7 : ∀ (w0 : World) (mg : Str → Option Value) (fa : Addr) (hp : Heap), YQ w0 hp → (KK w0.params).In hp → hp.Ns mainGlobals mg → mg dr.name = some (.ref fa) → Blank (KK w0.params) mg nms hp → LawAtS lw w0 (KK w0.params) (CQ w0) lev most par mg fa hp)
    (e8 : ∀ (w0 : World) (H : Hp) (z : Shared) (x : Value) (z' : Shared), CQ w0 [] H z (fun _ _ _ => False) x z' → False) :
    PySem.W.WalkO pr lo XQ YQ lw.row.toRowW dr [] (fun f vs => PySem.call f vs) := by
  refine Att.attach_callB e1 e3 fun w0 z0 z1 mg mb fa o pm cd doc a vs ns G Y _ _ _ hmg hob hin hle hbi hgo => ?_
  have KI := e6 w0 _ Y
  have bl : Blank (KK w0.params) mg nms z1.heap := fun nm hnm g hg c Pt o1 fd1 e dd vs1 sl a1 a2 a3 a4 a5 => by
    have hq : ((recsOf pr).any fun r => r.name == nm) = true := List.all_eq_true.mp e5 nm hnm
    obtain ⟨dq, hd1, hd2⟩ := List.any_eq_true.mp hq
    have hd3 : dq.name = nm := beq_iff_eq.mp hd2
    obtain ⟨a', o', fd', c', P', b1, b2, b3, b4, b5, b6⟩ := G.T.tab dq hd1
    rw [hd3, hg] at b1
    cases b1
    have g1 := KI _ _ a1
    rw [g1] at b2
    cases b2
    rw [a2] at b3
    cases b3
    rw [a3] at b4
    cases b4
    obtain ⟨⟨oc, vc, k1, _, k3, k4⟩, k5⟩ := b6
    have g2 := KI _ _ a4
    rw [g2] at k1
    cases k1
    cases k3
    rw [a5] at k4
    cases k4
    exact k5
  obtain ⟨fd, cs, sp, x1, x2, x3, x4, x5, x6⟩ := e7 w0 mg fa _ Y KI G.T.g hmg bl
  exact law_callTs KI G.T.g G.T.b G.T.builtins G.T.nolimit hgo x1 x2 x3 G.T.bmain hob hin (Nat.le_trans hle e2) e4 x6 x4 (fun H hH hS => x5 H a ns hle hbi hH hS) fun H x z' => e8 w0 H z1 x z'
end My
/-! len(x) and x[i] by own defs -/
namespace My
open PySem PySem.Spec L2 PyProof.Rows
section
variable {X : Cx} {k : Nat} {f C : Addr} {sp : Sp}
theorem runIn1 {pins : List (Addr × Obj)} {σ : L2.St} {H : Hp} {s : Shared} {Q : VK} {us : List Value} {vs : List V} (F : FnR X.prog X.w X.K X.mg X.base CX0 k f sp) (hr : Room (k + 1) X.A) (I : Inv X pins σ H s) (r : Vals vs us) (h : sp vs H Q E0) {Ex : Value → Shared → Prop} :
    wpAny (model X.prog X.w) X.A.in1 (call (.ref f) us) (EP X pins σ Q) Ex s := by
  refine wpAny_call (codeAny_mono (F X.A.in1 X.stack s H us vs Q E0 hr.in1 I.env0.in1 r h) fun rr s' hq => ?_)
  cases rr with
  | error e => exact False.elim hq
  | ok fl =>
    cases fl with
    | ret u => exact I.after hq
    | next => exact False.elim hq
    | brk => exact False.elim hq
    | cont => exact False.elim hq
def rLenO (C : Addr) (sp : Sp) : List V → Hp → VK → Prop := fun vs H Q => ∃ a dx fs, vs = [.ref a] ∧ H a = some (.ins C dx fs) ∧ sp [.ref a] H (fun v H' => ∃ n : Int, v = .int n ∧ 0 ≤ n ∧ n < 1000000 ∧ Q (.int n) H') E0
theorem cr_lenO (F : FnR X.prog X.w X.K X.mg X.base CX0 k f sp) (hr : Room (k + 1) X.A) (hs : PySem.W.findIn X.K (.ref C) "__len__" = some (some (.ref f))) (hf : PySem.W.isFn X.K (.ref f) = true) : CallR X (.builtin "len") (rLenO C sp) := by
  intro pins s σ H vs us Q I r h
  obtain ⟨a, dx, fs, rfl, ha, q⟩ := h
  rw [Vals.ref1 r]
  obtain ⟨mA, J, _⟩ := ins_get I.hok ha
  obtain ⟨od, J, _⟩ := J.look
  obtain ⟨m, hF⟩ := I.fr
  refine PySem.W.len_K hF I.ok.mod.kin J hs hf ?_
  refine wpAny_mono (runIn1 (vs := [V.ref a]) F hr I (.cons rfl .nil) q) (fun v s' ⟨z, H', I', rz, n, ez, n0, n1, q'⟩ => ?_) fun _ _ z => z
  subst ez
  obtain ⟨t, rfl⟩ := rz
  exact ⟨⟨n0, by omega⟩, .int n, H', I'.tok _, ⟨_, rfl⟩, q'⟩
def rIxO (C : Addr) (sp : Sp) : R2 := fun x y H Q => ∃ a dx fs i, x = .ref a ∧ y = .int i ∧ H a = some (.ins C dx fs) ∧ sp [.ref a, .int i] H Q E0
/-- x[i], x an object with its own __getitem__ -/
theorem pe_ixO {a b : Expr} {ta tb : TE} {pos : Pos} (F : FnR X.prog X.w X.K X.mg X.base CX0 k f sp) (hr : Room (k + 1) X.A) (hs : PySem.W.findIn X.K (.ref C) "__getitem__" = some (some (.ref f))) (hf : PySem.W.isFn X.K (.ref f) = true) (hfn : PySem.W.fnIn X.K f = true) (ha : PE X a ta) (hb : PE X b tb)
    (hsl : ∀ o i, subscripted b true o i = runValue (.builtin "lifetime.subscript" ⟨[o, i], []⟩) := by intro _ _; rfl) : PE X (.Subscript a b pos) (tOp (rIxO C sp) ta tb) := by
  refine ⟨fun pins s σ H Q I h => Subscript_ (binT ha hb I h fun v u s2 x y H2 I2 rx ry q => ?_)⟩
  obtain ⟨a, dx, fs, i, rfl, rfl, ha, q⟩ := q
  cases rx
  obtain ⟨t, rfl⟩ := ry
  obtain ⟨mA, J, _⟩ := ins_get I2.hok ha
  obtain ⟨od, J, _⟩ := J.look
  obtain ⟨m, hF⟩ := I2.fr
  exact PySem.W.sub_K hF I2.ok.mod.kin J hs hfn hf (runIn1 (vs := [V.ref a, V.int i]) F hr I2 (.cons rfl (.cons ⟨t, rfl⟩ .nil)) q) (hsl _ _)
end
end My
/-! lambdas that stand in a list and are called elsewhere -/
namespace My
open PySem PySem.Spec L2 LamX PyProof.Rows PySem.W PySem.Calls
/-- a lambda as it is written: no parameter, or one (dn) with the default 0 -/
structure Lm where
  params : Arguments
  body : Expr
  scope : Scope
  dn : Option Str
def LamO (q : Str) (m : Lm) (clo : List (Str × Addr)) (dV : Value) (f c' : Addr) : HO :=
  .ext fun h => ∃ doc pm ctv : Value, h.get? f = some (kdv_obj "<lambda>" q m.params (.expr m.body) m.scope clo dV doc pm c' ctv)
def Dfl (H : Hp) (m : Lm) (dV : Value) : Prop := (m.dn = none ∧ dV = .none) ∨ ∃ (a : Str) (t : Addr), m.dn = some a ∧ dV = .ref t ∧ H t = some (.tup [.int 0])
/-- v is the lambda m of the frame with these cells -/
def LamAt (q : Str) (cells : List (Str × Addr)) (m : Lm) (H : Hp) (v : V) : Prop :=
  ∃ (f c' : Addr) (dV : Value), v = .ref f ∧ H f = some (LamO q m (cloFrom cells m.scope.names []) dV f c') ∧ H c' = some (CodeO c' q) ∧ Dfl H m dV
theorem lamO_ne {q : Str} {m : Lm} {clo : List (Str × Addr)} {dV : Value} {f c' : Addr} (ps : Array Value) : LamO q m clo dV f c' ≠ .tbl ps := fun z => by
  unfold LamO at z
  cases z
theorem LamAt.extN {q : Str} {cells : List (Str × Addr)} {m : Lm} {H H' : Hp} {v : V} (h : LamAt q cells m H v) (e : ExtN H H') : LamAt q cells m H' v := by
  obtain ⟨f, c', dV, rfl, h1, h2, h3⟩ := h
  refine ⟨f, c', dV, rfl, e _ _ h1 (fun ps => lamO_ne ps), e _ _ h2 (fun ps => codeO_ne ps), ?_⟩
  rcases h3 with h3 | ⟨a, t, e1, e2, e3⟩
  · exact .inl h3
  · exact .inr ⟨a, t, e1, e2, e _ _ e3 (fun ps z => by cases z)⟩
theorem LamAt.same {q : Str} {cells : List (Str × Addr)} {m : Lm} {H H' : Hp} {v : V} (h : LamAt q cells m H v) (e : Same H H') : LamAt q cells m H' v := h.extN (ExtN.of e)
theorem LamAt.keep {q : Str} {cells : List (Str × Addr)} {m : Lm} {H H' : Hp} {v : V} {d : Addr} {ys : List V} (h : LamAt q cells m H v) (hd : H d = some (.lst ys)) (k : Keep d H H') : LamAt q cells m H' v := by
  obtain ⟨f, c', dV, rfl, h1, h2, h3⟩ := h
  refine ⟨f, c', dV, rfl, k _ _ (ne_of h1 hd (by intro z; unfold LamO at z; cases z)) h1, k _ _ (ne_of h2 hd (by intro z; unfold CodeO at z; cases z)) h2, ?_⟩
  rcases h3 with h3 | ⟨a, t, e1, e2, e3⟩
  · exact .inl h3
  · exact .inr ⟨a, t, e1, e2, k _ _ (ne_of e3 hd (by intro z; cases z)) e3⟩
theorem lamO_ok {P : Program} {w : World} {H : Hp} {h : Heap} {q : Str} {m : Lm} {clo : List (Str × Addr)} {dV doc pm ctv : Value} {f c' : Addr} (e : h.get? f = some (kdv_obj "<lambda>" q m.params (.expr m.body) m.scope clo dV doc pm c' ctv)) :
    ObjOk P w H h f (LamO q m clo dV f c') := ⟨⟨doc, pm, ctv, e⟩, ⟨_, e⟩, fun g1 g2 z k => by
  obtain ⟨d1, d2, d3, z⟩ := z
  exact ⟨d1, d2, d3, k _ z⟩⟩
section
variable {X : Cx} {pins : List (Addr × Obj)} {σ : L2.St} {H : Hp} {s : Shared}
/-- the tail of a lambda's making: it is tracked from now on -/
theorem lam_tail {T : List (Addr × Str)} {c P : Addr} {m : Lm} {pos : Pos} {E : Value → Shared → Prop} {Q : Value → Shared → Prop} {dV : Value} {fl : Nat} (I : Inv X pins σ H s) (TB : TabB X.base X.mg c P) (hcode : X.env.code = .ref c)
    (hm : (P, X.env.qual ++ "<lambda>") ∈ T) (hu : ∀ p ∈ T, p.1 = P → p.2 = X.env.qual ++ "<lambda>") (hT : Tabs T H) (hfree : ∀ y ∈ m.scope.names, y.2 = .free → ∃ c, X.env.cells.lookup y.1 = some c) (hdv : Dfl H m dV)
    (h : ∀ (f : Addr) (H1 : Hp) (s' : Shared), Inv X pins σ H1 s' → ExtN H H1 → Tabs T H1 → H f = none → LamAt (X.env.qual ++ "<lambda>") X.env.cells m H1 (.ref f) → Q (.ref f) s') :
    wpAny (model X.prog X.w) X.A (makeTail "<lambda>" (X.env.qual ++ "<lambda>") m.params (.expr m.body) m.scope X.env dV .none none pos fl) Q E s := by
  obtain ⟨ps, hP, ht, ha⟩ := hT _ hm
  have bP : s.heap.BuiltinsAt X.mg P := TB.bm.keeps I.bk
  have hP' : s.heap.get? P = some { cls := .none, data := .fields ps } := I.hok P _ hP
  have dx : ∀ {H1 : Hp}, ExtN H H1 → Dfl H1 m dV := fun {H1} e => by
    rcases hdv with z | ⟨a, t, e1, e2, e3⟩
    · exact .inl z
    · exact .inr ⟨a, t, e1, e2, e _ _ e3 (fun ps z => by cases z)⟩
  cases hc : codeAmong pos ps.toList with
  | none =>
    refine kdv_makeTail (mg := X.mg) (c := c) (P := P) (ps := ps) (closure_ok hfree) I.ok.glob (I.mod.glob.keeps I.bk) hcode (TB.code.keeps I.bk) hP' ht hc TB.gP bP fun c' ctv doc h' tk hx hge hlt hrec htb => ?_
    obtain ⟨c2, oc, vs, t, e2, hoc, hd, hv⟩ := hrec
    cases e2
    have hsz : s.heap.objs.size ≤ h'.objs.size := Nat.le_trans hge (Nat.le_of_lt hlt)
    have nC : H c' = none := I.hok.fresh hge
    have I1 := inv_table (t' := tk) (more := #[rawInt pos.line, rawInt pos.col, .ref c']) (h' := h') (q := X.env.qual ++ "<lambda>") I hP (fun b o hb e => hx b o hb e) htb hge ⟨oc, vs, t, hoc, hd, hv⟩
    have hE : ExtN H (upd (upd H P (.tbl (ps ++ #[rawInt pos.line, rawInt pos.col, .ref c']))) c' (CodeO c' (X.env.qual ++ "<lambda>"))) := fun b o e n => by
      rw [upd_ne (ne_of_none e nC), upd_ne (fun z => n ps (Option.some.inj (e.symm.trans (by rw [z]; exact hP))))]
      exact e
    have eL : (ps ++ #[rawInt pos.line, rawInt pos.col, .ref c']).toList = ps.toList ++ [rawInt pos.line, rawInt pos.col, .ref c'] := by simp
    have nF : H h'.objs.size = none := I.hok.fresh hsz
    have n1 : h'.objs.size ≠ c' := Nat.ne_of_gt hlt
    have n2 : h'.objs.size ≠ P := Nat.ne_of_gt (Nat.lt_of_lt_of_le (Heap.lt_size hP') hsz)
    have tb : Tabs T (upd (upd H P (.tbl (ps ++ #[rawInt pos.line, rawInt pos.col, .ref c']))) c' (CodeO c' (X.env.qual ++ "<lambda>"))) := fun p hp => by
      by_cases hb : p.1 = P
      · rw [hu p hp hb, hb]
        refine ⟨_, by rw [upd_ne (ne_of_none hP nC), upd_same], by rw [eL]; exact PySem.TriplesOk_snoc _ _ _ _ ht, fun p' cv hcv => ?_⟩
        rw [eL] at hcv
        rcases among_app _ ht hcv with z | z
        · obtain ⟨c0, e1, e2⟩ := ha p' cv z
          exact ⟨c0, e1, hE _ _ e2 codeO_ne⟩
        · exact ⟨c', z, upd_same⟩
      · obtain ⟨ps', a1, a2, a3⟩ := hT p hp
        refine ⟨ps', by rw [upd_ne (ne_of_none a1 nC), upd_ne hb]; exact a1, a2, fun p' cv hcv => ?_⟩
        obtain ⟨c0, e1, e2⟩ := a3 p' cv hcv
        exact ⟨c0, e1, hE _ _ e2 codeO_ne⟩
    have hco : upd (upd H P (.tbl (ps ++ #[rawInt pos.line, rawInt pos.col, .ref c']))) c' (CodeO c' (X.env.qual ++ "<lambda>")) c' = some (CodeO c' (X.env.qual ++ "<lambda>")) := upd_same
    have nF1 : upd (upd H P (.tbl (ps ++ #[rawInt pos.line, rawInt pos.col, .ref c']))) c' (CodeO c' (X.env.qual ++ "<lambda>")) h'.objs.size = none := by rw [upd_ne n1, upd_ne n2]; exact nF
    generalize upd (upd H P (.tbl (ps ++ #[rawInt pos.line, rawInt pos.col, .ref c']))) c' (CodeO c' (X.env.qual ++ "<lambda>")) = H1 at *
    have I2 := I1.laid (a := h'.objs.size) (o := LamO (X.env.qual ++ "<lambda>") m (cloFrom X.env.cells m.scope.names []) dV h'.objs.size c') (t' := tk) (h' := h'.push (kdv_obj "<lambda>" (X.env.qual ++ "<lambda>") m.params (.expr m.body) m.scope (cloFrom X.env.cells m.scope.names []) dV doc ((X.mg "__name__").getD .none) c' ctv))
      (fun b o e => Heap.get?_push_of_some _ e) (Nat.le_refl _) (lamO_ok (Heap.get?_push_size _ rfl))
    have sm := same_new nF1 (LamO (X.env.qual ++ "<lambda>") m (cloFrom X.env.cells m.scope.names []) dV h'.objs.size c')
    exact h _ _ _ I2 (hE.trans (ExtN.of sm)) (tb.ext sm) nF ⟨_, c', dV, rfl, upd_same, sm _ _ hco, dx (hE.trans (ExtN.of sm))⟩
  | some cv =>
    obtain ⟨c', e, hco⟩ := ha pos cv hc
    subst e
    refine kdv_makeTailHit (mg := X.mg) (c := c) (P := P) (ps := ps) (closure_ok hfree) I.ok.glob (I.mod.glob.keeps I.bk) hcode (TB.code.keeps I.bk) hP' ht hc bP fun ctv doc h' tk hx hsz => ?_
    have nF : H h'.objs.size = none := I.hok.fresh hsz
    have I2 := I.laid (a := h'.objs.size) (o := LamO (X.env.qual ++ "<lambda>") m (cloFrom X.env.cells m.scope.names []) dV h'.objs.size c') (t' := tk) (h' := h'.push (kdv_obj "<lambda>" (X.env.qual ++ "<lambda>") m.params (.expr m.body) m.scope (cloFrom X.env.cells m.scope.names []) dV doc ((X.mg "__name__").getD .none) c' ctv))
      (fun b o e => Heap.get?_push_of_some _ (hx b o e)) hsz (lamO_ok (Heap.get?_push_size _ rfl))
    have sm := same_new nF (LamO (X.env.qual ++ "<lambda>") m (cloFrom X.env.cells m.scope.names []) dV h'.objs.size c')
    exact h _ _ _ I2 (ExtN.of sm) (hT.ext sm) nF ⟨_, c', dV, rfl, upd_same, sm _ _ hco, dx (ExtN.of sm)⟩
end
/-- the lambda's names: captured ones and globals; its own parameter is none of the frame's names -/
structure LamSD (sc scope : Scope) (N : List Str) (dn : Option Str) : Prop where
  kind : scope.kind = .function
  co : scope.isCoroutine = false
  gen : scope.isGenerator = false
  own : ∀ y ∈ scope.names, y.2 ≠ .cell ∧ (y.2 = .local → y.1 ∉ N)
  free : ∀ y ∈ scope.names, y.2 = .free → sc.names.lookup y.1 = some .cell ∨ sc.names.lookup y.1 = some .free
  par : ∀ a, dn = some a → scope.names.lookup a = some .local
def lamSDB (sc scope : Scope) (N : List Str) (dn : Option Str) : Bool :=
  decide (scope.kind = .function) && !scope.isCoroutine && !scope.isGenerator && (scope.names.all fun y => !decide (y.2 = .cell) && (!decide (y.2 = .local) || decide (y.1 ∉ N)) && (!decide (y.2 = .free) || decide (sc.names.lookup y.1 = some .cell) || decide (sc.names.lookup y.1 = some .free))) &&
    (match dn with | none => true | some a => decide (scope.names.lookup a = some .local))
theorem lamSD_by {sc scope : Scope} {N : List Str} {dn : Option Str} (h : lamSDB sc scope N dn = true) : LamSD sc scope N dn := by
  unfold lamSDB at h
  simp only [Bool.and_eq_true, Bool.or_eq_true, Bool.not_eq_true', decide_eq_true_eq, decide_eq_false_iff_not, List.all_eq_true] at h
  obtain ⟨⟨⟨⟨h1, h2⟩, h3⟩, h4⟩, h5⟩ := h
  refine ⟨h1, h2, h3, fun y hy => ⟨(h4 y hy).1.1, fun e => ?_⟩, fun y hy e => ?_, fun a e => ?_⟩
  · rcases (h4 y hy).1.2 with z | z
    · exact absurd e z
    · exact z
  · rcases (h4 y hy).2 with (z | z) | z
    · exact absurd e z
    · exact .inl z
    · exact .inr z
  · rw [e] at h5
    exact of_decide_eq_true h5
theorem LamSD.has {X : Cx} {scope : Scope} {N : List Str} {dn : Option Str} (L : LamSD X.env.scope scope N dn) (ok : X.Ok) : ∀ y ∈ scope.names, y.2 = .free → ∃ c, X.env.cells.lookup y.1 = some c := fun y hy e => by
  rcases L.free y hy e with k | k
  · exact ok.has _ (.inl k)
  · exact ok.has _ (.inr k)
structure LmOk (X : Cx) (m : Lm) : Prop where
  S : LamSD X.env.scope m.scope X.N m.dn
  b0 : m.dn = none → ∀ (q : Str) (cl : List (Str × Addr)) (doc pm cv ctv : Value), bindArgs (kdv_fn "<lambda>" q m.params (.expr m.body) m.scope cl .none doc pm cv ctv) ⟨[], []⟩ = pure []
  b1 : ∀ a, m.dn = some a → ∀ (q : Str) (cl : List (Str × Addr)) (t : Addr) (doc pm cv ctv v : Value), ∃ k, bindArgs (kdv_fn "<lambda>" q m.params (.expr m.body) m.scope cl (.ref t) doc pm cv ctv) ⟨[], []⟩ = seqItems? (.ref t) >>= k ∧ k (some #[v]) = pure [(a, v)]
/-- v is a lambda of the frame X, t its reading -/
def LamT (X : Cx) (k : Nat) (t : XK → TE) (H : Hp) (v : V) : Prop :=
  ∃ m : Lm, LmOk X m ∧ (∀ (A : Around) (outer : List Env) (s : Shared) (H : Hp) (E : XK) (f c' : Addr), Room k (A.deeper (lamEnv X m.scope s.heap.objs.size f c')) → PE (lamCx X A outer s H E m.scope f c') m.body (t E)) ∧ LamAt (X.env.qual ++ "<lambda>") X.env.cells m H v
theorem LamT.extN {X : Cx} {k : Nat} {t : XK → TE} {H H' : Hp} {v : V} (h : LamT X k t H v) (e : ExtN H H') : LamT X k t H' v := by
  obtain ⟨m, a, b, c⟩ := h
  exact ⟨m, a, b, c.extN e⟩
theorem LamT.same {X : Cx} {k : Nat} {t : XK → TE} {H H' : Hp} {v : V} (h : LamT X k t H v) (e : Same H H') : LamT X k t H' v := h.extN (ExtN.of e)
theorem LamT.keep {X : Cx} {k : Nat} {t : XK → TE} {H H' : Hp} {v : V} {d : Addr} {ys : List V} (h : LamT X k t H v) (hd : H d = some (.lst ys)) (e : Keep d H H') : LamT X k t H' v := by
  obtain ⟨m, a, b, c⟩ := h
  exact ⟨m, a, b, c.keep hd e⟩
def tLamV (X : Cx) (T : List (Addr × Str)) (k : Nat) (t : XK → TE) : TE := fun _ H Q => Tabs T H ∧ ∀ H1 f, ExtN H H1 → Tabs T H1 → H f = none → LamT X k t H1 (.ref f) → Q (.ref f) H1
section
variable {X : Cx}
/-- lambda: body, as a value -/
theorem pe_lamV0 {k : Nat} {t : XK → TE} {T : List (Addr × Str)} {c P : Addr} {params : Arguments} {body : Expr} {scope : Scope} {pos : Pos} (TB : TabB X.base X.mg c P) (hcode : X.env.code = .ref c) (hmT : (P, X.env.qual ++ "<lambda>") ∈ T) (hu : ∀ p ∈ T, p.1 = P → p.2 = X.env.qual ++ "<lambda>")
    (L : LmOk X ⟨params, body, scope, none⟩) (hdef : defaultsOf params X.env = ([], []))
    (hbody : ∀ (A : Around) (outer : List Env) (s : Shared) (H : Hp) (E : XK) (f c' : Addr), Room k (A.deeper (lamEnv X scope s.heap.objs.size f c')) → PE (lamCx X A outer s H E scope f c') body (t E))
    : PE X (.Lambda params body scope pos) (tLamV X T k t) := by
  refine ⟨fun pins s σ H Q I h => ?_⟩
  obtain ⟨hT, h⟩ := h
  refine PySem.W.kla_eval hdef ?_
  rw [makeFunction_eq]
  simp only [List.zip_nil_right, List.filterMap_nil, List.isEmpty_nil, if_true, pure_bind]
  exact lam_tail (m := ⟨params, body, scope, none⟩) I TB hcode hmT hu hT (L.S.has I.ok) (.inl ⟨rfl, rfl⟩) fun f H1 s' I1 eN T1 hf la => ⟨.ref f, H1, I1, rfl, h H1 f eN T1 hf ⟨_, L, hbody, la⟩⟩
/-- lambda a=0: body, as a value -/
theorem pe_lamV1 {k : Nat} {t : XK → TE} {T : List (Addr × Str)} {c P : Addr} {params : Arguments} {body : Expr} {scope : Scope} {pos pc : Pos} {a : Str} {j : Nat} (TB : TabB X.base X.mg c P) (hcode : X.env.code = .ref c) (hmT : (P, X.env.qual ++ "<lambda>") ∈ T) (hu : ∀ p ∈ T, p.1 = P → p.2 = X.env.qual ++ "<lambda>")
    (L : LmOk X ⟨params, body, scope, some a⟩) (hdef : params.defaults = [.Constant (.int 0) j pc]) (hk0 : params.kw_defaults = [])
    (hbody : ∀ (A : Around) (outer : List Env) (s : Shared) (H : Hp) (E : XK) (f c' : Addr), Room k (A.deeper (lamEnv X scope s.heap.objs.size f c')) → PE (lamCx X A outer s H E scope f c') body (t E))
    : PE X (.Lambda params body scope pos) (tLamV X T k t) := by
  refine ⟨fun pins s σ H Q I h => ?_⟩
  obtain ⟨hT, h⟩ := h
  refine kdv_lam (by rw [hdef]; rfl) hk0 ?_
  rw [hdef]
  refine kdv_all1 (thn ((pe_int (X := X) (i := 0) (j := j) (pos := pc)).run pins s σ H (fun v H' => v = .int 0 ∧ H' = H) I ⟨rfl, rfl⟩) fun u s1 hz => kdv_all0 ?_)
  obtain ⟨v, H1, I1, r1, rfl, rfl⟩ := hz
  rw [makeFunction_eq]
  simp only [List.zip_nil_right, List.filterMap_nil, List.isEmpty_nil, if_true, pure_bind, List.isEmpty_cons, Bool.false_eq_true, if_false]
  refine wpAny_bind (wpAny_newTextTuple ?_)
  have nt : H1 s1.heap.objs.size = none := I1.hok.fresh (Nat.le_refl _)
  have I2 := I1.laid (a := s1.heap.objs.size) (o := .tup [.int 0]) (t' := s1.toks) (h' := s1.heap.push { cls := .type "tuple", data := .seq [u].toArray }) (fun b o e => Heap.get?_push_of_some _ e) (Nat.le_refl _)
    ⟨(by show 1 ≤ sizeLine; decide), [u], .cons r1 .nil, _, Heap.get?_push_size _ rfl, rfl, _, rfl⟩
  have sm := same_new nt (.tup [.int 0])
  exact lam_tail (m := ⟨params, body, scope, some a⟩) I2 TB hcode hmT hu (hT.ext sm) (L.S.has I.ok) (.inr ⟨a, _, rfl, rfl, upd_same⟩) fun f H2 s' I3 eN T1 hf la => ⟨.ref f, H2, I3, rfl, h H2 f ((ExtN.of sm).trans eN) T1 (by
    by_cases e : f = s1.heap.objs.size
    · rw [e]; exact nt
    · rw [upd_ne e] at hf; exact hf) ⟨_, L, hbody, la⟩⟩
end
/-! ### a frame's cells as a part of the base -/
structure LamB (X : Cx) (σ : L2.St) (b : Heap) : Prop where
  ok : X.Ok
  sub : ∀ a o, X.base.get? a = some o → b.get? a = some o
  size : X.base.objs.size ≤ b.objs.size
  cell : ∀ x c, X.env.cells.lookup x = some c → ∃ v, b.IsCell c v
  val : ∀ (i : Nat) (x : Str) (v : V) (c : Addr), X.N[i]? = some x → σ[i]? = some (some v) → (X.env.scope.names.lookup x = some .cell ∨ X.env.scope.names.lookup x = some .free) → X.env.cells.lookup x = some c → ∃ u, RelV v u ∧ b.IsCell c (some u)
  len : σ.length = X.N.length
def bigB (X : Cx) (H : Hp) (h : Heap) : Heap := hideAll h (trk h H ++ frs X.stack)
theorem funs_re {h b b' : Heap} : ∀ {l : List Env}, h.FunFrames b l → (∀ a ∈ frs l, b'.get? a = none) → h.FunFrames b' l
  | [], _, _ => trivial
  | env :: r, ⟨hk, ⟨L, o, hf, hn, ho, hd⟩, hr⟩, q => by
    have mem : ∀ a ∈ frs r, a ∈ frs (env :: r) := fun a ha => by unfold frs; rw [List.filterMap_cons, hf]; exact List.mem_cons_of_mem _ ha
    exact ⟨hk, ⟨L, o, hf, q L (by unfold frs; rw [List.filterMap_cons, hf]; exact List.mem_cons_self), ho, hd⟩, funs_re hr fun a ha => q a (mem a ha)⟩
section
variable {X : Cx} {pins : List (Addr × Obj)} {σ : L2.St} {H : Hp} {s : Shared}
theorem big_get {h : Heap} {a : Addr} {o : Obj} (e : h.get? a = some o) (n : H a = none) (nf : a ∉ frs X.stack) : (bigB X H h).get? a = some o :=
  hideAll_get _ e fun hm => by
    rcases List.mem_append.mp hm with z | z
    · have q : (H a).isSome = true := (List.mem_filter.mp z).2
      rw [n] at q
      cases q
    · exact nf z
theorem of_big {h : Heap} {a : Addr} {o : Obj} (e : (bigB X H h).get? a = some o) : h.get? a = some o ∧ H a = none := by
  have e' : h.get? a = some o := of_hideAll _ e
  refine ⟨e', ?_⟩
  cases q : H a with
  | none => rfl
  | some x =>
    have hm : a ∈ trk h H ++ frs X.stack := List.mem_append.mpr (.inl (List.mem_filter.mpr ⟨List.mem_range.mpr (Heap.lt_size e'), by simp [q]⟩))
    have z : (bigB X H h).get? a = none := hideAll_none _ hm
    rw [z] at e
    cases e
theorem big_sub (I : Inv X pins σ H s) : ∀ a o, X.base.get? a = some o → (bigB X H s.heap).get? a = some o := fun a o e => by
  obtain ⟨h1, h2⟩ := I.bs a o e
  refine big_get h1 h2 fun z => ?_
  rcases List.mem_cons.mp (I.stkSub a z) with z | z
  · have l1 := Heap.lt_size e
    have l2 := Nat.le_trans I.ok.bsz I.ok.above
    rw [z] at l1
    exact Nat.lt_irrefl _ (Nat.lt_of_lt_of_le l1 l2)
  · exact I.ok.nofr e z
theorem big_mod (I : Inv X pins σ H s) : Mod X.K X.mg (bigB X H s.heap) := by
  have k := big_sub I
  obtain ⟨mb, h1, h2⟩ := I.mod.blt
  exact ⟨I.mod.kin.keeps k, I.mod.glob.keeps k, ⟨mb, h1.keeps k, h2⟩, I.mod.nolimit.keeps k⟩
theorem big_env0 (I : Inv X pins σ H s) : Env0 X.prog X.w X.K X.mg (bigB X H s.heap) X.A X.stack s H :=
  ⟨I.ok.frames, big_mod I, fun a o e => of_big e, by unfold bigB; rw [hideAll_size]; exact Nat.le_refl _, funs_re I.stack fun a ha => hideAll_none _ (List.mem_append.mpr (.inr ha)), I.stkFree, I.hok, I.bare⟩
theorem lamB_of (I : Inv X pins σ H s) (hfn : ∀ x, X.fn x = true) : LamB X σ (bigB X H s.heap) := by
  have nf : ∀ x c, X.env.cells.lookup x = some c → c ∉ frs X.stack := fun x c e z => by
    rcases List.mem_cons.mp (I.stkSub c z) with z | z
    · exact I.cne x c e z
    · obtain ⟨_, o, ho, _⟩ := I.ok.funs.mem z
      have l1 := Heap.lt_size ho
      have l2 := I.ok.cab x c (hfn x) e
      exact Nat.lt_irrefl _ (Nat.lt_of_lt_of_le l1 l2)
  have up : ∀ x c v, X.env.cells.lookup x = some c → s.heap.IsCell c v → (bigB X H s.heap).IsCell c v := fun x c v e ⟨o, ho, hd⟩ => ⟨o, big_get ho (I.freeC x c e) (nf x c e), hd⟩
  refine ⟨I.ok, big_sub I, ?_, fun x c e => ?_, fun i x v c e1 e2 e3 e4 => ?_, I.len⟩
  · unfold bigB
    rw [hideAll_size]
    exact Nat.le_trans I.ok.bsz I.sz
  · obtain ⟨v, z⟩ := I.cell x c e
    exact ⟨v, up x c v e z⟩
  · obtain ⟨m, _, hl⟩ := I.loc
    obtain ⟨u, r, q⟩ := hl i x v e1 e2 (.inr e3)
    refine ⟨u, r, ?_⟩
    rcases q with ⟨k, _⟩ | ⟨_, c2, k2, z⟩
    · have k : X.env.scope.names.lookup x = some .local := k
      rcases e3 with e3 | e3 <;> rw [e3] at k <;> cases k
    · rw [e4] at k2
      cases k2
      exact up x c _ e4 z
theorem lam_startB {A : Around} {outer : List Env} {E : XK} {scope : Scope} {dn : Option Str} {f c' : Addr} {b h₁ : Heap} {tk : Nat} {HZ : Hp} {s1 : Shared} {bs : List (Str × Value)} (B : LamB X σ b) (L : LamSD X.env.scope scope X.N dn) (e0 : Env0 X.prog X.w X.K X.mg b A outer s1 HZ) (hd : A.handled = none)
    (hns : h₁.Ns s1.heap.objs.size fun y => bs.reverse.lookup y) (kp : ∀ b o, s1.heap.get? b = some o → h₁.get? b = some o) :
    Inv (lamCx X A outer s1 HZ E scope f c') [] σ HZ { s1 with heap := h₁, toks := tk } := by
  have hfree := L.has B.ok
  have cm : ∀ {y c}, (cloFrom X.env.cells scope.names []).lookup y = some c → X.env.cells.lookup y = some c := fun {y c} e => by
    rcases cloFrom_mem (PySem.mem_of_lookup e) with hm | ⟨h1, h2⟩
    · cases hm
    · obtain ⟨c1, hc⟩ := hfree _ h1 rfl
      have hc : X.env.cells.lookup y = some c1 := hc
      have e2 : c = c1 := by
        rw [h2, hc] <;> rfl
      rw [e2]
      exact hc
  have look : ∀ {y}, scope.names.lookup y = some .free → ∃ c, (cloFrom X.env.cells scope.names []).lookup y = some c := fun {y} hl => mem_lookup (cloFrom_has (cells := X.env.cells) (acc := []) (PySem.mem_of_lookup hl))
  have cellK : ∀ {c : Addr} {v : Option Value}, b.IsCell c v → h₁.IsCell c v := fun {c v} ⟨o, ho, hd⟩ => ⟨o, kp _ _ (e0.bs c o ho).1, hd⟩
  have noA : ∀ b : Addr, b ∉ (lamCx X A outer s1 HZ E scope f c').ex := fun b z => absurd (show b ∈ ([] : List Addr) from z) (by simp)
  have fb : ∀ a, b.get? a = none → X.base.get? a = none := fun a n => by
    cases e : X.base.get? a with
    | none => rfl
    | some o => rw [B.sub a o e] at n; cases n
  refine ⟨⟨B.ok.mod, L.kind, rfl, rfl, Nat.le_refl _, fun y z c e1 e2 => B.ok.inj y z c (cm e1) (cm e2), fun y hy => ?_, fun y c z _ => ?_, fun _ => hd, Around.frames_deeper e0.frames, .inr ⟨rfl, rfl⟩, fun b z => absurd z (noA b), fun a o e => e0.bs a o (B.sub a o e), Nat.le_trans B.size e0.bsz, fun b _ _ => noA b,
      fun b z => absurd z (noA b), funs_re e0.funs fun a ha => fb a (e0.funs.mem ha).1, e0.frf⟩,
    rfl, e0.bare, Un.kept kp, ⟨_, hns, fun i y v e1 e2 e3 => ?_⟩, fun y c e => ?_, e0.hok.fresh (Nat.le_refl _), fun y c e => ?_, fun q hq => absurd (show q ∈ ([] : List (Addr × Obj)) ++ [] from hq) (by simp), e0.hok.kept kp, B.len⟩
  · have hy : scope.names.lookup y = some .cell ∨ scope.names.lookup y = some .free := hy
    rcases hy with hy | hy
    · exact absurd rfl (L.own _ (PySem.mem_of_lookup hy)).1
    · exact look hy
  · have z : false = true := z
    cases z
  · have e1 : X.N[i]? = some y := e1
    have e3 : Vis scope y := e3
    rcases e3 with k | k | k
    · exact absurd (List.mem_of_getElem? e1) ((L.own _ (PySem.mem_of_lookup k)).2 rfl)
    · exact absurd rfl (L.own _ (PySem.mem_of_lookup k)).1
    · obtain ⟨c2, h2⟩ := look k
      obtain ⟨u, r, z⟩ := B.val i y v c2 e1 e2 (L.free _ (PySem.mem_of_lookup k) rfl) (cm h2)
      exact ⟨u, r, .inr ⟨.inr k, c2, h2, cellK z⟩⟩
  · obtain ⟨v, z⟩ := B.cell y c (cm e)
    exact ⟨v, cellK z⟩
  · obtain ⟨v, o, ho, _⟩ := B.cell y c (cm e)
    exact (e0.bs c o ho).2
/-- x(), in a def that got the lambda m; b: a base with the cells of m's frame -/
theorem pe_actB {CXg : CXT} {Eg : XK} {Ng : List Str} {qg : Str} {sg : Scope} {g : Addr} {cdg : Value} {m : Lm} {k i : Nat} {a : Str} {pn : List (Addr × Obj)} {xe : Value → Shared → Prop} {W : WX} {E : XK} {tb : TE} {p1 p2 : Pos} {b : Heap} {AZ : Around} {outZ : List Env} {s0 : Shared} {H0 : Hp}
    (B : LamB X σ b) (L : LmOk X m) (tk : Takes ((cxOf CXg X.prog X.w X.K X.mg b Ng qg sg g cdg AZ outZ s0 H0 Eg).tr pn xe) W) (hW : ∀ cls d σ' H', E cls d H' → W cls d σ' H') (hr : Room (k + 1) (AZ.deeper (envOfC qg sg s0.heap.objs.size g cdg)))
    (hbody : ∀ (A : Around) (outer : List Env) (s : Shared) (H : Hp) (f c' : Addr), Room k (A.deeper (lamEnv X m.scope s.heap.objs.size f c')) → PE (lamCx X A outer s H E m.scope f c') m.body tb)
    (hN : Ng[i]? = some a) (hv : Vis sg a) (hd : (a == ("__debug__" : Str)) = false := by decide) (hcd : (a == ("__classdict__" : Str)) = false := by decide) :
    PE ((cxOf CXg X.prog X.w X.K X.mg b Ng qg sg g cdg AZ outZ s0 H0 Eg).tr pn xe) (.Call (.Name a p1) [] [] p2)
      (fun σZ HZ Q => ∃ v, σZ[i]? = some (some v) ∧ LamAt (X.env.qual ++ "<lambda>") X.env.cells m HZ v ∧ tb σ HZ Q) := by
  refine ⟨fun pinsZ sZ σZ HZ Q IZ h => ?_⟩
  obtain ⟨v, hs, ⟨f, c', dV, rfl, hf, hc, hdv⟩, ht⟩ := h
  refine wpAny_Call_Name_kw (thn ((pe_var (pos := p1) (i := i) hN hv hd hcd).run pinsZ sZ σZ HZ (fun v H1 => v = .ref f ∧ H1 = HZ) IZ ⟨.ref f, hs, rfl, rfl⟩) fun u s1 ⟨v, H1, I1, r1, q1⟩ => ?_)
  obtain ⟨ev, eH⟩ := q1
  subst ev
  rw [eH] at I1
  obtain rfl : u = Value.ref f := r1
  obtain ⟨⟨doc, pm, ctv, of1⟩, _, _⟩ := I1.hok f _ hf
  refine PySem.W.callWith_F0 ⟨_, _, _, _, of1⟩ ?_
  obtain ⟨⟨oc, vs, t, hoc, hdc, hvc⟩, _, _⟩ := I1.hok c' _ hc
  have bd : ∃ bs : List (Str × Value), BindsTo s1 (kdv_fn "<lambda>" (X.env.qual ++ "<lambda>") m.params (.expr m.body) m.scope (cloFrom X.env.cells m.scope.names []) dV doc pm (.ref c') ctv) ⟨[], []⟩ bs ∧ ∀ y ∈ bs, m.scope.names.lookup y.1 = some .local := by
    rcases hdv with ⟨e1, rfl⟩ | ⟨a', tt, e1, rfl, e3⟩
    · exact ⟨[], .of_eq (L.b0 e1 _ _ _ _ _ _), fun y hy => by cases hy⟩
    · obtain ⟨_, its, rv, o, ho, _, n, hn⟩ := I1.hok tt _ e3
      obtain ⟨v0, rfl⟩ : ∃ v0, its = [v0] := by
        cases rv with
        | cons _ r => cases r; exact ⟨_, rfl⟩
      obtain ⟨kk, h1, h2⟩ := L.b1 a' e1 (X.env.qual ++ "<lambda>") (cloFrom X.env.cells m.scope.names []) tt doc pm (.ref c') ctv v0
      exact ⟨[(a', v0)], BindsTo.of_defaults (T := tt) rfl ho hn h1 h2, fun y hy => by rw [List.mem_singleton.mp hy]; exact L.S.par a' e1⟩
  obtain ⟨bs, hb, hl⟩ := bd
  have rc : codeAny (model X.prog X.w) (AZ.deeper (envOfC qg sg s0.heap.objs.size g cdg)) (.call (.ref f) ⟨[], []⟩) (CR (L2.CX X.prog X.w) (envOfC qg sg s0.heap.objs.size g cdg :: outZ) X.prog X.w HZ s1 Q E) s1 := by
    refine PySem.W.kla_callFunE hr.depth of1 rfl L.S.co L.S.gen rfl ⟨c', oc, vs, t, rfl, hoc, hdc, hvc⟩ (hb _ _ _ _ ?_)
    refine wpAny_newFunctionEnv (fun y hy => (L.S.own y hy).1) hl (fun h₁ hns hsb => ⟨I1.nolimit.fresh _ hsb, ?_⟩) L.S.kind
    show codeAny _ _ (.expr m.body (lamEnv X m.scope s1.heap.objs.size f c')) _ _
    have kp : ∀ b o, s1.heap.get? b = some o → h₁.get? b = some o := fun b o e => hsb.extBut b o (Nat.ne_of_lt (Heap.lt_size e)) (Heap.get?_push_of_some _ e)
    have J : Inv (lamCx X (AZ.deeper (envOfC qg sg s0.heap.objs.size g cdg)) (envOfC qg sg s0.heap.objs.size g cdg :: outZ) s1 HZ E m.scope f c') [] σ HZ { s1 with heap := h₁, toks := s1.toks + bs.length } :=
      lam_startB B L.S I1.env0 hr.hd hns kp
    refine PySem.W.kla_codeExpr (wpAny_mono ((hbody _ _ s1 HZ f c' (hr.deeper _)).run [] _ _ HZ Q J ht) (fun v s' hq => ?_) fun e s' hq => hq)
    obtain ⟨w', H', J', rv, q⟩ := hq
    exact ⟨w', H', J'.os, J'.bare, J'.base, J'.hok, rv, q⟩
  have hx : Passes (L2.CX X.prog X.w) ((cxOf CXg X.prog X.w X.K X.mg b Ng qg sg g cdg AZ outZ s0 H0 Eg).tr pn xe) E := passes_call tk hW
  refine wpAny_call (codeAny_mono rc fun r s' hq => ?_)
  cases r with
  | error e => exact hx pinsZ σZ HZ s1 e s' I1 hq
  | ok fl =>
    cases fl with
    | ret u => exact I1.after hq
    | next => exact False.elim hq
    | brk => exact False.elim hq
    | cont => exact False.elim hq
/-- the def that calls what it got, over a base with the cells -/
def sp_errB (X : Cx) (k : Nat) (σ : L2.St) (TT : (XK → Hp → VK → Prop) → Hp → VK → Prop) : Sp := fun vs H Q _ => ∃ v t, vs = [v] ∧ LamT X k t H v ∧ TT (fun E H' Q' => (∀ m, LamAt (X.env.qual ++ "<lambda>") X.env.cells m H v → LamAt (X.env.qual ++ "<lambda>") X.env.cells m H' v) ∧ t E σ H' Q') H Q
theorem errB {TT : (XK → Hp → VK → Prop) → Hp → VK → Prop} {x a : Str} {g : Addr} {k : Nat} {pg : Arguments} {bg : List Stmt} {sg : Scope} {dV kV doc pm cdv ct oc : Value} {an od : Option Addr} {osl : Array (Option Value)} {Ng : List Str} {b : Heap}
    (lk : X.K.lookup g = some ⟨oc, od, .func (PySem.W.fnOf x x pg bg sg dV kV doc pm an cdv ct), osl⟩) (hcg : PySem.W.codeIn X.K cdv x = true) (hb : L2.Binds X.K (PySem.W.fnOf x x pg bg sg dV kV doc pm an cdv ct) [a] []) (Sg : FnScope Ng [a] sg) (hNg : Ng[0]? = some a) (hva : Vis sg a)
    (hG : ∀ (A : Around) (outer : List Env), GivesTo { X with base := b, A := A, stack := outer } Ng x sg g cdv bg a (X.env.qual ++ "<lambda>") TT) (B : LamB X σ b)
    (hd : (a == ("__debug__" : Str)) = false := by decide) (hcd : (a == ("__classdict__" : Str)) = false := by decide) :
    FnR X.prog X.w X.K X.mg b C8.CX0 (k + 2) g (sp_errB X k σ TT) := by
  intro A outer s H us vs Q E hr e0 r h
  obtain ⟨v, t, rfl, ⟨m, L, hbody, la⟩, h⟩ := h
  obtain ⟨f, c', dV, rfl, hf, hc, hdv⟩ := id la
  cases r with
  | cons rx rr =>
    cases rr
    cases rx
    have e00 : Env0 X.prog X.w X.K X.mg b A outer s H := e0
    have kin : X.K.In s.heap := e0.mod.kin.keeps fun b o e => (e0.bs b o e).1
    refine codeAny_mono (run_ofS (CX := C8.CX0) (N := Ng) (ps := [a]) (us := [.ref f]) (vs := [.ref f]) (k := k + 1) (Q := Q) (E := C8.E0) lk hcg Sg hr e0 (hb s [.ref f] kin rfl) (.cons rfl .nil) rfl fun hr' => ?_) fun r s' hq => ?_
    · obtain ⟨t', ht', hq'⟩ := hG A outer f c' s H Q (fun E H' Q' => (∀ m, LamAt (X.env.qual ++ "<lambda>") X.env.cells m H (.ref f) → LamAt (X.env.qual ++ "<lambda>") X.env.cells m H' (.ref f)) ∧ t E σ H' Q') (fun W pn xe E p1 p2 tk hW => ⟨fun pins s' σ' H' Q' I' h' => (pe_actB (X := X) (i := 0) B L tk hW hr' (fun A outer s H f c' hr2 => hbody A outer s H E f c' hr2) hNg hva hd hcd).run pins s' σ' H' Q' I' ⟨_, h'.1, h'.2.2.1 m la, h'.2.2.2⟩⟩) hc h
      exact ⟨t', ht'.nox, hq'⟩
    · cases r with
      | error e => exact (show False from hq).elim
      | ok fl => exact hq
/-- x(e, ..) by a promise over the base with the cells -/
theorem pe_big {x : Str} {g : Addr} {k : Nat} {e : Expr} {es : List Expr} {ta : TA} {sp : L2.St → Sp} {p pos : Pos} (hg : Gl X x) (hm : X.mg x = some (.ref g)) (hk : PySem.W.keepIn X.K (.ref g) = true) (hfn : ∀ x, X.fn x = true) (ha : PA X (e :: es) ta)
    (hF : ∀ σ b, LamB X σ b → FnR X.prog X.w X.K X.mg b C8.CX0 k g (sp σ)) (hr : Room k X.A) (hd : (x == ("__debug__" : Str)) = false := by decide)
    (he : starEach (e :: es) X.env = (false, eval e X.env) :: starEach es X.env := by rfl) (hpl : (backTo pos (starEach es X.env)).any (·.1) = false := by rfl) :
    PE X (.Call (.Name x p) (e :: es) [] pos) (fun σ H Q => ta σ H fun vs H1 => sp σ vs H1 Q C8.E0) := by
  refine ⟨fun pins s σ H Q I h => ?_⟩
  refine wpAny_Call_Name_kw (ld_glob I hg hm ?_ hd)
  refine PySem.W.callWith_K (h₀ := X.base) I.ok.mod.kin hk (thn (ha.run pos pins s σ H _ I h) fun us s1 ⟨vs, H1, I1, r, q⟩ => ⟨I1.kIn, ?_⟩) he hpl
  refine wpAny_call (codeAny_mono (hF σ _ (lamB_of I1 hfn) X.A X.stack s1 H1 us vs Q C8.E0 hr (big_env0 I1) r q) fun r s' hq => ?_)
  cases r with
  | error e => exact (show False from hq).elim
  | ok fl =>
    cases fl with
    | ret u => exact I1.after hq
    | next => exact False.elim hq
    | brk => exact False.elim hq
    | cont => exact False.elim hq
end
end My
/-! t == u of two tuples, items by their own == -/
namespace My
open PySem PySem.Spec L2 PyProof.Rows PySem.SeqAt
open AutoSeq1 (wpAny_loadPart')
open MeetsSeq MeetsSeq2 MeetsSeq3 SeqRoads2
section
variable {prog : Program} {w : World} {A : Around} {R : Result → Shared → Prop}
theorem tuple_eqB (l b : Addr) (items items2 : Array Value) (n n2 : Nat) (dd dd2 : Option Addr) (sl sl2 : Array (Option Value)) (I : Shared → Prop) (e : Nat → Bool)
    (turn : ∀ i (h1 : i < items.size) (h2 : i < items2.size) s, I s → wpAny (model prog w) A.in1 (eqBool items[i] items2[i]) (fun r s' => r = e i ∧ I s') (fun e s' => R (.error e) s') s)
    (fin : ∀ s, I s → R (.ok (.ret (.bool ((List.range (min items.size items2.size)).all e && items.size == items2.size)))) s) {s : Shared} (hl1 : s.heap.get? l = some { cls := .type "tuple", dict := dd, data := .seq items n, slots := sl }) (hb1 : s.heap.get? b = some { cls := .type "tuple", dict := dd2, data := .seq items2 n2, slots := sl2 }) (h : I s) :
    wpAny (model prog w) A.in1 (Builtin.«tuple.__eq__» ⟨[.ref l, .ref b], []⟩) (GQ.FinOf prog w A R) (fun e s' => R (.error e) s') s := by
  have f2 := AutoSeq1.sub_tuple_tuple
  have hZ : (items.toList.zip items2.toList).length = min items.size items2.size := by simp
  have h0 := h
  obtain ⟨hp, g, d, tk, os⟩ := s
  wp_walk using wpAny_loadPart' hl1, wpAny_loadPart' hb1, wpAny_forIn_list _ (fun rest b s' => b.1 = none ∧ ∃ i, rest = (items.toList.zip items2.toList).drop i ∧ I s' ∧ (List.range (min items.size items2.size)).all e = ((List.range (min items.size items2.size)).drop i).all e) _
  case turn =>
    rintro ⟨y, x⟩ rest b s' ⟨hb', i, hz, hI, hR⟩
    have hlt : i < (items.toList.zip items2.toList).length := by
      rcases Nat.lt_or_ge i (items.toList.zip items2.toList).length with h' | h'
      · exact h'
      · rw [List.drop_of_length_le h'] at hz; cases hz
    have hm : i < min items.size items2.size := hZ ▸ hlt
    have h1 : i < items.size := Nat.lt_of_lt_of_le hm (Nat.min_le_left _ _)
    have h2 : i < items2.size := Nat.lt_of_lt_of_le hm (Nat.min_le_right _ _)
    rw [List.drop_eq_getElem_cons hlt] at hz
    injection hz with hyx hrest
    have hy : y = items[i] := by have := congrArg Prod.fst hyx; simpa using this
    have hx : x = items2[i] := by have := congrArg Prod.snd hyx; simpa using this
    subst hy hx
    have hd : (List.range (min items.size items2.size)).drop i = i :: (List.range (min items.size items2.size)).drop (i + 1) := by simp [List.drop_eq_getElem_cons, hm]
    rw [hd, List.all_cons] at hR
    refine wpAny_bind (wpAny_mono (turn i h1 h2 s' hI) (fun r s2 q2 => ?_) fun _ _ x => x)
    obtain ⟨hr, q2⟩ := q2
    rw [← hr] at hR
    cases r with
    | true =>
      wp_walk
      exact ⟨rfl, i + 1, hrest, q2, by simpa using hR⟩
    | false =>
      have hF := fin s2 q2
      rw [hR] at hF
      wp_walk
      simpa using hF
  case fin =>
    rintro ⟨b1, b2⟩ s' ⟨hb', i, hz, hI, hR⟩
    simp only at hb'
    subst hb'
    have hge : min items.size items2.size ≤ i := by
      rcases Nat.lt_or_ge i (items.toList.zip items2.toList).length with h' | h'
      · rw [List.drop_eq_getElem_cons h'] at hz; cases hz
      · exact hZ ▸ h'
    rw [List.drop_of_length_le (by simpa using hge)] at hR
    have hF := fin s' hI
    rw [hR] at hF
    wp_walk
    simpa [Builtin.Tuple.tupleCompareSizes] using hF
  case h =>
    exact ⟨rfl, 0, rfl, h0, rfl⟩
end
/-- a tuple tells one triple only -/
def Coh (K : PySem.W.Frag) (H : Hp) : Prop := ∀ (a : Addr) (x y z x' y' z' : Int), SqT K H a [.int x, .int y, .int z] → SqT K H a [.int x', .int y', .int z'] → x = x' ∧ y = y' ∧ z = z'
theorem vals3 {x y z : Int} {its : List Value} (r : Vals [.int x, .int y, .int z] its) : ∃ t1 t2 t3, its = [.int x t1, .int y t2, .int z t3] := by
  cases r with
  | cons r1 r => cases r with
    | cons r2 r => cases r with
      | cons r3 r => cases r with
        | nil =>
          obtain ⟨t1, rfl⟩ := r1
          obtain ⟨t2, rfl⟩ := r2
          obtain ⟨t3, rfl⟩ := r3
          exact ⟨t1, t2, t3, rfl⟩
theorem coh_of {X : Cx} {pins : List (Addr × Obj)} {σ : L2.St} {H : Hp} {s : Shared} (I : Inv X pins σ H s) : Coh X.K H := by
  intro a x y z x' y' z' h h'
  obtain ⟨its, r, e, _⟩ := I.tuple h
  obtain ⟨its', r', e', _⟩ := I.tuple h'
  obtain ⟨o, ho, hc, n, hd⟩ := e
  obtain ⟨o', ho', hc', n', hd'⟩ := e'
  rw [ho] at ho'
  cases ho'
  rw [hd] at hd'
  injection hd' with hd' _
  obtain ⟨t1, t2, t3, rfl⟩ := vals3 r
  obtain ⟨u1, u2, u3, rfl⟩ := vals3 r'
  simp at hd'
  exact ⟨hd'.1.1, hd'.2.1.1, hd'.2.2.1⟩
def rEqTO (K : PySem.W.Frag) (C : Addr) (sp : Sp) : R2 := fun x y H Q => ∃ a b xs ys, x = .ref a ∧ y = .ref b ∧ SqT K H a xs ∧ SqT K H b ys ∧ (Coh K H → ∃ e : Nat → Bool, (∀ (i : Nat) (u v : V), xs[i]? = some u → ys[i]? = some v → ∃ (p q dx dy : Addr) (fs gs : List (Str × V)), u = .ref p ∧ v = .ref q ∧ H p = some (.ins C dx fs) ∧ H q = some (.ins C dy gs) ∧ (p = q → e i = true) ∧ sp [.ref p, .ref q] H (fun v H' => v = .bl (e i) ∧ H' = H) E0) ∧ Q (.bl ((List.range (min xs.length ys.length)).all e && xs.length == ys.length)) H)
section
variable {X : Cx} {k : Nat} {f C : Addr} {sp : Sp}
theorem op_eqTO (F0 : FnR X.prog X.w X.K X.mg X.base CX0 k f sp) (hr : Room (k + 1) X.A)
    (hs : PySem.W.findIn X.K (.ref C) "__eq__" = some (some (.ref f))) (hf : PySem.W.isFn X.K (.ref f) = true) : OpR X (compareOp .Eq) (rEqTO X.K C sp) := by
  intro pins s σ H x y v u Q I rx ry hq
  obtain ⟨a, b, xs, ys, rfl, rfl, ha, hb, q0⟩ := hq
  obtain ⟨e, turn, q⟩ := q0 (coh_of I)
  cases rx
  cases ry
  obtain ⟨its, r, e1, z⟩ := I.tuple ha
  obtain ⟨its2, r2, e2, z2⟩ := I.tuple hb
  obtain ⟨⟨cls, dd, data, sl⟩, ho, hc, n, hd⟩ := id e1
  obtain ⟨⟨cls2, dd2, data2, sl2⟩, ho2, hc2, n2, hd2⟩ := id e2
  simp only at hc hd hc2 hd2
  subst hc hd hc2 hd2
  show wpAny (model X.prog X.w) X.A (richCompare .Eq (.ref a) (.ref b)) (EP X pins σ Q) X.xe s
  refine wpAny_richCompare_same_room (op := .Eq) ⟨_, ho, rfl⟩ ⟨_, ho2, rfl⟩ F.slot_tuple_eq (GQ.call_here F.slot_tuple_eq ⟨_, ho, rfl⟩ F.entry_tuple_eq (F.args_tuple_eq_2 _ _) ?_) hr.units0
  refine tuple_eqB (R := wants (fun v s' => v ≠ .notImplemented ∧ EP X pins σ Q v s') X.xe) a b its.toArray its2.toArray n n2 dd dd2 sl sl2 (fun s' => Inv X pins σ H s') e (fun i h1 h2 s' I' => ?_) (fun s' I' => ⟨(fun x => nomatch x), ?_⟩) ho ho2 I
  · have k1 : i < xs.length := by rw [r.length]; simpa using h1
    have k2 : i < ys.length := by rw [r2.length]; simpa using h2
    obtain ⟨u, hu, ru⟩ := r.get (List.getElem?_eq_getElem k1)
    obtain ⟨v, hv, rv⟩ := r2.get (List.getElem?_eq_getElem k2)
    obtain ⟨p, q', dx, dy, fs, gs, eu, ev, hp, hq, self, hsp⟩ := turn i _ _ (List.getElem?_eq_getElem k1) (List.getElem?_eq_getElem k2)
    rw [eu] at ru
    rw [ev] at rv
    cases ru
    cases rv
    have g1 : its.toArray[i] = .ref p := by
      have h1' : i < its.length := by simpa using h1
      rw [List.getElem?_eq_getElem h1'] at hu
      simpa using hu
    have g2 : its2.toArray[i] = .ref q' := by
      have h2' : i < its2.length := by simpa using h2
      rw [List.getElem?_eq_getElem h2'] at hv
      simpa using hv
    rw [g1, g2]
    exact eqB_own F0 (Sub.in1 (n := k) ⟨hr, rfl⟩) hs hf I' hp hq self hsp
  · refine ⟨.bl _, H, I', rfl, ?_⟩
    rw [List.size_toArray, List.size_toArray, ← r.length, ← r2.length]
    exact q
end
end My
/-! o.m(e, ..) within a try; comprehensions with two for, by an invariant for each -/
namespace My
open PySem PySem.Spec L2 PyProof.Rows
def tMethS (C : Addr) (m : Str) (sp : Sp) (E : L2.St → XK) (ta : TE) (t : TA) : TE := fun σ H Q => ta σ H fun x H1 => ∃ a dx fs, x = .ref a ∧ H1 a = some (.ins C dx fs) ∧ fs.lookup m = none ∧ t σ H1 fun vs H2 => sp (x :: vs) H2 Q (E σ)
theorem pe_methS {X : Cx} {CX : CXT} {k : Nat} {f C : Addr} {fd : FuncData} {ps : List Str} {sp : Sp} {E : L2.St → XK} {m : Str} {pos apos : Pos} {e o : Expr} {es : List Expr} {ta : TE} {t : TA} {pl : Sem Bool} (he : PE X o ta) (c : Cls X.K C) (hm : Meth X.K C m f) (F : FnOk X.prog X.w X.K X.mg X.base CX k f fd ps sp) (hr : Room k X.A) (hb : Binds X.K fd ps []) (hx : ∀ σ, PassesAt CX X σ (E σ)) (ha : PA X (e :: es) t)
    (hst : starEach (e :: es) X.env = (false, eval e X.env) :: starEach es X.env := by rfl) (hpl : (backTo pos (starEach es X.env)).any (·.1) = false := by rfl)
    (ht : eval (.Call (.Attribute o m apos) (e :: es) [] pos) X.env = (do
      let ov ← eval o X.env
      standAt apos.atName
      let (f, first) ← holding [ov] (getMethod ov m pl)
      callWith pos f first (backTo pos (starEach (e :: es) X.env)) (backToKw pos (keywordEach [] X.env))) := by rfl) :
    PE X (.Call (.Attribute o m apos) (e :: es) [] pos) (tMethS C m sp E ta t) := by
  refine ⟨fun pins s σ H Q I h => ?_⟩
  refine PySem.W.methodCall_KW (pl := pl) (thn (he.run pins s σ H _ I h) fun u s1 ⟨x, H1, I1, rx, a, dx, fs, ex, ea, l, q⟩ => ?_) ht
  subst ex
  obtain rfl : u = Value.ref a := rx
  refine getmeth_ok I1 ea c hm l ?_
  refine PySem.W.callWith_K (first := [.ref a]) (h₀ := X.base) I.ok.mod.kin hm.kp (thn (ha.run pos pins s1 σ H1 _ I1 q) fun us s2 ⟨vs, H2, I2, r, q2⟩ => ⟨I2.kIn, ?_⟩) hst hpl
  exact run_fnS (us := .ref a :: us) (vs := .ref a :: vs) F hr hb (hx σ) I2 (.cons rfl r) q2
theorem FnOk.or {P : Program} {w : World} {K : PySem.W.Frag} {mg : Str → Option Value} {base : Heap} {k : Nat} {f : Addr} {fd : FuncData} {ps : List Str} {sp1 sp2 : Sp} (F1 : FnOk P w K mg base CX0 k f fd ps sp1) (F2 : FnOk P w K mg base (L2.CX P w) k f fd ps sp2) : FnOk P w K mg base (L2.CX P w) k f fd ps (fun vs H Q E => sp1 vs H Q E ∨ sp2 vs H Q E) := by
  refine ⟨fun vs H Q E h => h.elim (F1.len vs H Q E) (F2.len vs H Q E), fun A outer s H a us vs Q E hr e0 hb r h => ?_⟩
  rcases h with h | h
  · refine PySem.codeAny_mono (F1.run A outer s H a us vs Q E hr e0 hb r h) fun x s' hx => ?_
    match x, hx with
    | .ok (.ret u), hx => exact hx
    | .error e, hx => exact hx.elim
    | .ok .next, hx => exact hx
    | .ok .brk, hx => exact hx
    | .ok .cont, hx => exact hx
  · exact F2.run A outer s H a us vs Q E hr e0 hb r h
/-- one walk of the inner for -/
def LcIn (J1 : It) (g1 : TG) (tt1 : TT) (te : TE) (vs1 : List Nat) (D : Addr) (σ2 : L2.St) (Nx : Hp → Prop) (H4 : Hp) : Prop :=
  ∃ W1 : Nat → Nat → Hp → Prop, (∃ m, W1 0 m H4) ∧ ∀ j k H, W1 j k H →
    (J1.stop j H ∧ Nx H) ∨ (J1.go j H ∧ ∃ Nx1 : Hp → Prop, (∀ H', Nx1 H' → ∃ k', k' < k ∧ W1 (j + 1) k' H') ∧ ∀ x H', J1.yld j H x H' → g1 x (wipe σ2 vs1) H' fun σ3 H5 => wipe σ3 vs1 = wipe σ2 vs1 ∧ tt1 σ3 H5 fun b H6 =>
      if b = true then te σ3 H6 fun y H7 => ∃ acc, H7 D = some (.lst acc) ∧ acc.length < sizeLine ∧ Nx1 (upd H7 D (.lst (acc ++ [y]))) else Nx1 H6)
theorem in_list {K : PySem.W.Frag} {b : Addr} {ys : List V} {g1 : TG} {tt1 : TT} {te : TE} {vs1 : List Nat} {D : Addr} {σ2 : L2.St} {Nx : Hp → Prop} {H4 : Hp} (S : Nat → Hp → Prop) (h0 : S 0 H4) (hT : ∀ j H, j ≤ ys.length → S j H → SqL K H b ys)
    (hs : ∀ j x H, ys[j]? = some x → S j H → g1 x (wipe σ2 vs1) H fun σ3 H5 => wipe σ3 vs1 = wipe σ2 vs1 ∧ tt1 σ3 H5 fun c H6 => if c = true then te σ3 H6 fun y H7 => ∃ acc, H7 D = some (.lst acc) ∧ acc.length < sizeLine ∧ S (j + 1) (upd H7 D (.lst (acc ++ [y]))) else S (j + 1) H6)
    (hd : ∀ H, S ys.length H → Nx H) : LcIn (Itl K b) g1 tt1 te vs1 D σ2 Nx H4 := by
  refine ⟨fun j m H => m = ys.length - j ∧ j ≤ ys.length ∧ S j H, ⟨_, rfl, Nat.zero_le _, h0⟩, ?_⟩
  rintro j m H ⟨rfl, hj, p⟩
  have t := hT j H hj p
  by_cases lt : j < ys.length
  · refine .inr ⟨⟨ys, ys[j], t, List.getElem?_eq_getElem lt⟩, S (j + 1), fun H' p' => ⟨_, by omega, rfl, lt, p'⟩, ?_⟩
    rintro v H' ⟨rfl, hx⟩
    exact hs j v _ (hx ys t) p
  · obtain rfl : j = ys.length := by omega
    exact .inl ⟨⟨ys, t, Nat.le_refl _⟩, hd H p⟩
theorem in_tup {K : PySem.W.Frag} {b : Addr} {ys : List V} {g1 : TG} {tt1 : TT} {te : TE} {vs1 : List Nat} {D : Addr} {σ2 : L2.St} {Nx : Hp → Prop} {H4 : Hp} (S : Nat → Hp → Prop) (h0 : S 0 H4) (hT : ∀ j H, j ≤ ys.length → S j H → SqT K H b ys)
    (hs : ∀ j x H, ys[j]? = some x → S j H → g1 x (wipe σ2 vs1) H fun σ3 H5 => wipe σ3 vs1 = wipe σ2 vs1 ∧ tt1 σ3 H5 fun c H6 => if c = true then te σ3 H6 fun y H7 => ∃ acc, H7 D = some (.lst acc) ∧ acc.length < sizeLine ∧ S (j + 1) (upd H7 D (.lst (acc ++ [y]))) else S (j + 1) H6)
    (hd : ∀ H, S ys.length H → Nx H) : LcIn (Itt K b) g1 tt1 te vs1 D σ2 Nx H4 := by
  refine ⟨fun j m H => m = ys.length - j ∧ j ≤ ys.length ∧ S j H, ⟨_, rfl, Nat.zero_le _, h0⟩, ?_⟩
  rintro j m H ⟨rfl, hj, p⟩
  have t := hT j H hj p
  by_cases lt : j < ys.length
  · refine .inr ⟨⟨ys, ys[j], t, List.getElem?_eq_getElem lt⟩, S (j + 1), fun H' p' => ⟨_, by omega, rfl, lt, p'⟩, ?_⟩
    rintro v H' ⟨rfl, hx⟩
    exact hs j v _ (hx ys t) p
  · obtain rfl : j = ys.length := by omega
    exact .inl ⟨⟨ys, t, Nat.le_refl _⟩, hd H p⟩
theorem lc2_tup {K : PySem.W.Frag} {a : Addr} {xs : List V} {σ : L2.St} {g g1 : TG} {tt tt1 : TT} {wi1 : TI} {te : TE} {vs vs1 : List Nat} {D : Addr} {H0 : Hp} {Qd : Hp → Prop} (P : Nat → Hp → Prop) (h0 : P 0 H0) (hT : ∀ i H, i ≤ xs.length → P i H → SqT K H a xs)
    (hs : ∀ i x H, xs[i]? = some x → P i H → g x (wipe σ vs) H fun σ2 H2 => wipe σ2 vs = wipe σ vs ∧ tt σ2 H2 fun b H3 => if b = true then wi1 σ2 H3 fun J1 H4 => LcIn J1 g1 tt1 te vs1 D σ2 (P (i + 1)) H4 else P (i + 1) H3)
    (hd : ∀ H, P xs.length H → Qd H) :
    ∃ W : Nat → Nat → Hp → Prop, (∃ m, W 0 m H0) ∧ ∀ i m H, W i m H → ((Itt K a).stop i H ∧ Qd H) ∨ ((Itt K a).go i H ∧ ∃ Nx : Hp → Prop, (∀ H', Nx H' → ∃ m', m' < m ∧ W (i + 1) m' H') ∧ ∀ x H', (Itt K a).yld i H x H' → g x (wipe σ vs) H' fun σ2 H2 => wipe σ2 vs = wipe σ vs ∧ tt σ2 H2 fun b H3 =>
      if b = true then wi1 σ2 H3 fun J1 H4 => LcIn J1 g1 tt1 te vs1 D σ2 Nx H4 else Nx H3) := by
  refine ⟨fun i m H => m = xs.length - i ∧ i ≤ xs.length ∧ P i H, ⟨_, rfl, Nat.zero_le _, h0⟩, ?_⟩
  rintro i m H ⟨rfl, hi, p⟩
  have t := hT i H hi p
  by_cases lt : i < xs.length
  · refine .inr ⟨⟨xs, xs[i], t, List.getElem?_eq_getElem lt⟩, P (i + 1), fun H' p' => ⟨_, by omega, rfl, lt, p'⟩, ?_⟩
    rintro v H' ⟨rfl, hx⟩
    exact hs i v _ (hx xs t) p
  · obtain rfl : i = xs.length := by omega
    exact .inl ⟨⟨xs, t, Nat.le_refl _⟩, hd H p⟩
theorem lc2_list {K : PySem.W.Frag} {a : Addr} {xs : List V} {σ : L2.St} {g g1 : TG} {tt tt1 : TT} {wi1 : TI} {te : TE} {vs vs1 : List Nat} {D : Addr} {H0 : Hp} {Qd : Hp → Prop} (P : Nat → Hp → Prop) (h0 : P 0 H0) (hT : ∀ i H, i ≤ xs.length → P i H → SqL K H a xs)
    (hs : ∀ i x H, xs[i]? = some x → P i H → g x (wipe σ vs) H fun σ2 H2 => wipe σ2 vs = wipe σ vs ∧ tt σ2 H2 fun b H3 => if b = true then wi1 σ2 H3 fun J1 H4 => LcIn J1 g1 tt1 te vs1 D σ2 (P (i + 1)) H4 else P (i + 1) H3)
    (hd : ∀ H, P xs.length H → Qd H) :
    ∃ W : Nat → Nat → Hp → Prop, (∃ m, W 0 m H0) ∧ ∀ i m H, W i m H → ((Itl K a).stop i H ∧ Qd H) ∨ ((Itl K a).go i H ∧ ∃ Nx : Hp → Prop, (∀ H', Nx H' → ∃ m', m' < m ∧ W (i + 1) m' H') ∧ ∀ x H', (Itl K a).yld i H x H' → g x (wipe σ vs) H' fun σ2 H2 => wipe σ2 vs = wipe σ vs ∧ tt σ2 H2 fun b H3 =>
      if b = true then wi1 σ2 H3 fun J1 H4 => LcIn J1 g1 tt1 te vs1 D σ2 Nx H4 else Nx H3) := by
  refine ⟨fun i m H => m = xs.length - i ∧ i ≤ xs.length ∧ P i H, ⟨_, rfl, Nat.zero_le _, h0⟩, ?_⟩
  rintro i m H ⟨rfl, hi, p⟩
  have t := hT i H hi p
  by_cases lt : i < xs.length
  · refine .inr ⟨⟨xs, xs[i], t, List.getElem?_eq_getElem lt⟩, P (i + 1), fun H' p' => ⟨_, by omega, rfl, lt, p'⟩, ?_⟩
    rintro v H' ⟨rfl, hx⟩
    exact hs i v _ (hx xs t) p
  · obtain rfl : i = xs.length := by omega
    exact .inl ⟨⟨xs, t, Nat.le_refl _⟩, hd H p⟩
end My
/-! dicts whose keys are tuples: values() walked; {k: v for ..} of any keys -/
namespace My
open PySem PySem.Spec L2 PyProof.Rows
section
variable {X : Cx} {pins : List (Addr × Obj)} {σ : L2.St} {H : Hp} {s : Shared} {d : Addr} {o : Obj}
/-- a locked dict with tuple keys: its entries' values -/
theorem frzTv {kvs : List (List Key × V)} (I : Inv X pins σ H s) (h : H d = some (.frz o (.dT kvs))) :
    (d == sysModules) = false ∧ s.heap.get? d = some o ∧ o.ExactDict ∧ ∃ (es : Array DictEntry) (ep : Nat), o.data = .dict es ep ∧ es.size = kvs.length ∧
      ∀ (i : Nat) (hi : i < es.size), ∃ k v, kvs[i]? = some (k, v) ∧ RelV v es[i].val := by
  obtain ⟨hd, z, hs, xs, pr, ob, es, ep, ho, hx, hdt, he, _⟩ := I.hok d _ h
  rw [hd] at ho
  cases ho
  have n1 : es.size = xs.length := size_of_entries he
  have n2 : kvs.length = xs.length := Paired.length pr
  refine ⟨hs, hd, hx, es, ep, hdt, by omega, fun i hi => ?_⟩
  obtain ⟨⟨k, v⟩, hkv⟩ : ∃ p, kvs[i]? = some p := ⟨kvs[i]'(by omega), List.getElem?_eq_getElem _⟩
  obtain ⟨b, hb, _, _, hv⟩ := paired_get pr hkv
  have q := entry_at he i
  rw [hb, Array.getElem?_eq_getElem hi] at q
  refine ⟨k, v, hkv, ?_⟩
  rw [Option.some.inj q]
  exact hv
end
/-- the values, in their order -/
def Itvt (d : Addr) (o : Obj) (kvs : List (List Key × V)) : It :=
  ⟨fun i H => H d = some (.frz o (.dT kvs)) ∧ i < kvs.length, fun i H x H' => H' = H ∧ ∃ k, kvs[i]? = some (k, x), fun i H => H d = some (.frz o (.dT kvs)) ∧ kvs.length ≤ i⟩
theorem turnVt {P : Program} {w : World} {K : PySem.W.Frag} {tg : Expr} {d : Addr} {o : Obj} {es : Array DictEntry} {ep : Nat} {kvs : List (List Key × V)} (it : Addr) (hod : o.data = .dict es ep) : Turn P w K tg (Itvt d o kvs) [it] it (fun i h => h.IsValIter it d i es.size ep) where
  mem := by simp
  obj := fun i h st b hb => by
    obtain rfl : b = it := List.mem_singleton.mp hb
    obtain ⟨oi, e, _, dd⟩ := st
    exact ⟨oi, e, fun v z => by rw [dd] at z; cases z⟩
  keep := fun i h h' st k => st.at fun oi e => k it (.head _) oi e
  item := by
    intro X hP hw hK hc i pins s σ H E I hf st hg
    subst hP hw hK
    obtain ⟨f0, f1, f2, f3, f4, f5⟩ := hf it (.head _)
    obtain ⟨hs, hgd, hx, es', ep', hdt, hsz, ent⟩ := frzTv I hg.1
    obtain ⟨rfl, rfl⟩ := dict_ep hod hdt
    have hi : i < es'.size := by rw [hsz]; exact hg.2
    obtain ⟨k, v, hkv, rv⟩ := ent i hi
    refine PySem.wpAny_pyNext_values_item_raw st ⟨o, hgd, hx, hdt⟩ hi fun h' st' sb => ?_
    have I1 : Inv X pins σ H { s with heap := h' } := I.turned (t' := s.toks) (fun b ob hb e => (sb.2 b hb).trans e) f0 f1 f3 f4 f5
    obtain ⟨oi, e, c, dd⟩ := id st'
    exact ⟨_, rfl, go_of (s := { s with heap := h' }) e c dd (by decide) ⟨v, H, I1, rv, ⟨rfl, k, hkv⟩, st', fun b hb => (hf b hb).1⟩⟩
  done := by
    intro X hP hw hK hc i pins s σ H E I hf st hg
    subst hP hw hK
    obtain ⟨f0, f1, f2, f3, f4, f5⟩ := hf it (.head _)
    obtain ⟨hs, hgd, hx, es', ep', hdt, hsz, _⟩ := frzTv I hg.1
    obtain ⟨rfl, rfl⟩ := dict_ep hod hdt
    exact PySem.wpAny_pyNext_values_end_raw (I.ok.hd hc) st ⟨o, hgd, hx, hdt⟩ (by rw [hsz]; exact hg.2) fun h' eb => ⟨rfl, I.turned (t' := s.toks) (fun b ob hb e => eb b ob hb e) f0 f1 f3 f4 f5⟩
  self := fun A i s Q E st h => wpAny_pyIter_valiter st h
/-- for v in e.values(), the dict locked -/
def iValsT (td : TE) : TI := fun σ H R => td σ H fun x H1 => ∃ d o kvs, x = .ref d ∧ H1 d = some (.frz o (.dT kvs)) ∧ R (Itvt d o kvs) H1
section
variable {X : Cx} {tg e : Expr} {td : TE} {apos cpos : Pos}
theorem pi_valuesT (he : PE X e td) (hbase : attributeBase e "values" X.env (eval e X.env) = eval e X.env := by rfl) (hline : (apos.endLine == cpos.line) = true := by rfl) : PI X tg (.Call (.Attribute e "values" apos) [] [] cpos) (iValsT td) := by
  refine ⟨fun pins s σ H R I h => ?_⟩
  refine wpAny_Call_method (T := "dict") (id := "dict.values") hbase rfl hline F.plainAttrs_dict F.slot_dict_values F.type_dict_values (thn (he.run pins s σ H _ I h) fun u s1 ⟨x, H1, I1, rx, d, o, kvs, ex, hd, q⟩ => ?_)
  subst ex
  obtain rfl : u = Value.ref d := rx
  obtain ⟨hs, hgd, hx, es, ep, hdt, _, _⟩ := frzTv I1 hd
  have raw : s1.heap.DictRaw d es ep := ⟨o, hgd, hx, hdt⟩
  have ty : s1.TypeIs (.ref d) "dict" := ⟨o, hgd, hx.1⟩
  refine ⟨ty, (fun a ea => by cases ea; exact ⟨o, hgd, hx.2.1⟩), ?_⟩
  have I2 : Inv X pins σ H1 { s1 with heap := s1.heap.push { cls := .type "dict_values", data := .fields #[.ref d] } } := I1.kept (t' := s1.toks) fun b ob q => Heap.get?_push_of_some _ q
  have fin : wpAny (model X.prog X.w) X.A (pyIter (.ref s1.heap.objs.size)) (PIE X pins σ tg R) X.xe { s1 with heap := s1.heap.push { cls := .type "dict_values", data := .fields #[.ref d] } } :=
    PySem.wpAny_pyIter_values_raw (d := d) ⟨_, Heap.get?_push_size _ rfl, rfl, rfl⟩ (raw.at fun o e => Heap.get?_push_of_some _ e) (pi_one (tk := s1.toks) I2 _ (turnVt _ hdt) ⟨_, Heap.get?_push_size _ rfl, rfl, rfl⟩ q)
  show wpAny _ _ (callWith cpos (.builtin "dict.values") [.ref d] [] []) _ X.xe s1
  exact method_meetsIn F.slot_dict_values F.entry_dict_values rfl (PySem.evalArgs_none ⟨rfl, ty, F.args_dict_values_1 _, _, PySem.meets_dict_values_raw d hs, ⟨⟨_, _, raw⟩, fin⟩⟩)
end
/-! ### {k: v for ..}, whatever the keys are -/
/-- what d[y] = z makes of the heap, at D; the model's own store does it -/
structure PutOk (P : Program) (w : World) (K : PySem.W.Frag) (n : Nat) (put : Addr → V → V → Hp → Hp → Prop) : Prop where
  run : ∀ {X : Cx} (_ : X.prog = P) (_ : X.w = w) (_ : X.K = K) (_ : X.A.units + n < cLine) {pins : List (Addr × Obj)} {σ : L2.St} {H H' : Hp} {s : Shared} {E : Value → Shared → Prop} {D : Addr} {y z : V} {u r : Value} {Q : Unit → Shared → Prop},
    Inv X pins σ H s → put D y z H H' → RelV y u → RelV z r → (∀ s', Inv X pins σ H' s' → Q () s') → wpAny (model X.prog X.w) X.A (dictSet D u r) Q E s
/-- a tuple of ints and texts as a key -/
def putT (D : Addr) (y z : V) (H H' : Hp) : Prop := ∃ kvs k b, H D = some (.dT kvs) ∧ y = .ref b ∧ H b = some (.tup (k.map kV)) ∧ kvs.length < sizeLine ∧ H' = upd H D (.dT (putK kvs k z))
theorem putT_ok {P : Program} {w : World} {K : PySem.W.Frag} : PutOk P w K 1 putT := ⟨fun {X} _ _ _ hu {pins σ H H' s E D y z u r Q} I p ry rz h => by
  obtain ⟨kvs, k, b, e, rfl, eb, l, rfl⟩ := p
  cases (show u = Value.ref b from ry)
  obtain ⟨zz, hd, xs, rel, dd⟩ := dt_of I.hok e
  have hz : xs.length ≤ sizeLine := by rw [← Paired.length rel]; exact zz
  have hl : (putK kvs k z).length ≤ sizeLine := by have := length_putK kvs k z; omega
  refine wpAny_dictSet_heap (hsz := hz) (show X.A.units < cLine by omega) (key_of I.hok eb) dd fun h' dd' hs => h _ ?_
  obtain ⟨q, es, ep, hq, h2, h3, h4, _, h5⟩ := dd'
  refine d_write I (by rw [e]; exact True.intro) hs ⟨q, hq⟩ ⟨hl, hd, _, (rel.put k eb rz).keeps fun c ys ec => ?_, q, es, ep, hq, h2, h3, h4, h5⟩
  rw [upd_ne (ne_of ec e (fun z => nomatch z))]
  exact ec⟩
section
variable {X : Cx}
def tDcG (o0 : Addr → HO) (put : Addr → V → V → Hp → Hp → Prop) (wi : TI) (g : TG) (tt : TT) (tk tv : TE) (vs : List Nat) : TE := fun σ H Q => wi σ H fun J H1 => ∀ D, H1 D = none → ∃ W : Nat → Nat → Hp → Prop, (∃ m, W 0 m (upd H1 D (o0 D))) ∧ ∀ i m H, W i m H →
  (J.stop i H ∧ Q (.ref D) H) ∨ (J.go i H ∧ ∃ Nx : Hp → Prop, (∀ H', Nx H' → ∃ m', m' < m ∧ W (i + 1) m' H') ∧ ∀ x H', J.yld i H x H' → g x (wipe σ vs) H' fun σ2 H2 => wipe σ2 vs = wipe σ vs ∧ tt σ2 H2 fun b H3 =>
    if b = true then tk σ2 H3 fun y H4 => tv σ2 H4 fun z H5 => ∃ H6, put D y z H5 H6 ∧ Nx H6 else Nx H3)
theorem dcG_core {o0 : Addr → HO} {put : Addr → V → V → Hp → Hp → Prop} {n : Nat} (po : PutOk X.prog X.w X.K n put) (hu : X.A.units + n < cLine) (o0n : ∀ {H : Hp} (h : Heap), sysModules < h.objs.size → ObjOk X.prog X.w H (h.push { cls := .type "dict", data := .dict #[] }) h.objs.size (o0 h.objs.size))
    {pins : List (Addr × Obj)} {s : Shared} {σ : L2.St} {H : Hp} {Q : VK} {kx vx tg iter : Expr} {ifs : List Expr} {scope : Scope} {own : List (Str × Nat)} {pos pos' : Pos} {wi : TI} {g : TG} {tt : TT} {tk tv : TE} {use : Option (Value → Sem Unit)} {Qf : Value → Shared → Prop}
    (hc : X.calm = true) (hN : X.N.Nodup) (I : Inv X pins σ H s) (hi : PI X tg iter wi) (ok : BlkOk X.N X.env.scope scope own)
    (hg : ∀ (s : Shared) (H : Hp) (C : Addr) (cl : List (Str × Addr)) (fp : List Addr), PG (X.blk s H scope (compEnvC scope cl C X.env) fp) tg g) (ht : ∀ (s : Shared) (H : Hp) (C : Addr) (cl : List (Str × Addr)) (fp : List Addr), PTs (X.blk s H scope (compEnvC scope cl C X.env) fp) ifs tt)
    (hk : ∀ (s : Shared) (H : Hp) (C : Addr) (cl : List (Str × Addr)) (fp : List Addr), PE (X.blk s H scope (compEnvC scope cl C X.env) fp) kx tk)
    (he : ∀ (s : Shared) (H : Hp) (C : Addr) (cl : List (Str × Addr)) (fp : List Addr), PE (X.blk s H scope (compEnvC scope cl C X.env) fp) vx tv) (hs : ∀ x, foldedSetIterable iter X.env x = pure x)
    (h : tDcG o0 put wi g tt tk tv (own.map (·.2)) σ H Q)
    (hRR : ∀ D C s' m H', Inv X pins σ H' s' → Q (.ref D) H' → s'.heap.Ns C m → FpOk X pins H' C → compPost (model X.prog X.w) X.A X.xe use Qf (.ref D) C (.ok .next) s') :
    wpAny (model X.prog X.w) X.A (comprehension (.DictComp kx vx [⟨tg, iter, ifs, 0⟩] scope pos) scope X.env pos' newDict false (eval iter X.env) use) Qf X.xe s := by
  have hfree : ∀ y ∈ scope.names, y.2 = .free → ∃ c, X.env.cells.lookup y.1 = some c := fun y hy e =>
    (ok.free y hy e).elim (fun k => I.ok.has _ (.inl k)) (fun k => I.ok.has _ (.inr k))
  refine wpAny_comprehension_free (use := use) rfl hs (closure_ok hfree) ok.kind (fun y hy e => by rw [ok.uniq y hy, e]) (thn (hi.run pins s σ H _ I h) fun xv s1 hx => thn hx fun itv s2 h2 => ?_)
  obtain ⟨it, fp, tn, J, H2, rfl, I2, T, st2, f2, q⟩ := h2
  refine wpAny_newObj_type (newEnv_comp ?_)
  generalize hD : s2.heap.objs.size = D
  have hDn : H2 D = none := I2.hok.fresh (Nat.le_of_eq hD)
  obtain ⟨W, ⟨m0, w0⟩, turn⟩ := q D hDn
  generalize hs3 : ({ s2 with heap := s2.heap.push { cls := .type "dict", data := .dict #[] } } : Shared) = s3
  have I3 : Inv X pins σ (upd H2 D (o0 D)) s3 := by
    rw [← hs3]
    refine I2.laid (t' := s2.toks) (fun b o e => Heap.get?_push_of_some _ e) (Nat.le_of_eq hD) ?_
    rw [← hD]
    exact o0n s2.heap I2.big
  have h3 : s3.heap = s2.heap.push { cls := .type "dict", data := .dict #[] } := by rw [← hs3]
  have sz : ∀ b ∈ fp, b < s2.heap.objs.size := fun b hb => let ⟨o, e, _⟩ := T.obj _ _ st2 b hb; Heap.lt_size e
  have f3 : ∀ b ∈ fp, FpOk X pins (upd H2 D (o0 D)) b ∧ b < s3.heap.objs.size := fun b hb =>
    ⟨⟨by rw [upd_ne (by rw [← hD]; exact Nat.ne_of_lt (sz b hb))]; exact (f2 b hb).1, (f2 b hb).2⟩, by rw [h3, Heap.size_push]; exact Nat.lt_succ_of_lt (sz b hb)⟩
  have st3 : tn 0 s3.heap := T.keep _ _ _ st2 fun b _ o e => by rw [h3]; exact Heap.get?_push_of_some _ e
  have I4 := block_start I3 ok hN f3
  have pg := hg s3 (upd H2 D (o0 D)) s3.heap.objs.size (cellsFrom (s3.heap.objs.size + 1) scope.names (cloFrom X.env.cells scope.names [])) fp
  have pt := ht s3 (upd H2 D (o0 D)) s3.heap.objs.size (cellsFrom (s3.heap.objs.size + 1) scope.names (cloFrom X.env.cells scope.names [])) fp
  have pk := hk s3 (upd H2 D (o0 D)) s3.heap.objs.size (cellsFrom (s3.heap.objs.size + 1) scope.names (cloFrom X.env.cells scope.names [])) fp
  have pe := he s3 (upd H2 D (o0 D)) s3.heap.objs.size (cellsFrom (s3.heap.objs.size + 1) scope.names (cloFrom X.env.cells scope.names [])) fp
  show codeAny _ _ (.compStart (.DictComp kx vx [⟨tg, iter, ifs, 0⟩] scope pos) 0 (.ref it) (.ref D) (compEnvC scope (cellsFrom (s3.heap.objs.size + 1) scope.names (cloFrom X.env.cells scope.names [])) s3.heap.objs.size X.env)) (compPost (model X.prog X.w) X.A X.xe use Qf (.ref D) s3.heap.objs.size) { s3 with heap := pushCells (s3.heap.push { cls := .type "dict", data := .dict #[] }) scope.names }
  have nfp : ∀ b ∈ fp, (upd H2 D (o0 D)) b = none := fun b hb => (f3 b hb).1.1
  generalize hce : compEnvC scope (cellsFrom (s3.heap.objs.size + 1) scope.names (cloFrom X.env.cells scope.names [])) s3.heap.objs.size X.env = ce at I4 pg pt pk pe ⊢
  have cL : ce.locals = s3.heap.objs.size := by subst hce; rfl
  generalize hH3 : upd H2 D (o0 D) = H3 at I3 I4 pg pt pk pe w0 nfp f3
  generalize hs4 : ({ s3 with heap := pushCells (s3.heap.push { cls := .type "dict", data := .dict #[] }) scope.names } : Shared) = s4 at I4 ⊢
  have st4 : tn 0 s4.heap := T.keep _ _ _ st3 fun b _ o e => by rw [← hs4]; exact pushCells_keeps _ _ _ _ (Heap.get?_push_of_some _ e)
  have stat : ∀ {σ' : L2.St} {H' : Hp} {s' : Shared}, Inv (X.blk s3 H3 scope ce fp) [] σ' H' s' → (∀ b ∈ fp, H' b = none) → ∀ b ∈ fp, FpOk (X.blk s3 H3 scope ce fp) [] H' b := fun {σ' H' s'} I' hn b hb =>
    ⟨hn b hb, (I'.ok.exf b hb).1, I'.ok.exfs b hb, .inl hb, fun x c e => (I'.ok.exf b hb).2 x c e, fun p hp => absurd (show p ∈ ([] : List (Addr × Obj)) ++ [] from hp) (by simp)⟩
  refine (fun loop => codeAny_compStart_dict loop (T.self X.A 0 _ _ _ st4 loop)) ?_
  refine compLoop_anyD (fun n s' => ∃ i H', Inv (X.blk s3 H3 scope ce fp) [] (wipe σ (own.map (·.2))) H' s' ∧ tn i s'.heap ∧ (∀ b ∈ fp, H' b = none) ∧ W i n H') ?_ m0 ⟨0, H3, I4, st4, nfp, w0⟩
  rintro n s5 ⟨i, H5, I5, st5, n5, w5⟩
  rcases turn i n H5 w5 with ⟨stop, qq⟩ | ⟨go, Nx, hNx, step⟩
  · refine thnF (T.done (X.blk s3 H3 scope ce fp) rfl rfl rfl hc i [] s5 _ H5 (fun _ _ => False) I5 (stat I5 n5) st5 stop) fun r s6 ⟨hr, I6⟩ => ?_
    subst hr
    have I7 : Inv X pins σ H5 s6 := I3.call' (ch := fp) I6.os I6.base I6.hok I6.bare fun b hb => ⟨(f3 b hb).1.2.2.2.1, (f3 b hb).1.2.1, (f3 b hb).1.2.2.2.2.1, (f3 b hb).1.2.2.2.2.2⟩
    have nC : H5 s3.heap.objs.size = none := by rw [← cL]; exact I6.free
    obtain ⟨m, hn, _⟩ := I6.loc
    have hn : s6.heap.Ns ce.locals m := hn
    rw [cL] at hn
    exact hRR D s3.heap.objs.size s6 m H5 I7 qq hn (I3.fpOk (Nat.le_refl _) nC)
  · refine thnF (T.item (X.blk s3 H3 scope ce fp) rfl rfl rfl hc i [] s5 _ H5 (fun _ _ => False) I5 (stat I5 n5) st5 go) fun r s6 ⟨u, hr, h6⟩ => ?_
    subst hr
    refine thnF h6 fun _ s7 ⟨x, H7, I7, r7, y7, st7, n7⟩ => ?_
    have I7' := I7.pinned (stat I7 n7) (T.obj _ _ st7)
    refine thnF (pg.run _ s7 _ H7 x u _ I7' r7 (step x H7 y7)) fun _ s8 ⟨σ8, H8, I8, hw8, q8⟩ => ?_
    refine thnF (pt.run _ s8 σ8 H8 _ I8 q8) fun b s9 ⟨H9, I9, q9⟩ => ?_
    have fin : ∀ {s' : Shared} {H' : Hp}, Inv (X.blk s3 H3 scope ce fp) ([] ++ pinsAt fp s7.heap) σ8 H' s' → Nx H' → ∃ m, m < n ∧ ∃ i H', Inv (X.blk s3 H3 scope ce fp) [] (wipe σ (own.map (·.2))) H' s' ∧ tn i s'.heap ∧ (∀ b ∈ fp, H' b = none) ∧ W i m H' := fun {s' H'} I' nx => by
      obtain ⟨m', hm, w'⟩ := hNx H' nx
      have pin' : ∀ b ∈ fp, ∀ o, s7.heap.get? b = some o → s'.heap.get? b = some o ∧ H' b = none := fun b hb o e =>
        let z := I'.pin (b, o) (List.mem_append_right _ (List.mem_append_right _ (mem_pinsAt hb e)))
        ⟨z.1, z.2.1⟩
      refine ⟨m', hm, i + 1, H', (I'.unpinned (pins := [])).weak (by rw [← hw8, wipe_length]) (fun j v e => ?_), T.keep _ _ _ st7 fun b hb o e => (pin' b hb o e).1, fun b hb => ?_, w'⟩
      · rw [← hw8] at e
        exact (wipe_some e).1
      · obtain ⟨o, e, _⟩ := T.obj _ _ st7 b hb
        exact (pin' b hb o e).2
    cases b with
    | false => exact fin I9 q9
    | true =>
      refine thnF (pk.run _ s9 σ8 H9 _ I9 q9) fun z s10 ⟨yk, H10, I10, r10, q10⟩ => ?_
      refine thnF (pe.run _ s10 σ8 H10 _ I10 q10) fun z2 s11 ⟨yv, H11, I11, r11, H12, hp, nx⟩ => ?_
      exact po.run (X := X.blk s3 H3 scope ce fp) rfl rfl rfl hu I11 hp r10 r11 fun s12 I12 => fin I12 nx
/-- as a value -/
theorem pe_dcG {o0 : Addr → HO} {put : Addr → V → V → Hp → Hp → Prop} {n : Nat} (po : PutOk X.prog X.w X.K n put) (hu : X.A.units + n < cLine) (o0n : ∀ {H : Hp} (h : Heap), sysModules < h.objs.size → ObjOk X.prog X.w H (h.push { cls := .type "dict", data := .dict #[] }) h.objs.size (o0 h.objs.size))
    {kx vx tg iter : Expr} {ifs : List Expr} {scope : Scope} {own : List (Str × Nat)} {pos : Pos} {wi : TI} {g : TG} {tt : TT} {tk tv : TE} (hc : X.calm = true) (hN : X.N.Nodup) (hi : PI X tg iter wi) (ok : BlkOk X.N X.env.scope scope own)
    (hg : ∀ (s : Shared) (H : Hp) (C : Addr) (cl : List (Str × Addr)) (fp : List Addr), PG (X.blk s H scope (compEnvC scope cl C X.env) fp) tg g) (ht : ∀ (s : Shared) (H : Hp) (C : Addr) (cl : List (Str × Addr)) (fp : List Addr), PTs (X.blk s H scope (compEnvC scope cl C X.env) fp) ifs tt)
    (hk : ∀ (s : Shared) (H : Hp) (C : Addr) (cl : List (Str × Addr)) (fp : List Addr), PE (X.blk s H scope (compEnvC scope cl C X.env) fp) kx tk)
    (he : ∀ (s : Shared) (H : Hp) (C : Addr) (cl : List (Str × Addr)) (fp : List Addr), PE (X.blk s H scope (compEnvC scope cl C X.env) fp) vx tv) (hs : ∀ x, foldedSetIterable iter X.env x = pure x := by intro _; rfl) :
    PE X (.DictComp kx vx [⟨tg, iter, ifs, 0⟩] scope pos) (tDcG o0 put wi g tt tk tv (own.map (·.2))) := by
  refine ⟨fun pins s σ H Q I h => ?_⟩
  rw [arm_eval_DictComp]
  refine dcG_core po hu o0n hc hN I hi ok hg ht hk he hs h fun D C s' m H' I' q hn f => ⟨m, hn, fun h'' sb => ?_⟩
  obtain ⟨f0, f1, f2, f3, f4, f5⟩ := f
  exact ⟨.ref D, H', I'.turned (t' := s'.toks) (fun b o hb e => (sb.2 b hb).trans e) f0 f1 f3 f4 f5, rfl, q⟩
theorem dT0 {P : Program} {w : World} {H : Hp} (h : Heap) (hb : sysModules < h.objs.size) : ObjOk P w H (h.push { cls := .type "dict", data := .dict #[] }) h.objs.size (.dT []) := dt_empty h hb
end
end My
/-! max(xs, default=k) of any list of ints; t < u of two tuples of ints -/
namespace My
open PySem PySem.Spec L2 PyProof.Rows
open Sem (wp)
section
variable {P0 : Program} {w0 : World} {B : Around} {Res : Result → Shared → Prop} {it : Addr} {fpr wri : List Addr} {Pi : Nat → Value → Prop} {Sti : Nat → Heap → Prop}
theorem mxd_none (Wk : Walks P0 w0 B.in1 it fpr wri 0 Pi Sti) (b : Addr) (bf : b ∉ fpr) {z : Shared} {cap : Nat} {d : Value} (st : Sti 0 z.heap)
    (hb : z.heap.get? b = some { cls := .type "list", dict := none, data := .seq #[] cap, slots := #[] })
    (hR : ∀ hp tk, (∀ a o, a ∉ wri → a ≠ b → z.heap.get? a = some o → hp.get? a = some o) → Res (.ok (.ret d)) { z with heap := hp, toks := tk }) :
    codeAny (model P0 w0) B (.builtin "max.loop" ⟨[.ref it, .none, .ref b], [(Str.ofString "default", d)]⟩) Res z := by
  refine codeAny_builtin F.entry_max_loop ?_
  rw [Around.under_plainId F.plain_max_loop _]
  show wpAny _ B.in1 (seqItems? (.ref b) >>= _) _ _ z
  refine wpAny_bind (wpAny_seqItems hb rfl ?_)
  show wpAny _ B.in1 (tryCatch (pyNext (.ref it)) _ >>= _) _ _ z
  refine wpAny_bind (wpAny_tryCatch (Wk.done z _ _ st fun hp tk hk => ?_))
  exact wpAny_bind (wpAny_rule (wpAny_pure (hR _ tk fun a o aw ab e => hk a o aw e)))
end
section
variable {P0 : Program} {w0 : World} {B : Around} {Ex : Value → Shared → Prop} {z : Shared}
theorem mxd_ints0 {l : Addr} {xs : Array (Int × Tok)} {d : Value} {Post : Value → Shared → Prop} (hh : B.handled = none) (hl : z.heap.IsList l (intItems xs)) (hne : xs.size = 0)
    (h : ∀ hp tk, (∀ a o, z.heap.get? a = some o → hp.get? a = some o) → Post d { z with heap := hp, toks := tk }) :
    wpAny (model P0 w0) B (call (.builtin "max") [.ref l] [(Str.ofString "default", d)]) Post Ex z := by
  refine fn_kw F.kind_max F.plain_max F.entry_max (mxd_args _ _) ?_
  show wpAny _ B.in1 (Builtin.Builtins.bindParams "max" ["key", "default"] 0 ⟨[], [(Str.ofString "default", d)]⟩ >>= _) _ _ z
  refine wpAny_bind (wpAny_of_eq (mxd_bind d) (wpAny_bind (wpAny_pure (wpAny_bind (iter_intList hl fun z2 e st hfp hlI => ?_)))))
  subst e
  refine wpAny_bind (wpAny_newObj_type ?_)
  rw [mxd_name]
  have W := Walks.list (prog := P0) (w := w0) (A := B.in1) hh _ l hlI (intItems xs)
  have e0 : (intItems xs).size = 0 := by simpa [intItems] using hne
  rw [e0] at W
  refine wpAny_pure ⟨plainId_quiet F.plain_max_loop _, mxd_none W _ (fun hm => Nat.lt_irrefl _ (hfp _ hm)) (W.frame _ _ _ st fun a _ o e => Heap.get?_push_of_some _ e) (Heap.get?_push_size _ rfl) fun hp tk hk => ?_⟩
  exact h hp tk (old_kept fun a o aw e => hk a o aw (Nat.ne_of_lt (Heap.lt_size e)) (Heap.get?_push_of_some _ e))
theorem mxd_raw0 {l : Addr} {its : List Value} {d : Value} {Post : Value → Shared → Prop} (hh : B.handled = none) (hl : z.heap.IsList l its.toArray) (hi : IntsAre its [])
    (h : ∀ hp tk, (∀ a o, z.heap.get? a = some o → hp.get? a = some o) → Post d { z with heap := hp, toks := tk }) : wpAny (model P0 w0) B (call (.builtin "max") [.ref l] [(Str.ofString "default", d)]) Post Ex z := by
  obtain ⟨ys, e⟩ := hi.allInts.items
  have en : numsOf (intItems ys).toList = [] := by rw [← e]; exact hi.numsOf
  rw [nums_intItems] at en
  rw [e] at hl
  exact mxd_ints0 hh hl (by simpa using congrArg List.length en) h
end
section
variable {X : Cx}
def tMaxE (K : PySem.W.Frag) (te tk : TE) : TE := fun σ H Q => te σ H fun y H1 => tk σ H1 fun d H2 => ∃ (a : Addr) (ns : List Int), y = .ref a ∧ SqL K H2 a (ns.map V.int) ∧ (0 < ns.length → ∀ m, m ∈ ns → (∀ y ∈ ns, y ≤ m) → Q (.int m) H2) ∧ (ns = [] → Q d H2)
/-- max(e, default=k), whether or not there is anything -/
theorem pe_maxE {e ek : Expr} {te tk : TE} {p kpos pos : Pos} (hc : X.calm = true) (hg : Gl X "max") (hm : X.mg "max" = none) (he : PE X e te) (hek : PE X ek tk)
    (hse : starEach [e] X.env = (false, eval e X.env) :: starEach [] X.env := by rfl) (hst : backTo pos (starEach [e] X.env) = (false, eval e X.env) :: backTo pos (starEach [] X.env) := by rfl) (hpl : (backTo pos (starEach [e] X.env)).any (·.1) = false := by rfl) :
    PE X (.Call (.Name "max" p) [e] [⟨some "default", ek, kpos⟩] pos) (tMaxE X.K te tk) := by
  refine ⟨fun pins s σ H Q I h => ?_⟩
  refine wpAny_Call_Name_kw (ld_blt (u := .builtin "max") I hg hm (by decide +kernel) ?_ (by decide) (by decide))
  have ha : PA X [e] (tCons te tNil) := pa_cons he pa_nil hse
  refine PyProof.Rows.callWith_kw (thn (ha.run pos pins s σ H (fun vs H1 => match vs with | [y] => tk σ H1 fun d H2 => ∃ (a : Addr) (ns : List Int), y = V.ref a ∧ SqL X.K H2 a (ns.map V.int) ∧ (0 < ns.length → ∀ m, m ∈ ns → (∀ y ∈ ns, y ≤ m) → Q (.int m) H2) ∧ (ns = [] → Q d H2) | _ => False) I h) fun us s1 ⟨vs, H1, I1, r1, q1⟩ => ?_) hst hpl (by rfl) (by rfl)
  obtain ⟨y, rfl, q1⟩ : ∃ y, vs = [y] ∧ tk σ H1 fun d H2 => ∃ (a : Addr) (ns : List Int), y = V.ref a ∧ SqL X.K H2 a (ns.map V.int) ∧ (0 < ns.length → ∀ m, m ∈ ns → (∀ y ∈ ns, y ≤ m) → Q (.int m) H2) ∧ (ns = [] → Q d H2) := by
    match vs, q1 with
    | [y], z => exact ⟨y, rfl, z⟩
  show wpAny _ _ (evalAll ((do let v ← eval ek X.env; standAt pos; pure v) :: [])) _ _ s1
  refine wpAny_evalAll_cons (wpAny_bind (thn (hek.run _ s1 σ H1 _ I1 q1) fun u s2 ⟨d, H2, I2, rd, a, ns, ey, hs, qn, q0⟩ => wpAny_bind (wpAny_standAt (wpAny_pure (wpAny_evalAll_nil ?_)))))
  cases ey
  obtain rfl := Vals.ref1 r1
  obtain ⟨its, rv, hl, _⟩ := I2.list hs
  show wpAny _ _ (call (.builtin "max") [.ref a] [(Str.ofString "default", u)]) _ _ s2
  by_cases hne : 0 < ns.length
  · exact mxd_raw (I2.ok.hd hc) hl.isList rv.ints hne fun h' tk m t' hk h1 h2 => ⟨.int _, H2, I2.kept hk, ⟨_, rfl⟩, qn hne m h1 h2⟩
  · have e0 : ns = [] := List.length_eq_zero_iff.mp (by omega)
    subst e0
    exact mxd_raw0 (I2.ok.hd hc) hl.isList rv.ints fun h' tk hk => ⟨d, H2, I2.kept hk, rd, q0 rfl⟩
/-- t < u, as the first pair that differs says -/
def ltII (ns ms : List Int) : Bool := Ob.lexAt (fun j => decide (ns.getD j 0 = ms.getD j 0)) (fun j => decide (ns.getD j 0 < ms.getD j 0)) (decide (ns.length < ms.length)) 0 (min ns.length ms.length)
def rLtT (K : PySem.W.Frag) : R2 := fun x y H Q => ∃ (a b : Addr) (ns ms : List Int), x = .ref a ∧ y = .ref b ∧ SqT K H a (ns.map V.int) ∧ SqT K H b (ms.map V.int) ∧ Q (.bl (ltII ns ms)) H
theorem op_ltT (hu : X.A.units < cLine) : OpR X (compareOp .Lt) (rLtT X.K) := by
  intro pins s σ H x y v u Q I rx ry h
  obtain ⟨a, b, ns, ms, rfl, rfl, ha, hb, q⟩ := h
  cases rx
  cases ry
  obtain ⟨ws, r1, p1, _⟩ := I.tuple ha
  obtain ⟨us, r2, p2, _⟩ := I.tuple hb
  have i1 : IntsAre ws ns := Vals.ints r1
  have i2 : IntsAre us ms := Vals.ints r2
  have n1 : ws.toArray.size = ns.length := by rw [List.size_toArray]; exact i1.length
  have n2 : us.toArray.size = ms.length := by rw [List.size_toArray]; exact i2.length
  have g1 : ∀ j (h1 : j < ws.toArray.size), ∃ t, ws.toArray[j] = .int (ns.getD j 0) t := fun j h1 => PyProof.Rows.IntsAre.int_at i1 _ _ (by simp at h1; simp [h1])
  have g2 : ∀ j (h1 : j < us.toArray.size), ∃ t, us.toArray[j] = .int (ms.getD j 0) t := fun j h1 => PyProof.Rows.IntsAre.int_at i2 _ _ (by simp at h1; simp [h1])
  have R := Ob.RcOp.tuples_lt (A := X.A) (s := s) (e := fun j => decide (ns.getD j 0 = ms.getD j 0)) (r := fun j => decide (ns.getD j 0 < ms.getD j 0)) p1 p2 hu (fun j h1 h2 => by
    obtain ⟨t, et⟩ := g1 j h1
    obtain ⟨t', et'⟩ := g2 j h2
    rw [et, et', show decide (ns.getD j 0 = ms.getD j 0) = (ns.getD j 0 == ms.getD j 0) by rw [Bool.eq_iff_iff]; simp]
    exact SeqAt.EqAt.int_int _ _ _ _) (fun j h1 h2 _ => by
    obtain ⟨t, et⟩ := g1 j h1
    obtain ⟨t', et'⟩ := g2 j h2
    rw [et, et']
    exact Ob.RcOp.lt_int _ _ _ _)
  rw [n1, n2] at R
  exact R X.prog X.w X.xe (EP X pins σ Q) ⟨.bl _, H, I, rfl, q⟩
theorem ltII2 (a b c d : Int) : ltII [a, b] [c, d] = decide (a < c ∨ (a = c ∧ b < d)) := by
  unfold ltII
  simp only [List.length_cons, List.length_nil, Nat.min_self, Nat.zero_add, Nat.lt_irrefl, decide_false]
  rw [Ob.lexAt_succ, Ob.lexAt_succ, Ob.lexAt_zero]
  simp only [List.getD_cons_zero, List.getD_cons_succ, Nat.zero_add]
  by_cases h : a = c
  · subst h
    by_cases h2 : b = d
    · subst h2; simp
    · simp [h2]
  · simp [h]
end
section
variable {X : Cx}
/-- x in a list or a tuple of data -/
def rInE (K : PySem.W.Frag) : R2 := fun x y H Q => ∃ d ds, Dp K H x d ∧ (Dp K H y (.list ds) ∨ Dp K H y (.tuple ds)) ∧ SeqAt.shaped d = true ∧ SeqAt.shaped (.list ds) = true ∧ Q (.bl (ds.any fun z => PyData.eqv z d)) H
theorem op_inE (hu : X.A.units + 65 < cLine) : OpR X (compareOp .In) (rInE X.K) := by
  intro pins s σ H x y v u Q I rx ry h
  obtain ⟨d, ds, hd, he, sd, se, q⟩ := h
  obtain ⟨as, r1⟩ := Dp.reads I d x v hd rx
  rcases he with he | he
  · obtain ⟨bs, r2⟩ := Dp.reads I (.list ds) y u he ry
    exact SeqAt.in_list_reads r2 r1 (SeqAt.canLay_of_shaped se) (SeqAt.canLay_of_shaped sd) (room_in_shaped sd hu) ⟨.bl _, H, I, rfl, q⟩
  · obtain ⟨bs, r2⟩ := Dp.reads I (.tuple ds) y u he ry
    exact SeqAt.in_tuple_reads r2 r1 (SeqAt.canLay_of_shaped se) (SeqAt.canLay_of_shaped sd) (room_in_shaped sd hu) ⟨.bl _, H, I, rfl, q⟩
end
end My
/-! dicts whose keys are tuples of any depth, told by their keys, the keys' addresses and their values -/
namespace My
open PySem PySem.Spec L2 PyProof.Rows
/-! ### a key as data -/
mutual
def nk : PyData → NestedKey
  | .none => .none
  | .bool b => .num (if b = true then 1 else 0)
  | .int i => .num i
  | .str x => .text x
  | .tuple ds => .tup (nks ds)
  | .list _ => .none
  | .dict _ => .none
def nks : List PyData → List NestedKey
  | [] => []
  | d :: ds => nk d :: nks ds
end
section
variable {X : Cx} {pins : List (Addr × Obj)} {σ : L2.St} {H : Hp} {s : Shared}
mutual
theorem nested_of (I : Inv X pins σ H s) : ∀ {v : V} {d : PyData} {u : Value}, Dp X.K H v d → nlB d = true → RelV v u → NestedIs s.heap (nk d) u
  | _, _, u, .non, _, r => by
    obtain rfl : u = Value.none := r
    exact .none
  | _, _, u, .bl b, _, r => by
    obtain rfl : u = Value.bool b := r
    exact .bool rfl
  | _, _, u, .int i, _, r => by
    obtain ⟨t, rfl⟩ : ∃ t, u = Value.int i t := r
    exact .int i t
  | _, _, u, .str x, _, r => by
    obtain ⟨t, rfl⟩ : ∃ t, u = Value.str x t := r
    exact .text x t
  | _, _, u, .lst _ _, nl, _ => by cases nl
  | _, _, u, @Dp.tup _ _ a xs ds h t, nl, r => by
    obtain rfl : u = Value.ref a := r
    obtain ⟨its, rv, ⟨o, ho, hc, n, hd⟩, _⟩ := I.tuple h
    refine NestedIs.tup ho hc hd ?_
    exact nested_all I t (show nlAll ds = true from nl) rv
theorem nested_all (I : Inv X pins σ H s) : ∀ {vs : List V} {ds : List PyData} {us : List Value}, DpAll X.K H vs ds → nlAll ds = true → Vals vs us → NestedAll s.heap (nks ds) us
  | _, _, _, .nil, _, .nil => .nil
  | _, d :: ds, _, .cons h t, nl, .cons r rs => by
    have nl : (nlB d && nlAll ds) = true := nl
    rw [Bool.and_eq_true] at nl
    exact .cons (nested_of I h nl.1 r) (nested_all I t nl.2 rs)
end
end
mutual
theorem dp_mono {K : PySem.W.Frag} {H H' : Hp} (e : ∀ p xs, SqT K H p xs → SqT K H' p xs) : ∀ {v : V} {d : PyData}, nlB d = true → Dp K H v d → Dp K H' v d
  | _, _, _, .non => .non
  | _, _, _, .bl b => .bl b
  | _, _, _, .int i => .int i
  | _, _, _, .str x => .str x
  | _, .list _, nl, .lst _ _ => by cases nl
  | _, .tuple ds, nl, .tup h t => .tup (e _ _ h) (dps_mono e (show nlAll ds = true from nl) t)
theorem dps_mono {K : PySem.W.Frag} {H H' : Hp} (e : ∀ p xs, SqT K H p xs → SqT K H' p xs) : ∀ {vs : List V} {ds : List PyData}, nlAll ds = true → DpAll K H vs ds → DpAll K H' vs ds
  | _, _, _, .nil => .nil
  | _, d :: ds, nl, .cons h t => by
    have nl : (nlB d && nlAll ds) = true := nl
    rw [Bool.and_eq_true] at nl
    exact .cons (dp_mono e nl.1 h) (dps_mono e nl.2 t)
end
/-- at b stands the tuple that the key is -/
def KeyAt (K : PySem.W.Frag) (H : Hp) (b : Addr) (k : NestedKey) : Prop := ∃ ds, Dp K H (.ref b) (.tuple ds) ∧ nlAll ds = true ∧ k = nk (.tuple ds) ∧ k.depth ≤ 8
theorem KeyAt.mono {K : PySem.W.Frag} {H H' : Hp} {b : Addr} {k : NestedKey} (h : KeyAt K H b k) (e : ∀ p xs, SqT K H p xs → SqT K H' p xs) : KeyAt K H' b k := by
  obtain ⟨ds, h1, h2, h3, h4⟩ := h
  exact ⟨ds, dp_mono e (show nlB (.tuple ds) = true from h2) h1, h2, h3, h4⟩
abbrev KVs := List (NestedKey × Addr × V)
def KeysIn (K : PySem.W.Frag) (H : Hp) (kvs : KVs) : Prop := ∀ p ∈ kvs, KeyAt K H p.2.1 p.1
theorem KeysIn.mono {K : PySem.W.Frag} {H H' : Hp} {kvs : KVs} (h : KeysIn K H kvs) (e : ∀ p xs, SqT K H p xs → SqT K H' p xs) : KeysIn K H' kvs := fun p hp => (h p hp).mono e
def RelN (p : NestedKey × Addr × V) (q : NestedKey × Addr × Value) : Prop := q.1 = p.1 ∧ q.2.1 = p.2.1 ∧ RelV p.2.2 q.2.2
/-- the dict at D -/
def DN (P : Program) (w : World) (D : Addr) (kvs : KVs) : HO := .ext fun h => kvs.length ≤ sizeLine ∧ (D == sysModules) = false ∧ ∃ xs : List (NestedKey × Addr × Value), Paired RelN kvs xs ∧
  ∃ o es ep, h.get? D = some o ∧ o.ExactDict ∧ o.data = .dict es ep ∧ es.toList = xs.map (entryOfKey (nestedKind P w)) ∧ (xs.map (·.1)).Nodup
theorem dn_ok {P : Program} {w : World} {H : Hp} {h : Heap} {D : Addr} {kvs : KVs} (z : kvs.length ≤ sizeLine) (hs : (D == sysModules) = false) {xs : List (NestedKey × Addr × Value)} (pr : Paired RelN kvs xs) {o : Obj} {es : Array DictEntry} {ep : Nat}
    (ho : h.get? D = some o) (hx : o.ExactDict) (hd : o.data = .dict es ep) (he : es.toList = xs.map (entryOfKey (nestedKind P w))) (hn : (xs.map (·.1)).Nodup) : ObjOk P w H h D (DN P w D kvs) :=
  ⟨⟨z, hs, xs, pr, o, es, ep, ho, hx, hd, he, hn⟩, ⟨o, ho⟩, fun h1 h2 ⟨z, hs, xs, pr, o, es, ep, ho, r⟩ k => ⟨z, hs, xs, pr, o, es, ep, k o ho, r⟩⟩
theorem dn_at {P : Program} {w : World} {H : Hp} {h : Heap} {D : Addr} {kvs : KVs} (x : ObjOk P w H h D (DN P w D kvs)) : kvs.length ≤ sizeLine ∧ (D == sysModules) = false ∧ ∃ xs : List (NestedKey × Addr × Value), Paired RelN kvs xs ∧
  ∃ o es ep, h.get? D = some o ∧ o.ExactDict ∧ o.data = .dict es ep ∧ es.toList = xs.map (entryOfKey (nestedKind P w)) ∧ (xs.map (·.1)).Nodup := x.1
def atN (kvs : KVs) (k : NestedKey) : Option (Addr × V) := atK kvs k where
  atK : KVs → NestedKey → Option (Addr × V)
    | [], _ => none
    | p :: r, k => if p.1 = k then some p.2 else atK r k
def putN (kvs : KVs) (k : NestedKey) (b : Addr) (v : V) : KVs := match atN kvs k with
  | none => kvs ++ [(k, b, v)]
  | some _ => kvs.map fun p => if p.1 = k then (p.1, p.2.1, v) else p
theorem atK_rel {kvs : KVs} {xs : List (NestedKey × Addr × Value)} (pr : Paired RelN kvs xs) (k : NestedKey) : match atN.atK kvs k, atKey xs k with
    | none, none => True
    | some p, some q => q.1 = p.1 ∧ RelV p.2 q.2
    | _, _ => False := by
  induction pr with
  | nil => exact True.intro
  | @cons p q ps qs r t ih =>
    obtain ⟨e1, e2, e3⟩ := r
    by_cases h : p.1 = k
    · rw [show atN.atK (p :: ps) k = some p.2 from if_pos h, show atKey (q :: qs) k = some q.2 from by unfold atKey; rw [List.find?_cons, decide_eq_true (e1.trans h)]; rfl]
      exact ⟨e2, e3⟩
    · rw [show atN.atK (p :: ps) k = atN.atK ps k from if_neg h, show atKey (q :: qs) k = atKey qs k from by unfold atKey; rw [List.find?_cons, decide_eq_false (fun z => h (e1.symm.trans z))]]
      exact ih
theorem atN_some {kvs : KVs} {xs : List (NestedKey × Addr × Value)} (pr : Paired RelN kvs xs) {k : NestedKey} {p : Addr × V} (h : atN kvs k = some p) : ∃ q, atKey xs k = some q ∧ q.1 = p.1 ∧ RelV p.2 q.2 := by
  have := atK_rel pr k
  rw [show atN.atK kvs k = some p from h] at this
  cases e : atKey xs k with
  | none => rw [e] at this; exact this.elim
  | some q => rw [e] at this; exact ⟨q, rfl, this⟩
theorem atN_none {kvs : KVs} {xs : List (NestedKey × Addr × Value)} (pr : Paired RelN kvs xs) {k : NestedKey} (h : atN kvs k = none) : atKey xs k = none := by
  have := atK_rel pr k
  rw [show atN.atK kvs k = none from h] at this
  cases e : atKey xs k with
  | none => rfl
  | some q => rw [e] at this; exact this.elim
theorem atN_isSome {kvs : KVs} {xs : List (NestedKey × Addr × Value)} (pr : Paired RelN kvs xs) (k : NestedKey) : (atKey xs k).isSome = (atN kvs k).isSome := by
  cases e : atN kvs k with
  | none => rw [atN_none pr e]; rfl
  | some p => obtain ⟨q, hq, _⟩ := atN_some pr e; rw [hq]; rfl
theorem pairedN_app {α β : Type} {R : α → β → Prop} : ∀ {as : List α} {bs : List β} {cs : List α} {ds : List β}, Paired R as bs → Paired R cs ds → Paired R (as ++ cs) (bs ++ ds)
  | _, _, _, _, .nil, t => t
  | _, _, _, _, .cons r t, u => .cons r (pairedN_app t u)
theorem putN_rel {kvs : KVs} {xs : List (NestedKey × Addr × Value)} (pr : Paired RelN kvs xs) {k : NestedKey} {b : Addr} {v : V} {r : Value} (rv : RelV v r) : Paired RelN (putN kvs k b v) (storedH xs k b r) := by
  unfold putN
  cases e : atN kvs k with
  | none =>
    rw [storedH_new (atN_none pr e)]
    exact pairedN_app pr (.cons ⟨rfl, rfl, rv⟩ .nil)
  | some p =>
    obtain ⟨q, hq, _⟩ := atN_some pr e
    rw [storedH_old hq]
    clear e hq
    induction pr with
    | nil => exact .nil
    | @cons p q ps qs t _ ih =>
      refine .cons ?_ ih
      obtain ⟨e1, e2, e3⟩ := t
      show RelN (if p.1 = k then _ else p) (putAt k r q)
      unfold putAt
      by_cases h : p.1 = k
      · rw [if_pos h, if_pos (e1.trans h)]
        exact ⟨e1, e2, rv⟩
      · rw [if_neg h, if_neg (fun z => h (e1.symm.trans z))]
        exact ⟨e1, e2, e3⟩
theorem putN_len (kvs : KVs) (k : NestedKey) (b : Addr) (v : V) : (putN kvs k b v).length ≤ kvs.length + 1 := by
  unfold putN
  split
  · simp
  · rw [List.length_map]; omega
theorem putN_keys {K : PySem.W.Frag} {H : Hp} {kvs : KVs} (h : KeysIn K H kvs) {k : NestedKey} {b : Addr} (hb : KeyAt K H b k) (v : V) : KeysIn K H (putN kvs k b v) := by
  intro p hp
  unfold putN at hp
  split at hp
  · rcases List.mem_append.mp hp with hp | hp
    · exact h p hp
    · rw [List.mem_singleton.mp hp]; exact hb
  · obtain ⟨q, hq, rfl⟩ := List.mem_map.mp hp
    split
    · exact h q hq
    · exact h q hq
section
variable {X : Cx} {pins : List (Addr × Obj)} {σ : L2.St} {H : Hp} {s : Shared}
theorem key_is (I : Inv X pins σ H s) {b : Addr} {k : NestedKey} (h : KeyAt X.K H b k) : (nestedKind X.prog X.w).is s.heap k b := by
  obtain ⟨ds, h1, h2, rfl, h4⟩ := h
  exact ⟨nested_of I h1 (show nlB (.tuple ds) = true from h2) (show RelV (.ref b) (.ref b) from rfl), h4⟩
theorem keys_are (I : Inv X pins σ H s) {kvs : KVs} {xs : List (NestedKey × Addr × Value)} (pr : Paired RelN kvs xs) (h : KeysIn X.K H kvs) : ∀ x ∈ xs, (nestedKind X.prog X.w).is s.heap x.1 x.2.1 := by
  induction pr with
  | nil => intro x hx; cases hx
  | @cons p q ps qs r t ih =>
    intro x hx
    rcases List.mem_cons.mp hx with rfl | hx
    · rw [r.1, r.2.1]; exact key_is I (h p (.head _))
    · exact ih (fun y hy => h y (.tail _ hy)) x hx
theorem dn_of (I : Inv X pins σ H s) {D : Addr} {kvs : KVs} (hd : Rd H D (DN X.prog X.w D kvs)) (hk : KeysIn X.K H kvs) : kvs.length ≤ sizeLine ∧ (D == sysModules) = false ∧ ∃ xs, Paired RelN kvs xs ∧ s.heap.DictOfH (nestedKind X.prog X.w) D xs := by
  obtain ⟨z, hs, xs, pr, o, es, ep, ho, hx, hdt, he, hn⟩ := dn_at (hd.ok I.hok)
  exact ⟨z, hs, xs, pr, o, es, ep, ho, hx, hdt, he, keys_are I pr hk, hn⟩
/-- D[b] = v -/
theorem dn_set {A : Around} {E : Value → Shared → Prop} {D b : Addr} {kvs : KVs} {k : NestedKey} {v : V} {r : Value} {Q : Unit → Shared → Prop} (hu : A.units + 9 < cLine) (I : Inv X pins σ H s) (hd : H D = some (DN X.prog X.w D kvs)) (hk : KeysIn X.K H kvs) (hb : KeyAt X.K H b k) (hl : kvs.length < sizeLine) (rv : RelV v r)
    (h : ∀ s', Inv X pins σ (upd H D (DN X.prog X.w D (putN kvs k b v))) s' → Q () s') : wpAny (model X.prog X.w) A (setItem (.ref D) (.ref b) r) Q E s := by
  obtain ⟨z, hs, xs, pr, dd⟩ := dn_of I (.inl hd) hk
  have hz : xs.length ≤ sizeLine := by rw [← Paired.length pr]; exact z
  refine wpAny_setItem_heap (hsz := hz) (show A.units + 1 + 8 < cLine by omega) (key_is I hb) dd fun h' dd' sb => h _ ?_
  obtain ⟨q, es, ep, hq, h2, h3, h4, _, h5⟩ := dd'
  exact d_write I (by rw [hd]; exact True.intro) sb ⟨q, hq⟩ (dn_ok (by have := putN_len kvs k b v; omega) hs (putN_rel pr rv) hq h2 h3 h4 h5)
theorem dn_set2 {E : Value → Shared → Prop} {D b : Addr} {kvs : KVs} {k : NestedKey} {v : V} {r : Value} {Q : Unit → Shared → Prop} (hu : X.A.units + 9 < cLine) (I : Inv X pins σ H s) (hd : H D = some (DN X.prog X.w D kvs)) (hk : KeysIn X.K H kvs) (hb : KeyAt X.K H b k) (hl : kvs.length < sizeLine) (rv : RelV v r)
    (h : ∀ s', Inv X pins σ (upd H D (DN X.prog X.w D (putN kvs k b v))) s' → Q () s') : wpAny (model X.prog X.w) X.A (dictSet D (.ref b) r) Q E s := by
  obtain ⟨z, hs, xs, pr, dd⟩ := dn_of I (.inl hd) hk
  have hz : xs.length ≤ sizeLine := by rw [← Paired.length pr]; exact z
  refine wpAny_dictSet_heap (hsz := hz) (show X.A.units + 8 < cLine by omega) (key_is I hb) dd fun h' dd' sb => h _ ?_
  obtain ⟨q, es, ep, hq, h2, h3, h4, _, h5⟩ := dd'
  exact d_write I (by rw [hd]; exact True.intro) sb ⟨q, hq⟩ (dn_ok (by have := putN_len kvs k b v; omega) hs (putN_rel pr rv) hq h2 h3 h4 h5)
end
/-! ### the rules -/
def tDNew (P : Program) (w : World) : TE := fun _ H Q => ∀ p, H p = none → Q (.ref p) (upd H p (DN P w p []))
def tDInN (P : Program) (w : World) (K : PySem.W.Frag) (n : Bool) (ty td : TE) : TE := fun σ H Q => ty σ H fun y H1 => td σ H1 fun x H2 => ∃ D kvs b k, x = .ref D ∧ y = .ref b ∧ Rd H2 D (DN P w D kvs) ∧ KeysIn K H2 kvs ∧ KeyAt K H2 b k ∧ Q (.bl (n != (atN kvs k).isSome)) H2
def tDGetN (P : Program) (w : World) (K : PySem.W.Frag) (td ty : TE) : TE := fun σ H Q => td σ H fun x H1 => ty σ H1 fun y H2 => ∃ D kvs b k p, x = .ref D ∧ y = .ref b ∧ Rd H2 D (DN P w D kvs) ∧ KeysIn K H2 kvs ∧ KeyAt K H2 b k ∧ atN kvs k = some p ∧ Q p.2 H2
def sDPutN (P : Program) (w : World) (K : PySem.W.Frag) (td ty tv : TE) : TS := fun D0 σ H => tv σ H fun v H1 => td σ H1 fun x H2 => ty σ H2 fun y H3 => ∃ D kvs b k, x = .ref D ∧ y = .ref b ∧ H3 D = some (DN P w D kvs) ∧ KeysIn K H3 kvs ∧ KeyAt K H3 b k ∧ kvs.length < sizeLine ∧ D0.nx σ (upd H3 D (DN P w D (putN kvs k b v)))
section
variable {X : Cx} {o i e f value : Expr} {pos pos' tpos : Pos} {td ty tv : TE}
theorem pe_dnewN : PE X (.Dict [] [] pos) (tDNew X.prog X.w) := ⟨fun pins s σ H Q I h =>
  wpAny_Dict_empty ⟨.ref s.heap.objs.size, _, I.laid (a := s.heap.objs.size) (o := DN X.prog X.w s.heap.objs.size []) (t' := s.toks) (fun _ _ q => Heap.get?_push_of_some _ q) (Nat.le_refl _)
    (dn_ok (xs := []) (Nat.zero_le _) (beq_eq_false_iff_ne.mpr (Nat.ne_of_gt I.big)) .nil (Heap.get?_push_size _ rfl) ⟨rfl, rfl, rfl⟩ rfl rfl .nil), rfl, h _ (I.hok.fresh (Nat.le_refl _))⟩⟩
theorem pc_dinN (hu : X.A.units + 9 < cLine) (hi : PE X i ty) (ho : PE X o td) : PC X .In i o (tDInN X.prog X.w X.K false ty td) := by
  refine ⟨fun pins s σ H Q I h => ?_⟩
  refine thn (hi.run pins s σ H _ I h) fun iv s1 ⟨y, H1, I1, ry, q1⟩ => thn (ho.run pins s1 σ H1 _ I1 q1) fun u s2 ⟨x, H2, I2, rx, D, kvs, b, k, ex, ey, hd, hk, hb, q2⟩ => ?_
  subst ex ey
  obtain rfl : u = Value.ref D := rx
  obtain rfl : iv = Value.ref b := ry
  obtain ⟨z, hs, xs, pr, dd⟩ := dn_of I2 hd hk
  refine wpAny_in_heap (show X.A.units + 1 + 8 < cLine by omega) (key_is I2 hb) hs dd ?_
  rw [atN_isSome pr k]
  exact ⟨.bl (atN kvs k).isSome, H2, I2.tok _, rfl, by simpa using q2⟩
theorem pc_dnotinN (hu : X.A.units + 9 < cLine) (hi : PE X i ty) (ho : PE X o td) : PC X .NotIn i o (tDInN X.prog X.w X.K true ty td) := by
  refine ⟨fun pins s σ H Q I h => ?_⟩
  refine thn (hi.run pins s σ H _ I h) fun iv s1 ⟨y, H1, I1, ry, q1⟩ => thn (ho.run pins s1 σ H1 _ I1 q1) fun u s2 ⟨x, H2, I2, rx, D, kvs, b, k, ex, ey, hd, hk, hb, q2⟩ => ?_
  subst ex ey
  obtain rfl : u = Value.ref D := rx
  obtain rfl : iv = Value.ref b := ry
  obtain ⟨z, hs, xs, pr, dd⟩ := dn_of I2 hd hk
  refine wpAny_notIn_heap (show X.A.units + 1 + 8 < cLine by omega) (key_is I2 hb) hs dd ?_
  rw [atN_isSome pr k]
  exact ⟨.bl (!(atN kvs k).isSome), H2, I2.tok _, rfl, by simpa using q2⟩
theorem pe_dgetN (hu : X.A.units + 9 < cLine) (ho : PE X o td) (hi : PE X i ty) (hs : NoSl i) : PE X (.Subscript o i pos) (tDGetN X.prog X.w X.K td ty) := by
  refine ⟨fun pins s σ H Q I h => ?_⟩
  refine subD_of PySem.F.slot_dict_getitem.lookup hs (thn (ho.run pins s σ H _ I h) fun u s1 ⟨x, H1, I1, rx, q1⟩ => thn (hi.run pins s1 σ H1 _ I1 q1) fun iv s2 ⟨y, H2, I2, ry, D, kvs, b, k, p, ex, ey, hd, hk, hb, hp, q2⟩ => ?_)
  subst ex ey
  obtain rfl : u = Value.ref D := rx
  obtain rfl : iv = Value.ref b := ry
  obtain ⟨z, hs, xs, pr, dd⟩ := dn_of I2 hd hk
  obtain ⟨q, hq, _, rq⟩ := atN_some pr hp
  exact ⟨dd.typeIs, wpAny_getItem_heap (show X.A.units + 1 + 8 < cLine by omega) (key_is I2 hb) dd hq ⟨p.2, H2, I2.tok _, rq, q2⟩⟩
theorem ps_dputN (hu : X.A.units + 9 < cLine) (ho : PE X o td) (hi : PE X i ty) (hv : PE X value tv) (hs : swapsWith value (some (.Subscript o i pos')) pos.line X.env = pure false) :
    PS X (.Assign [.Subscript o i pos'] value pos) (sDPutN X.prog X.w X.K td ty tv) := by
  refine ⟨fun pins s σ H D0 I h => ?_⟩
  refine wpAny_Assign_Subscript (thn (hv.run pins s σ H _ I h) fun r s1 ⟨v, H1, I1, rv, q1⟩ => thn (ho.run pins s1 σ H1 _ I1 q1) fun u s2 ⟨x, H2, I2, rx, q2⟩ => thn (hi.run pins s2 σ H2 _ I2 q2) fun iv s3 ⟨y, H3, I3, ry, D, kvs, b, k, ex, ey, hd, hk, hb, hl, q3⟩ => ?_) hs
  subst ex ey
  obtain rfl : u = Value.ref D := rx
  obtain rfl : iv = Value.ref b := ry
  exact dn_set hu I3 hd hk hb hl rv fun s4 I4 => ⟨σ, _, I4, q3⟩
end
/-- a comprehension's store -/
def putD (P : Program) (w : World) (K : PySem.W.Frag) (D : Addr) (y z : V) (H H' : Hp) : Prop := ∃ kvs b k, y = .ref b ∧ H D = some (DN P w D kvs) ∧ KeysIn K H kvs ∧ KeyAt K H b k ∧ kvs.length < sizeLine ∧ H' = upd H D (DN P w D (putN kvs k b z))
theorem putD_ok {P : Program} {w : World} {K : PySem.W.Frag} : PutOk P w K 9 (putD P w K) := ⟨fun {X} hP hw hK hu {pins σ H H' s E D y z u r Q} I p ry rz h => by
  subst hP hw hK
  obtain ⟨kvs, b, k, rfl, hd, hk, hb, hl, rfl⟩ := p
  cases (show u = Value.ref b from ry)
  exact dn_set2 hu I hd hk hb hl rz h⟩
theorem dN0 {P : Program} {w : World} {H : Hp} (h : Heap) (hb : sysModules < h.objs.size) : ObjOk P w H (h.push { cls := .type "dict", data := .dict #[] }) h.objs.size (DN P w h.objs.size []) :=
  dn_ok (xs := []) (Nat.zero_le _) (beq_eq_false_iff_ne.mpr (Nat.ne_of_gt hb)) .nil (Heap.get?_push_size _ rfl) ⟨rfl, rfl, rfl⟩ rfl rfl .nil
/-! ### list(d): the keys, as they stand -/
section
variable {X : Cx}
theorem relN_len {kvs : KVs} {xs : List (NestedKey × Addr × Value)} (pr : Paired RelN kvs xs) : kvs.length = xs.length := Paired.length pr
theorem relN_keys {kvs : KVs} {xs : List (NestedKey × Addr × Value)} (pr : Paired RelN kvs xs) : xs.map (fun x => Value.ref x.2.1) = kvs.map fun p => Value.ref p.2.1 := by
  induction pr with
  | nil => rfl
  | cons r t ih => rw [List.map_cons, List.map_cons, ih, r.2.1]
theorem valsRefs : ∀ kvs : KVs, Vals (kvs.map fun p => V.ref p.2.1) (kvs.map fun p => Value.ref p.2.1)
  | [] => .nil
  | _ :: r => .cons rfl (valsRefs r)
theorem call_listN (hc : X.calm = true) : CallR X (.type "list") (fun xs H Q => ∃ D kvs, xs = [V.ref D] ∧ Rd H D (DN X.prog X.w D kvs) ∧ ∀ p, H p = none → Q (.ref p) (upd H p (.lst (kvs.map fun p => V.ref p.2.1)))) := by
  intro pins s σ H xs us Q I r h
  obtain ⟨D, kvs, rfl, hd, q⟩ := h
  obtain ⟨u, rfl, rx⟩ := r.one
  cases rx
  obtain ⟨z, hs, ks, pr, o, es, ep, ho, hx, hdt, he, hn⟩ := dn_at (hd.ok I.hok)
  have l1 : es.size = ks.length := size_of_entries he
  have l2 := relN_len pr
  refine PySem.W.kdl_call (kdl_raw hs hx hdt) (I.ok.hd hc) ho (by omega) fun h' tk acc c kp e it => ?_
  have ea : acc.toList = ks.map fun x => Value.ref x.2.1 := by
    apply List.ext_getElem?
    intro j
    rw [List.getElem?_map]
    have hl : acc.toList.length = ks.length := by rw [Array.length_toList, it.1]; exact l1
    cases hj : acc.toList[j]? with
    | none =>
      have h1 := List.getElem?_eq_none_iff.mp hj
      rw [List.getElem?_eq_none (by omega)]
      rfl
    | some v =>
      obtain ⟨en, hen, hv⟩ := it.2 j v (by rw [← Array.getElem?_toList]; exact hj)
      have qe := entry_at he j
      rw [hen] at qe
      cases hb : ks[j]? with
      | none => rw [hb] at qe; cases qe
      | some b =>
        rw [hb] at qe
        rw [hv, Option.some.inj qe]
        rfl
  rw [relN_keys pr] at ea
  have rv : Vals (kvs.map fun p => V.ref p.2.1) acc.toList := by rw [ea]; exact valsRefs _
  refine ⟨.ref s.heap.objs.size, _, I.laid (t' := tk) (o := .lst (kvs.map fun p => V.ref p.2.1)) kp (Nat.le_refl _) ?_, rfl, q _ (I.hok.fresh (Nat.le_refl _))⟩
  exact ⟨by rw [List.length_map]; exact z, acc.toList, c, rv, by rw [Array.toArray_toList]; exact e⟩
end
/-! ### d.values(), walked -/
section
variable {X : Cx} {pins : List (Addr × Obj)} {σ : L2.St} {H : Hp} {s : Shared} {d : Addr} {o : Obj}
theorem pairedN_at {kvs : KVs} {xs : List (NestedKey × Addr × Value)} (pr : Paired RelN kvs xs) : ∀ {i : Nat} {x : NestedKey × Addr × Value}, xs[i]? = some x → ∃ p, kvs[i]? = some p ∧ RelN p x := by
  induction pr with
  | nil => intro i x e; simp at e
  | @cons a b as bs r t ih =>
    intro i x e
    cases i with
    | zero => simp at e; subst e; exact ⟨a, rfl, r⟩
    | succ j => simp at e; obtain ⟨p, hp, hr⟩ := ih e; exact ⟨p, by simpa using hp, hr⟩
theorem frzN {kvs : KVs} (I : Inv X pins σ H s) (h : H d = some (.frz o (DN X.prog X.w d kvs))) :
    (d == sysModules) = false ∧ s.heap.get? d = some o ∧ o.ExactDict ∧ ∃ (es : Array DictEntry) (ep : Nat), o.data = .dict es ep ∧ es.size = kvs.length ∧
      ∀ (i : Nat) (hi : i < es.size), ∃ p, kvs[i]? = some p ∧ es[i].key = .ref p.2.1 ∧ RelV p.2.2 es[i].val := by
  obtain ⟨hd, u⟩ := I.hok d _ h
  obtain ⟨z, hs, xs, pr, ob, es, ep, ho, hx, hdt, he, _⟩ := dn_at u
  rw [hd] at ho
  cases ho
  have n1 : es.size = xs.length := size_of_entries he
  have n2 := relN_len pr
  refine ⟨hs, hd, hx, es, ep, hdt, by omega, fun i hi => ?_⟩
  have q := entry_at he i
  rw [Array.getElem?_eq_getElem hi, List.getElem?_eq_getElem (by omega)] at q
  obtain ⟨p, hp, r⟩ := pairedN_at pr (List.getElem?_eq_getElem (show i < xs.length by omega))
  have q := Option.some.inj q
  refine ⟨p, hp, ?_, ?_⟩
  · rw [q]; show Value.ref _ = _; rw [r.2.1]
  · rw [q]; exact r.2.2
end
def Itvn (P : Program) (w : World) (d : Addr) (o : Obj) (kvs : KVs) : It :=
  ⟨fun i H => H d = some (.frz o (DN P w d kvs)) ∧ i < kvs.length, fun i H x H' => H' = H ∧ ∃ p, kvs[i]? = some p ∧ x = p.2.2, fun i H => H d = some (.frz o (DN P w d kvs)) ∧ kvs.length ≤ i⟩
theorem turnVn {P : Program} {w : World} {K : PySem.W.Frag} {tg : Expr} {d : Addr} {o : Obj} {es : Array DictEntry} {ep : Nat} {kvs : KVs} (it : Addr) (hod : o.data = .dict es ep) : Turn P w K tg (Itvn P w d o kvs) [it] it (fun i h => h.IsValIter it d i es.size ep) where
  mem := by simp
  obj := fun i h st b hb => by
    obtain rfl : b = it := List.mem_singleton.mp hb
    obtain ⟨oi, e, _, dd⟩ := st
    exact ⟨oi, e, fun v z => by rw [dd] at z; cases z⟩
  keep := fun i h h' st k => st.at fun oi e => k it (.head _) oi e
  item := by
    intro X hP hw hK hc i pins s σ H E I hf st hg
    subst hP hw hK
    obtain ⟨f0, f1, f2, f3, f4, f5⟩ := hf it (.head _)
    obtain ⟨hs, hgd, hx, es', ep', hdt, hsz, ent⟩ := frzN I hg.1
    obtain ⟨rfl, rfl⟩ := dict_ep hod hdt
    have hi : i < es'.size := by rw [hsz]; exact hg.2
    obtain ⟨p, hp, _, rv⟩ := ent i hi
    refine PySem.wpAny_pyNext_values_item_raw st ⟨o, hgd, hx, hdt⟩ hi fun h' st' sb => ?_
    have I1 : Inv X pins σ H { s with heap := h' } := I.turned (t' := s.toks) (fun b ob hb e => (sb.2 b hb).trans e) f0 f1 f3 f4 f5
    obtain ⟨oi, e, c, dd⟩ := id st'
    exact ⟨_, rfl, go_of (s := { s with heap := h' }) e c dd (by decide) ⟨p.2.2, H, I1, rv, ⟨rfl, p, hp, rfl⟩, st', fun b hb => (hf b hb).1⟩⟩
  done := by
    intro X hP hw hK hc i pins s σ H E I hf st hg
    subst hP hw hK
    obtain ⟨f0, f1, f2, f3, f4, f5⟩ := hf it (.head _)
    obtain ⟨hs, hgd, hx, es', ep', hdt, hsz, _⟩ := frzN I hg.1
    obtain ⟨rfl, rfl⟩ := dict_ep hod hdt
    exact PySem.wpAny_pyNext_values_end_raw (I.ok.hd hc) st ⟨o, hgd, hx, hdt⟩ (by rw [hsz]; exact hg.2) fun h' eb => ⟨rfl, I.turned (t' := s.toks) (fun b ob hb e => eb b ob hb e) f0 f1 f3 f4 f5⟩
  self := fun A i s Q E st h => wpAny_pyIter_valiter st h
/-- for v in e.values(), the dict locked -/
def iValsN (P : Program) (w : World) (td : TE) : TI := fun σ H R => td σ H fun x H1 => ∃ d o kvs, x = .ref d ∧ H1 d = some (.frz o (DN P w d kvs)) ∧ R (Itvn P w d o kvs) H1
section
variable {X : Cx} {tg e : Expr} {td : TE} {apos cpos : Pos}
theorem pi_valuesN (he : PE X e td) (hbase : attributeBase e "values" X.env (eval e X.env) = eval e X.env := by rfl) (hline : (apos.endLine == cpos.line) = true := by rfl) : PI X tg (.Call (.Attribute e "values" apos) [] [] cpos) (iValsN X.prog X.w td) := by
  refine ⟨fun pins s σ H R I h => ?_⟩
  refine wpAny_Call_method (T := "dict") (id := "dict.values") hbase rfl hline F.plainAttrs_dict F.slot_dict_values F.type_dict_values (thn (he.run pins s σ H _ I h) fun u s1 ⟨x, H1, I1, rx, d, o, kvs, ex, hd, q⟩ => ?_)
  subst ex
  obtain rfl : u = Value.ref d := rx
  obtain ⟨hs, hgd, hx, es, ep, hdt, _, _⟩ := frzN I1 hd
  have raw : s1.heap.DictRaw d es ep := ⟨o, hgd, hx, hdt⟩
  have ty : s1.TypeIs (.ref d) "dict" := ⟨o, hgd, hx.1⟩
  refine ⟨ty, (fun a ea => by cases ea; exact ⟨o, hgd, hx.2.1⟩), ?_⟩
  have I2 : Inv X pins σ H1 { s1 with heap := s1.heap.push { cls := .type "dict_values", data := .fields #[.ref d] } } := I1.kept (t' := s1.toks) fun b ob q => Heap.get?_push_of_some _ q
  have fin : wpAny (model X.prog X.w) X.A (pyIter (.ref s1.heap.objs.size)) (PIE X pins σ tg R) X.xe { s1 with heap := s1.heap.push { cls := .type "dict_values", data := .fields #[.ref d] } } :=
    PySem.wpAny_pyIter_values_raw (d := d) ⟨_, Heap.get?_push_size _ rfl, rfl, rfl⟩ (raw.at fun o e => Heap.get?_push_of_some _ e) (pi_one (tk := s1.toks) I2 _ (turnVn _ hdt) ⟨_, Heap.get?_push_size _ rfl, rfl, rfl⟩ q)
  show wpAny _ _ (callWith cpos (.builtin "dict.values") [.ref d] [] []) _ X.xe s1
  exact method_meetsIn F.slot_dict_values F.entry_dict_values rfl (PySem.evalArgs_none ⟨rfl, ty, F.args_dict_values_1 _, _, PySem.meets_dict_values_raw d hs, ⟨⟨_, _, raw⟩, fin⟩⟩)
end
open LamX
/-! ### what such a dict is not -/
theorem dn_code {P : Program} {w : World} {D : Addr} {kvs : KVs} {q : Str} : DN P w D kvs ≠ CodeO D q := by
  intro e
  have e : (fun h : Heap => kvs.length ≤ sizeLine ∧ (D == sysModules) = false ∧ ∃ xs : List (NestedKey × Addr × Value), Paired RelN kvs xs ∧
    ∃ o es ep, h.get? D = some o ∧ o.ExactDict ∧ o.data = .dict es ep ∧ es.toList = xs.map (entryOfKey (nestedKind P w)) ∧ (xs.map (·.1)).Nodup) = (fun h => ∃ (oc : Obj) (vs : Array Value) (t : Tok), h.get? D = some oc ∧ oc.data = .fields vs ∧ vs[1]? = some (.str q t)) := HO.ext.inj e
  have g : ({ objs := Array.replicate (D + 1) { cls := .none, data := .fields #[.none, .str q 0] } } : Heap).get? D = some { cls := .none, data := .fields #[.none, .str q 0] } := by
    unfold Heap.get?
    simp
  have z := (congrFun e { objs := Array.replicate (D + 1) { cls := .none, data := .fields #[.none, .str q 0] } }).mpr ⟨_, _, 0, g, rfl, rfl⟩
  obtain ⟨_, _, xs, _, o, es, ep, h1, _, h3, _⟩ := z
  rw [g] at h1
  cases h1
  cases h3
/-- all but what is at D stays -/
theorem keepN_T {P : Program} {w : World} {K : PySem.W.Frag} {H H' : Hp} {D a : Addr} {kvs : KVs} {xs : List V} (hd : H D = some (DN P w D kvs)) (k : Keep D H H') (h : SqT K H a xs) : SqT K H' a xs := by
  rcases h with (h | ⟨o, h⟩) | h
  · exact .inl (.inl (k _ _ (ne_of h hd (fun z => nomatch z)) h))
  · exact .inl (.inr ⟨o, k _ _ (ne_of h hd (fun z => nomatch z)) h⟩)
  · exact .inr h
theorem keepF_T {K : PySem.W.Frag} {H H' : Hp} {D a : Addr} {o : Obj} {P : Program} {w : World} {kvs : KVs} {xs : List V} (hd : H D = some (.frz o (DN P w D kvs))) (k : Keep D H H') (h : SqT K H a xs) : SqT K H' a xs := by
  rcases h with (h | ⟨o, h⟩) | h
  · exact .inl (.inl (k _ _ (ne_of h hd (fun z => nomatch z)) h))
  · exact .inl (.inr ⟨o, k _ _ (ne_of h hd (fun z => by injection z with _ z; exact nomatch z)) h⟩)
  · exact .inr h
theorem TabS.keepN {P : Program} {w : World} {H H' : Hp} {D p : Addr} {q : Str} {kvs : KVs} (t : TabS H p q) (hd : H D = some (DN P w D kvs)) (k : Keep D H H') : TabS H' p q := by
  obtain ⟨ps, h1, h2, h3⟩ := t
  refine ⟨ps, k _ _ (ne_of h1 hd (by intro z; exact nomatch z)) h1, h2, fun pos cv hc => ?_⟩
  obtain ⟨c, e1, e2⟩ := h3 pos cv hc
  refine ⟨c, e1, k _ _ (fun z => ?_) e2⟩
  subst z
  rw [hd] at e2
  exact dn_code (Option.some.inj e2)
theorem lc2_valsN {P0 : Program} {w0 : World} {d : Addr} {o : Obj} {kvs : KVs} {σ : L2.St} {g g1 : TG} {tt tt1 : TT} {wi1 : TI} {te : TE} {vs vs1 : List Nat} {D : Addr} {H0 : Hp} {Qd : Hp → Prop} (P : Nat → Hp → Prop) (h0 : P 0 H0) (hT : ∀ i H, i ≤ kvs.length → P i H → H d = some (.frz o (DN P0 w0 d kvs)))
    (hs : ∀ i p H, kvs[i]? = some p → P i H → g p.2.2 (wipe σ vs) H fun σ2 H2 => wipe σ2 vs = wipe σ vs ∧ tt σ2 H2 fun b H3 => if b = true then wi1 σ2 H3 fun J1 H4 => LcIn J1 g1 tt1 te vs1 D σ2 (P (i + 1)) H4 else P (i + 1) H3)
    (hd : ∀ H, P kvs.length H → Qd H) :
    ∃ W : Nat → Nat → Hp → Prop, (∃ m, W 0 m H0) ∧ ∀ i m H, W i m H → ((Itvn P0 w0 d o kvs).stop i H ∧ Qd H) ∨ ((Itvn P0 w0 d o kvs).go i H ∧ ∃ Nx : Hp → Prop, (∀ H', Nx H' → ∃ m', m' < m ∧ W (i + 1) m' H') ∧ ∀ x H', (Itvn P0 w0 d o kvs).yld i H x H' → g x (wipe σ vs) H' fun σ2 H2 => wipe σ2 vs = wipe σ vs ∧ tt σ2 H2 fun b H3 =>
      if b = true then wi1 σ2 H3 fun J1 H4 => LcIn J1 g1 tt1 te vs1 D σ2 Nx H4 else Nx H3) := by
  refine ⟨fun i m H => m = kvs.length - i ∧ i ≤ kvs.length ∧ P i H, ⟨_, rfl, Nat.zero_le _, h0⟩, ?_⟩
  rintro i m H ⟨rfl, hi, p⟩
  have t := hT i H hi p
  by_cases lt : i < kvs.length
  · refine .inr ⟨⟨t, lt⟩, P (i + 1), fun H' p' => ⟨_, by omega, rfl, lt, p'⟩, ?_⟩
    rintro v H' ⟨rfl, q, hq, rfl⟩
    exact hs i q _ hq p
  · obtain rfl : i = kvs.length := by omega
    exact .inl ⟨⟨t, Nat.le_refl _⟩, hd H p⟩
/-! ### keys that are three ints -/
def nk3 (a b c : Int) : NestedKey := .tup [.num a, .num b, .num c]
theorem nk3_inj {a b c x y z : Int} (e : nk3 a b c = nk3 x y z) : a = x ∧ b = y ∧ c = z := by
  unfold nk3 at e
  injection e with e
  simp only [List.cons.injEq, NestedKey.num.injEq, and_true] at e
  exact e
theorem keyAt3 {K : PySem.W.Frag} {H : Hp} {b : Addr} {x y z : Int} (h : SqT K H b [.int x, .int y, .int z]) : KeyAt K H b (nk3 x y z) :=
  ⟨[.int x, .int y, .int z], .tup h (.cons (.int _) (.cons (.int _) (.cons (.int _) .nil))), rfl, rfl, by simp [nk3, NestedKey.depth, NestedKey.depthAll]⟩
/-! ### {k: v for x in l if ..} over a list -/
theorem dcN_list {P : Program} {w : World} {K : PySem.W.Frag} {a : Addr} {xs : List V} {g : TG} {tt : TT} {tk tv : TE} {vs : List Nat} {σ : L2.St} {H1 : Hp} {D : Addr} {Qd : Hp → Prop} (Pv : Nat → Hp → Prop) (h0 : Pv 0 (upd H1 D (DN P w D []))) (hl : ∀ i H, i ≤ xs.length → Pv i H → SqL K H a xs)
    (hs : ∀ i x H, xs[i]? = some x → Pv i H → g x (wipe σ vs) H fun σ2 H2 => wipe σ2 vs = wipe σ vs ∧ tt σ2 H2 fun b H3 =>
      if b = true then tk σ2 H3 fun y H4 => tv σ2 H4 fun z H5 => ∃ H6, putD P w K D y z H5 H6 ∧ Pv (i + 1) H6 else Pv (i + 1) H3) (hd : ∀ H, Pv xs.length H → Qd H) :
    ∃ W : Nat → Nat → Hp → Prop, (∃ m, W 0 m (upd H1 D (DN P w D []))) ∧ ∀ i m H, W i m H →
      ((Itl K a).stop i H ∧ Qd H) ∨ ((Itl K a).go i H ∧ ∃ Nx : Hp → Prop, (∀ H', Nx H' → ∃ m', m' < m ∧ W (i + 1) m' H') ∧ ∀ x H', (Itl K a).yld i H x H' → g x (wipe σ vs) H' fun σ2 H2 => wipe σ2 vs = wipe σ vs ∧ tt σ2 H2 fun b H3 =>
        if b = true then tk σ2 H3 fun y H4 => tv σ2 H4 fun z H5 => ∃ H6, putD P w K D y z H5 H6 ∧ Nx H6 else Nx H3) := by
  refine ⟨fun i m H => m = xs.length - i ∧ i ≤ xs.length ∧ Pv i H, ⟨_, rfl, Nat.zero_le _, h0⟩, ?_⟩
  rintro i m H ⟨rfl, hi, p⟩
  have t := hl i H hi p
  by_cases lt : i < xs.length
  · refine .inr ⟨⟨xs, xs[i], t, List.getElem?_eq_getElem lt⟩, Pv (i + 1), fun H' p' => ⟨_, by omega, rfl, lt, p'⟩, ?_⟩
    rintro v H' ⟨rfl, hx⟩
    exact hs i v _ (hx xs t) p
  · obtain rfl : i = xs.length := by omega
    exact .inl ⟨⟨xs, t, Nat.le_refl _⟩, hd H p⟩
def rListN (P : Program) (w : World) : List V → Hp → VK → Prop := fun xs H Q => ∃ D kvs, xs = [V.ref D] ∧ Rd H D (DN P w D kvs) ∧ ∀ p, H p = none → Q (.ref p) (upd H p (.lst (kvs.map fun p => V.ref p.2.1)))
section
variable {X : Cx}
/-- name = {..} on one line, the name a local -/
theorem ps_setDcG {o0 : Addr → HO} {put : Addr → V → V → Hp → Hp → Prop} {n : Nat} (po : PutOk X.prog X.w X.K n put) (hu : X.A.units + n < cLine) (o0n : ∀ {H : Hp} (h : Heap), sysModules < h.objs.size → ObjOk X.prog X.w H (h.push { cls := .type "dict", data := .dict #[] }) h.objs.size (o0 h.objs.size))
    {i : Nat} {y : Str} {py : Pos} {kx vx tg iter : Expr} {ifs : List Expr} {scope : Scope} {own : List (Str × Nat)} {pos spos : Pos} {wi : TI} {g : TG} {tt : TT} {tk tv : TE} (hc : X.calm = true) (hN : X.N.Nodup) (hy : X.N[i]? = some y) (hyl : X.env.scope.names.lookup y = some .local)
    (hsw : swapsWith (.DictComp kx vx [⟨tg, iter, ifs, 0⟩] scope pos) (some (.Name y py)) spos.line X.env = pure true) (hi : PI X tg iter wi) (ok : BlkOk X.N X.env.scope scope own)
    (hg : ∀ (s : Shared) (H : Hp) (C : Addr) (cl : List (Str × Addr)) (fp : List Addr), PG (X.blk s H scope (compEnvC scope cl C X.env) fp) tg g) (ht : ∀ (s : Shared) (H : Hp) (C : Addr) (cl : List (Str × Addr)) (fp : List Addr), PTs (X.blk s H scope (compEnvC scope cl C X.env) fp) ifs tt)
    (hk : ∀ (s : Shared) (H : Hp) (C : Addr) (cl : List (Str × Addr)) (fp : List Addr), PE (X.blk s H scope (compEnvC scope cl C X.env) fp) kx tk)
    (he : ∀ (s : Shared) (H : Hp) (C : Addr) (cl : List (Str × Addr)) (fp : List Addr), PE (X.blk s H scope (compEnvC scope cl C X.env) fp) vx tv) (hs : ∀ x, foldedSetIterable iter X.env x = pure x := by intro _; rfl) :
    PS X (.Assign [.Name y py] (.DictComp kx vx [⟨tg, iter, ifs, 0⟩] scope pos) spos) (tAsg (tDcG o0 put wi g tt tk tv (own.map (·.2))) (gName i)) := by
  refine ⟨fun pins s σ H D I h => ?_⟩
  rw [exec_Assign_Name_used _ _ _ _ hsw]
  refine wpAny_bind (wpAny_standAt (wpAny_bind ?_))
  show wpAny _ X.A (do let _ ← comprehension (.DictComp kx vx [⟨tg, iter, ifs, 0⟩] scope pos) scope X.env (firstIterPos [⟨tg, iter, ifs, 0⟩] pos) newDict false (eval iter X.env) (some (assign (.Name y py) X.env))) _ _ s
  have h : tDcG o0 put wi g tt tk tv (own.map (·.2)) σ H (fun x H1 => gName i x σ H1 D.nx) := h
  refine wpAny_bind (thn (dcG_core (Qf := fun _ s' => SP X pins D .next s') po hu o0n hc hN I hi ok hg ht hk he hs h fun L C s' m H' I' q hn f => ?_) fun _ s' hq => wpAny_pure (wpAny_pure hq))
  show wpAny _ _ (assign (.Name y py) X.env (.ref L)) _ _ _
  refine wpAny_assign_Name (store_ok2 (v := V.ref L) I' hN hy (.inl hyl) rfl (fun s2 I2 ⟨a, sb, ha⟩ => ?_) (.inr hyl))
  obtain ⟨f0, f1, f2, f3, f4, f5⟩ := f
  have haC : C ≠ a := ha.elim (fun z => by rw [z]; exact f1) (fun z e => f4 y a z e.symm)
  refine ⟨m, hn.sameBut sb haC, fun h3 sb3 => ?_⟩
  exact ⟨_, H', I2.turned (t' := s2.toks) (fun b o hb e => (sb3.2 b hb).trans e) f0 f1 f3 f4 f5, q⟩
theorem sw_trueD {kx vx : Expr} {gs : List Comprehension} {scope : Scope} {pos py : Pos} {y : Str} {l : Nat} {env : Env} (hk : env.scope.kind = .function) (hy : env.scope.names.lookup y = some .local) (hl : (py.line == pos.line) = true)
    (ha : (scope.names.any fun (n, k) => n == y && (k == .local || k == .cell)) = false) : swapsWith (.DictComp kx vx gs scope pos) (some (.Name y py)) l env = pure true := by
  have ky : env.kindOf y = some .local := hy
  have hb : env.blockKind = .function := by unfold Env.blockKind; rw [hk]; rfl
  unfold swapsWith
  simp only [hb, ky, ha, Expr.pos, hl]
  rfl
end
end My
/-! a text times a number -/
namespace My
open PySem L2
section
variable {X : Cx}
def rMulS : R2 := fun x y H Q => ∃ (z : Str) (n : Int), x = .str z ∧ y = .int n ∧ 2 ≤ n ∧ n ≤ 1000 ∧ 0 < z.length ∧ z.length ≤ 1000 ∧ Q (.str ⟨(List.replicate n.toNat z.cps).foldl (· ++ ·) #[]⟩) H
theorem rep_size (a : Array Nat) : ∀ (m : Nat) (acc : Array Nat), ((List.replicate m a).foldl (· ++ ·) acc).size = acc.size + m * a.size
  | 0, acc => by simp
  | m + 1, acc => by
    rw [List.replicate_succ, List.foldl_cons, rep_size a m, Array.size_append, Nat.succ_mul]
    omega
theorem op_mulS : OpR X (binaryOp .Mult) rMulS := by
  intro pins s σ H x y v u Q I rx ry h
  obtain ⟨z, n, rfl, rfl, n2, n3, z0, z1, q⟩ := h
  obtain ⟨t, rfl⟩ := rx
  obtain ⟨t', rfl⟩ := ry
  have hn : ¬ n < 1 := by omega
  have hz : (n == 1 || z.length == 0) = false := by
    rw [Bool.or_eq_false_iff]
    exact ⟨by simp; omega, by simp; omega⟩
  refine PySem.P.mul_str (by simp; omega) (fun _ _ => ?_) (fun _ _ => ?_) ?_
  · have := Int.le_ediv_of_mul_le (show 0 < n by omega) (show 1000 * n ≤ 2 ^ 63 - 1 by omega)
    omega
  · have h := Nat.mul_le_mul z1 (show n.toNat ≤ 1000 by omega)
    have k : 1000 * 1000 ≤ sizeLine := by decide
    exact decide_eq_false (by omega)
  · rw [if_neg hn, if_neg (by rw [hz]; decide)]
    refine ⟨?_, ⟨.str _, H, I.tok _, ⟨_, rfl⟩, q⟩⟩
    show ((List.replicate n.toNat z.cps).foldl (· ++ ·) #[]).size ≤ sizeLine
    rw [rep_size]
    have h := Nat.mul_le_mul (show n.toNat ≤ 1000 by omega) z1
    have h : n.toNat * z.cps.size ≤ 1000 * 1000 := h
    have k : 1000 * 1000 ≤ sizeLine := by decide
    have e : (#[] : Array Nat).size = 0 := rfl
    omega
end
end My
/-! list.count of nested data -/
namespace My
open PySem PySem.W PySem.Spec L2 PyProof.Rows
section
variable {X : Cx}
def rCountD (K : PySem.W.Frag) : V → List V → Hp → VK → Prop := fun x xs H Q => ∃ (a : Addr) (y : V) (d : PyData) (ds : List PyData), x = V.ref a ∧ xs = [y] ∧ Dp K H (V.ref a) (.list ds) ∧ Dp K H y d ∧
  SeqAt.shaped (.list ds) = true ∧ SeqAt.shaped d = true ∧ Q (.int ((ds.countP fun z => PyData.eqv z d) : Nat)) H
theorem mt_countD (hu : X.A.units + 65 < cLine) : MtR X "list.count" (rCountD X.K) := by
  intro pins s σ H x xs v us Q I rx rxs h
  obtain ⟨a, y, d, ds, rfl, rfl, hl, hy, sl, sd, q⟩ := h
  cases rx
  cases rxs with
  | cons ry rt =>
    rename_i uy ut
    cases rt
    obtain ⟨bs, r1⟩ := Dp.reads I d y uy hy ry
    have hxs : PyData.canLayAll0 ds = true := SeqAt.canLay_of_shaped sl
    have hroom : X.A.units + 1 + min (PyData.depthAll ds) d.depth < cLine := room_in_shaped sd hu
    cases hl with
    | lst hs ha =>
      obtain ⟨its, rv, ⟨⟨cls, dd, data, sls⟩, n, ho, hc, hdn, hdt⟩, hlen⟩ := I.list hs
      simp only at hc hdt
      subst hc hdt
      obtain ⟨as, h4⟩ := Dp.readsAll I ds _ its ha rv
      have hmap : its.map (SeqAt.readOf s.heap) = ds := SeqAt.readsAll_map ds its as hxs h4
      refine call_meets PySem.F.slot_list_count ⟨_, ho, rfl⟩ PySem.F.entry_list_count (PySem.F.args_list_count_2 _ _)
        (SeqAt.list_countAt a its.toArray n dd sls uy (fun u => PyData.eqv (SeqAt.readOf s.heap u) d)) ⟨ho, SeqAt.items_eqAt (vs := its.toArray) (show ReadsAll s.heap its.toArray.toList ds as from h4) r1 hxs (SeqAt.canLay_of_shaped sd) hroom, ?_⟩
      refine ⟨.int ((ds.countP fun z => PyData.eqv z d) : Nat), H, I.tok _, ⟨s.toks, ?_⟩, q⟩
      have e : its.toArray.toList.countP (fun u => PyData.eqv (SeqAt.readOf s.heap u) d) = ds.countP fun z => PyData.eqv z d := by
        rw [← hmap, List.countP_map]
        rfl
      show Value.int ((its.toArray.toList.countP _ : Nat) : Int) s.toks = _
      rw [e]
end
end My
/-! set(xs) of a list of ints -/
namespace My
open PySem PySem.W PySem.Spec L2 PyProof.Rows
section
variable {P : Program} {w : World} {A : Around} {E : Value → Shared → Prop} {s : Shared}
/-- a set that has just been made -/
abbrev nwSet (w : World) : Obj := { cls := .type "set", dict := none, data := .set #[] 0 (.fresh 0 0 (!w.params.followText "set-order")) }
abbrev nwIter (l : Addr) : Obj := { cls := .type "list_iterator", data := .fields #[.ref l, .int 0 0] }
/-- what filling it comes to -/
def Filled (w : World) (s : Shared) (ns : List Int) (r : Value) (s2 : Shared) : Prop :=
  r = .none ∧ ∃ (g : Heap) (tk c : Nat), s2 = { s with heap := g, toks := tk } ∧ SetR w g s.heap.objs.size (fun j => decide (j ∈ ns)) c ∧ c ≤ ns.length ∧ ∀ b o, s.heap.get? b = some o → g.get? b = some o
theorem set_of_list {l : Addr} {its : Array Value} (ns : List Int) {Qf : Value → Shared → Prop} (h0 : A.handled = none) (hL : s.heap.IsList l its) (hI : IntsAre its.toList ns) (hB : ns.length + 1 < scanBound)
    (fin : ∀ (g : Heap) (tk c : Nat), SetR w g s.heap.objs.size (fun j => decide (j ∈ ns)) c → c ≤ ns.length → (∀ b o, s.heap.get? b = some o → g.get? b = some o) → Qf (.ref s.heap.objs.size) { s with heap := g, toks := tk }) :
    wpAny (model P w) A (call (.type "set") [.ref l]) Qf E s := by
  have size : its.size = ns.length := (Array.length_toList (xs := its)).symm.trans hI.length
  obtain ⟨c, tl, mro⟩ := F.called_set.mro
  have m1 := F.called_set.made
  have m2 := F.called_set.sub
  have m3 := F.called_set.notType
  have m4 := F.called_set.canCreate
  have m5 := F.typeCall_set_1 (.ref l)
  have a0 : (s.heap.push (nwSet w)).get? s.heap.objs.size = some (nwSet w) := Heap.get?_push_size _ rfl
  refine wpAny_call (codeAny_of_tree (show wpAny _ _ (callAny (.type "set") _) _ _ _ from wpAny_pure ⟨Code.quiet_builtin _ (by decide +kernel), codeAny_builtin F.entry_type_call ?_⟩))
  rw [Around.under_plain (weight_type_call_type "set" [.ref l] []) rfl]
  repeat (any_goals (first | assumption | wp_step))
  refine codeAny_mono (code_set_led1 (.ref l) (E := E) (Q₁ := fun v t => v = .ref s.heap.objs.size ∧ t = { s with heap := s.heap.push (nwSet w) }) ⟨rfl, rfl⟩) fun res t got => ?_
  match res, got with
  | .error e, got => exact got
  | .ok .next, got => exact got.elim
  | .ok .brk, got => exact got.elim
  | .ok .cont, got => exact got.elim
  | .ok (.ret v), got =>
    obtain ⟨rfl, rfl⟩ := got
    have isS : Shared.TypeIs { s with heap := s.heap.push (nwSet w) } (.ref s.heap.objs.size) "set" := ⟨_, a0, rfl⟩
    have m6 := F.called_set.init.lookup
    have m7 := F.called_set.init.bind (.ref s.heap.objs.size)
    repeat (any_goals (first | assumption | wp_step))
    refine codeAny_mono (codeAny_call_builtin (R := wants (Filled w s ns) E) F.called_set.init.plain F.entry_set_init (check_set_init_1 isS ?_)) fun res2 t2 got2 => ?_
    · obtain ⟨⟨ocls, odict, odata, oslots⟩, ho, hc, num, hd⟩ := hL
      simp only at hc hd
      subst hc hd
      have hl' : (s.heap.push (nwSet w)).get? l = some ⟨.type "list", odict, .seq its num, oslots⟩ := Heap.get?_push_of_some _ ho
      have q1 := F.sub_list_set
      have q2 := F.sub_list_frozenset
      have q3 : (Value.type "list" == Value.type "dict") = false := by decide
      have asL : (s.heap.push (nwSet w)).IsList l its := ⟨_, hl', rfl, num, rfl⟩
      unfold Builtin.«set.__init__» noKeywords Builtin.Frozenset.updateFrom
      generalize hPI : pyIter = PI
      wp_walk
      subst hPI
      refine wpAny_pyIter_list asL (wpAny_bind (wpAny_runValue ?_))
      have below : l < s.heap.objs.size := Heap.lt_size ho
      have grown : (s.heap.push (nwSet w)).objs.size = s.heap.objs.size + 1 := Heap.size_push ..
      have l_it : l ≠ (s.heap.push (nwSet w)).objs.size := grown ▸ Nat.ne_of_lt (Nat.lt_succ_of_lt below)
      have own : s.heap.objs.size ∉ [(s.heap.push (nwSet w)).objs.size, l] := fun hm => by
        rw [grown] at hm
        rcases List.mem_cons.mp hm with e | hm
        · exact absurd e (Nat.ne_of_lt (Nat.lt_succ_self _))
        · exact absurd (List.mem_singleton.mp hm) (Nat.ne_of_gt below)
      have each : ∀ (i : Nat) (v : Value), its[i]? = some v → ∃ k tk, ns[i]? = some k ∧ v = .int k tk := fun i v hv => by
        have bd : i < ns.length := size ▸ (Array.getElem?_eq_some_iff.mp hv).1
        obtain ⟨tk, e⟩ := IntsAre.int_at hI i v (Array.getElem?_toList.trans hv)
        exact ⟨ns[i], tk, List.getElem?_eq_getElem bd, by simpa [List.getD_eq_getElem?_getD, List.getElem?_eq_getElem bd] using e⟩
      have still : (s.heap.push (nwSet w) |>.push (nwIter l)).get? s.heap.objs.size = some (nwSet w) := Heap.get?_push_of_some _ a0
      refine set_update_ints (Walks.list (show A.in1.in1.in1.handled = none by simp [h0]) _ l l_it its).toS s.heap.objs.size own ns size hB each (its.size - 0) 0 _ (Nat.sub_zero _) (Nat.zero_le _) ⟨⟨_, Heap.get?_push_size _ rfl, rfl, rfl⟩, asL.push _⟩ ⟨0, Nat.le_refl 0, setR_new_at still⟩ ?_
      rintro ⟨g, gs, dr, tk, os⟩ c2 mv le R
      have e1 : gs = s.gens := mv.gens
      have e2 : dr = s.drawn := mv.drawn
      have e3 : os = s.os := mv.os
      subst e1 e2 e3
      refine wpAny_pure (wpAny_pure ⟨rfl, g, tk, c2, rfl, R, size ▸ le, fun b o e => ?_⟩)
      have b0 : b < s.heap.objs.size := Heap.lt_size e
      refine mv.heap b o (fun hm => ?_) (Heap.get?_push_of_some _ (Heap.get?_push_of_some _ e))
      rcases List.mem_cons.mp hm with h | hm
      · exact absurd h (Nat.ne_of_lt b0)
      · have hb : b = s.heap.objs.size + 1 := (List.mem_singleton.mp hm).trans grown
        exact absurd b0 (hb ▸ Nat.not_lt_of_le (Nat.le_succ _))
    · match res2, got2 with
      | .error e, g => exact g
      | .ok .next, g => exact g.elim
      | .ok .brk, g => exact g.elim
      | .ok .cont, g => exact g.elim
      | .ok (.ret r), g =>
        obtain ⟨rfl, h2, tk, c2, rfl, k1, k2, k3⟩ := g
        repeat (any_goals (first | assumption | wp_step))
        exact fin _ _ _ k1 k2 k3
end
section
variable {X : Cx}
/-- set(xs), xs a list of ints -/
def rSetOfI (K : PySem.W.Frag) (w : World) : List V → Hp → VK → Prop := fun vs H Q => ∃ (l : Addr) (ns : List Int), vs = [V.ref l] ∧ SqL K H l (ns.map V.int) ∧ ns.length ≤ 1000 ∧
  ∀ (a : Addr) (c : Nat), H a = none → c ≤ ns.length → Q (.ref a) (upd H a (SetO w a (fun j => decide (j ∈ ns)) c))
theorem cr_setOfI (hc : X.calm = true) : CallR X (.type "set") (rSetOfI X.K X.w) := by
  intro pins s σ H xs us Q I r h
  obtain ⟨l, ns, rfl, hl, few, q⟩ := h
  rw [Vals.ref1 r]
  obtain ⟨its, rv, pl, _⟩ := I.list hl
  refine set_of_list ns (I.ok.hd hc) pl.isList (by simpa using rv.ints) (by unfold scanBound; omega) fun g tk c R le k => ?_
  exact ⟨.ref s.heap.objs.size, _, I.laid (t' := tk) k (Nat.le_refl _) (setO_new R), rfl, q _ c (I.hok.fresh (Nat.le_refl _)) le⟩
end
end My
namespace My
open PySem L2 Mth
def topS (i : Nat) : Stmt := PySem.Challenge.pw_copyarms_k26_pieces_that_hang_together.main.body.getD i (.Pass ⟨0, 0, 0, 0⟩)
end My
namespace My
open PySem L2 Mth
abbrev s_common_divisor : Stmt := topS 8
theorem sc_common_divisor : FnScope ["one", "other"] ["one", "other"] (defScope s_common_divisor) := ⟨rfl, rfl, rfl, by decide +kernel, rfl, by decide +kernel, by decide +kernel⟩
abbrev s_spot_at : Stmt := topS 11
theorem sc_spot_at : FnScope ["x", "y", "d", "divisor"] ["x", "y", "d"] (defScope s_spot_at) := ⟨rfl, rfl, rfl, by decide +kernel, rfl, by decide +kernel, by decide +kernel⟩
section
variable {P : Program} {w : World} {K : PySem.W.Frag} {mg : Str → Option Value} {base : Heap}
/-- a def with keyword-only parameters, out of which nothing is raised -/
theorem ok0 {x qual : Str} {params : Arguments} {body : List Stmt} {scope : Scope} {dvs : List V} {kws : List (Str × V)} {f : Addr} {fd : FuncData} {N ps : List Str} {k : Nat} {sp : Sp} (F : FunD K x qual params body scope dvs kws f fd) (S : FnScope N ps scope) (len : ∀ vs H Q E, sp vs H Q E → vs.length = ps.length)
    (hbody : ∀ (cdv : Value) (A : Around) (outer : List Env) (s : Shared) (H : Hp) (vs : List V) (Q : VK) (E : XK), Room k (A.deeper (PyProof.Rows.envOfC qual scope s.heap.objs.size f cdv)) → sp vs H Q E →
      ∃ t, PSs (cxOf CX0 P w K mg base N qual scope f cdv A outer s H E).nox body t ∧ t { nx := fun _ H' => Q .non H', rt := Q } (start N vs) H) : FnOk P w K mg base CX0 (k + 1) f fd ps sp :=
  F.ok S len fun cdv A outer s H vs Q E hr hsp => by
    obtain ⟨t, h, q⟩ := hbody cdv A outer s H vs Q E hr hsp
    exact ⟨t, h.nox, q⟩
/-- the greatest common divisor -/
def sp_gcd : Sp := fun vs H Q _ => ∃ a b : Int, vs = [.int a, .int b] ∧ Q (.int ((Int.gcd a b : Nat) : Int)) H
theorem ok_common_divisor {f : Addr} {fd : FuncData} (b_abs : mg "abs" = none) (F : Fun K "common_divisor" "common_divisor" s_common_divisor f fd) : FnOk P w K mg base CX0 1 f fd ["one", "other"] sp_gcd := by
  refine F.ok sc_common_divisor (fun vs H Q E h => ?_) (fun cdv A outer s H vs Q E hr h => ?_)
  · obtain ⟨a, b, rfl, _⟩ := h
    rfl
  obtain ⟨a, b, rfl, q⟩ := h
  refine ⟨_, (pss_cons (ps_while PassesOwn.never (pt_cmpR (op_ne) (pv 1) pe_int (nomark _)) (pss_one (ps_par (i := 0) (j := 1) (by rfl) sc_common_divisor.nd rfl rfl (by decide) rfl rfl (pa_cons (pv 1) (pa_cons (pe_op op_modN (pv 0) (pv 1)) pa_nil)) (by rfl))))
    (pss_one (ps_ret (pe_callB call_abs (by rfl) b_abs (by decide +kernel) (pa_cons (pv 0) pa_nil))))), ?_⟩
  refine while_by (fun σ H' => H' = H ∧ ∃ x y : Int, σ = [some (.int x), some (.int y)] ∧ Int.gcd x y = Int.gcd a b) (fun σ _ => match σ with | [_, some (.int y)] => y.natAbs | _ => 0) ⟨rfl, a, b, rfl, rfl⟩ ?_ ?_
  · rintro σ H' ⟨rfl, x, y, rfl, e⟩
    refine ⟨_, rfl, rfl, _, rfl, ?_⟩
    by_cases c : y = 0
    · subst c
      refine if_neg (by decide) |>.mpr ?_
      refine ⟨_, rfl, _, rfl, ?_⟩
      rw [← e, gcd_0] at q
      exact q
    · refine (if_pos (show (!decide (V.int y = V.int 0)) = true by rw [decide_eq_false (fun z => c (V.int.inj z))]; rfl)).mpr ?_
      refine ⟨_, rfl, _, rfl, _, rfl, _, _, rfl, rfl, c, _, _, rfl, ⟨rfl, _, _, rfl, ?_⟩, ?_⟩
      · rw [gcd_fmod]; exact e
      · exact fmod_small c
  · rintro σ H' Q1 Q2 hq ⟨v, h1, h2, k, h3, h4⟩
    exact ⟨v, h1, h2, k, h3, hq _ _ h4⟩
/-- (x, y, d) in lowest terms -/
def sp_low (K : PySem.W.Frag) : Sp := fun vs H Q _ => ∃ x y d : Int, vs = [.int x, .int y, .int d] ∧ d ≠ 0 ∧ d.natAbs < 2 ^ 8500 ∧ ∀ H' r, Same H H' → IsT K H' r (low x y d) → Q r H'
theorem g3_lt {x y d : Int} (hd : d ≠ 0) {n : Nat} (h : d.natAbs < 2 ^ n) : (sg x y d).natAbs < 2 ^ n := by
  obtain ⟨u, hu⟩ := @sg_dd x y d
  have hu0 : u ≠ 0 := fun z => by rw [z, Int.mul_zero] at hu; exact hd hu
  have e : (sg x y d).natAbs * u.natAbs = d.natAbs := by rw [← Int.natAbs_mul, ← hu]
  have : 1 ≤ u.natAbs := by omega
  have : (sg x y d).natAbs * 1 ≤ (sg x y d).natAbs * u.natAbs := Nat.mul_le_mul_left _ this
  omega
theorem ok_spot_at {f : Addr} {fd : FuncData} (d_common_divisor : D P w K mg base "common_divisor" 1 sp_gcd) (F : Fun K "spot_at" "spot_at" s_spot_at f fd) : FnOk P w K mg base CX0 2 f fd ["x", "y", "d"] (sp_low K) := by
  refine F.ok sc_spot_at (fun vs H Q E h => ?_) (fun cdv A outer s H vs Q E hr h => ?_)
  · obtain ⟨x, y, d, rfl, _⟩ := h
    rfl
  obtain ⟨x, y, d, rfl, hd, hB, q⟩ := h
  refine ⟨_, (pss_cons (ps_set (i := 3) sc_spot_at.nd rfl (by first | exact Or.inl rfl | exact Or.inr rfl) (pc d_common_divisor (hr.mono (by decide)) (pa_cons (pc d_common_divisor (hr.mono (by decide)) (pa_cons (pv 0) (pa_cons (pv 1) pa_nil))) (pa_cons (pv 2) pa_nil))))
    (pss_cons (ps_if (pt_cmpR (op_lt) (pv 2) pe_int (nomark _)) (pss_one (ps_set (i := 3) sc_spot_at.nd rfl (by first | exact Or.inl rfl | exact Or.inr rfl) (pe_un un_neg (pv 3)))) pss_nil)
    (pss_one (ps_ret (pe_tup (pa_cons (pe_op op_fdivX (pv 0) (pv 3)) (pa_cons (pe_op op_fdivX (pv 1) (pv 3)) (pa_cons (pe_op op_fdivX (pv 2) (pv 3)) pa_nil)))))))), ?_⟩
  refine ⟨_, rfl, _, rfl, _, _, rfl, _, rfl, _, _, rfl, ?_⟩
  refine ⟨_, rfl, _, _, rfl, rfl, _, rfl, ?_⟩
  have hc : CDivX x (sg x y d) ∧ CDivX y (sg x y d) ∧ CDivX d (sg x y d) := ⟨divX (sg_ne hd) (g3_lt hd hB) (by decide) (by decide), divX (sg_ne hd) (g3_lt hd hB) (by decide) (by decide), divX (sg_ne hd) (g3_lt hd hB) (by decide) (by decide)⟩
  refine ite2 (fun c => ?_) (fun c => ?_)
  · have es : sg x y d = -(g3 x y d) := if_pos (of_decide_eq_true c)
    refine ⟨_, rfl, _, rfl, ?_⟩
    rw [es] at hc
    refine ⟨_, rfl, _, rfl, _, _, rfl, rfl, hc.1, _, rfl, _, rfl, _, _, rfl, rfl, hc.2.1, _, rfl, _, rfl, _, _, rfl, rfl, hc.2.2, (by show 3 ≤ sizeLine; decide), fun p hp => ?_⟩
    refine q _ _ (same_new hp _) ?_
    unfold low
    rw [es]
    exact IsT.new
  · have es : sg x y d = g3 x y d := if_neg (of_decide_eq_false (Bool.eq_false_iff.mpr c))
    rw [es] at hc
    refine ⟨_, rfl, _, rfl, _, _, rfl, rfl, hc.1, _, rfl, _, rfl, _, _, rfl, rfl, hc.2.1, _, rfl, _, rfl, _, _, rfl, rfl, hc.2.2, (by show 3 ≤ sizeLine; decide), fun p hp => ?_⟩
    refine q _ _ (same_new hp _) ?_
    unfold low
    rw [es]
    exact IsT.new
/-- two parts of numbers of bounded size -/
def sp_two (K : PySem.W.Frag) (g : T3 → T3 → T3) : Sp := fun vs H Q _ => ∃ va vb a b, vs = [va, vb] ∧ IsT K H va a ∧ IsT K H vb b ∧ Ok a ∧ Ok b ∧ B 4000 a ∧ B 4000 b ∧ ∀ H' r, Same H H' → IsT K H' r (g a b) → Q r H'
theorem mulW {i j : Int} {a b : Nat} (ha : i.natAbs < 2 ^ (a + 1)) (hb : j.natAbs < 2 ^ (b + 1)) (h : a + b + 2 ≤ 1000000 := by decide) : CMulW i j := wide_mul ha hb (by omega) (by omega) (by omega)
def sp_one (K : PySem.W.Frag) (g : T3 → T3) : Sp := fun vs H Q _ => ∃ va a, vs = [va] ∧ IsT K H va a ∧ ∀ H' r, Same H H' → IsT K H' r (g a) → Q r H'
def sp_inv (K : PySem.W.Frag) : Sp := fun vs H Q _ => ∃ va a, vs = [va] ∧ IsT K H va a ∧ Nz a ∧ B 4000 a ∧ ∀ H' r, Same H H' → IsT K H' r (inv a) → Q r H'
def sp_face (K : PySem.W.Frag) : Sp := fun vs H Q _ => ∃ va a m, vs = [va, .bl m] ∧ IsT K H va a ∧ ∀ H' r, Same H H' → IsT K H' r (face a m) → Q r H'
/-- where a copy carries a spot -/
def sp_car (K : PySem.W.Frag) : Sp := fun vs H Q _ => ∃ vt vs' m vz t s z, vs = [vt, vs', .bl m, vz] ∧ IsT K H vt t ∧ IsT K H vs' s ∧ IsT K H vz z ∧ Ok t ∧ Ok s ∧ Ok z ∧ B 1900 t ∧ B 4000 s ∧ B 1900 z ∧ ∀ H' r, Same H H' → IsT K H' r (car t s m z) → Q r H'
def sp_fr (K : PySem.W.Frag) : Sp := fun vs H Q _ => ∃ p q' : Int, vs = [.int p, .int q'] ∧ q' ≠ 0 ∧ q'.natAbs < 2 ^ 8500 ∧ ∀ H' a, Same H H' → SqT K H' a [.int (fr p q').1, .int (fr p q').2] → Q (.ref a) H'
theorem g3_0 (p q : Int) : g3 p 0 q = ((Int.gcd p q : Nat) : Int) := by
  unfold g3
  rw [Int.gcd_zero_right]
  unfold Int.gcd
  rw [Int.natAbs_natCast]
def BC (n : Nat) (c : Cp) : Prop := B n c.t ∧ B n c.s
end
end My

namespace My
open PySem L2 Mth
abbrev s_check_spot : Stmt := topS 10
theorem sc_check_spot : FnScope ["value"] ["value"] (defScope s_check_spot) := ⟨rfl, rfl, rfl, by decide +kernel, rfl, by decide +kernel, by decide +kernel⟩
abbrev s_is_spot : Stmt := topS 9
theorem sc_is_spot : FnScope ["value", "number", "x", "y", "d"] ["value"] (defScope s_is_spot) := ⟨rfl, rfl, rfl, by decide +kernel, rfl, by decide +kernel, by decide +kernel⟩
abbrev s_is_whole : Stmt := topS 7
theorem sc_is_whole : FnScope ["value"] ["value"] (defScope s_is_whole) := ⟨rfl, rfl, rfl, by decide +kernel, rfl, by decide +kernel, by decide +kernel⟩
section
variable {P : Program} {w : World} {K : PySem.W.Frag} {mg : Str → Option Value} {base : Heap}
theorem ty_T {K : PySem.W.Frag} {H : Hp} {a : Addr} {xs : List V} (h : SqT K H a xs) : TyX K H (.ref a) (.type "tuple") := by
  rcases h with (h | ⟨o, h⟩) | ⟨o, its, n, h, c, _⟩
  · exact .base (.tup h)
  · exact .fTuple h
  · exact .kTuple h c
def sp_whole : Sp := fun vs H Q _ => ∃ i : Int, vs = [.int i] ∧ Q (.bl true) H
theorem ok_is_whole {f : Addr} {fd : FuncData} (b_isinstance : mg "isinstance" = none) (b_int : mg "int" = none) (b_bool : mg "bool" = none) (F : Fun K "is_whole" "is_whole" s_is_whole f fd) : FnOk P w K mg base CX0 1 f fd ["value"] sp_whole := by
  refine F.ok sc_is_whole (fun vs H Q E h => ?_) (fun cdv A outer s H vs Q E hr h => ?_)
  · obtain ⟨i, rfl, _⟩ := h
    rfl
  obtain ⟨i, rfl, q⟩ := h
  refine ⟨_, (pss_one (ps_ret (pe_and (pe_callB (r := rIsi K) call_isi (by rfl) b_isinstance (by decide +kernel) (pa_cons (pv 0) (pa_cons (pe_bltn (v := .ty "int") (by rfl) b_int (by decide +kernel) rfl) pa_nil))) (pe_one (pe_not (pe_callB (r := rIsi K) call_isi (by rfl) b_isinstance (by decide +kernel) (pa_cons (pv 0) (pa_cons (pe_bltn (v := .ty "bool") (by rfl) b_bool (by decide +kernel) rfl) pa_nil)))))))), ?_⟩
  refine ⟨_, rfl, _, _, _, _, _, rfl, .ty _, .base (.int i), kit_ty (by decide +kernel), true, rfl, iteT ?_⟩
  exact ⟨_, rfl, _, _, _, _, _, rfl, .ty _, .base (.int i), kit_ty (by decide +kernel), false, rfl, q⟩
/-- what is a spot is one -/
def sp_isspot (K : PySem.W.Frag) : Sp := fun vs H Q _ => ∃ va a, vs = [va] ∧ IsT K H va a ∧ Ok a ∧ ∀ H', Same H H' → Q (.bl true) H'
theorem v3_at {a : T3} {i : Nat} {x : V} (h : (v3 a)[i]? = some x) : ∃ z : Int, x = .int z := by
  unfold v3 at h
  match i, h with
  | 0, h => exact ⟨_, (Option.some.inj h).symm⟩
  | 1, h => exact ⟨_, (Option.some.inj h).symm⟩
  | 2, h => exact ⟨_, (Option.some.inj h).symm⟩
  | (n + 3), h => simp at h
theorem ok_is_spot {f : Addr} {fd : FuncData} (b_isinstance : mg "isinstance" = none) (b_tuple : mg "tuple" = none) (b_len : mg "len" = none) (b_all : mg "all" = none) (d_common_divisor : D P w K mg base "common_divisor" 1 sp_gcd) (d_is_whole : D P w K mg base "is_whole" 1 sp_whole)
    (F : Fun K "is_spot" "is_spot" s_is_spot f fd) : FnOk P w K mg base CX0 2 f fd ["value"] (sp_isspot K) := by
  refine F.ok sc_is_spot (fun vs H Q E h => ?_) (fun cdv A outer s H vs Q E hr h => ?_)
  · obtain ⟨va, a, rfl, _⟩ := h
    rfl
  obtain ⟨va, a, rfl, ⟨p, rfl, ta⟩, oa, q⟩ := h
  refine ⟨_, (pss_cons (ps_if (PW.pt (pw_or (pt_not (pt_val (pe_callB (r := rIsi K) call_isi (by rfl) b_isinstance (by decide +kernel) (pa_cons (pv 0) (pa_cons (pe_bltn (v := .ty "tuple") (by rfl) b_tuple (by decide +kernel) rfl) pa_nil))))) (pw_or1 (pt_cmpR (op_ne) (pe_callB call_len_seq (by rfl) b_len PySem.boot_len (pa_cons (pv 0) pa_nil)) pe_int (nomark _))))) (pss_one (ps_ret pe_bl)) pss_nil)
    (pss_cons (ps_if (pt_not (pt_val (pe_callB (cr_all rfl) (by rfl) b_all (by decide +kernel) (pa_cons (pe_lc (own := [("number", 1)]) (g := gName 1) (tt := tYes) (by rfl) sc_is_spot.nd (pi_tup (pv 0)) (blkOk_by (own := [("number", 1)]) (N := ["value", "number", "x", "y", "d"]) (sc := defScope s_is_spot) (by decide +kernel)) (fun _ _ _ _ _ => (pg_name (i := 1) sc_is_spot.nd rfl (by first | exact Or.inl rfl | exact Or.inr rfl))) (fun _ _ _ _ _ => pts_nil) (fun _ _ _ _ _ => (pc d_is_whole (hr.mono (by decide)) (pa_cons (pv 1) pa_nil)))) pa_nil)))) (pss_one (ps_ret pe_bl)) pss_nil)
    (pss_cons (ps_asg (pv 0) (pg_tup rfl (pgs_cons (pg_name (i := 2) sc_is_spot.nd rfl (by first | exact Or.inl rfl | exact Or.inr rfl)) (pgs_cons (pg_name (i := 3) sc_is_spot.nd rfl (by first | exact Or.inl rfl | exact Or.inr rfl)) (pgs_cons (pg_name (i := 4) sc_is_spot.nd rfl (by first | exact Or.inl rfl | exact Or.inr rfl)) pgs_nil)))))
    (pss_one (ps_ret (pe_and (pe_cmpR (op_ge) (pv 4) pe_int (nomark _)) (pe_one (pe_cmpR (op_eq) (pc d_common_divisor (hr.mono (by decide)) (pa_cons (pc d_common_divisor (hr.mono (by decide)) (pa_cons (pv 2) (pa_cons (pv 3) pa_nil))) (pa_cons (pv 4) pa_nil))) pe_int (nomark _))))))))), ?_⟩
  refine ⟨_, rfl, _, _, _, _, _, rfl, .ty _, ty_T ta, kit_ty (by decide +kernel), true, rfl, ?_⟩
  refine iteF ?_
  refine ⟨_, rfl, _, _, rfl, .inr ta, rfl, _, rfl, iteF ?_⟩
  refine ⟨_, rfl, _, rfl, ⟨_, ta⟩, fun L hL => lc_tup (K := K) (a := p) (xs := v3 a) (fun i H' => ∃ acc : List V, H' = upd H L (.lst acc) ∧ acc = (List.replicate i true).map V.bl) ⟨[], rfl, rfl⟩ ?_ ?_ ?_⟩
  · rintro i H' hi ⟨acc, rfl, _⟩
    exact same_T (same_new hL _) ta
  · rintro i x H' hx ⟨acc, rfl, ea⟩
    obtain ⟨z, rfl⟩ := v3_at hx
    refine ⟨rfl, ?_⟩
    refine yes_of ?_
    refine ⟨_, rfl, z, rfl, acc, upd_same, ?_, ?_⟩
    · have := (List.getElem?_eq_some_iff.mp hx).1
      rw [ea, List.length_map, List.length_replicate]
      exact small1000 (by have : (v3 a).length = 3 := rfl; omega)
    · refine ⟨acc ++ [.bl true], upd_upd, ?_⟩
      rw [ea, List.replicate_succ', List.map_append]
      rfl
  · rintro H' ⟨acc, rfl, ea⟩
    refine ⟨_, [true, true, true], rfl, .inl (.inl ?_), ?_⟩
    · rw [ea]; exact upd_same
    refine ⟨_, rfl, iteF ?_⟩
    have s1 := same_new hL (.lst acc)
    refine ⟨_, rfl, _, _, rfl, same_T s1 ta, rfl, _, _, rfl, _, _, rfl, _, _, rfl, rfl, ?_⟩
    refine ⟨_, rfl, _, _, rfl, rfl, true, congrArg V.bl (decide_eq_true (show (1 : Int) ≤ a.2.2 from oa.1)), iteT ?_⟩
    refine ⟨_, rfl, _, rfl, _, _, rfl, _, rfl, _, _, rfl, rfl, ?_⟩
    have e : V.int ((Int.gcd ((Int.gcd a.1 a.2.1 : Nat) : Int) a.2.2 : Nat) : Int) = V.int 1 := congrArg V.int oa.2
    have z := q _ s1
    show Q (.bl (decide (V.int ((Int.gcd ((Int.gcd a.1 a.2.1 : Nat) : Int) a.2.2 : Nat) : Int) = V.int 1))) _
    rw [decide_eq_true e]
    exact z
def sp_check (K : PySem.W.Frag) : Sp := fun vs H Q _ => ∃ va a, vs = [va] ∧ IsT K H va a ∧ Ok a ∧ ∀ H', Same H H' → Q .non H'
theorem ok_check_spot {f : Addr} {fd : FuncData} (d_is_spot : D P w K mg base "is_spot" 2 (sp_isspot K)) (F : Fun K "check_spot" "check_spot" s_check_spot f fd) : FnOk P w K mg base CX0 3 f fd ["value"] (sp_check K) := by
  refine F.ok sc_check_spot (fun vs H Q E h => ?_) (fun cdv A outer s H vs Q E hr h => ?_)
  · obtain ⟨va, a, rfl, _⟩ := h
    rfl
  obtain ⟨va, a, rfl, ia, oa, q⟩ := h
  refine ⟨_, (pss_one (ps_if (pt_not (pt_val (pc d_is_spot (hr.mono (by decide)) (pa_cons (pv 0) pa_nil)))) (pss_one ps_never) pss_nil)), ?_⟩
  exact ⟨_, rfl, _, _, rfl, ia, oa, fun H1 s1 => ⟨_, rfl, iteF (q _ s1)⟩⟩
def d3 (s : T3) : PyData := .tuple [.int s.1, .int s.2.1, .int s.2.2]
theorem Dp3 {K : PySem.W.Frag} {H : Hp} {p : Addr} {s : T3} (h : SqT K H p (v3 s)) : Dp K H (.ref p) (d3 s) := .tup h (.cons (.int _) (.cons (.int _) (.cons (.int _) .nil)))
theorem shaped3 (s : T3) : SeqAt.shaped (d3 s) = true := rfl
theorem eqv3 (s t : T3) : PyData.eqv (d3 s) (d3 t) = decide (s = t) := by
  obtain ⟨a, b, c⟩ := s
  obtain ⟨u, v, w⟩ := t
  show ((a == u) && ((b == v) && ((c == w) && true))) = decide ((a, b, c) = (u, v, w))
  by_cases h1 : a = u
  · by_cases h2 : b = v
    · by_cases h3 : c = w
      · subst h1 h2 h3; simp
      · rw [decide_eq_false (fun z => h3 (by injection z with _ z; injection z))]; simp [h3]
    · rw [decide_eq_false (fun z => h2 (by injection z with _ z; injection z))]; simp [h2]
  · rw [decide_eq_false (fun z => h1 (by injection z))]; simp [h1]
def sp_checkT (K : PySem.W.Frag) : Sp := fun vs H Q _ => ∃ va a, vs = [va] ∧ IsT K H va a ∧ Ok a ∧ Nz a ∧ ∀ H', Same H H' → Q .non H'
end
end My

namespace My
open PySem L2 Mth
abbrev s_law_below : Stmt := topS 47
theorem sc_law_below : FnScope ["_law_d", "_law_limit", "_law_result"] ["_law_d", "_law_limit"] (defScope s_law_below) := ⟨rfl, rfl, rfl, by decide +kernel, rfl, by decide +kernel, by decide +kernel⟩
abbrev s_law_random : Stmt := topS 46
theorem sc_law_random : FnScope ["_law_script", "_law_salt", "_law_seed", "_law_cell"] ["_law_script", "_law_salt"] (defScope s_law_random) := ⟨rfl, rfl, rfl, by decide +kernel, rfl, by decide +kernel, by decide +kernel⟩
section
variable {P : Program} {w : World} {K : PySem.W.Frag} {mg : Str → Option Value} {base : Heap}
/-! ### the source of numbers -/
structure Src where
  seed : Int
  cur : Int
  rest : List Int
structure SrcOk (s : Src) : Prop where
  s0 : 0 ≤ s.seed
  s1 : s.seed < 2147483647
  c0 : 0 ≤ s.cur
  r0 : ∀ r ∈ s.rest, 0 ≤ r
  len : s.rest.length ≤ 63
def encD (s : Src) : List V := .int s.seed :: .int s.cur :: s.rest.map V.int
theorem natAbs_pow18 : ((10 : Int) ^ (18 : Int).toNat) = 1000000000000000000 := by decide
theorem getInt {ns : List Int} {i : Nat} {y : V} (h : (ns.map V.int)[i]? = some y) : ∃ u, y = V.int u ∧ ns[i]? = some u := by
  rw [List.getElem?_map] at h
  cases e : ns[i]? with
  | none => rw [e] at h; cases h
  | some u => rw [e] at h; exact ⟨u, (Option.some.inj h).symm, rfl⟩
theorem take_more {α : Type} {l : List α} {i : Nat} {x : α} (h : l[i]? = some x) : l.take (i + 1) = l.take i ++ [x] := by
  rw [List.take_succ, h]
  rfl
def sp_random (K : PySem.W.Frag) : Sp := fun vs H Q _ => ∃ (a : Addr) (ns : List Int) (salt : Int), vs = [.ref a, .int salt] ∧ SqL K H a (ns.map V.int) ∧ ns.length ≤ 63 ∧ 0 ≤ salt ∧ salt < 2147483647 ∧
  ∀ H' d st, Same H H' → H' d = some (.lst (encD st)) → SrcOk st → Q (.ref d) H'
theorem ok_law_random {f : Addr} {fd : FuncData} (b_abs : mg "abs" = none) (F : Fun K "_law_random" "_law_random" s_law_random f fd) : FnOk P w K mg base CX0 1 f fd ["_law_script", "_law_salt"] (sp_random K) := by
  refine F.ok sc_law_random (fun vs H Q E h => ?_) (fun cdv A outer s H vs Q E hr h => ?_)
  · obtain ⟨a, ns, salt, rfl, _⟩ := h
    rfl
  obtain ⟨a, ns, salt, rfl, hS, h63, h0, h1, q⟩ := h
  refine ⟨_, (pss_cons (ps_set (i := 2) sc_law_random.nd rfl (by first | exact Or.inl rfl | exact Or.inr rfl) (pv 1))
    (pss_cons (ps_for PassesOwn.never rfl (pi_list (pv 0)) (pg_name (i := 3) sc_law_random.nd rfl (by first | exact Or.inl rfl | exact Or.inr rfl)) (pss_one (ps_set (i := 2) sc_law_random.nd rfl (by first | exact Or.inl rfl | exact Or.inr rfl) (pe_op op_modN (pe_op op_add (pe_op op_mulW (pv 2) pe_int) (pe_callB call_abs (by rfl) b_abs (by decide +kernel) (pa_cons (pv 3) pa_nil))) pe_int))))
    (pss_one (ps_ret (pe_op op_cat (pe_lst (pa_cons (pv 2) (pa_cons pe_int pa_nil))) (pe_lc (own := [("_law_cell", 3)]) (g := gName 3) (by rfl) sc_law_random.nd (pi_list (pv 0)) (blkOk_by (own := [("_law_cell", 3)]) (N := ["_law_script", "_law_salt", "_law_seed", "_law_cell"]) (sc := defScope s_law_random) (by decide +kernel)) (fun _ _ _ _ _ => (pg_name (i := 3) sc_law_random.nd rfl (by first | exact Or.inl rfl | exact Or.inr rfl))) (fun _ _ _ _ _ => (pts_one (pt_cmpR (op_ge) (pv 3) (pe_op op_pow pe_int pe_int) (nomark _)))) (fun _ _ _ _ _ => (pv 3)))))))), ?_⟩
  refine ⟨_, rfl, ?_⟩
  refine ⟨_, rfl, _, rfl, ⟨_, hS⟩, for_list (K := K) (a := a) (xs := ns.map V.int) (fun i σ H' => H' = H ∧ ∃ (z : Int) (v : Option V), σ = [some (.ref a), some (.int salt), some (.int z), v] ∧ 0 ≤ z ∧ z < 2147483647) ⟨rfl, salt, none, rfl, h0, h1⟩ ?_ ?_ ?_⟩
  · rintro i σ H' _ ⟨rfl, _⟩
    exact hS
  · rintro i y σ H' hi ⟨rfl, z, v, rfl, z0, z1⟩
    obtain ⟨u, rfl, hu⟩ := getInt hi
    refine ⟨_, rfl, _, _, rfl, rfl, mulW (a := 31) (b := 31) (show z.natAbs < 2 ^ 32 by omega) (by decide), _, rfl, _, rfl, _, _, rfl, rfl, _, _, rfl, rfl, (show (2147483647 : Int) ≠ 0 by decide), ?_⟩
    exact ⟨rfl, _, _, rfl, Int.fmod_nonneg_of_pos _ (by decide), Int.fmod_lt_of_pos _ (by decide)⟩
  · rintro σ H' ⟨rfl, z, v, rfl, z0, z1⟩
    refine ⟨_, rfl, (by show 2 ≤ sizeLine; decide), fun p hp => ?_⟩
    have g1 := same_new hp (.lst [.int z, .int 0])
    refine ⟨_, rfl, a, rfl, ⟨_, g1.seq hS⟩, fun L hL => lc_list (K := K) (a := a) (xs := ns.map V.int) (fun i H1 => ∃ acc : List Int, H1 = upd (upd H' p (.lst [.int z, .int 0])) L (.lst (acc.map V.int)) ∧ acc.length ≤ i ∧ ∀ r ∈ acc, 0 ≤ r) ⟨[], rfl, Nat.le_refl _, fun r hr => by cases hr⟩ ?_ ?_ ?_⟩
    · rintro i H1 hi ⟨acc, rfl, _⟩
      exact (same_new hL _).seq (g1.seq hS)
    · rintro i y H1 hi ⟨acc, rfl, hl, ha⟩
      obtain ⟨u, rfl, hu⟩ := getInt hi
      have hi63 : i < ns.length := (List.getElem?_eq_some_iff.mp hu).1
      refine ⟨rfl, ?_⟩
      refine ⟨_, rfl, _, _, rfl, rfl, ⟨by decide, by decide, by decide⟩, _, _, rfl, rfl, _, rfl, ?_⟩
      refine ite2 (fun c => ?_) (fun c => ?_)
      · refine ⟨_, rfl, acc.map V.int, upd_same, ?_, acc ++ [u], ?_, ?_, ?_⟩
        · rw [List.length_map]; exact small1000 (by omega)
        · rw [upd_upd, List.map_append]; rfl
        · rw [List.length_append, List.length_singleton]; omega
        · intro r hr
          rcases List.mem_append.mp hr with h | h
          · exact ha r h
          · have c' : (10 : Int) ^ (18 : Int).toNat ≤ u := of_decide_eq_true c
            rw [natAbs_pow18] at c'
            have := List.mem_singleton.mp h
            omega
      · exact ⟨acc, rfl, by omega, ha⟩
    · rintro H1 ⟨acc, rfl, hl, ha⟩
      rw [List.length_map] at hl
      have npL : p ≠ L := fun z => by rw [← z, upd_same] at hL; cases hL
      refine ⟨p, L, _, _, rfl, rfl, by rw [upd_ne npL]; exact upd_same, upd_same, ?_, fun r hr => ?_⟩
      · rw [List.length_map]; exact small (by show 2 + _ ≤ 1000; omega)
      · have g2 := same_new hL (.lst (acc.map V.int))
        exact q _ _ ⟨z, 0, acc⟩ (g1.trans (g2.trans (same_new hr _))) upd_same ⟨z0, z1, Int.le_refl 0, ha, by show acc.length ≤ 63; omega⟩
/-- the next number -/
def sp_below : Sp := fun vs H Q _ => ∃ (d : Addr) (n : Int) (st : Src), vs = [.ref d, .int n] ∧ 0 < n ∧ n < 1000000 ∧ H d = some (.lst (encD st)) ∧ SrcOk st ∧
  ∀ st' r, SrcOk st' → 0 ≤ r → r < n → Q (.int r) (upd H d (.lst (encD st')))
theorem div_nn {a b : Int} (ha : 0 ≤ a) (hb : 0 < b) : 0 ≤ a.fdiv b := by
  rw [Int.fdiv_eq_ediv_of_nonneg a (by omega)]
  exact Int.ediv_nonneg ha (by omega)
theorem dX {i j : Int} (h : 0 < j) (h9 : j < 1000000) : CDivX i j := divX (b := 20) (by omega) (by omega) (by decide) (by decide)
theorem at0 {a b : V} {r : List V} : atI (a :: b :: r) 0 = some a := atI_nat (j := 0) rfl
theorem at1 {a b : V} {r : List V} : atI (a :: b :: r) 1 = some b := atI_nat (j := 1) rfl
theorem ix0 {a b : V} {r : List V} : ixN (a :: b :: r).length 0 = some 0 := by
  unfold ixN
  rw [if_pos (by decide), if_pos (by simp only [List.length_cons]; omega)]
  rfl
theorem ix1 {a b : V} {r : List V} : ixN (a :: b :: r).length 1 = some 1 := by
  unfold ixN
  rw [if_pos (by decide), if_pos (by simp only [List.length_cons]; omega)]
  rfl
theorem ok_law_below {f : Addr} {fd : FuncData} (b_len : mg "len" = none) (F : Fun K "_law_below" "_law_below" s_law_below f fd) : FnOk P w K mg base CX0 1 f fd ["_law_d", "_law_limit"] sp_below := by
  refine F.ok sc_law_below (fun vs H Q E h => ?_) (fun cdv A outer s H vs Q E hr h => ?_)
  · obtain ⟨d, n, st, rfl, _⟩ := h
    rfl
  obtain ⟨d, n, ⟨seed, cur, rest⟩, rfl, n0, n1, hd, ⟨s0, s1, c0, r0, hl⟩, q⟩ := h
  dsimp only at s0 s1 c0 r0 hl
  refine ⟨_, (pss_cons (ps_if (PW.pt (pw_and (pt_cmpR (op_eq) (pe_ix ix_list (pv 0) pe_int (fun _ _ => rfl)) pe_int (nomark _)) (pw_and1 (pt_cmpR (op_gt) (pe_callB call_len_seq (by rfl) b_len PySem.boot_len (pa_cons (pv 0) pa_nil)) pe_int (nomark _))))) (pss_one (ps_asg (pe_bm PySem.F.plainAttrs_list PySem.F.slot_list_pop PySem.F.type_list_pop mt_popAt (pv 0) (pa_cons pe_int pa_nil)) (pg_sub (pv 0) pe_int set_list))) pss_nil)
    (pss_cons (ps_if (pt_cmpR (op_gt) (pe_ix ix_list (pv 0) pe_int (fun _ _ => rfl)) pe_int (nomark _)) (pss_cons (ps_set (i := 2) sc_law_below.nd rfl (by first | exact Or.inl rfl | exact Or.inr rfl) (pe_op op_modN (pe_ix ix_list (pv 0) pe_int (fun _ _ => rfl)) (pv 1)))
    (pss_cons (ps_asg (pe_op op_fdivX (pe_ix ix_list (pv 0) pe_int (fun _ _ => rfl)) (pv 1)) (pg_sub (pv 0) pe_int set_list))
    (pss_one (ps_ret (pv 2))))) pss_nil)
    (pss_cons (ps_asg (pe_op op_modN (pe_op op_add (pe_op op_mulW (pe_ix ix_list (pv 0) pe_int (fun _ _ => rfl)) pe_int) pe_int) pe_int) (pg_sub (pv 0) pe_int set_list))
    (pss_one (ps_ret (pe_op op_modN (pe_op op_fdivX (pe_ix ix_list (pv 0) pe_int (fun _ _ => rfl)) pe_int) (pv 1))))))), ?_⟩
  have tail : ∀ (cur : Int) (rest : List Int) (H1 : Hp), 0 ≤ cur → (∀ r ∈ rest, 0 ≤ r) → rest.length ≤ 63 → (∀ o, upd H1 d o = upd H d o) → H1 d = some (.lst (encD ⟨seed, cur, rest⟩)) →
      (tSeq (tIfS (tTest (tOp (rI0 fun i j => .bl (decide (j < i))) (tOp (rIxL K) (tVar 0) (tC (.int 1))) (tC (.int 0))))
        (tSeq (tAsg (tOp (rI (fun _ j => j ≠ 0) fun i j => .int (i.fmod j)) (tOp (rIxL K) (tVar 0) (tC (.int 1))) (tVar 1)) (gName 2))
          (tSeq (tAsg (tOp (rI CDivX fun i j => .int (i.fdiv j)) (tOp (rIxL K) (tVar 0) (tC (.int 1))) (tVar 1)) (gSub (tVar 0) (tC (.int 1)) rSetL)) (tRet (tVar 2)))) tNext)
        (tSeq (tAsg (tOp (rI (fun _ j => j ≠ 0) fun i j => .int (i.fmod j)) (tOp (rI0 fun i j => .int (i + j)) (tOp (rI CMulW fun i j => .int (i * j)) (tOp (rIxL K) (tVar 0) (tC (.int 0))) (tC (.int 48271))) (tC (.int 11))) (tC (.int 2147483647))) (gSub (tVar 0) (tC (.int 0)) rSetL))
          (tRet (tOp (rI (fun _ j => j ≠ 0) fun i j => .int (i.fmod j)) (tOp (rI CDivX fun i j => .int (i.fdiv j)) (tOp (rIxL K) (tVar 0) (tC (.int 0))) (tC (.int 64))) (tVar 1))))) { nx := fun _ H' => Q .non H', rt := Q } [some (.ref d), some (.int n), none] H1 := by
    intro cur rest H1 c0 r0 hl hu h1
    refine ⟨_, rfl, _, _, _, _, rfl, rfl, .inl (.inl h1), at1, _, _, rfl, rfl, _, rfl, ?_⟩
    refine ite2 (fun c => ?_) (fun c => ?_)
    · refine ⟨_, rfl, _, _, _, _, rfl, rfl, .inl (.inl h1), at1, _, rfl, _, _, rfl, rfl, (show n ≠ 0 by omega), ?_⟩
      refine ⟨_, rfl, _, _, _, _, rfl, rfl, .inl (.inl h1), at1, _, rfl, _, _, rfl, rfl, dX n0 n1, ?_⟩
      refine ⟨_, rfl, _, _, _, _, rfl, rfl, h1, ix1, ?_⟩
      refine ⟨_, rfl, ?_⟩
      have z := q ⟨seed, cur.fdiv n, rest⟩ (cur.fmod n) ⟨s0, s1, div_nn c0 n0, r0, hl⟩ (Int.fmod_nonneg_of_pos _ n0) (Int.fmod_lt_of_pos _ n0)
      rw [← hu] at z
      exact z
    · refine ⟨_, rfl, _, _, _, _, rfl, rfl, .inl (.inl h1), at0, _, _, rfl, rfl, mulW (a := 31) (b := 31) (show seed.natAbs < 2 ^ 32 by omega) (by decide), _, _, rfl, rfl, _, _, rfl, rfl, (show (2147483647 : Int) ≠ 0 by decide), ?_⟩
      refine ⟨_, rfl, _, _, _, _, rfl, rfl, h1, ix0, ?_⟩
      have m0 := Int.fmod_nonneg_of_pos (a := seed * 48271 + 11) (b := 2147483647) (by decide)
      have m1 := Int.fmod_lt_of_pos (a := seed * 48271 + 11) (b := 2147483647) (by decide)
      have z := q ⟨(seed * 48271 + 11).fmod 2147483647, cur, rest⟩ ((((seed * 48271 + 11).fmod 2147483647).fdiv 64).fmod n) ⟨m0, m1, c0, r0, hl⟩ (Int.fmod_nonneg_of_pos _ n0) (Int.fmod_lt_of_pos _ n0)
      rw [← hu] at z
      refine ⟨_, rfl, _, _, _, _, rfl, rfl, .inl (.inl upd_same), at0, _, _, rfl, rfl, dX (by decide) (by decide), _, rfl, _, _, rfl, rfl, (show n ≠ 0 by omega), ?_⟩
      exact z
  refine ⟨_, rfl, _, _, _, _, rfl, rfl, .inl (.inl hd), at1, rfl, _, rfl, ?_⟩
  refine ite2 (fun c => ?_) (fun c => ?_)
  · refine ⟨_, rfl, _, _, rfl, .inl (.inl (.inl hd)), _, _, rfl, rfl, _, rfl, ?_⟩
    refine ite2 (fun c2 => ?_) (fun c2 => ?_)
    · cases rest with
      | nil =>
        exfalso
        have := of_decide_eq_true c2
        simp [encD] at this
      | cons r rs =>
        refine ⟨_, rfl, .inl ⟨rfl, _, .inl (.inl hd)⟩, _, _, _, 2, _, rfl, rfl, hd, by decide, by decide, ?_, rfl, ?_⟩
        · show seqIndex? 2 (encD ⟨seed, cur, r :: rs⟩).length = some 2
          refine (ixN_seq (n := (encD ⟨seed, cur, r :: rs⟩).length) (i := 2) (j := 2) ?_).1
          unfold ixN
          rw [if_pos (by decide), if_pos (by simp [encD]; omega)]
          rfl
        refine ⟨_, rfl, _, _, _, _, rfl, rfl, upd_same, ix1, ?_⟩
        refine tail r rs _ (r0 r (List.mem_cons_self ..)) (fun x hx => r0 x (List.mem_cons_of_mem _ hx)) (by simp only [List.length_cons] at hl; omega) (fun o => ?_) ?_
        · rw [upd_upd, upd_upd]
        · rw [upd_same]
          rfl
    · exact tail cur rest H c0 r0 hl (fun o => rfl) hd
  · exact tail cur rest H c0 r0 hl (fun o => rfl) hd
end
end My

namespace My
open PySem L2 Mth
abbrev s_law_common : Stmt := topS 49
theorem sc_law_common : FnScope ["_law_one", "_law_other"] ["_law_one", "_law_other"] (defScope s_law_common) := ⟨rfl, rfl, rfl, by decide +kernel, rfl, by decide +kernel, by decide +kernel⟩
abbrev s_law_lowest : Stmt := topS 50
theorem sc_law_lowest : FnScope ["_law_x", "_law_y", "_law_q", "_law_common_now"] ["_law_x", "_law_y", "_law_q"] (defScope s_law_lowest) := ⟨rfl, rfl, rfl, by decide +kernel, rfl, by decide +kernel, by decide +kernel⟩
abbrev s_law_spot : Stmt := topS 51
theorem sc_law_spot : FnScope ["_law_d", "_law_below_here"] ["_law_d"] (defScope s_law_spot) := ⟨rfl, rfl, rfl, by decide +kernel, rfl, by decide +kernel, by decide +kernel⟩
section
variable {P : Program} {w : World} {K : PySem.W.Frag} {mg : Str → Option Value} {base : Heap}
theorem ok_law_common {f : Addr} {fd : FuncData} (b_abs : mg "abs" = none) (F : Fun K "_law_common" "_law_common" s_law_common f fd) : FnOk P w K mg base CX0 1 f fd ["_law_one", "_law_other"] sp_gcd := by
  refine F.ok sc_law_common (fun vs H Q E h => ?_) (fun cdv A outer s H vs Q E hr h => ?_)
  · obtain ⟨a, b, rfl, _⟩ := h
    rfl
  obtain ⟨a, b, rfl, q⟩ := h
  refine ⟨_, (pss_cons (ps_par (i := 0) (j := 1) (by rfl) sc_law_common.nd rfl rfl (by decide) rfl rfl (pa_cons (pe_callB call_abs (by rfl) b_abs (by decide +kernel) (pa_cons (pv 0) pa_nil)) (pa_cons (pe_callB call_abs (by rfl) b_abs (by decide +kernel) (pa_cons (pv 1) pa_nil)) pa_nil)) (by rfl))
    (pss_cons (ps_while PassesOwn.never (pt_cmpR (op_gt) (pv 1) pe_int (nomark _)) (pss_one (ps_par (i := 0) (j := 1) (by rfl) sc_law_common.nd rfl rfl (by decide) rfl rfl (pa_cons (pv 1) (pa_cons (pe_op op_modN (pv 0) (pv 1)) pa_nil)) (by rfl))))
    (pss_one (ps_ret (pv 0))))), ?_⟩
  refine ⟨_, rfl, _, rfl, _, rfl, _, rfl, _, _, rfl, ?_⟩
  refine while_by (fun σ H' => H' = H ∧ ∃ x y : Int, σ = [some (.int x), some (.int y)] ∧ 0 ≤ x ∧ 0 ≤ y ∧ Int.gcd x y = Int.gcd a b) (fun σ _ => match σ with | [_, some (.int y)] => y.natAbs | _ => 0) ⟨rfl, _, _, rfl, ?_, ?_, ?_⟩ ?_ ?_
  · split <;> omega
  · split <;> omega
  · have e : ∀ z : Int, (if z < 0 then -z else z) = ((z.natAbs : Nat) : Int) := fun z => by split <;> omega
    rw [e, e]
    unfold Int.gcd
    rw [Int.natAbs_natCast, Int.natAbs_natCast]
  · rintro σ H' ⟨rfl, x, y, rfl, x0, y0, e⟩
    refine ⟨_, rfl, _, _, rfl, rfl, _, rfl, ?_⟩
    refine ite2 (fun c => ?_) (fun c => ?_)
    · have c' : 0 < y := of_decide_eq_true c
      refine ⟨_, rfl, _, rfl, _, rfl, _, _, rfl, rfl, (show y ≠ 0 by omega), _, _, rfl, ⟨rfl, _, _, rfl, y0, Int.fmod_nonneg_of_pos _ c', ?_⟩, ?_⟩
      · rw [gcd_fmod]; exact e
      · exact fmod_small (by omega)
    · have c' : ¬ 0 < y := of_decide_eq_false (Bool.eq_false_iff.mpr c)
      have y1 : y = 0 := by omega
      subst y1
      refine ⟨_, rfl, ?_⟩
      rw [← e, Int.gcd_zero_right] at q
      have ex : ((x.natAbs : Nat) : Int) = x := by omega
      rw [ex] at q
      exact q
  · rintro σ H' Q1 Q2 hq ⟨v, h1, i, j, h2, h3, k, h4, h5⟩
    exact ⟨v, h1, i, j, h2, h3, k, h4, hq _ _ h5⟩
theorem ok_law_lowest {f : Addr} {fd : FuncData} (d_law_common : D P w K mg base "_law_common" 1 sp_gcd) (F : Fun K "_law_lowest" "_law_lowest" s_law_lowest f fd) : FnOk P w K mg base CX0 2 f fd ["_law_x", "_law_y", "_law_q"] (sp_low K) := by
  refine F.ok sc_law_lowest (fun vs H Q E h => ?_) (fun cdv A outer s H vs Q E hr h => ?_)
  · obtain ⟨x, y, d, rfl, _⟩ := h
    rfl
  obtain ⟨x, y, d, rfl, hd, hB, q⟩ := h
  refine ⟨_, (pss_cons (ps_set (i := 3) sc_law_lowest.nd rfl (by first | exact Or.inl rfl | exact Or.inr rfl) (pc d_law_common (hr.mono (by decide)) (pa_cons (pc d_law_common (hr.mono (by decide)) (pa_cons (pv 0) (pa_cons (pv 1) pa_nil))) (pa_cons (pv 2) pa_nil))))
    (pss_cons (ps_set (i := 3) sc_law_lowest.nd rfl (by first | exact Or.inl rfl | exact Or.inr rfl) (pe_ifExp (pt_cmpR (op_gt) (pv 2) pe_int (nomark _)) (pv 3) (pe_op op_sub pe_int (pv 3))))
    (pss_one (ps_ret (pe_tup (pa_cons (pe_op op_fdivX (pv 0) (pv 3)) (pa_cons (pe_op op_fdivX (pv 1) (pv 3)) (pa_cons (pe_op op_fdivX (pv 2) (pv 3)) pa_nil)))))))), ?_⟩
  refine ⟨_, rfl, _, rfl, _, _, rfl, _, rfl, _, _, rfl, ?_⟩
  refine ⟨_, rfl, _, _, rfl, rfl, _, rfl, ?_⟩
  have hc : CDivX x (sg x y d) ∧ CDivX y (sg x y d) ∧ CDivX d (sg x y d) := ⟨divX (sg_ne hd) (g3_lt hd hB) (by decide) (by decide), divX (sg_ne hd) (g3_lt hd hB) (by decide) (by decide), divX (sg_ne hd) (g3_lt hd hB) (by decide) (by decide)⟩
  refine ite2 (fun c => ?_) (fun c => ?_)
  · have es : sg x y d = g3 x y d := if_neg (by have := of_decide_eq_true c; omega)
    rw [es] at hc
    refine ⟨_, rfl, ?_⟩
    refine ⟨_, rfl, _, rfl, _, _, rfl, rfl, hc.1, _, rfl, _, rfl, _, _, rfl, rfl, hc.2.1, _, rfl, _, rfl, _, _, rfl, rfl, hc.2.2, (by show 3 ≤ sizeLine; decide), fun p hp => ?_⟩
    refine q _ _ (same_new hp _) ?_
    unfold low
    rw [es]
    exact IsT.new
  · have es : sg x y d = 0 - g3 x y d := by
      rw [Int.zero_sub]
      exact if_pos (by have := of_decide_eq_false (Bool.eq_false_iff.mpr c); omega)
    rw [es] at hc
    refine ⟨_, rfl, _, _, rfl, rfl, ?_⟩
    refine ⟨_, rfl, _, rfl, _, _, rfl, rfl, hc.1, _, rfl, _, rfl, _, _, rfl, rfl, hc.2.1, _, rfl, _, rfl, _, _, rfl, rfl, hc.2.2, (by show 3 ≤ sizeLine; decide), fun p hp => ?_⟩
    refine q _ _ (same_new hp _) ?_
    unfold low
    rw [es]
    exact IsT.new
/-! ### draws -/
structure TurnIn (t : T3) : Prop where
  ok : Ok t
  nz : Nz t
  bd : B 3 t
  mem : t ∈ turns13
structure SpotIn (t : T3) : Prop where
  ok : Ok t
  bd : B 3 t
def sp_draw (g : Hp → V → Prop) : Sp := fun vs H Q _ => ∃ (d : Addr) (st : Src), vs = [.ref d] ∧ H d = some (.lst (encD st)) ∧ SrcOk st ∧
  ∀ H' st' r, Keep d H H' → H' d = some (.lst (encD st')) → SrcOk st' → g H' r → Q r H'
instance (t : T3) : Decidable (Ok t) := inferInstanceAs (Decidable (_ ∧ _))
instance (t : T3) : Decidable (Nz t) := inferInstanceAs (Decidable (_ ∨ _))
theorem turns_in : ∀ t ∈ turns13, TurnIn t := by
  have h : ∀ t ∈ turns13, Ok t ∧ Nz t ∧ B 3 t := by decide +kernel
  exact fun t ht => ⟨(h t ht).1, (h t ht).2.1, (h t ht).2.2, ht⟩
theorem paired_at {ps : List Addr} {ts : List T3} {R : Addr → T3 → Prop} (h : Paired R ps ts) : ∀ {i : Nat}, i < ts.length → ∃ p t, ps[i]? = some p ∧ t ∈ ts ∧ R p t := by
  induction h with
  | nil => intro i hi; cases hi
  | cons r _ ih =>
    intro i hi
    cases i with
    | zero => exact ⟨_, _, rfl, List.mem_cons_self .., r⟩
    | succ i =>
      obtain ⟨p, t, h1, h2, h3⟩ := ih (i := i) (by simpa using hi)
      exact ⟨p, t, by simpa using h1, List.mem_cons_of_mem _ h2, h3⟩
theorem paired_app {R : Addr → T3 → Prop} : ∀ {ps qs : List Addr} {ts us : List T3}, Paired R ps ts → Paired R qs us → Paired R (ps ++ qs) (ts ++ us)
  | _, _, _, _, .nil, k => k
  | _, _, _, _, .cons r t, k => .cons r (paired_app t k)
theorem paired_imp {R S : Addr → T3 → Prop} (h : ∀ p t, R p t → S p t) : ∀ {ps : List Addr} {ts : List T3}, Paired R ps ts → Paired S ps ts
  | _, _, .nil => .nil
  | _, _, .cons r t => .cons (h _ _ r) (paired_imp h t)
theorem at_map {ps : List Addr} {i : Nat} {p : Addr} {z : Int} (h : ps[i]? = some p) (hz : z = (i : Int)) : atI (ps.map V.ref) z = some (.ref p) := by
  rw [hz]
  exact atI_nat (by rw [List.getElem?_map, h]; rfl)
theorem ok_law_spot {f : Addr} {fd : FuncData} (d_law_below : D P w K mg base "_law_below" 1 sp_below) (d_law_lowest : D P w K mg base "_law_lowest" 2 (sp_low K)) (F : Fun K "_law_spot" "_law_spot" s_law_spot f fd) : FnOk P w K mg base CX0 3 f fd ["_law_d"] (sp_draw fun H r => ∃ t, IsT K H r t ∧ SpotIn t) := by
  refine F.ok sc_law_spot (fun vs H Q E h => ?_) (fun cdv A outer s H vs Q E hr h => ?_)
  · obtain ⟨d, st, rfl, _⟩ := h
    rfl
  obtain ⟨d, st, rfl, hd, ok, q⟩ := h
  refine ⟨_, (pss_cons (ps_set (i := 1) sc_law_spot.nd rfl (by first | exact Or.inl rfl | exact Or.inr rfl) (pe_ix ix_list (pe_lst (pa_cons pe_int (pa_cons pe_int (pa_cons pe_int (pa_cons pe_int (pa_cons pe_int (pa_cons pe_int pa_nil))))))) (pc d_law_below (hr.mono (by decide)) (pa_cons (pv 0) (pa_cons pe_int pa_nil))) (fun _ _ => rfl)))
    (pss_one (ps_ret (pc d_law_lowest (hr.mono (by decide)) (pa_cons (pe_op op_sub (pc d_law_below (hr.mono (by decide)) (pa_cons (pv 0) (pa_cons pe_int pa_nil))) pe_int) (pa_cons (pe_op op_sub (pc d_law_below (hr.mono (by decide)) (pa_cons (pv 0) (pa_cons pe_int pa_nil))) pe_int) (pa_cons (pv 1) pa_nil))))))), ?_⟩
  refine ⟨(by show 6 ≤ sizeLine; decide), fun a ha => ?_⟩
  have sa := same_new ha (.lst [.int 1, .int 1, .int 1, .int 2, .int 3, .int 4])
  refine ⟨_, rfl, d, _, st, rfl, by decide, by decide, sa _ _ hd, ok, fun st1 r ok1 r0 r1 => ?_⟩
  have had : a ≠ d := fun z => by rw [← z, ha] at hd; cases hd
  obtain ⟨c, hc, c1, c4⟩ : ∃ c : Int, atI [V.int 1, .int 1, .int 1, .int 2, .int 3, .int 4] r = some (.int c) ∧ 1 ≤ c ∧ c ≤ 4 := by
    have : r = 0 ∨ r = 1 ∨ r = 2 ∨ r = 3 ∨ r = 4 ∨ r = 5 := by omega
    rcases this with rfl | rfl | rfl | rfl | rfl | rfl
    · exact ⟨1, by rfl, by decide, by decide⟩
    · exact ⟨1, by rfl, by decide, by decide⟩
    · exact ⟨1, by rfl, by decide, by decide⟩
    · exact ⟨2, by rfl, by decide, by decide⟩
    · exact ⟨3, by rfl, by decide, by decide⟩
    · exact ⟨4, by rfl, by decide, by decide⟩
  refine ⟨a, _, _, _, rfl, rfl, .inl (.inl (by rw [upd_ne had]; exact upd_same)), hc, ?_⟩
  refine ⟨_, rfl, d, _, st1, rfl, by decide, by decide, upd_same, ok1, fun st2 x ok2 x0 x1 => ?_⟩
  refine ⟨_, _, rfl, rfl, _, rfl, d, _, st2, rfl, by decide, by decide, upd_same, ok2, fun st3 y ok3 y0 y1 => ?_⟩
  refine ⟨_, _, rfl, rfl, _, rfl, _, _, _, rfl, (by omega), (show c.natAbs < 2 ^ 8500 from Nat.lt_of_lt_of_le (show c.natAbs < 2 ^ 3 by omega) (pw (by decide))), fun H' r' s' i => ?_⟩
  refine q _ st3 _ ((Keep.of sa).trans (keep_upd.trans (keep_upd.trans (keep_upd.trans (Keep.of s'))))) (s' _ _ upd_same) ok3 ⟨_, i, low_ok (by omega), low_B (by omega) ?_ ?_ ?_⟩ <;> show _ < 8 <;> omega
end
end My

namespace My
open PySem L2 Mth

section
variable {P : Program} {w : World} {K : PySem.W.Frag} {mg : Str → Option Value} {base : Heap}
/-- a copy as it is told: (turn, shift, mirrored) -/
def IsD (K : PySem.W.Frag) (H : Hp) (v : V) (c : Cp) : Prop := ∃ p a b, v = .ref p ∧ SqT K H p [.ref a, .ref b, .bl c.m] ∧ SqT K H a (v3 c.t) ∧ SqT K H b (v3 c.s)
theorem IsD.same {H H' : Hp} {v : V} {c : Cp} (h : IsD K H v c) (e : Same H H') : IsD K H' v c := by
  obtain ⟨p, a, b, rfl, h1, h2, h3⟩ := h
  exact ⟨p, a, b, rfl, same_T e h1, same_T e h2, same_T e h3⟩
theorem IsD.keep {H H' : Hp} {v : V} {c : Cp} {d : Addr} {ys : List V} (h : IsD K H v c) (hd : H d = some (.lst ys)) (e : Keep d H H') : IsD K H' v c := by
  obtain ⟨p, a, b, rfl, h1, h2, h3⟩ := h
  exact ⟨p, a, b, rfl, keep_T h1 hd e, keep_T h2 hd e, keep_T h3 hd e⟩
structure CopyIn (c : Cp) : Prop where
  ok : CpOk c
  bd : BC 3 c
  mem : c.t ∈ turns13
def sp_lcar (K : PySem.W.Frag) : Sp := fun vs H Q _ => ∃ vc c vz z, vs = [vc, vz] ∧ IsD K H vc c ∧ CpOk c ∧ BC 1900 c ∧ IsT K H vz z ∧ Ok z ∧ B 1900 z ∧ ∀ H' r, Same H H' → IsT K H' r (ap c z) → Q r H'
/-! ### equal at every level -/
theorem DpAll.get {H : Hp} : ∀ {xs : List V} {ds : List PyData}, DpAll K H xs ds → xs.length = ds.length ∧ ∀ (i : Nat) x, xs[i]? = some x → ∃ d, ds[i]? = some d ∧ Dp K H x d
  | _, _, .nil => ⟨rfl, fun i x h => by simp at h⟩
  | _, _, .cons h t => by
    obtain ⟨e, g⟩ := DpAll.get t
    refine ⟨by rw [List.length_cons, List.length_cons, e], fun i x hx => ?_⟩
    cases i with
    | zero => exact ⟨_, rfl, by simp at hx; rw [← hx]; exact h⟩
    | succ i => exact g i x (by simpa using hx)
mutual
theorem Dp.same {H H' : Hp} (s : Same H H') : ∀ {v : V} {d : PyData}, Dp K H v d → Dp K H' v d
  | _, _, .non => .non
  | _, _, .bl b => .bl b
  | _, _, .int i => .int i
  | _, _, .str x => .str x
  | _, _, .lst h t => .lst (s.seq h) (DpAll.same s t)
  | _, _, .tup h t => .tup (same_T s h) (DpAll.same s t)
theorem DpAll.same {H H' : Hp} (s : Same H H') : ∀ {vs : List V} {ds : List PyData}, DpAll K H vs ds → DpAll K H' vs ds
  | _, _, .nil => .nil
  | _, _, .cons h t => .cons (Dp.same s h) (DpAll.same s t)
end
/-- how deep -/
def Deep : Nat → PyData → Prop
  | 0, _ => False
  | n + 1, .list ds => ds.length ≤ 1000 ∧ ∀ d ∈ ds, Deep n d
  | n + 1, .tuple ds => ds.length ≤ 1000 ∧ ∀ d ∈ ds, Deep n d
  | _ + 1, .dict _ => False
  | _ + 1, _ => True
def sp_equal (K : PySem.W.Frag) (n : Nat) : Sp := fun vs H Q _ => ∃ va vb d, vs = [va, vb] ∧ Dp K H va d ∧ Dp K H vb d ∧ Deep n d ∧ ∀ H', Same H H' → Q (.bl true) H'
theorem ty_L {H : Hp} {a : Addr} {xs : List V} (h : SqL K H a xs) : TyX K H (.ref a) (.type "list") := by
  rcases h with (h | ⟨o, h⟩) | ⟨o, its, n, h, c, _⟩
  · exact .base (.lst h)
  · exact .base (.frz h)
  · exact .kList h c
end
end My

namespace My
open PySem L2 Mth
section
variable {K : PySem.W.Frag}
theorem asg_of {te : TE} {g : TG} {u : TS} {D : Ends} {σ : L2.St} {H : Hp} (h : te σ H fun x H1 => g x σ H1 (u D)) : tSeq (tAsg te g) u D σ H := h
theorem gn_of {i : Nat} {v : V} {σ : L2.St} {H : Hp} {Q : L2.St → Hp → Prop} (h : Q (σ.set i (some v)) H) : gName i v σ H Q := h
theorem nil_of {σ : L2.St} {H : Hp} {Q : List V → Hp → Prop} (h : Q [] H) : tNil σ H Q := h
theorem te_join {t : TE} {σ : L2.St} {H : Hp} {Q : VK} (W : V → Hp → Prop) (k : ∀ v H', W v H' → Q v H') (h : ∀ Q' : VK, (∀ v H', W v H' → Q' v H') → t σ H Q') : t σ H Q := h Q k
theorem seq_assoc {A B C : TS} {D : Ends} {σ : L2.St} {H : Hp} (h : tSeq (tSeq A B) C D σ H) : tSeq A (tSeq B C) D σ H := h
end
end My

namespace My
open PySem L2 Mth
section
variable {K : PySem.W.Frag}
theorem t3_of {H : Hp} {Q : VK} {t : T3} (q : ∀ H' r, Same H H' → IsT K H' r t → Q r H') : ∀ p, H p = none → Q (.ref p) (upd H p (.tup (v3 t))) := fun p hp => q _ _ (same_new hp _) ⟨p, rfl, .inl (.inl upd_same)⟩
theorem eqv2 (a b : Int) : PyData.eqv (.tuple [.int a, .int b]) (.tuple [.int a, .int b]) = true := by
  show ((a == a) && ((b == b) && true)) = true
  simp
theorem Dp2 {H : Hp} {p : Addr} {a b : Int} (h : SqT K H p [.int a, .int b]) : Dp K H (.ref p) (.tuple [.int a, .int b]) := .tup h (.cons (.int _) (.cons (.int _) .nil))
theorem IsT.dp {H : Hp} {v : V} {t : T3} (h : IsT K H v t) : Dp K H v (d3 t) := by
  obtain ⟨p, rfl, q⟩ := h
  exact Dp3 q
theorem deep3 (n : Nat) (t : T3) : Deep (n + 2) (d3 t) := by
  refine ⟨(by show 3 ≤ 1000; decide), fun d hd => ?_⟩
  simp only [List.mem_cons, List.mem_nil_iff, or_false] at hd
  rcases hd with rfl | rfl | rfl <;> trivial
theorem deep2 (n : Nat) (a b : Int) : Deep (n + 2) (.tuple [.int a, .int b]) := by
  refine ⟨(by show 2 ≤ 1000; decide), fun d hd => ?_⟩
  simp only [List.mem_cons, List.mem_nil_iff, or_false] at hd
  rcases hd with rfl | rfl <;> trivial
/-- equal at every level, of two spots -/
theorem eq3_of {H : Hp} {Q : VK} {va vb : V} {a b : T3} {n : Nat} (ia : IsT K H va a) (ib : IsT K H vb b) (e : a = b) (q : ∀ H', Same H H' → Q (.bl true) H') : sp_equal K (n + 2) [va, vb] H Q E0 := by
  subst e
  exact ⟨va, vb, d3 a, rfl, ia.dp, ib.dp, deep3 n a, q⟩
end
end My

namespace My
open PySem L2 Mth
section
theorem pimp {α β : Type} {R S : α → β → Prop} (h : ∀ p t, R p t → S p t) : ∀ {ps : List α} {ts : List β}, Paired R ps ts → Paired S ps ts
  | _, _, .nil => .nil
  | _, _, .cons r t => .cons (h _ _ r) (pimp h t)
theorem papp {α β : Type} {R : α → β → Prop} : ∀ {ps qs : List α} {ts us : List β}, Paired R ps ts → Paired R qs us → Paired R (ps ++ qs) (ts ++ us)
  | _, _, _, _, .nil, k => k
  | _, _, _, _, .cons r t, k => .cons r (papp t k)
theorem pget {α β : Type} {R : α → β → Prop} : ∀ {ps : List α} {ts : List β}, Paired R ps ts → ∀ {i : Nat} {p : α}, ps[i]? = some p → ∃ t, ts[i]? = some t ∧ R p t
  | _, _, .nil, i, p, h => by simp at h
  | _, _, .cons r t, 0, p, h => ⟨_, rfl, by simp at h; rw [← h]; exact r⟩
  | _, _, .cons r t, i + 1, p, h => by
    obtain ⟨u, h1, h2⟩ := pget t (i := i) (p := p) (by simpa using h)
    exact ⟨u, by simpa using h1, h2⟩
theorem prev {α β : Type} {R : α → β → Prop} {l : List α} {m : List β} (h : Paired R l m) : Paired R l.reverse m.reverse := by
  induction h with
  | nil => exact .nil
  | cons r _ ih => rw [List.reverse_cons, List.reverse_cons]; exact papp ih (.cons r .nil)
theorem pdrop {α β : Type} {R : α → β → Prop} {l : List α} {m : List β} (h : Paired R l m) : ∀ n, Paired R (l.drop n) (m.drop n) := by
  induction h with
  | nil => intro n; rw [List.drop_nil, List.drop_nil]; exact .nil
  | cons r t ih =>
    intro n
    cases n with
    | zero => exact .cons r t
    | succ n => exact ih n
theorem ptake {α β : Type} {R : α → β → Prop} {l : List α} {m : List β} (h : Paired R l m) : ∀ n, Paired R (l.take n) (m.take n) := by
  induction h with
  | nil => intro n; rw [List.take_nil, List.take_nil]; exact .nil
  | cons r t ih =>
    intro n
    cases n with
    | zero => exact .nil
    | succ n => exact .cons r (ih n)
end
end My

namespace My
open PySem L2 Mth
section
variable {K : PySem.W.Frag} {α : Type}
theorem tk_filter {β : Type} (p : β → Bool) {l : List β} {i : Nat} {x : β} (h : l[i]? = some x) : (l.take (i + 1)).filter p = (l.take i).filter p ++ (if p x = true then [x] else []) := by
  rw [take_more h, List.filter_append]
  congr 1
  by_cases c : p x = true
  · rw [if_pos c]; simp [c]
  · rw [if_neg c]; simp [c]
theorem tk_map {β γ : Type} (f : β → γ) {l : List β} {i : Nat} {x : β} (h : l[i]? = some x) : (l.take (i + 1)).map f = (l.take i).map f ++ [f x] := by
  rw [take_more h, List.map_append]; rfl
/-! ### what a comprehension draws, of any kind -/
def KeepsI (I : Hp → V → α → Prop) : Prop := ∀ (H H' : Hp) (v : V) (x : α) (e : Addr) (ys : List V), I H v x → H e = some (.lst ys) → Keep e H H' → I H' v x
def DrawnG (I : Hp → V → α → Prop) (G : α → Prop) (d L : Addr) (H H' : Hp) (n : Nat) : Prop := ∃ st vs xs, Keep d H H' ∧ H' d = some (.lst (encD st)) ∧ SrcOk st ∧ H' L = some (.lst vs) ∧ vs.length = n ∧ Paired (I H') vs xs ∧ ∀ x ∈ xs, G x
theorem drawnG_start {I : Hp → V → α → Prop} {G : α → Prop} {d L : Addr} {H : Hp} {st : Src} (hd : H d = some (.lst (encD st))) (ok : SrcOk st) (hL : H L = none) : DrawnG I G d L H (upd H L (.lst [])) 0 :=
  ⟨st, [], [], Keep.of (same_new hL _), (same_new hL _) _ _ hd, ok, upd_same, rfl, .nil, fun c hc => by cases hc⟩
theorem drawnG_more {I : Hp → V → α → Prop} {G : α → Prop} (kI : KeepsI I) {d L : Addr} {H H1 H2 : Hp} {n : Nat} {st st2 : Src} {v : V} {x : α} {vs : List V} {xs : List α} (hL : H L = none) (hdL : L ≠ d) (k1 : Keep d H H1) (hd1 : H1 d = some (.lst (encD st))) (h1 : H1 L = some (.lst vs)) (hn : vs.length = n) (a : Paired (I H1) vs xs) (g : ∀ x ∈ xs, G x)
    (k2 : Keep d H1 H2) (hd2 : H2 d = some (.lst (encD st2))) (ok2 : SrcOk st2) (i : I H2 v x) (ix : G x) : DrawnG I G d L H (upd H2 L (.lst (vs ++ [v]))) (n + 1) := by
  have h2 : H2 L = some (.lst vs) := k2 _ _ hdL h1
  refine ⟨st2, vs ++ [v], xs ++ [x], fun b o nb e => ?_, ?_, ok2, upd_same, by rw [List.length_append, hn]; rfl, papp (pimp (fun p t q => kI _ _ _ _ _ _ (kI _ _ _ _ _ _ q hd1 k2) h2 keep_upd) a) (.cons (kI _ _ _ _ _ _ i h2 keep_upd) .nil), fun y hy => ?_⟩
  · rw [upd_ne (ne_of_none e hL)]
    exact k2 _ _ nb (k1 _ _ nb e)
  · rw [upd_ne (Ne.symm hdL)]; exact hd2
  · rcases List.mem_append.mp hy with h | h
    · exact g y h
    · rw [List.mem_singleton.mp h]; exact ix
theorem keepsT : KeepsI (IsT K) := fun _ _ _ _ _ _ i hd k => i.keep hd k
theorem turn4' : ∀ t ∈ [((1, 0, 1) : T3), (-1, 0, 1), (0, 1, 1), (3, 4, 5)], TurnIn t := fun t ht => turns_in t (by
  have h : ∀ t ∈ [((1, 0, 1) : T3), (-1, 0, 1), (0, 1, 1), (3, 4, 5)], t ∈ turns13 := by decide +kernel
  exact h t ht)
end
end My

namespace My
open PySem L2 Mth
abbrev s_is_stroke : Stmt := topS 27
theorem sc_is_stroke : FnScope ["value", "spot", "start", "end"] ["value"] (defScope s_is_stroke) := ⟨rfl, rfl, rfl, by decide +kernel, rfl, by decide +kernel, by decide +kernel⟩
abbrev s_parts_of : Stmt := topS 26
theorem sc_parts_of : FnScope ["stroke"] ["stroke"] (defScope s_parts_of) := ⟨rfl, rfl, rfl, by decide +kernel, rfl, by decide +kernel, by decide +kernel⟩
section
variable {P : Program} {w : World} {K : PySem.W.Frag} {mg : Str → Option Value} {base : Heap}
/-! ### strokes -/
def PairsOf (K : PySem.W.Frag) (H : Hp) (us ps : List V) : Prop := ps.length = us.length - 1 ∧ ∀ (j : Nat) x y, us[j]? = some x → us[j + 1]? = some y → ∃ T, ps[j]? = some (.ref T) ∧ SqT K H T [x, y]
theorem PairsOf.same {H H' : Hp} {us ps : List V} (h : PairsOf K H us ps) (s : Same H H') : PairsOf K H' us ps := ⟨h.1, fun j x y e1 e2 => by
  obtain ⟨T, a, b⟩ := h.2 j x y e1 e2
  exact ⟨T, a, same_T s b⟩⟩
def sp_parts (K : PySem.W.Frag) : Sp := fun vs H Q _ => ∃ t us, vs = [.ref t] ∧ SqT K H t us ∧ 1 ≤ us.length ∧ ∀ H' L ps, Same H H' → H L = none → H' L = some (.lst ps) → PairsOf K H' us ps → Q (.ref L) H'
theorem ok_parts_of {f : Addr} {fd : FuncData} (b_list : mg "list" = none) (b_zip : mg "zip" = none) (F : Fun K "parts_of" "parts_of" s_parts_of f fd) : FnOk P w K mg base CX0 1 f fd ["stroke"] (sp_parts K) := by
  refine F.ok sc_parts_of (fun vs H Q E h => ?_) (fun cdv A outer s H vs Q E hr h => ?_)
  · obtain ⟨t, us, rfl, _⟩ := h
    rfl
  obtain ⟨t, us, rfl, hT, hl, q⟩ := h
  refine ⟨_, (pss_one (ps_ret (pe_listZip rfl (by rfl) b_list (by rfl) b_zip (pa_cons (pv 0) (pa_cons (pe_slice (r := rSlT K) sl_tup (pv 0) (po_some pe_int) po_none) pa_nil))))), ?_⟩
  have e1 : HT.sIx us.length 0 (some (1 : Int)) = 1 := by
    rw [show (1 : Int) = ((1 : Nat) : Int) from rfl, HT.sIx_nat]
    omega
  have ec : cutV us (some (1 : Int)) none = us.drop 1 := by
    unfold cutV
    rw [e1, HT.sIx_none, List.take_of_length_le (by rw [List.length_drop]; omega)]
  refine ⟨_, rfl, _, rfl, 1, rfl, t, us, rfl, hT, (fun z => absurd (e1.symm.trans z.1) (by decide)), fun p hp => ?_⟩
  rw [ec]
  have s1 := same_new hp (.tup (us.drop 1))
  refine ⟨t, p, us, us.drop 1, rfl, same_T s1 hT, .inl (.inl upd_same), fun H2 L ps s2 hL h2 hlen hps => ?_⟩
  refine q H2 L ps (s1.trans s2) (s1.free hL) h2 ⟨by rw [hlen, List.length_drop]; omega, fun j x y ex ey => ?_⟩
  obtain ⟨T, a, _, b⟩ := hps j x y ex (by rw [List.getElem?_drop, Nat.add_comm]; exact ey)
  exact ⟨T, a, .inl (.inl b)⟩
theorem pgt {α β : Type} {R : α → β → Prop} : ∀ {ps : List α} {ts : List β}, Paired R ps ts → ∀ {i : Nat} {p : α}, ps[i]? = some p → ∃ t, ts[i]? = some t ∧ R p t
  | _, _, .nil, i, p, h => by simp at h
  | _, _, .cons r t, 0, p, h => by
    cases h
    exact ⟨_, rfl, r⟩
  | _, _, .cons r t, i + 1, p, h => pgt t h
def IsSt (K : PySem.W.Frag) (H : Hp) (v : V) (zs : List T3) : Prop := ∃ t us, v = .ref t ∧ SqT K H t us ∧ Paired (IsT K H) us zs
theorem IsSt.same {H H' : Hp} {v : V} {zs : List T3} (h : IsSt K H v zs) (s : Same H H') : IsSt K H' v zs := by
  obtain ⟨t, us, rfl, a, b⟩ := h
  exact ⟨t, us, rfl, same_T s a, L2.Paired.mapP b (fun _ _ i => i.same s)⟩
theorem IsSt.keep {H H' : Hp} {v : V} {zs : List T3} {d : Addr} {ys : List V} (h : IsSt K H v zs) (hd : H d = some (.lst ys)) (s : Keep d H H') : IsSt K H' v zs := by
  obtain ⟨t, us, rfl, a, b⟩ := h
  exact ⟨t, us, rfl, keep_T a hd s, L2.Paired.mapP b (fun _ _ i => i.keep hd s)⟩
/-- a stroke -/
structure StOk (zs : List T3) : Prop where
  lo : 1 ≤ zs.length
  hi : zs.length ≤ 12
  ok : ∀ z ∈ zs, Ok z
  ne : ∀ (j : Nat) x y, zs[j]? = some x → zs[j + 1]? = some y → x ≠ y
def sp_isst (K : PySem.W.Frag) : Sp := fun vs H Q _ => ∃ v zs, vs = [v] ∧ IsSt K H v zs ∧ StOk zs ∧ ∀ H', Same H H' → Q (.bl true) H'
theorem ok_is_stroke {f : Addr} {fd : FuncData} {tk : Tok} (b_isinstance : mg "isinstance" = none) (b_tuple : mg "tuple" = none) (b_len : mg "len" = none) (b_all : mg "all" = none) (m_MOST_SPOTS : mg "MOST_SPOTS" = some (.int 12 tk)) (d_is_spot : D P w K mg base "is_spot" 2 (sp_isspot K)) (d_parts_of : D P w K mg base "parts_of" 1 (sp_parts K))
    (F : Fun K "is_stroke" "is_stroke" s_is_stroke f fd) : FnOk P w K mg base CX0 3 f fd ["value"] (sp_isst K) := by
  refine F.ok sc_is_stroke (fun vs H Q E h => ?_) (fun cdv A outer s H vs Q E hr h => ?_)
  · obtain ⟨v, zs, rfl, _⟩ := h
    rfl
  obtain ⟨v, zs, rfl, ⟨t, us, rfl, hT, hA⟩, ok, q⟩ := h
  refine ⟨_, (pss_cons (ps_if (PW.pt (pw_or (pt_not (pt_val (pe_callB (r := rIsi K) call_isi (by rfl) b_isinstance (by decide +kernel) (pa_cons (pv 0) (pa_cons (pe_bltn (v := .ty "tuple") (by rfl) b_tuple (by decide +kernel) rfl) pa_nil))))) (pw_or1 (pt_not (pt_chain op_le op_le pe_int (pe_callB call_len_seq (by rfl) b_len PySem.boot_len (pa_cons (pv 0) pa_nil)) (pe_glob (v := .int 12) (by rfl) m_MOST_SPOTS ⟨_, rfl⟩)))))) (pss_one (ps_ret pe_bl)) pss_nil)
    (pss_cons (ps_if (pt_not (pt_val (pe_callB (cr_all rfl) (by rfl) b_all (by decide +kernel) (pa_cons (pe_lc (own := [("spot", 1)]) (g := gName 1) (tt := tYes) (by rfl) sc_is_stroke.nd (pi_tup (pv 0)) (blkOk_by (own := [("spot", 1)]) (N := ["value", "spot", "start", "end"]) (sc := defScope s_is_stroke) (by decide +kernel)) (fun _ _ _ _ _ => (pg_name (i := 1) sc_is_stroke.nd rfl (by first | exact Or.inl rfl | exact Or.inr rfl))) (fun _ _ _ _ _ => pts_nil) (fun _ _ _ _ _ => (pc d_is_spot (hr.mono (by decide)) (pa_cons (pv 1) pa_nil)))) pa_nil)))) (pss_one (ps_ret pe_bl)) pss_nil)
    (pss_one (ps_ret (pe_callB (cr_all rfl) (by rfl) b_all (by decide +kernel) (pa_cons (pe_lc (own := [("start", 2), ("end", 3)]) (g := gTup K 2 (gCons (gName 2) (gCons (gName 3) gNil))) (tt := tYes) (by rfl) sc_is_stroke.nd (pi_list (pc d_parts_of (hr.mono (by decide)) (pa_cons (pv 0) pa_nil))) (blkOk_by (own := [("start", 2), ("end", 3)]) (N := ["value", "spot", "start", "end"]) (sc := defScope s_is_stroke) (by decide +kernel)) (fun _ _ _ _ _ => (pg_tup rfl (pgs_cons (pg_name (i := 2) sc_is_stroke.nd rfl (by first | exact Or.inl rfl | exact Or.inr rfl)) (pgs_cons (pg_name (i := 3) sc_is_stroke.nd rfl (by first | exact Or.inl rfl | exact Or.inr rfl)) pgs_nil)))) (fun _ _ _ _ _ => pts_nil) (fun _ _ _ _ _ => (pe_cmpR (r := rNeD K) (op_neD hr.units) (pv 2) (pv 3) (nomark _)))) pa_nil)))))), ?_⟩
  have hlen := Paired.length hA
  have lo := ok.lo
  have hi := ok.hi
  refine ⟨_, rfl, _, _, _, _, _, rfl, .ty _, ty_T hT, kit_ty (by decide +kernel), true, rfl, ?_⟩
  refine iteF ?_
  refine ⟨_, rfl, _, _, rfl, .inr hT, _, _, rfl, rfl, _, rfl, ?_⟩
  rw [decide_eq_true (show (1 : Int) ≤ (us.length : Int) by omega)]
  refine iteT ?_
  refine ⟨_, _, rfl, rfl, _, rfl, ?_⟩
  rw [decide_eq_true (show (us.length : Int) ≤ 12 by omega)]
  refine iteF ?_
  refine ⟨_, rfl, _, rfl, ⟨_, hT⟩, fun L hL => lc_tup (K := K) (a := t) (xs := us) (fun i H' => ∃ acc : List V, Same H H' ∧ H' L = some (.lst acc) ∧ acc = (List.replicate i true).map V.bl) ⟨[], same_new hL _, upd_same, rfl⟩ ?_ ?_ ?_⟩
  · rintro i H' hi ⟨acc, s', _⟩
    exact same_T s' hT
  · rintro i x H' hx ⟨acc, s', hb, ea⟩
    obtain ⟨z, ez, iz⟩ := pgt hA hx
    refine ⟨rfl, ?_⟩
    refine yes_of ?_
    refine ⟨_, rfl, _, z, rfl, iz.same s', ok.ok z (List.mem_of_getElem? ez), fun H2 s2 => ?_⟩
    have hb2 := s2 _ _ hb
    refine ⟨acc, hb2, ?_, acc ++ [.bl true], fun b o e => ?_, upd_same, ?_⟩
    · have := (List.getElem?_eq_some_iff.mp hx).1
      rw [ea, List.length_map, List.length_replicate]
      exact small1000 (by omega)
    · rw [upd_ne (ne_of_none e hL)]
      exact s2 _ _ (s' _ _ e)
    · rw [ea, List.replicate_succ', List.map_append]
      rfl
  rintro H1 ⟨acc, s1, hb, ea⟩
  refine ⟨_, List.replicate us.length true, rfl, .inl (.inl ?_), ?_⟩
  · rw [ea] at hb; exact hb
  refine ⟨_, rfl, ?_⟩
  rw [show (List.replicate us.length true).all id = true from List.all_eq_true.mpr fun b hb => List.eq_of_mem_replicate hb]
  refine iteF ?_
  refine ⟨_, rfl, t, us, rfl, same_T s1 hT, by omega, fun H2 Lp ps s2 hLp h2 hps => ?_⟩
  refine ⟨Lp, rfl, ⟨_, .inl (.inl h2)⟩, fun L3 hL3 => lc_list (K := K) (a := Lp) (xs := ps) (fun i H' => ∃ acc : List V, Same H2 H' ∧ H' L3 = some (.lst acc) ∧ acc = (List.replicate i true).map V.bl) ⟨[], same_new hL3 _, upd_same, rfl⟩ ?_ ?_ ?_⟩
  · rintro i H' hi ⟨acc, s', _⟩
    exact .inl (.inl (s' _ _ h2))
  · rintro i x H' hx ⟨acc, s', hb, ea⟩
    have li := (List.getElem?_eq_some_iff.mp hx).1
    have lp := hps.1
    obtain ⟨u, eu⟩ : ∃ u, us[i]? = some u := ⟨us[i]'(by omega), by simp⟩
    obtain ⟨v, ev⟩ : ∃ v, us[i + 1]? = some v := ⟨us[i + 1]'(by omega), by simp⟩
    obtain ⟨T, eT, hTT⟩ := hps.2 i u v eu ev
    obtain ⟨a, ez, pa, rfl, ia⟩ := pgt hA eu
    obtain ⟨b, ez2, pb, rfl, ib⟩ := pgt hA ev
    rw [eT] at hx
    cases hx
    have s02 := (s1.trans s2).trans s'
    refine ⟨T, _, rfl, same_T s' hTT, rfl, _, _, rfl, _, _, rfl, rfl, rfl, ?_⟩
    refine yes_of ?_
    refine ⟨_, rfl, _, rfl, _, _, Dp3 (same_T s02 ia), Dp3 (same_T s02 ib), shaped3 _, shaped3 _, ?_⟩
    rw [eqv3, decide_eq_false (ok.ne i a b ez ez2)]
    refine ⟨acc, hb, ?_, acc ++ [.bl true], fun b o e => ?_, upd_same, ?_⟩
    · rw [ea, List.length_map, List.length_replicate]
      exact small1000 (by omega)
    · rw [upd_ne (ne_of_none e hL3)]
      exact s' _ _ e
    · rw [ea, List.replicate_succ', List.map_append]
      rfl
  rintro H3 ⟨acc3, s3, hb3, ea3⟩
  refine ⟨_, List.replicate ps.length true, rfl, .inl (.inl ?_), ?_⟩
  · rw [ea3] at hb3; exact hb3
  rw [show (List.replicate ps.length true).all id = true from List.all_eq_true.mpr fun b hb => List.eq_of_mem_replicate hb]
  exact q _ ((s1.trans s2).trans s3)
end
end My

namespace My
open PySem L2 Mth

section
variable {P : Program} {w : World} {K : PySem.W.Frag} {mg : Str → Option Value} {base : Heap}
theorem dI (a b : Int) : decide (V.int a = V.int b) = decide (a = b) := by
  by_cases h : a = b
  · rw [h]; simp
  · rw [decide_eq_false h, decide_eq_false (fun z => h (V.int.inj z))]
end
end My

namespace My
open PySem L2 Mth
abbrev s_are_parallel : Stmt := topS 20
theorem sc_are_parallel : FnScope ["one", "other"] ["one", "other"] (defScope s_are_parallel) := ⟨rfl, rfl, rfl, by decide +kernel, rfl, by decide +kernel, by decide +kernel⟩
abbrev s_crossing : Stmt := topS 21
theorem sc_crossing : FnScope ["one", "other", "a", "b", "c", "p", "q", "r"] ["one", "other"] (defScope s_crossing) := ⟨rfl, rfl, rfl, by decide +kernel, rfl, by decide +kernel, by decide +kernel⟩
abbrev s_is_on_line : Stmt := topS 19
theorem sc_is_on_line : FnScope ["spot", "line", "x", "y", "d", "a", "b", "c"] ["spot", "line"] (defScope s_is_on_line) := ⟨rfl, rfl, rfl, by decide +kernel, rfl, by decide +kernel, by decide +kernel⟩
abbrev s_line_form : Stmt := topS 17
theorem sc_line_form : FnScope ["a", "b", "c", "divisor"] ["a", "b", "c"] (defScope s_line_form) := ⟨rfl, rfl, rfl, by decide +kernel, rfl, by decide +kernel, by decide +kernel⟩
section
variable {P : Program} {w : World} {K : PySem.W.Frag} {mg : Str → Option Value} {base : Heap}
/-! ### lines -/
theorem dv_lt {g a : Int} {n : Nat} (d : g ∣ a) (h : a ≠ 0) (b : a.natAbs < 2 ^ n) : g.natAbs < 2 ^ n := by
  obtain ⟨u, hu⟩ := d
  have hu0 : u ≠ 0 := fun z => by rw [z, Int.mul_zero] at hu; exact h hu
  have e : g.natAbs * u.natAbs = a.natAbs := by rw [← Int.natAbs_mul, ← hu]
  have h1 : 1 ≤ u.natAbs := by omega
  have h2 : g.natAbs * 1 ≤ g.natAbs * u.natAbs := Nat.mul_le_mul_left _ h1
  omega
theorem sgl_lt {r : T3} {n : Nat} (h : r.1 ≠ 0 ∨ r.2.1 ≠ 0) (b : B n r) : (sgl r.1 r.2.1 r.2.2).natAbs < 2 ^ n := by
  rcases h with h | h
  · exact dv_lt sgl_d1 h b.1
  · exact dv_lt sgl_d2 h b.2.1
def sp_line (K : PySem.W.Frag) : Sp := fun vs H Q _ => ∃ r : T3, vs = [.int r.1, .int r.2.1, .int r.2.2] ∧ (r.1 ≠ 0 ∨ r.2.1 ≠ 0) ∧ B 8000 r ∧ ∀ H' v, Same H H' → IsT K H' v (lf r) → Q v H'
theorem ok_line_form {f : Addr} {fd : FuncData} (d_common_divisor : D P w K mg base "common_divisor" 1 sp_gcd) (F : Fun K "line_form" "line_form" s_line_form f fd) : FnOk P w K mg base CX0 2 f fd ["a", "b", "c"] (sp_line K) := by
  refine F.ok sc_line_form (fun vs H Q E h => ?_) (fun cdv A outer s H vs Q E hr h => ?_)
  · obtain ⟨r, rfl, _⟩ := h
    rfl
  obtain ⟨r, rfl, hn, hb, q⟩ := h
  have hs := sgl_ne (c := r.2.2) hn
  have hl := sgl_lt hn hb
  obtain ⟨a, b, c⟩ := r
  dsimp only at *
  refine ⟨_, (pss_cons (ps_set (i := 3) sc_line_form.nd rfl (by first | exact Or.inl rfl | exact Or.inr rfl) (pc d_common_divisor (hr.mono (by decide)) (pa_cons (pc d_common_divisor (hr.mono (by decide)) (pa_cons (pv 0) (pa_cons (pv 1) pa_nil))) (pa_cons (pv 2) pa_nil))))
    (pss_cons (ps_if (PW.pt (pw_or (pt_cmpR (op_lt) (pv 0) pe_int (nomark _)) (pw_or1 (PW.pt (pw_and (pt_cmpR (op_eq) (pv 0) pe_int (nomark _)) (pw_and1 (pt_cmpR (op_lt) (pv 1) pe_int (nomark _)))))))) (pss_one (ps_set (i := 3) sc_line_form.nd rfl (by first | exact Or.inl rfl | exact Or.inr rfl) (pe_un un_neg (pv 3)))) pss_nil)
    (pss_one (ps_ret (pe_tup (pa_cons (pe_op op_fdivX (pv 0) (pv 3)) (pa_cons (pe_op op_fdivX (pv 1) (pv 3)) (pa_cons (pe_op op_fdivX (pv 2) (pv 3)) pa_nil)))))))), ?_⟩
  refine ⟨_, rfl, _, rfl, _, _, rfl, _, rfl, _, _, rfl, ?_⟩
  have hc : CDivX a (sgl a b c) ∧ CDivX b (sgl a b c) ∧ CDivX c (sgl a b c) := ⟨divX hs hl (by decide) (by decide), divX hs hl (by decide) (by decide), divX hs hl (by decide) (by decide)⟩
  have fin : ∀ H' v, Same H H' → IsT K H' v (a.fdiv (sgl a b c), b.fdiv (sgl a b c), c.fdiv (sgl a b c)) → Q v H' := q
  have neg : sgl a b c = -(g3 a b c) → (tAsg (tUn (rU fun i => .int (-i)) (tVar 3)) (gName 3)) { nx := tRet (tTup (tCons (tOp (rI CDivX fun i j => .int (i.fdiv j)) (tVar 0) (tVar 3)) (tCons (tOp (rI CDivX fun i j => .int (i.fdiv j)) (tVar 1) (tVar 3)) (tCons (tOp (rI CDivX fun i j => .int (i.fdiv j)) (tVar 2) (tVar 3)) tNil)))) { nx := fun _ H' => Q .non H', rt := Q }, rt := Q } [some (.int a), some (.int b), some (.int c), some (.int (g3 a b c))] H := fun es => by
    refine ⟨_, rfl, _, rfl, ?_⟩
    rw [es] at hc fin
    refine ⟨_, rfl, _, rfl, _, _, rfl, rfl, hc.1, _, rfl, _, rfl, _, _, rfl, rfl, hc.2.1, _, rfl, _, rfl, _, _, rfl, rfl, hc.2.2, (by show 3 ≤ sizeLine; decide), fun p hp => ?_⟩
    exact fin _ _ (same_new hp _) IsT.new
  have pos : sgl a b c = g3 a b c → (tRet (tTup (tCons (tOp (rI CDivX fun i j => .int (i.fdiv j)) (tVar 0) (tVar 3)) (tCons (tOp (rI CDivX fun i j => .int (i.fdiv j)) (tVar 1) (tVar 3)) (tCons (tOp (rI CDivX fun i j => .int (i.fdiv j)) (tVar 2) (tVar 3)) tNil))))) { nx := fun _ H' => Q .non H', rt := Q } [some (.int a), some (.int b), some (.int c), some (.int (g3 a b c))] H := fun es => by
    rw [es] at hc fin
    refine ⟨_, rfl, _, rfl, _, _, rfl, rfl, hc.1, _, rfl, _, rfl, _, _, rfl, rfl, hc.2.1, _, rfl, _, rfl, _, _, rfl, rfl, hc.2.2, (by show 3 ≤ sizeLine; decide), fun p hp => ?_⟩
    exact fin _ _ (same_new hp _) IsT.new
  refine ⟨_, rfl, _, _, rfl, rfl, _, rfl, ?_⟩
  refine ite2 (fun c1 => ?_) (fun c1 => ?_)
  · refine iteT (neg ?_)
    exact if_pos (.inl (of_decide_eq_true c1))
  · have n1 : ¬ a < 0 := of_decide_eq_false (Bool.eq_false_iff.mpr c1)
    refine ⟨_, rfl, rfl, _, rfl, ?_⟩
    refine ite2 (fun c2 => ?_) (fun c2 => ?_)
    · have e2 : a = 0 := V.int.inj (of_decide_eq_true c2)
      refine ⟨_, rfl, _, _, rfl, rfl, _, rfl, ?_⟩
      refine ite2 (fun c3 => ?_) (fun c3 => ?_)
      · exact neg (if_pos (.inr ⟨e2, of_decide_eq_true c3⟩))
      · exact pos (if_neg (by
          have := of_decide_eq_false (Bool.eq_false_iff.mpr c3)
          rintro (z | ⟨_, z⟩)
          · exact n1 z
          · exact this z))
    · have n2 : ¬ a = 0 := fun z => c2 (decide_eq_true (congrArg V.int z))
      refine iteF (pos (if_neg ?_))
      rintro (z | ⟨z, _⟩)
      · exact n1 z
      · exact n2 z
def sp_on (K : PySem.W.Frag) : Sp := fun vs H Q _ => ∃ vz vl z l, vs = [vz, vl] ∧ IsT K H vz z ∧ IsT K H vl l ∧ B 8000 z ∧ B 8000 l ∧ Q (.bl (decide (on l z))) H
theorem ok_is_on_line {f : Addr} {fd : FuncData} (F : Fun K "is_on_line" "is_on_line" s_is_on_line f fd) : FnOk P w K mg base CX0 1 f fd ["spot", "line"] (sp_on K) := by
  refine F.ok sc_is_on_line (fun vs H Q E h => ?_) (fun cdv A outer s H vs Q E hr h => ?_)
  · obtain ⟨vz, vl, z, l, rfl, _⟩ := h
    rfl
  obtain ⟨vz, vl, ⟨x, y, d⟩, ⟨a, b, c⟩, rfl, ⟨pz, rfl, tz⟩, ⟨pl, rfl, tl⟩, ⟨z1, z2, z3⟩, ⟨l1, l2, l3⟩, q⟩ := h
  refine ⟨_, (pss_cons (ps_asg (pv 0) (pg_tup rfl (pgs_cons (pg_name (i := 2) sc_is_on_line.nd rfl (by first | exact Or.inl rfl | exact Or.inr rfl)) (pgs_cons (pg_name (i := 3) sc_is_on_line.nd rfl (by first | exact Or.inl rfl | exact Or.inr rfl)) (pgs_cons (pg_name (i := 4) sc_is_on_line.nd rfl (by first | exact Or.inl rfl | exact Or.inr rfl)) pgs_nil)))))
    (pss_cons (ps_asg (pv 1) (pg_tup rfl (pgs_cons (pg_name (i := 5) sc_is_on_line.nd rfl (by first | exact Or.inl rfl | exact Or.inr rfl)) (pgs_cons (pg_name (i := 6) sc_is_on_line.nd rfl (by first | exact Or.inl rfl | exact Or.inr rfl)) (pgs_cons (pg_name (i := 7) sc_is_on_line.nd rfl (by first | exact Or.inl rfl | exact Or.inr rfl)) pgs_nil)))))
    (pss_one (ps_ret (pe_cmpR (op_eq) (pe_op op_add (pe_op op_mulW (pv 5) (pv 2)) (pe_op op_mulW (pv 6) (pv 3))) (pe_op op_mulW (pv 7) (pv 4)) (nomark _)))))), ?_⟩
  refine ⟨_, rfl, _, _, rfl, tz, rfl, _, _, rfl, _, _, rfl, _, _, rfl, rfl, ?_⟩
  refine ⟨_, rfl, _, _, rfl, tl, rfl, _, _, rfl, _, _, rfl, _, _, rfl, rfl, ?_⟩
  refine ⟨_, rfl, _, rfl, _, _, rfl, rfl, mulW l1 z1, _, rfl, _, rfl, _, _, rfl, rfl, mulW l2 z2, _, _, rfl, rfl, _, rfl, _, rfl, _, _, rfl, rfl, mulW l3 z3, rfl, ?_⟩
  rw [dI]
  exact q
def sp_par (K : PySem.W.Frag) : Sp := fun vs H Q _ => ∃ vl vm l m, vs = [vl, vm] ∧ IsT K H vl l ∧ IsT K H vm m ∧ B 8000 l ∧ B 8000 m ∧ Q (.bl (decide (l.1 * m.2.1 = m.1 * l.2.1))) H
theorem ok_are_parallel {f : Addr} {fd : FuncData} (F : Fun K "are_parallel" "are_parallel" s_are_parallel f fd) : FnOk P w K mg base CX0 1 f fd ["one", "other"] (sp_par K) := by
  refine F.ok sc_are_parallel (fun vs H Q E h => ?_) (fun cdv A outer s H vs Q E hr h => ?_)
  · obtain ⟨vl, vm, l, m, rfl, _⟩ := h
    rfl
  obtain ⟨vl, vm, ⟨a, b, c⟩, ⟨u, v, w'⟩, rfl, ⟨pl, rfl, tl⟩, ⟨pm, rfl, tm⟩, ⟨l1, l2, l3⟩, ⟨m1, m2, m3⟩, q⟩ := h
  refine ⟨_, (pss_one (ps_ret (pe_cmpR (op_eq) (pe_op op_mulW (pe_ix (r := rIxT K) ix_tup (pv 0) pe_int (fun _ _ => rfl)) (pe_ix (r := rIxT K) ix_tup (pv 1) pe_int (fun _ _ => rfl))) (pe_op op_mulW (pe_ix (r := rIxT K) ix_tup (pv 1) pe_int (fun _ _ => rfl)) (pe_ix (r := rIxT K) ix_tup (pv 0) pe_int (fun _ _ => rfl))) (nomark _)))), ?_⟩
  refine ⟨_, rfl, _, _, _, _, rfl, rfl, tl, by rfl, _, rfl, _, _, _, _, rfl, rfl, tm, by rfl, _, _, rfl, rfl, mulW l1 m2, _, rfl, _, _, _, _, rfl, rfl, tm, by rfl, _, rfl, _, _, _, _, rfl, rfl, tl, by rfl, _, _, rfl, rfl, mulW m1 l2, rfl, ?_⟩
  rw [dI]
  exact q
def sp_cross (K : PySem.W.Frag) : Sp := fun vs H Q _ => ∃ vl vm l m, vs = [vl, vm] ∧ IsT K H vl l ∧ IsT K H vm m ∧ B 4000 l ∧ B 4000 m ∧ l.1 * m.2.1 ≠ m.1 * l.2.1 ∧ ∀ H' v, Same H H' → IsT K H' v (cross l m) → Q v H'
theorem ok_crossing {f : Addr} {fd : FuncData} (d_spot_at : D P w K mg base "spot_at" 2 (sp_low K)) (F : Fun K "crossing" "crossing" s_crossing f fd) : FnOk P w K mg base CX0 3 f fd ["one", "other"] (sp_cross K) := by
  refine F.ok sc_crossing (fun vs H Q E h => ?_) (fun cdv A outer s H vs Q E hr h => ?_)
  · obtain ⟨vl, vm, l, m, rfl, _⟩ := h
    rfl
  obtain ⟨vl, vm, ⟨a, b, c⟩, ⟨u, v, w'⟩, rfl, ⟨pl, rfl, tl⟩, ⟨pm, rfl, tm⟩, ⟨l1, l2, l3⟩, ⟨m1, m2, m3⟩, hd, q⟩ := h
  dsimp only at hd
  refine ⟨_, (pss_cons (ps_asg (pv 0) (pg_tup rfl (pgs_cons (pg_name (i := 2) sc_crossing.nd rfl (by first | exact Or.inl rfl | exact Or.inr rfl)) (pgs_cons (pg_name (i := 3) sc_crossing.nd rfl (by first | exact Or.inl rfl | exact Or.inr rfl)) (pgs_cons (pg_name (i := 4) sc_crossing.nd rfl (by first | exact Or.inl rfl | exact Or.inr rfl)) pgs_nil)))))
    (pss_cons (ps_asg (pv 1) (pg_tup rfl (pgs_cons (pg_name (i := 5) sc_crossing.nd rfl (by first | exact Or.inl rfl | exact Or.inr rfl)) (pgs_cons (pg_name (i := 6) sc_crossing.nd rfl (by first | exact Or.inl rfl | exact Or.inr rfl)) (pgs_cons (pg_name (i := 7) sc_crossing.nd rfl (by first | exact Or.inl rfl | exact Or.inr rfl)) pgs_nil)))))
    (pss_one (ps_ret (pc d_spot_at (hr.mono (by decide)) (pa_cons (pe_op op_sub (pe_op op_mulW (pv 4) (pv 6)) (pe_op op_mulW (pv 7) (pv 3))) (pa_cons (pe_op op_sub (pe_op op_mulW (pv 2) (pv 7)) (pe_op op_mulW (pv 5) (pv 4))) (pa_cons (pe_op op_sub (pe_op op_mulW (pv 2) (pv 6)) (pe_op op_mulW (pv 5) (pv 3))) pa_nil)))))))), ?_⟩
  refine ⟨_, rfl, _, _, rfl, tl, rfl, _, _, rfl, _, _, rfl, _, _, rfl, rfl, ?_⟩
  refine ⟨_, rfl, _, _, rfl, tm, rfl, _, _, rfl, _, _, rfl, _, _, rfl, rfl, ?_⟩
  refine ⟨_, rfl, _, rfl, _, _, rfl, rfl, mulW l3 m2, _, rfl, _, rfl, _, _, rfl, rfl, mulW m3 l2, _, _, rfl, rfl, ?_⟩
  refine ⟨_, rfl, _, rfl, _, _, rfl, rfl, mulW l1 m3, _, rfl, _, rfl, _, _, rfl, rfl, mulW m1 l3, _, _, rfl, rfl, ?_⟩
  refine ⟨_, rfl, _, rfl, _, _, rfl, rfl, mulW l1 m2, _, rfl, _, rfl, _, _, rfl, rfl, mulW m1 l2, _, _, rfl, rfl, ?_⟩
  exact ⟨_, _, _, rfl, (fun z => hd (Int.sub_eq_zero.mp z)), up_lt (by decide) (sub_lt (mul_lt l1 m2) (mul_lt m1 l2)), q⟩
/-- a list of tuples of three ints -/
def IsTL (K : PySem.W.Frag) (H : Hp) (L : Addr) (ts : List T3) : Prop := ∃ ps : List Addr, H L = some (.lst (ps.map V.ref)) ∧ Paired (fun p t => SqT K H p (v3 t)) ps ts
theorem IsTL.same {H H' : Hp} {L : Addr} {ts : List T3} (h : IsTL K H L ts) (s : Same H H') : IsTL K H' L ts := by
  obtain ⟨ps, h1, h2⟩ := h
  exact ⟨ps, s _ _ h1, paired_imp (fun p t z => same_T s z) h2⟩
theorem m1000 {a b : Int} (ha : a.natAbs < 2 ^ 1000) (hb : b.natAbs < 2 ^ 1000) : (a * b).natAbs < 2 ^ (1999 + 1) := mul_lt (n := 1000) (m := 1000) ha hb
def sp_eqs (K : PySem.W.Frag) : Sp := fun vs H Q _ => ∃ vr vu vg R U G, vs = [vr, vu, vg] ∧ IsT K H vr R ∧ IsT K H vu U ∧ IsT K H vg G ∧ B 1000 R ∧ B 1000 U ∧ B 1000 G ∧ ∀ H' L, Same H H' → IsTL K H' L (eqs R U G) → Q (.ref L) H'
end
end My

namespace My
open PySem L2 Mth
abbrev s_Drawing___init__ : Stmt := inClass (topS 25) 0
theorem sc_Drawing___init__ : FnScope ["self", "strokes"] ["self", "strokes"] (defScope s_Drawing___init__) := ⟨rfl, rfl, rfl, by decide +kernel, rfl, by decide +kernel, by decide +kernel⟩
abbrev s_check_strokes : Stmt := topS 28
theorem sc_check_strokes : FnScope ["strokes", "index", "stroke"] ["strokes"] (defScope s_check_strokes) := ⟨rfl, rfl, rfl, by decide +kernel, rfl, by decide +kernel, by decide +kernel⟩
section
variable {P : Program} {w : World} {K : PySem.W.Frag} {mg : Str → Option Value} {base : Heap}
/-! ### drawings -/
def AllSt (K : PySem.W.Frag) (H : Hp) (vs : List V) (zss : List (List T3)) : Prop := Paired (IsSt K H) vs zss
theorem AllSt.same {H H' : Hp} {vs : List V} {zss : List (List T3)} (h : AllSt K H vs zss) (s : Same H H') : AllSt K H' vs zss := pimp (fun _ _ i => i.same s) h
theorem AllSt.keep {H H' : Hp} {vs : List V} {zss : List (List T3)} {d : Addr} {ys : List V} (h : AllSt K H vs zss) (hd : H d = some (.lst ys)) (k : Keep d H H') : AllSt K H' vs zss := pimp (fun _ _ i => i.keep hd k) h
structure DrOk (zss : List (List T3)) : Prop where
  len : zss.length ≤ 12
  ok : ∀ zs ∈ zss, StOk zs
def sp_chk (K : PySem.W.Frag) : Sp := fun vs H Q _ => ∃ t us zss, vs = [.ref t] ∧ SqT K H t us ∧ AllSt K H us zss ∧ DrOk zss ∧ ∀ H', Same H H' → Q .non H'
theorem ok_check_strokes {f : Addr} {fd : FuncData} {tk : Tok} (b_enumerate : mg "enumerate" = none) (b_len : mg "len" = none) (m_MOST_STROKES : mg "MOST_STROKES" = some (.int 12 tk)) (d_is_stroke : D P w K mg base "is_stroke" 3 (sp_isst K))
    (F : Fun K "check_strokes" "check_strokes" s_check_strokes f fd) : FnOk P w K mg base CX0 4 f fd ["strokes"] (sp_chk K) := by
  refine F.ok sc_check_strokes (fun vs H Q E h => ?_) (fun cdv A outer s H vs Q E hr h => ?_)
  · obtain ⟨t, us, zss, rfl, _⟩ := h
    rfl
  obtain ⟨t, us, zss, rfl, hT, ha, ok, q⟩ := h
  refine ⟨_, (pss_cons (ps_for PassesOwn.never rfl (pi_enumT (by rfl) b_enumerate (pa_cons (pv 0) pa_nil)) (pg_tup rfl (pgs_cons (pg_name (i := 1) sc_check_strokes.nd rfl (by first | exact Or.inl rfl | exact Or.inr rfl)) (pgs_cons (pg_name (i := 2) sc_check_strokes.nd rfl (by first | exact Or.inl rfl | exact Or.inr rfl)) pgs_nil))) (pss_one (ps_if (pt_not (pt_val (pc d_is_stroke (hr.mono (by decide)) (pa_cons (pv 2) pa_nil)))) (pss_one (ps_never)) pss_nil)))
    (pss_one (ps_if (pt_cmpR (op_gt) (pe_callB call_len_seq (by rfl) b_len PySem.boot_len (pa_cons (pv 0) pa_nil)) (pe_glob (v := .int 12) (by rfl) m_MOST_STROKES ⟨_, rfl⟩) (nomark _)) (pss_one (ps_never)) pss_nil))), ?_⟩
  have hl := Paired.length ha
  refine ⟨_, rfl, t, us, rfl, hT, for_enumT (K := K) (a := t) (xs := us) (fun i σ H' => (∃ x y, σ = [some (.ref t), x, y]) ∧ Same H H') ⟨⟨none, none, rfl⟩, Same.refl _⟩ ?_ ?_ ?_⟩
  · rintro i σ H' _ ⟨_, s'⟩
    exact same_T s' hT
  · rintro i x σ H' T hx ⟨⟨y, z, rfl⟩, s'⟩ hn
    obtain ⟨zs, h1, h2⟩ := pget ha hx
    have sn := same_new hn (.tup [.int (i : Nat), x])
    refine ⟨T, _, rfl, .inl (.inl upd_same), rfl, _, _, rfl, _, _, rfl, rfl, ?_⟩
    refine ⟨_, rfl, _, zs, rfl, h2.same (s'.trans sn), ok.ok zs (List.mem_of_getElem? h1), fun H2 s2 => ⟨_, rfl, iteF ⟨⟨_, _, rfl⟩, s'.trans (sn.trans s2)⟩⟩⟩
  · rintro σ H' ⟨⟨y, z, rfl⟩, s'⟩
    refine ⟨_, rfl, t, us, rfl, .inr (same_T s' hT), _, _, rfl, rfl, _, rfl, ?_⟩
    rw [decide_eq_false (show ¬ ((12 : Int) < (us.length : Int)) by have := ok.len; omega)]
    exact iteF (q _ s')
def wf (a0 : Addr) : List (Str × V) := [("held", .ref a0)]
theorem wf_put {a0 : Addr} : putF "held" (.ref a0) ([]) = wf a0 := by
  simp only [putF, ]
  rfl
theorem wf_held {a0 : Addr} : (wf a0).lookup ("held" : Str) = some (.ref a0) := by
  unfold wf
  simp only [List.lookup, beq_self_eq_true]
structure WTxt (K : PySem.W.Frag) (C : Addr) : Prop where
  cl : Cls K C
  nH : NoAttr K C "held"
/-- a drawing as an object -/
def IsW (K : PySem.W.Frag) (CW : Addr) (H : Hp) (v : V) (zss : List (List T3)) : Prop := ∃ p dx t us, v = .ref p ∧ H p = some (.ins CW dx (wf t)) ∧ SqT K H t us ∧ AllSt K H us zss
theorem IsW.same {CW : Addr} {H H' : Hp} {v : V} {zss : List (List T3)} (h : IsW K CW H v zss) (e : Same H H') : IsW K CW H' v zss := by
  obtain ⟨p, dx, t, us, rfl, h1, h2, h3⟩ := h
  exact ⟨p, dx, t, us, rfl, e _ _ h1, same_T e h2, h3.same e⟩
theorem IsW.keep {CW : Addr} {H H' : Hp} {v : V} {zss : List (List T3)} {d : Addr} {ys : List V} (h : IsW K CW H v zss) (hd : H d = some (.lst ys)) (e : Keep d H H') : IsW K CW H' v zss := by
  obtain ⟨p, dx, t, us, rfl, h1, h2, h3⟩ := h
  exact ⟨p, dx, t, us, rfl, e _ _ (ne_of h1 hd (by intro z; cases z)) h1, keep_T h2 hd e, h3.keep hd e⟩
theorem IsSt.keepI {p dx CD : Addr} {fs : List (Str × V)} {H H' : Hp} {v : V} {zs : List T3} (h : IsSt K H v zs) (hd : H p = some (.ins CD dx fs)) (e : Keep p H H') : IsSt K H' v zs := by
  obtain ⟨t, us, rfl, h1, h2⟩ := h
  exact ⟨t, us, rfl, keepI_T h1 hd e, pimp (fun _ _ ⟨q, e', g⟩ => ⟨q, e', keepI_T g hd e⟩) h2⟩
def sp_win (K : PySem.W.Frag) (CW : Addr) : Sp := fun vs H Q _ => ∃ (H0 : Hp) (p dx t : Addr) (us : List V) (zss : List (List T3)), vs = [.ref p, .ref t] ∧ Same H0 H ∧ H0 p = none ∧ H p = some (.ins CW dx []) ∧ SqT K H t us ∧ AllSt K H0 us zss ∧ DrOk zss ∧ ∀ H', Same H0 H' → IsW K CW H' (.ref p) zss → Q .non H'
def sp_winit (K : PySem.W.Frag) (CW : Addr) : Sp := fun vs H Q E => ∃ ws rest, vs = ws ++ rest ∧ ws.length = (["self"] : List Str).length ∧ rest.length ≤ sizeLine ∧ ∀ p, H p = Option.none → sp_win K CW (ws ++ [V.ref p]) (upd H p (.tup rest)) Q E
theorem ok_winit {f CW : Addr} {fd : FuncData} (T : WTxt K CW) (d_check_strokes : D P w K mg base "check_strokes" 4 (sp_chk K))
    (F : Fun K "__init__" "Drawing.__init__" s_Drawing___init__ f fd) : FnR P w K mg base CX0 5 f (sp_winit K CW) := by
  refine fun_star (ps := ["self"]) (pv := "strokes") (sp := sp_win K CW) F sc_Drawing___init__ (fun kV doc pm an cdv ct => StX.bind_star1 (B := fun us => bindArgs (PySem.W.fnOf "__init__" "Drawing.__init__" (defArgs s_Drawing___init__) (defBody s_Drawing___init__) (defScope s_Drawing___init__) .none kV doc pm an cdv ct) ⟨us, []⟩) (fun a => rfl) (fun a r rs => rfl)) (fun cdv A outer s H vs Q E hr h => ?_)
  obtain ⟨H0, p, dx, t, us, zss, rfl, s0, p0, hp, hT, ha, ok, q⟩ := h
  refine ⟨_, (pss_cons (ps_expr (pc d_check_strokes (hr.mono (by decide)) (pa_cons (pv 1) pa_nil)))
    (pss_one (ps_fld (pv 0) (pv 1) rfl))), ?_⟩
  refine ⟨_, rfl, t, us, zss, rfl, hT, ha.same s0, ok, fun H1 s1 => ?_⟩
  have hp1 := s1 _ _ hp
  refine ⟨_, rfl, _, rfl, p, CW, dx, _, rfl, hp1, T.cl, T.nH, (by show 0 < 1000; decide), ?_⟩
  have k1 := keep_upd (d := p) (H := H1) (o := .ins CW dx (putF "held" (.ref t) []))
  refine q _ (fun y o e => ?_) ⟨p, dx, t, us, rfl, by rw [upd_same, wf_put], keepI_T (same_T s1 hT) hp1 k1, pimp (fun _ _ i => (i.same (s0.trans s1)).keepI hp1 k1) ha⟩
  have nc : y ≠ p := fun z => by rw [z, p0] at e; cases e
  rw [upd_ne nc]
  exact s1 _ _ (s0 _ _ e)
/-- the class as its users see it -/
structure DrawI (P : Program) (w : World) (K : PySem.W.Frag) (mg : Str → Option Value) (base : Heap) (CW f : Addr) : Prop where
  tx : WTxt K CW
  mkC : Mk K CW f
  ok : FnR P w K mg base CX0 5 f (sp_winit K CW)
  mgC : mg "Drawing" = some (.ref CW)
theorem mkw_of2 {CW : Addr} {H : Hp} {Qf : Addr → VK} {us : List V} {zss : List (List T3)} (ha : AllSt K H us zss) (ok : DrOk zss) (q : ∀ H' x, Same H H' → IsW K CW H' (.ref x) zss → Qf x .non H') :
    ∀ x dx, H x = none → H dx = none → dx ≠ x → sp_winit K CW (.ref x :: us) (upd (upd H dx (.own x)) x (.ins CW dx [])) (Qf x) E0 := by
  intro x dx hx hd _
  refine ⟨[.ref x], us, rfl, rfl, small (by have := Paired.length ha; have := ok.len; omega), fun t ht => ?_⟩
  have nt : x ≠ t := fun z => by rw [← z, upd_same] at ht; cases ht
  refine ⟨H, x, dx, t, us, zss, rfl, fun c o e => ?_, hx, by rw [upd_ne nt]; exact upd_same, .inl (.inl upd_same), ha, ok, fun H' s' i => q _ _ s' i⟩
  have e2 : upd (upd H dx (.own x)) x (.ins CW dx []) c = some o := by
    rw [upd_ne (ne_of_none e hx), upd_ne (ne_of_none e hd)]
    exact e
  rw [upd_ne (ne_of_none e2 ht)]
  exact e2
theorem mkw_of {CW : Addr} {H : Hp} {Q : VK} {us : List V} {zss : List (List T3)} (ha : AllSt K H us zss) (ok : DrOk zss) (q : ∀ H' r, Same H H' → IsW K CW H' r zss → Q r H') :
    ∀ x dx, H x = none → H dx = none → dx ≠ x → sp_winit K CW (.ref x :: us) (upd (upd H dx (.own x)) x (.ins CW dx [])) (fun v H2 => v = .non ∧ Q (.ref x) H2) E0 :=
  mkw_of2 (Qf := fun x v H2 => v = .non ∧ Q (.ref x) H2) ha ok fun H' x s i => ⟨rfl, q _ _ s i⟩
theorem drNil : DrOk [] := ⟨by decide, fun zs h => by cases h⟩
end
end My

namespace My
open PySem L2 Mth
abbrev s_Drawing___add__ : Stmt := inClass (topS 25) 5
theorem sc_Drawing___add__ : FnScope ["self", "other", "strokes"] ["self", "other"] (defScope s_Drawing___add__) := ⟨rfl, rfl, rfl, by decide +kernel, rfl, by decide +kernel, by decide +kernel⟩
section
variable {P : Program} {w : World} {K : PySem.W.Frag} {mg : Str → Option Value} {base : Heap}
def sp_wadd (K : PySem.W.Frag) (CW : Addr) : Sp := fun vs H Q _ => ∃ va as vb bs, vs = [va, vb] ∧ IsW K CW H va as ∧ IsW K CW H vb bs ∧ DrOk (as ++ bs) ∧ ∀ H' r, Same H H' → IsW K CW H' r (as ++ bs) → Q r H'
theorem ok_wadd {f fI CW : Addr} {fd : FuncData} (TW : DrawI P w K mg base CW fI) (F : Fun K "__add__" "Drawing.__add__" s_Drawing___add__ f fd) : FnOk P w K mg base CX0 7 f fd ["self", "other"] (sp_wadd K CW) := by
  refine F.ok sc_Drawing___add__ (fun vs H Q E h => ?_) (fun cdv A outer s H vs Q E hr h => ?_)
  · obtain ⟨va, as, vb, bs, rfl, _⟩ := h
    rfl
  obtain ⟨va, as, vb, bs, rfl, ⟨p, dx, t, us, rfl, h1, h2, h3⟩, ⟨p', dx', t', us', rfl, k1, k2, k3⟩, ok, q⟩ := h
  have T := TW.tx
  refine ⟨_, (pss_cons (ps_set (i := 2) sc_Drawing___add__.nd rfl (by first | exact Or.inl rfl | exact Or.inr rfl) (pe_lst (StX.pa_star (pe_fld (pv 0) rfl) (StX.pa_star (pe_fld (pv 1) rfl) pa_nil))))
    (pss_one (ps_ret (pe_makeS TW.mkC TW.ok (hr.mono (by decide)) (by rfl) TW.mgC (pv 2))))), ?_⟩
  have hl := Paired.length h3
  have hl' := Paired.length k3
  have ol := ok.len
  rw [List.length_append] at ol
  refine ⟨_, rfl, p, CW, dx, _, _, rfl, h1, T.cl, T.nH, wf_held, t, us, rfl, .inl h2, _, rfl, p', CW, dx', _, _, rfl, k1, T.cl, T.nH, wf_held, t', us', rfl, .inl k2, small (by simp only [List.length_append, List.length_nil]; omega), fun l hl => ?_⟩
  have s1 := same_new hl (.lst (us ++ (us' ++ [])))
  refine ⟨_, rfl, l, _, rfl, .inr (.inl (.inl upd_same)), ?_⟩
  rw [List.append_nil]
  rw [List.append_nil] at s1
  exact mkw_of (papp (h3.same s1) (k3.same s1)) ok fun H2 r2 s2 i2 => q _ _ (s1.trans s2) i2
structure MWa (P : Program) (w : World) (K : PySem.W.Frag) (mg : Str → Option Value) (base : Heap) (CW : Addr) : Prop where
  sf : PySem.W.selfFirst K CW = true
  ex : ∃ f, FnR P w K mg base CX0 7 f (sp_wadd K CW) ∧ PySem.W.findIn K (.ref CW) "__add__" = some (some (.ref f)) ∧ PySem.W.isFn K (.ref f) = true
theorem op_wadd {X : Cx} {CW : Addr} (M : MWa X.prog X.w X.K X.mg X.base CW) (hr : Room 7 X.A) : OpR X (binaryOp .Add) (rOwn2 CW (sp_wadd X.K CW)) := by
  obtain ⟨f, F, h1, h2⟩ := M.ex
  exact op_own (op := .Add) F hr M.sf h1 h2
theorem wadd_of {CW : Addr} {H : Hp} {Q : VK} {x y : V} {as bs : List (List T3)} (ix : IsW K CW H x as) (iy : IsW K CW H y bs) (ok : DrOk (as ++ bs)) (q : ∀ H' r, Same H H' → IsW K CW H' r (as ++ bs) → Q r H') : rOwn2 CW (sp_wadd K CW) x y H Q := by
  obtain ⟨p, dx, _, _, rfl, h1, _⟩ := id ix
  obtain ⟨p', dx', _, _, rfl, h1', _⟩ := id iy
  exact ⟨p, p', dx, _, dx', _, rfl, rfl, h1, h1', _, as, _, bs, rfl, ix, iy, ok, q⟩
end
end My

namespace My
open PySem L2 Mth
section
variable {K : PySem.W.Frag}
/-! ### strokes as data -/
def dSt (zs : List T3) : PyData := .tuple (zs.map d3)
theorem dps3 {H : Hp} : ∀ {us : List V} {zs : List T3}, Paired (IsT K H) us zs → DpAll K H us (zs.map d3)
  | _, _, .nil => .nil
  | _, _, .cons ⟨p, e, h⟩ t => by
    subst e
    exact .cons (Dp3 h) (dps3 t)
theorem dps_st {H : Hp} : ∀ {us : List V} {zss : List (List T3)}, AllSt K H us zss → DpAll K H us (zss.map dSt)
  | _, _, .nil => .nil
  | _, _, .cons ⟨p, ys, e, h1, h2⟩ t => by
    subst e
    exact .cons (.tup h1 (dps3 h2)) (dps_st t)
theorem can_st (zs : List T3) : (dSt zs).canLay0 = true ∧ (dSt zs).depth ≤ 60 := by
  constructor
  · show PyData.canLayAll0 (zs.map d3) = true
    refine canAll fun x hx => ?_
    obtain ⟨z, _, rfl⟩ := List.mem_map.mp hx
    rfl
  · show PyData.depthAll (zs.map d3) + 1 ≤ 60
    have := depAll (n := 5) (xs := zs.map d3) fun x hx => by
      obtain ⟨z, _, rfl⟩ := List.mem_map.mp hx
      show PyData.depth (d3 z) ≤ 5
      simp [d3, PyData.depth, PyData.depthAll]
    omega
theorem sh_st (zss : List (List T3)) : SeqAt.shaped (.tuple (zss.map dSt)) = true := by
  show (PyData.canLayAll0 (zss.map dSt) && decide (PyData.depthAll (zss.map dSt) + 1 ≤ 64)) = true
  rw [canAll (xs := zss.map dSt) (fun x hx => by obtain ⟨z, _, rfl⟩ := List.mem_map.mp hx; exact (can_st z).1), decide_eq_true (by have := depAll (n := 60) (xs := zss.map dSt) (fun x hx => by obtain ⟨z, _, rfl⟩ := List.mem_map.mp hx; exact (can_st z).2); omega)]
  rfl
theorem eqvT : ∀ (xs : List PyData), PyData.eqv (.tuple xs) (.tuple []) = xs.isEmpty
  | [] => rfl
  | _ :: _ => rfl
theorem eqvMap {α : Type} [DecidableEq α] {g : α → PyData} (h : ∀ a b, PyData.eqv (g a) (g b) = decide (a = b)) : ∀ as bs : List α, PyData.eqvAll (as.map g) (bs.map g) = decide (as = bs)
  | [], [] => rfl
  | [], _ :: _ => rfl
  | _ :: _, [] => rfl
  | a :: as, b :: bs => by
    show (PyData.eqv (g a) (g b) && PyData.eqvAll (as.map g) (bs.map g)) = _
    rw [h, eqvMap h as bs, ← Bool.decide_and]
    simp
theorem eqvSt (as bs : List T3) : PyData.eqv (dSt as) (dSt bs) = decide (as = bs) := eqvMap eqv3 as bs
theorem eqvSS (as bs : List (List T3)) : PyData.eqv (.tuple (as.map dSt)) (.tuple (bs.map dSt)) = decide (as = bs) := eqvMap eqvSt as bs
end
end My

namespace My
open PySem L2 Mth
abbrev s_Drawing___eq__ : Stmt := inClass (topS 25) 6
theorem sc_Drawing___eq__ : FnScope ["self", "other"] ["self", "other"] (defScope s_Drawing___eq__) := ⟨rfl, rfl, rfl, by decide +kernel, rfl, by decide +kernel, by decide +kernel⟩
abbrev s_Drawing___getitem__ : Stmt := inClass (topS 25) 3
theorem sc_Drawing___getitem__ : FnScope ["self", "at"] ["self", "at"] (defScope s_Drawing___getitem__) := ⟨rfl, rfl, rfl, by decide +kernel, rfl, by decide +kernel, by decide +kernel⟩
abbrev s_Drawing___len__ : Stmt := inClass (topS 25) 2
theorem sc_Drawing___len__ : FnScope ["self"] ["self"] (defScope s_Drawing___len__) := ⟨rfl, rfl, rfl, by decide +kernel, rfl, by decide +kernel, by decide +kernel⟩
section
variable {P : Program} {w : World} {K : PySem.W.Frag} {mg : Str → Option Value} {base : Heap}
/-! ### len, items and equality of drawings -/
def sp_wlen (K : PySem.W.Frag) (CW : Addr) : Sp := fun vs H Q _ => ∃ va zss, vs = [va] ∧ IsW K CW H va zss ∧ Q (.int (zss.length : Nat)) H
theorem ok_wlen {f CW : Addr} {fd : FuncData} (T : WTxt K CW) (b_len : mg "len" = none) (F : Fun K "__len__" "Drawing.__len__" s_Drawing___len__ f fd) : FnOk P w K mg base CX0 1 f fd ["self"] (sp_wlen K CW) := by
  refine F.ok sc_Drawing___len__ (fun vs H Q E h => ?_) (fun cdv A outer s H vs Q E hr h => ?_)
  · obtain ⟨va, zss, rfl, _⟩ := h
    rfl
  obtain ⟨va, zss, rfl, ⟨p, dx, t, us, rfl, h1, h2, h3⟩, q⟩ := h
  refine ⟨_, (pss_one (ps_ret (pe_callB call_len_seq (by rfl) b_len PySem.boot_len (pa_cons (pe_fld (pv 0) rfl) pa_nil)))), ?_⟩
  refine ⟨_, rfl, p, CW, dx, _, _, rfl, h1, T.cl, T.nH, wf_held, t, us, rfl, .inr h2, ?_⟩
  rw [Paired.length h3]
  exact q
def sp_wget (K : PySem.W.Frag) (CW : Addr) : Sp := fun vs H Q _ => ∃ va i zss zs, vs = [va, .int i] ∧ IsW K CW H va zss ∧ atI zss i = some zs ∧ ∀ v, IsSt K H v zs → Q v H
theorem pairedI {α β : Type} {R : α → β → Prop} {us : List α} {ts : List β} (h : Paired R us ts) {i : Int} {t : β} (e : atI ts i = some t) : ∃ u, atI us i = some u ∧ R u t := by
  have hl := Paired.length h
  unfold atI at *
  rw [hl]
  cases hx : ixN ts.length i with
  | none => rw [hx] at e; cases e
  | some j =>
    rw [hx] at e
    have e : ts[j]? = some t := e
    have lj := (List.getElem?_eq_some_iff.mp e).1
    obtain ⟨u, eu⟩ : ∃ u, us[j]? = some u := ⟨us[j]'(by omega), by simp⟩
    obtain ⟨t', et, r⟩ := pgt h eu
    rw [e] at et
    cases et
    exact ⟨u, eu, r⟩
theorem ok_wget {f CW : Addr} {fd : FuncData} (T : WTxt K CW) (F : Fun K "__getitem__" "Drawing.__getitem__" s_Drawing___getitem__ f fd) : FnOk P w K mg base CX0 1 f fd ["self", "at"] (sp_wget K CW) := by
  refine F.ok sc_Drawing___getitem__ (fun vs H Q E h => ?_) (fun cdv A outer s H vs Q E hr h => ?_)
  · obtain ⟨va, i, zss, zs, rfl, _⟩ := h
    rfl
  obtain ⟨va, i, zss, zs, rfl, ⟨p, dx, t, us, rfl, h1, h2, h3⟩, e, q⟩ := h
  refine ⟨_, (pss_one (ps_ret (pe_ix (r := rIxT K) ix_tup (pe_fld (pv 0) rfl) (pv 1) (fun _ _ => rfl)))), ?_⟩
  obtain ⟨u, eu, iu⟩ := pairedI h3 e
  exact ⟨_, rfl, p, CW, dx, _, _, rfl, h1, T.cl, T.nH, wf_held, _, rfl, t, us, i, u, rfl, rfl, h2, eu, q u iu⟩
structure WIs (K : PySem.W.Frag) (C : Addr) : Prop where
  ha : PySem.W.findIn K (.ref C) "__class__" = some (some (.builtin "object.__class__"))
  hn : PySem.W.specialIn K (.builtin "object.__class__") "__get__" = some (some (.builtin "getset_descriptor.__get__"))
  htk : PySem.W.takesIn K (.builtin "object.__class__") = some true
  hm : PySem.W.mroIn K C (.type "object") = some true
def sp_weq (K : PySem.W.Frag) (CW : Addr) : Sp := fun vs H Q _ => ∃ va as vb bs, vs = [va, vb] ∧ IsW K CW H va as ∧ IsW K CW H vb bs ∧ Q (.bl (decide (as = bs))) H
theorem ok_weq {f CW : Addr} {fd : FuncData} (T : WTxt K CW) (TI : WIs K CW) (mgW : mg "Drawing" = some (.ref CW)) (b_isinstance : mg "isinstance" = none) (F : Fun K "__eq__" "Drawing.__eq__" s_Drawing___eq__ f fd) : FnOk P w K mg base CX0 1 f fd ["self", "other"] (sp_weq K CW) := by
  refine F.ok sc_Drawing___eq__ (fun vs H Q E h => ?_) (fun cdv A outer s H vs Q E hr h => ?_)
  · obtain ⟨va, as, vb, bs, rfl, _⟩ := h
    rfl
  obtain ⟨va, as, vb, bs, rfl, ⟨p, dx, t, us, rfl, h1, h2, h3⟩, ⟨p', dx', t', us', rfl, k1, k2, k3⟩, q⟩ := h
  refine ⟨_, (pss_one (ps_ret (pe_and (pe_callB (r := rIsi K) call_isi (by rfl) b_isinstance (by decide +kernel) (pa_cons (pv 1) (pa_cons (pe_glob (v := .ref CW) (by rfl) mgW rfl) pa_nil))) (pe_one (pe_cmpR (r := rEqD K) (op_eqD hr.units) (pe_fld (pv 0) rfl) (pe_fld (pv 1) rfl) (nomark _)))))), ?_⟩
  refine ⟨_, rfl, _, _, _, _, true, rfl, .own CW, .base (.ins k1 T.cl TI.ha TI.hn TI.htk TI.hm), ?_, true, rfl, iteT ?_⟩
  · unfold PySem.W.kitOne; simp
  refine ⟨_, rfl, p, CW, dx, _, _, rfl, h1, T.cl, T.nH, wf_held, _, rfl, p', CW, dx', _, _, rfl, k1, T.cl, T.nH, wf_held, .tuple (as.map dSt), .tuple (bs.map dSt), .tup h2 (dps_st h3), .tup k2 (dps_st k3), sh_st as, sh_st bs, ?_⟩
  rw [eqvSS]
  exact q
def sp_weqI (K : PySem.W.Frag) (CW : Addr) : Sp := fun vs H Q _ => ∃ va as i, vs = [va, .int i] ∧ IsW K CW H va as ∧ Q (.bl false) H
theorem ok_weqI {f CW : Addr} {fd : FuncData} (T : WTxt K CW) (kI : PySem.W.kitOne K (.type "int") (.ref CW) = some false) (mgW : mg "Drawing" = some (.ref CW)) (b_isinstance : mg "isinstance" = none) (F : Fun K "__eq__" "Drawing.__eq__" s_Drawing___eq__ f fd) : FnOk P w K mg base CX0 1 f fd ["self", "other"] (sp_weqI K CW) := by
  refine F.ok sc_Drawing___eq__ (fun vs H Q E h => ?_) (fun cdv A outer s H vs Q E hr h => ?_)
  · obtain ⟨va, as, i, rfl, _⟩ := h
    rfl
  obtain ⟨va, as, i, rfl, iw, q⟩ := h
  refine ⟨_, (pss_one (ps_ret (pe_and (pe_callB (r := rIsi K) call_isi (by rfl) b_isinstance (by decide +kernel) (pa_cons (pv 1) (pa_cons (pe_glob (v := .ref CW) (by rfl) mgW rfl) pa_nil))) (pe_one (pe_cmpR (r := rEqD K) (op_eqD hr.units) (pe_fld (pv 0) rfl) (pe_fld (pv 1) rfl) (nomark _)))))), ?_⟩
  refine ⟨_, rfl, _, _, _, _, false, rfl, .own CW, .base (.int _), ?_, false, rfl, iteF q⟩
  exact kI
structure MWl (P : Program) (w : World) (K : PySem.W.Frag) (mg : Str → Option Value) (base : Heap) (CW : Addr) : Prop where
  ex : ∃ f, FnR P w K mg base CX0 1 f (sp_wlen K CW) ∧ PySem.W.findIn K (.ref CW) "__len__" = some (some (.ref f)) ∧ PySem.W.isFn K (.ref f) = true
theorem cr_wlen {X : Cx} {CW : Addr} (M : MWl X.prog X.w X.K X.mg X.base CW) (hr : Room 2 X.A) : CallR X (.builtin "len") (rLenO CW (sp_wlen X.K CW)) := by
  obtain ⟨f, F, h1, h2⟩ := M.ex
  exact cr_lenO F hr h1 h2
theorem wlen_of {CW : Addr} {H : Hp} {Q : VK} {v : V} {zss : List (List T3)} (i : IsW K CW H v zss) (h : zss.length ≤ 1000) (q : Q (.int (zss.length : Nat)) H) : rLenO CW (sp_wlen K CW) [v] H Q := by
  obtain ⟨p, dx, _, _, rfl, h1, _⟩ := id i
  exact ⟨p, dx, _, rfl, h1, _, zss, rfl, i, _, rfl, by omega, by omega, q⟩
structure MWg (P : Program) (w : World) (K : PySem.W.Frag) (mg : Str → Option Value) (base : Heap) (CW : Addr) : Prop where
  ex : ∃ f, FnR P w K mg base CX0 1 f (sp_wget K CW) ∧ PySem.W.findIn K (.ref CW) "__getitem__" = some (some (.ref f)) ∧ PySem.W.isFn K (.ref f) = true ∧ PySem.W.fnIn K f = true
theorem pe_wget {X : Cx} {CW : Addr} {a b : Expr} {ta tb : TE} {pos : Pos} (hK : X.K = K) (M : MWg X.prog X.w X.K X.mg X.base CW) (hr : Room 2 X.A) (ha : PE X a ta) (hb : PE X b tb)
    (hsl : ∀ o i, subscripted b true o i = runValue (.builtin "lifetime.subscript" ⟨[o, i], []⟩) := by intro _ _; rfl) : PE X (.Subscript a b pos) (tOp (rIxO CW (sp_wget K CW)) ta tb) := by
  subst hK
  obtain ⟨f, F, h1, h2, h3⟩ := M.ex
  exact pe_ixO F hr h1 h2 h3 ha hb hsl
theorem wget_of {CW : Addr} {H : Hp} {Q : VK} {v : V} {zss : List (List T3)} {zs : List T3} {i : Int} (iw : IsW K CW H v zss) (e : atI zss i = some zs) (q : ∀ u, IsSt K H u zs → Q u H) : rIxO CW (sp_wget K CW) v (.int i) H Q := by
  obtain ⟨p, dx, _, _, rfl, h1, _⟩ := id iw
  exact ⟨p, dx, _, i, rfl, rfl, h1, _, i, zss, zs, rfl, iw, e, q⟩
structure MWe (P : Program) (w : World) (K : PySem.W.Frag) (mg : Str → Option Value) (base : Heap) (CW : Addr) : Prop where
  ex : ∃ f, FnR P w K mg base CX0 1 f (sp_weq K CW) ∧ FnR P w K mg base CX0 1 f (sp_weqI K CW) ∧ PySem.W.findIn K (.ref CW) "__eq__" = some (some (.ref f)) ∧ PySem.W.isFn K (.ref f) = true
theorem op_weq {X : Cx} {CW : Addr} (M : MWe X.prog X.w X.K X.mg X.base CW) (hr : Room 1 X.A) : OpR X (compareOp .Eq) (rOwn2 CW (sp_weq X.K CW)) := by
  obtain ⟨f, F, _, h1, h2⟩ := M.ex
  exact eq_own F hr h1 h2
theorem weq_of {CW : Addr} {H : Hp} {Q : VK} {x y : V} {as bs : List (List T3)} (ix : IsW K CW H x as) (iy : IsW K CW H y bs) (q : Q (.bl (decide (as = bs))) H) : rOwn2 CW (sp_weq K CW) x y H Q := by
  obtain ⟨p, dx, _, _, rfl, h1, _⟩ := id ix
  obtain ⟨p', dx', _, _, rfl, h1', _⟩ := id iy
  exact ⟨p, p', dx, _, dx', _, rfl, rfl, h1, h1', _, as, _, bs, rfl, ix, iy, q⟩
end
end My

namespace My
open PySem L2 Mth LamX
section
variable {K : PySem.W.Frag}
/-! ### what stays when a lambda is made; the pairs that tell of an error -/
theorem extN_T {H H' : Hp} {p : Addr} {xs : List V} (h : SqT K H p xs) (e : ExtN H H') : SqT K H' p xs := by
  rcases h with (h | ⟨o, h⟩) | h
  · exact .inl (.inl (e _ _ h (fun ps z => by cases z)))
  · exact .inl (.inr ⟨o, e _ _ h (fun ps z => by cases z)⟩)
  · exact .inr h
theorem extN_L {H H' : Hp} {p : Addr} {xs : List V} (h : H p = some (.lst xs)) (e : ExtN H H') : H' p = some (.lst xs) := e _ _ h (fun ps z => by cases z)
theorem IsT.extN {H H' : Hp} {v : V} {t : T3} (h : IsT K H v t) (e : ExtN H H') : IsT K H' v t := by
  obtain ⟨p, rfl, q⟩ := h
  exact ⟨p, rfl, extN_T q e⟩
theorem TabS.keep {H H' : Hp} {P d : Addr} {q : Str} {ys : List V} (t : TabS H P q) (hd : H d = some (.lst ys)) (k : Keep d H H') : TabS H' P q := by
  obtain ⟨ps, h1, h2, h3⟩ := t
  refine ⟨ps, k _ _ (ne_of h1 hd (by intro z; cases z)) h1, h2, fun pos cv hc => ?_⟩
  obtain ⟨c, e1, e2⟩ := h3 pos cv hc
  exact ⟨c, e1, k _ _ (ne_of e2 hd (by intro z; cases z)) e2⟩
def dErr (n : Str) : PyData := .tuple [.str n, .int 0]
theorem shapedE {n : Str} (h : PyData.strOk n = true) : SeqAt.shaped (dErr n) = true := by
  show ((PyData.strOk n && (true && true)) && decide (_ ≤ 64)) = true
  rw [h]
  rfl
theorem eqvE (n : Str) : PyData.eqv (dErr n) (dErr n) = true := by simp [dErr, PyData.eqv, PyData.eqvAll]
end
end My

namespace My
open PySem L2 Mth LamX
section
variable {P : Program} {w : World} {K : PySem.W.Frag} {mg : Str → Option Value} {base : Heap}
def NotW (v : V) : Prop := v = .non ∨ (∃ b, v = .bl b) ∨ ∃ s, v = .str s
/-- is_whole of an int, a bool, None, a text -/
def sp_wholeA : Sp := fun vs H Q _ => ∃ v, vs = [v] ∧ ((∃ i, v = .int i ∧ Q (.bl true) H) ∨ (NotW v ∧ Q (.bl false) H))
theorem ok_is_wholeA {f : Addr} {fd : FuncData} (b_isinstance : mg "isinstance" = none) (b_int : mg "int" = none) (b_bool : mg "bool" = none) (F : Fun K "is_whole" "is_whole" s_is_whole f fd) : FnOk P w K mg base CX0 1 f fd ["value"] sp_wholeA := by
  refine F.ok sc_is_whole (fun vs H Q E h => ?_) (fun cdv A outer s H vs Q E hr h => ?_)
  · obtain ⟨v, rfl, _⟩ := h
    rfl
  obtain ⟨v, rfl, h⟩ := h
  refine ⟨_, (pss_one (ps_ret (pe_and (pe_callB (r := rIsi K) call_isi (by rfl) b_isinstance (by decide +kernel) (pa_cons (pv 0) (pa_cons (pe_bltn (v := .ty "int") (by rfl) b_int (by decide +kernel) rfl) pa_nil))) (pe_one (pe_not (pe_callB (r := rIsi K) call_isi (by rfl) b_isinstance (by decide +kernel) (pa_cons (pv 0) (pa_cons (pe_bltn (v := .ty "bool") (by rfl) b_bool (by decide +kernel) rfl) pa_nil)))))))), ?_⟩
  rcases h with ⟨i, rfl, q⟩ | ⟨rfl | ⟨b, rfl⟩ | ⟨x, rfl⟩, q⟩
  · refine ⟨_, rfl, _, _, _, _, _, rfl, .ty _, .base (.int i), kit_ty (by decide +kernel), true, rfl, iteT ?_⟩
    exact ⟨_, rfl, _, _, _, _, _, rfl, .ty _, .base (.int i), kit_ty (by decide +kernel), false, rfl, q⟩
  · exact ⟨_, rfl, _, _, _, _, _, rfl, .ty _, .base .non, kit_ty (by decide +kernel), false, rfl, iteF q⟩
  · refine ⟨_, rfl, _, _, _, _, _, rfl, .ty _, .base (.bl b), kit_ty (by decide +kernel), true, rfl, iteT ?_⟩
    exact ⟨_, rfl, _, _, _, _, _, rfl, .ty _, .base (.bl b), kit_ty (by decide +kernel), true, rfl, q⟩
  · exact ⟨_, rfl, _, _, _, _, _, rfl, .ty _, .base (.str x), kit_ty (by decide +kernel), false, rfl, iteF q⟩
/-- an own class over ValueError, to be raised -/
structure ExX (K : PySem.W.Frag) (mg : Str → Option Value) (x : Str) (C : Addr) : Prop where
  q : PySem.W.excIn K C [.type "ValueError", .type "Exception", .type "BaseException", .type "object"] "ValueError.__new__" = true
  k : PySem.W.keepIn K (.ref C) = true
  b : PySem.W.subIn K (.ref C) (.type "BaseException") = some true
  t : PySem.W.typeIn K (.ref C) = some (.type "type")
  g : mg x = some (.ref C)
end
end My

namespace My
open PySem L2 Mth
section
variable {K : PySem.W.Frag}
/-! ### pairs of spots -/
def IsPr (K : PySem.W.Frag) (H : Hp) (v : V) (p : Pr) : Prop := ∃ t a b, v = .ref t ∧ SqT K H t [.ref a, .ref b] ∧ SqT K H a (v3 p.1) ∧ SqT K H b (v3 p.2)
theorem IsPr.same {H H' : Hp} {v : V} {p : Pr} (h : IsPr K H v p) (s : Same H H') : IsPr K H' v p := by
  obtain ⟨t, a, b, rfl, h1, h2, h3⟩ := h
  exact ⟨t, a, b, rfl, same_T s h1, same_T s h2, same_T s h3⟩
theorem IsPr.keep {H H' : Hp} {v : V} {p : Pr} {d : Addr} {ys : List V} (h : IsPr K H v p) (hd : H d = some (.lst ys)) (s : Keep d H H') : IsPr K H' v p := by
  obtain ⟨t, a, b, rfl, h1, h2, h3⟩ := h
  exact ⟨t, a, b, rfl, keep_T h1 hd s, keep_T h2 hd s, keep_T h3 hd s⟩
def AllPr (K : PySem.W.Frag) (H : Hp) (vs : List V) (ps : List Pr) : Prop := Paired (IsPr K H) vs ps
theorem AllPr.same {H H' : Hp} {vs : List V} {ps : List Pr} (h : AllPr K H vs ps) (s : Same H H') : AllPr K H' vs ps := pimp (fun _ _ i => i.same s) h
theorem AllPr.keep {H H' : Hp} {vs : List V} {ps : List Pr} {d : Addr} {ys : List V} (h : AllPr K H vs ps) (hd : H d = some (.lst ys)) (s : Keep d H H') : AllPr K H' vs ps := pimp (fun _ _ i => i.keep hd s) h
structure PrIn (p : Pr) : Prop where
  ok : PrOk p
  ba : B 20 p.1
  bb : B 20 p.2
end
end My

namespace My
open PySem L2 Mth LamX
abbrev s_parting_scale : Stmt := topS 13
theorem sc_parting_scale : FnScope ["divisors", "most"] ["divisors"] (defScope s_parting_scale) := ⟨rfl, rfl, rfl, by decide +kernel, rfl, by decide +kernel, by decide +kernel⟩
section
variable {P : Program} {w : World} {K : PySem.W.Frag} {mg : Str → Option Value} {base : Heap}
/-! ### the scale that parts fractions -/
def sp_psc (K : PySem.W.Frag) : Sp := fun vs H Q _ => ∃ (l : Addr) (ns : List Int), vs = [.ref l] ∧ SqL K H l (ns.map V.int) ∧ (∀ n ∈ ns, n.natAbs < 2 ^ 4000) ∧ ∀ m : Int, (∀ y ∈ ns, y ≤ m) → m.natAbs < 2 ^ 4000 → Q (.int (m * m)) H
theorem ok_parting_scale {f : Addr} {fd : FuncData} (b_max : mg "max" = none) (F : Fun K "parting_scale" "parting_scale" s_parting_scale f fd) : FnOk P w K mg base CX0 1 f fd ["divisors"] (sp_psc K) := by
  refine F.ok sc_parting_scale (fun vs H Q E h => ?_) (fun cdv A outer s H vs Q E hr h => ?_)
  · obtain ⟨l, ns, rfl, _⟩ := h
    rfl
  obtain ⟨l, ns, rfl, hl, bd, q⟩ := h
  refine ⟨_, (pss_cons (ps_set (i := 1) sc_parting_scale.nd rfl (by first | exact Or.inl rfl | exact Or.inr rfl) (pe_maxE rfl (by rfl) b_max (pv 0) pe_int))
    (pss_one (ps_ret (pe_op op_mulW (pv 1) (pv 1))))), ?_⟩
  refine ⟨_, rfl, l, ns, rfl, hl, fun _ m h1 h2 => ?_, fun e => ?_⟩
  · exact ⟨_, rfl, _, rfl, _, _, rfl, rfl, mulW (a := 3999) (b := 3999) (bd m h1) (bd m h1), q m h2 (bd m h1)⟩
  · subst e
    exact ⟨_, rfl, _, rfl, _, _, rfl, rfl, mulW (a := 3999) (b := 3999) (by decide) (by decide), q 1 (fun y hy => by cases hy) (by decide)⟩
theorem small5 {n : Nat} (h : n ≤ 200000) : n < sizeLine := Nat.lt_of_le_of_lt h (by decide)
theorem zip_mem {α β : Type} {R : α → β → Prop} : ∀ {us : List α} {fs : List β}, Paired R us fs → ∀ {z : α × β}, z ∈ us.zip fs → R z.1 z.2
  | _, _, .nil, z, h => by cases h
  | _, _, .cons r t, z, h => by
    rcases List.mem_cons.mp h with rfl | h
    · exact r
    · exact zip_mem t h
theorem mem_zip {α β : Type} {R : α → β → Prop} : ∀ {ys : List (α × β)}, (∀ z ∈ ys, R z.1 z.2) → Paired R (ys.map (·.1)) (ys.map (·.2))
  | [], _ => .nil
  | y :: ys, h => .cons (h y (.head _)) (mem_zip fun z hz => h z (.tail _ hz))
end
end My

namespace My
open PySem L2 Mth LamX
abbrev s_ascending : Stmt := topS 15
theorem sc_ascending : FnScope ["spots", "scale", "spot"] ["spots"] (defScope s_ascending) := ⟨rfl, rfl, rfl, by decide +kernel, rfl, by decide +kernel, by decide +kernel⟩
abbrev s_ascending_pairs : Stmt := topS 16
theorem sc_ascending_pairs : FnScope ["pairs", "scale", "pair", "spot"] ["pairs"] (defScope s_ascending_pairs) := ⟨rfl, rfl, rfl, by decide +kernel, rfl, by decide +kernel, by decide +kernel⟩
abbrev s_precedes : Stmt := topS 12
theorem sc_precedes : FnScope ["one", "other", "x", "y", "d", "u", "v", "e"] ["one", "other"] (defScope s_precedes) := ⟨rfl, rfl, rfl, by decide +kernel, rfl, by decide +kernel, by decide +kernel⟩
abbrev s_scaled : Stmt := topS 14
theorem sc_scaled : FnScope ["spot", "scale", "x", "y", "d"] ["spot", "scale"] (defScope s_scaled) := ⟨rfl, rfl, rfl, by decide +kernel, rfl, by decide +kernel, by decide +kernel⟩
section
variable {P : Program} {w : World} {K : PySem.W.Frag} {mg : Str → Option Value} {base : Heap}
/-! ### spots in order -/
theorem u0 {k : Nat} {A : Around} (r : Room k A) : A.units < cLine := by have := r.un; omega
theorem lt2 (a b c d : Int) : ltII [a, b] [c, d] = decide (a < c ∨ (a = c ∧ b < d)) := ltII2 a b c d
def sp_prec (K : PySem.W.Frag) : Sp := fun vs H Q _ => ∃ va vb a b, vs = [va, vb] ∧ IsT K H va a ∧ IsT K H vb b ∧ B 8000 a ∧ B 8000 b ∧ ∀ H', Same H H' → Q (.bl (ltS a b)) H'
theorem ok_precedes {f : Addr} {fd : FuncData} (F : Fun K "precedes" "precedes" s_precedes f fd) : FnOk P w K mg base CX0 1 f fd ["one", "other"] (sp_prec K) := by
  refine F.ok sc_precedes (fun vs H Q E h => ?_) (fun cdv A outer s H vs Q E hr h => ?_)
  · obtain ⟨va, vb, a, b, rfl, _⟩ := h
    rfl
  obtain ⟨va, vb, a, b, rfl, ⟨pa, rfl, ta⟩, ⟨pb, rfl, tb⟩, ba, bb, q⟩ := h
  refine ⟨_, (pss_cons (ps_asg (pv 0) (pg_tup rfl (pgs_cons (pg_name (i := 2) sc_precedes.nd rfl (by first | exact Or.inl rfl | exact Or.inr rfl)) (pgs_cons (pg_name (i := 3) sc_precedes.nd rfl (by first | exact Or.inl rfl | exact Or.inr rfl)) (pgs_cons (pg_name (i := 4) sc_precedes.nd rfl (by first | exact Or.inl rfl | exact Or.inr rfl)) pgs_nil)))))
    (pss_cons (ps_asg (pv 1) (pg_tup rfl (pgs_cons (pg_name (i := 5) sc_precedes.nd rfl (by first | exact Or.inl rfl | exact Or.inr rfl)) (pgs_cons (pg_name (i := 6) sc_precedes.nd rfl (by first | exact Or.inl rfl | exact Or.inr rfl)) (pgs_cons (pg_name (i := 7) sc_precedes.nd rfl (by first | exact Or.inl rfl | exact Or.inr rfl)) pgs_nil)))))
    (pss_one (ps_ret (pe_cmpR (r := rLtT K) (op_ltT (u0 hr)) (pe_tup (pa_cons (pe_op op_mulW (pv 2) (pv 7)) (pa_cons (pe_op op_mulW (pv 3) (pv 7)) pa_nil))) (pe_tup (pa_cons (pe_op op_mulW (pv 5) (pv 4)) (pa_cons (pe_op op_mulW (pv 6) (pv 4)) pa_nil))) (nomark _)))))), ?_⟩
  refine ⟨_, rfl, pa, _, rfl, ta, rfl, _, _, rfl, _, _, rfl, _, _, rfl, rfl, ?_⟩
  refine ⟨_, rfl, pb, _, rfl, tb, rfl, _, _, rfl, _, _, rfl, _, _, rfl, rfl, ?_⟩
  refine ⟨_, rfl, _, rfl, _, _, rfl, rfl, mulW ba.1 bb.2.2, _, rfl, _, rfl, _, _, rfl, rfl, mulW ba.2.1 bb.2.2, (by show 2 ≤ sizeLine; decide), fun p1 hp1 => ?_⟩
  have s1 := same_new hp1 (.tup [.int (a.1 * b.2.2), .int (a.2.1 * b.2.2)])
  refine ⟨_, rfl, _, rfl, _, _, rfl, rfl, mulW bb.1 ba.2.2, _, rfl, _, rfl, _, _, rfl, rfl, mulW bb.2.1 ba.2.2, (by show 2 ≤ sizeLine; decide), fun p2 hp2 => ?_⟩
  have s2 := same_new hp2 (.tup [.int (b.1 * a.2.2), .int (b.2.1 * a.2.2)])
  refine ⟨p1, p2, [a.1 * b.2.2, a.2.1 * b.2.2], [b.1 * a.2.2, b.2.1 * a.2.2], rfl, rfl, same_T s2 (.inl (.inl upd_same)), .inl (.inl upd_same), ?_⟩
  rw [lt2]
  exact q _ (s1.trans s2)
def sp_scl (K : PySem.W.Frag) : Sp := fun vs H Q _ => ∃ v z S, vs = [v, .int S] ∧ IsT K H v z ∧ 0 < z.2.2 ∧ B 4000 z ∧ S.natAbs < 2 ^ 8000 ∧ ∀ H' p, Same H H' → H' p = some (.tup [.int (sk S z).1, .int (sk S z).2]) → Q (.ref p) H'
theorem ok_scaled {f : Addr} {fd : FuncData} (F : Fun K "scaled" "scaled" s_scaled f fd) : FnOk P w K mg base CX0 1 f fd ["spot", "scale"] (sp_scl K) := by
  refine F.ok sc_scaled (fun vs H Q E h => ?_) (fun cdv A outer s H vs Q E hr h => ?_)
  · obtain ⟨v, z, S, rfl, _⟩ := h
    rfl
  obtain ⟨v, z, S, rfl, ⟨pz, rfl, tz⟩, z0, bz, bS, q⟩ := h
  refine ⟨_, (pss_cons (ps_asg (pv 0) (pg_tup rfl (pgs_cons (pg_name (i := 2) sc_scaled.nd rfl (by first | exact Or.inl rfl | exact Or.inr rfl)) (pgs_cons (pg_name (i := 3) sc_scaled.nd rfl (by first | exact Or.inl rfl | exact Or.inr rfl)) (pgs_cons (pg_name (i := 4) sc_scaled.nd rfl (by first | exact Or.inl rfl | exact Or.inr rfl)) pgs_nil)))))
    (pss_one (ps_ret (pe_tup (pa_cons (pe_op op_fdivX (pe_op op_mulW (pv 2) (pv 1)) (pv 4)) (pa_cons (pe_op op_fdivX (pe_op op_mulW (pv 3) (pv 1)) (pv 4)) pa_nil)))))), ?_⟩
  refine ⟨_, rfl, pz, _, rfl, tz, rfl, _, _, rfl, _, _, rfl, _, _, rfl, rfl, ?_⟩
  refine ⟨_, rfl, _, rfl, z.1, S, rfl, rfl, mulW (a := 3999) (b := 7999) bz.1 bS, _, rfl, z.1 * S, z.2.2, rfl, rfl, divX (b := 4000) (by omega) bz.2.2 (by decide) (by decide), ?_⟩
  refine ⟨_, rfl, _, rfl, z.2.1, S, rfl, rfl, mulW (a := 3999) (b := 7999) bz.2.1 bS, _, rfl, z.2.1 * S, z.2.2, rfl, rfl, divX (b := 4000) (by omega) bz.2.2 (by decide) (by decide), (by show 2 ≤ sizeLine; decide), fun p hp => ?_⟩
  exact q _ p (same_new hp _) upd_same
abbrev qAs : Str := ("ascending" ++ ".<locals>." : Str) ++ ("<lambda>" : Str)
abbrev qAp : Str := ("ascending_pairs" ++ ".<locals>." : Str) ++ ("<lambda>" : Str)
theorem nl_sk {α : Type} (k : α → Int × Int) : ∀ fs : List α, nlAll (fs.map fun g => PyData.tuple [.int (k g).1, .int (k g).2]) = true
  | [] => rfl
  | _ :: t => by
    show (nlB (.tuple _) && nlAll _) = true
    rw [nl_sk k t]
    rfl
structure SpsOk (zs : List T3) : Prop where
  le : zs.length ≤ 100000
  ok : ∀ z ∈ zs, Ok z
  bd : ∀ z ∈ zs, B 1000 z
def sp_ascS (K : PySem.W.Frag) (T : List (Addr × Str)) : Sp := fun vs H Q _ => ∃ (l : Addr) (us : List V) (zs : List T3), vs = [.ref l] ∧ H l = some (.lst us) ∧ Paired (IsT K H) us zs ∧ SpsOk zs ∧ Tabs T H ∧
  ∀ H' p us', ExtN H H' → Tabs T H' → (∀ b xs, H b = some (.lst xs) → b ≠ p) → H' p = some (.lst us') → Paired (IsT K H') us' (asc zs) → Q (.ref p) H'
theorem ok_ascending {f cA PA : Addr} {T : List (Addr × Str)} {oc kV doc pm ct : Value} {od an : Option Addr} {osl : Array (Option Value)} (b_sorted : mg "sorted" = none) (d_parting_scale : D P w K mg base "parting_scale" 1 (sp_psc K)) (d_scaled : D P w K mg base "scaled" 1 (sp_scl K))
    (hmT : (PA, qAs) ∈ T) (hu : ∀ p ∈ T, p.1 = PA → p.2 = qAs) (TB : TabB base mg cA PA) (lk : K.lookup f = some ⟨oc, od, .func (PySem.W.fnOf "ascending" "ascending" (defArgs s_ascending) (defBody s_ascending) (defScope s_ascending) .none kV doc pm an (.ref cA) ct), osl⟩) (hcd : PySem.W.codeIn K (.ref cA) "ascending" = true) :
    FnOk P w K mg base CX0 5 f (PySem.W.fnOf "ascending" "ascending" (defArgs s_ascending) (defBody s_ascending) (defScope s_ascending) .none kV doc pm an (.ref cA) ct) ["spots"] (sp_ascS K T) := by
  refine fn_of lk hcd sc_ascending (fun vs H Q E h => ?_) (fun A outer s H vs Q E hr h => ?_)
  · obtain ⟨l, us, zs, rfl, _⟩ := h
    rfl
  obtain ⟨l, us, zs, rfl, hl, hA, ok, hT, q⟩ := h
  refine ⟨_, (pss_cons (ps_set (i := 1) sc_ascending.nd rfl (by first | exact Or.inl rfl | exact Or.inr rfl) (pc d_parting_scale (hr.mono (by decide)) (pa_cons (pe_lc (own := [("spot", 2)]) (g := gName 2) (tt := tYes) (by rfl) sc_ascending.nd (pi_list (pv 0)) (blkOk_by (own := [("spot", 2)]) (N := ["spots", "scale", "spot"]) (sc := defScope s_ascending) (by decide +kernel)) (fun _ _ _ _ _ => (pg_name (i := 2) sc_ascending.nd rfl (by first | exact Or.inl rfl | exact Or.inr rfl))) (fun _ _ _ _ _ => pts_nil) (fun _ _ _ _ _ => (pe_ix (r := rIxT K) ix_tup (pv 2) pe_int (fun _ _ => rfl)))) pa_nil)))
    (pss_one (ps_ret (pe_sortL (T := T) (c := cA) (P := PA) (k := 1) (by rfl) b_sorted (pv 0) TB (by rfl) hmT hu (hr.mono (by decide)) (u65 hr) (nm := "one") (show LamS1 (defScope s_ascending) _ _ from lamS1_by (by decide +kernel)) (show ¬ ("one" : Str) ∈ (["spots", "scale", "spot"] : List Str) from by decide) (by rfl) (fun _ _ _ _ _ v => by rfl) (fun A outer s H f c' hr' => pc d_scaled hr' (pa_cons (pv 3) (pa_cons (pv 1) pa_nil))))))), ?_⟩
  have hlen := Paired.length hA
  refine ⟨_, rfl, l, rfl, ⟨_, .inl (.inl hl)⟩, fun L hL => lc_list (K := K) (a := l) (xs := us) (fun i H' => Same H H' ∧ H' L = some (.lst ((zs.take i).map fun z => V.int z.2.2))) ⟨same_new hL _, by rw [upd_same]; rfl⟩ ?_ ?_ ?_⟩
  · rintro i H' hi ⟨s', _⟩
    exact .inl (.inl (s' _ _ hl))
  · rintro i x H' hx ⟨s', hb⟩
    obtain ⟨z, ez, pz, rfl, iz⟩ := pgt hA hx
    refine ⟨rfl, yes_of ?_⟩
    have li := (List.getElem?_eq_some_iff.mp hx).1
    have le := ok.le
    refine ⟨_, rfl, pz, _, 2, _, rfl, rfl, same_T s' iz, rfl, _, hb, ?_, ?_⟩
    · rw [List.length_map, List.length_take]
      exact small5 (by omega)
    · refine ⟨fun b o e => ?_, ?_⟩
      · rw [upd_ne (ne_of_none e hL)]
        exact s' _ _ e
      · rw [upd_same, List.take_succ, ez, List.map_append]
        rfl
  rintro H1 ⟨s1, hb⟩
  rw [hlen, List.take_length] at hb
  have bq : ∀ n ∈ zs.map (fun z : T3 => z.2.2), n.natAbs < 2 ^ 4000 := fun n hn => by
    obtain ⟨g, hg, rfl⟩ := List.mem_map.mp hn
    exact Nat.lt_of_lt_of_le (ok.bd g hg).2.2 (Nat.pow_le_pow_right (by decide) (by decide))
  refine ⟨_, zs.map (fun z : T3 => z.2.2), rfl, .inl (.inl (by rw [hb, List.map_map]; rfl)), bq, fun m hmax bm => ?_⟩
  have hm0 : ∀ z ∈ zs, z.2.2 ≤ m := fun z hz => hmax _ (List.mem_map.mpr ⟨z, hz, rfl⟩)
  refine ⟨_, rfl, l, rfl, hT.ext s1, fun H2 eN T2 => ?_⟩
  have hA2 : Paired (IsT K H2) us zs := pimp (fun _ _ i => (i.same s1).extN eN) hA
  have ez : us.zip (zs.map fun z => PyData.tuple [.int (sk (m * m) z).1, .int (sk (m * m) z).2]) = (us.zip zs).map fun q => (q.1, PyData.tuple [.int (sk (m * m) q.2).1, .int (sk (m * m) q.2).2]) := by
    rw [List.zip_map_right]
    rfl
  refine ⟨us, zs.map fun z => .tuple [.int (sk (m * m) z).1, .int (sk (m * m) z).2], .inl (.inl (extN_L (s1 _ _ hl) eN)), by rw [List.length_map, hlen], ?_, ?_, nl_sk _ _, ?_, ?_, ?_⟩
  · intro d hd d' hd'
    obtain ⟨g, _, rfl⟩ := List.mem_map.mp hd
    obtain ⟨g', _, rfl⟩ := List.mem_map.mp hd'
    rfl
  · refine .inl fun d hd => ?_
    obtain ⟨g, _, rfl⟩ := List.mem_map.mp hd
    exact ⟨_, _, rfl⟩
  · intro d hd
    obtain ⟨g, _, rfl⟩ := List.mem_map.mp hd
    show (PyData.tuple _).depth ≤ 60
    simp [PyData.depth, PyData.depthAll]
  · intro i x d hx hd H3 s3
    obtain ⟨g, eg, pg, rfl, ig⟩ := pgt hA2 hx
    rw [List.getElem?_map, eg] at hd
    cases hd
    have hg := List.mem_of_getElem? eg
    have bg := ok.bd g hg
    refine ⟨.ref pg, rfl, .int (m * m), rfl, _, g, m * m, rfl, ⟨pg, rfl, same_T s3 ig⟩, (ok.ok g hg).1, bg.mono (by decide), mul_lt (n := 4000) (m := 4000) bm bm, fun H4 p4 s4 h4 => ⟨s4, ?_⟩⟩
    exact .tup (.inl (.inl h4)) (.cons (.int _) (.cons (.int _) .nil))
  · intro H5 p s5 hp h5
    have em := List.map_mergeSort (r := fun (a b : V × T3) => leS a.2 b.2) (s := PySem.W.dataLe false (·.2)) (f := fun q : V × T3 => (q.1, PyData.tuple [.int (sk (m * m) q.2).1, .int (sk (m * m) q.2).2])) (l := us.zip zs) (fun a ha b hb => by
      have := congrFun (congrFun (PySem.W.dataLe_ii (fun q : V × T3 => (sk (m * m) q.2).1) (fun q : V × T3 => (sk (m * m) q.2).2)) a) b
      rw [← sk_le (ok.ok _ (List.of_mem_zip ha).2) (ok.ok _ (List.of_mem_zip hb).2) (hm0 _ (List.of_mem_zip ha).2) (hm0 _ (List.of_mem_zip hb).2)]
      exact this.symm)
    rw [ez, ← em, List.map_map] at h5
    have ea : ((us.zip zs).mergeSort fun a b => leS a.2 b.2).map (·.2) = asc zs := by
      unfold asc
      rw [List.map_mergeSort (f := fun q : V × T3 => q.2) (s := leS) (fun _ _ _ _ => rfl), List.map_snd_zip (by omega)]
    have hp' : ((us.zip zs).mergeSort fun a b => leS a.2 b.2).Perm (us.zip zs) := List.mergeSort_perm _ _
    have pr := mem_zip (R := IsT K H5) (ys := (us.zip zs).mergeSort fun a b => leS a.2 b.2) fun q hq => (zip_mem hA2 (hp'.mem_iff.mp hq)).same s5
    rw [ea] at pr
    refine q H5 p _ ((ExtN.of s1).trans (eN.trans (ExtN.of s5))) (T2.ext s5) (fun b xs hb => ne_of_none (extN_L (s1 _ _ hb) eN) hp) h5 pr
theorem dataLt_kk {m : Int} {a b : T3} (ha : Ok a) (hb : Ok b) (am : a.2.2 ≤ m) (bm : b.2.2 ≤ m) : PySem.W.dataLt (.tuple [.int (sk (m * m) a).1, .int (sk (m * m) a).2]) (.tuple [.int (sk (m * m) b).1, .int (sk (m * m) b).2]) = ltS a b := by
  have h := sk_le hb ha bm am
  rw [PySem.W.dataLt_ii]
  have e : ltS a b = !leS b a := by rw [leS_not]; simp
  rw [e, ← h]
  by_cases c : (sk (m * m) a).1 < (sk (m * m) b).1 ∨ ((sk (m * m) a).1 = (sk (m * m) b).1 ∧ (sk (m * m) a).2 < (sk (m * m) b).2)
  · rw [decide_eq_true c, decide_eq_false (by omega)]; rfl
  · rw [decide_eq_false c, decide_eq_true (by omega)]; rfl
theorem eqv_kk {m : Int} {a b : T3} (ha : Ok a) (hb : Ok b) (am : a.2.2 ≤ m) (bm : b.2.2 ≤ m) : PyData.eqv (.tuple [.int (sk (m * m) a).1, .int (sk (m * m) a).2]) (.tuple [.int (sk (m * m) b).1, .int (sk (m * m) b).2]) = decide (a = b) := by
  by_cases h : a = b
  · subst h
    rw [decide_eq_true rfl]
    simp [PyData.eqv, PyData.eqvAll]
  · rw [decide_eq_false h]
    have hn : sk (m * m) a ≠ sk (m * m) b := fun e => h (sk_inj ha hb am bm e)
    simp only [PyData.eqv, PyData.eqvAll, Bool.and_true]
    by_cases h1 : (sk (m * m) a).1 = (sk (m * m) b).1
    · have h2 : (sk (m * m) a).2 ≠ (sk (m * m) b).2 := fun e => hn (Prod.ext h1 e)
      simp [h2]
    · simp [h1]
def kd (m : Int) (z : T3) : PyData := .tuple [.int (sk (m * m) z).1, .int (sk (m * m) z).2]
theorem dataLe_pp {m : Int} {p q : T3 × T3} (h1 : Ok p.1) (h2 : Ok p.2) (k1 : Ok q.1) (k2 : Ok q.2) (b1 : p.1.2.2 ≤ m) (b2 : p.2.2.2 ≤ m) (c1 : q.1.2.2 ≤ m) (c2 : q.2.2.2 ≤ m) :
    (!PySem.W.dataLt (.tuple [kd m q.1, kd m q.2]) (.tuple [kd m p.1, kd m p.2])) = leP p q := by
  unfold kd leP
  rw [PySem.W.dataLt_pair (by simp [PySem.W.alike, PySem.W.alikeAll]) (by simp [PySem.W.alike, PySem.W.alikeAll]), eqv_kk k1 h1 c1 b1, eqv_kk k2 h2 c2 b2, dataLt_kk k1 h1 c1 b1, dataLt_kk k2 h2 c2 b2]
  by_cases e : p.1 = q.1
  · rw [decide_eq_true e, decide_eq_true e.symm, if_pos rfl, e, ltS_self, Bool.false_or, Bool.true_and]
    by_cases e2 : q.2 = p.2
    · rw [decide_eq_true e2, if_pos rfl, e2, leS_self]; rfl
    · rw [decide_eq_false e2, if_neg Bool.false_ne_true, leS_not]
  · rw [decide_eq_false e, decide_eq_false (fun z => e z.symm), if_neg Bool.false_ne_true, Bool.false_and, Bool.or_false, ← leS_not, leS_ne h1 k1 e]
structure PrsOk (ps : List (T3 × T3)) : Prop where
  le : ps.length ≤ 90000
  ok : ∀ p ∈ ps, Ok p.1 ∧ Ok p.2
  bd : ∀ p ∈ ps, B 1000 p.1 ∧ B 1000 p.2
def dens (p : T3 × T3) : List Int := [p.1.2.2, p.2.2.2]
theorem dens_len : ∀ ps : List (T3 × T3), (ps.flatMap dens).length = 2 * ps.length
  | [] => rfl
  | p :: r => by rw [List.flatMap_cons, List.length_append, dens_len r, List.length_cons]; show 2 + _ = _; omega
theorem nl_kd (m : Int) : ∀ ps : List (T3 × T3), nlAll (ps.map fun p => PyData.tuple [kd m p.1, kd m p.2]) = true
  | [] => rfl
  | _ :: t => by
    show (nlB (.tuple _) && nlAll _) = true
    rw [nl_kd m t]
    rfl
def sp_ascP (K : PySem.W.Frag) (T : List (Addr × Str)) : Sp := fun vs H Q _ => ∃ (l : Addr) (us : List V) (ps : List (T3 × T3)), vs = [.ref l] ∧ H l = some (.lst us) ∧ Paired (IsPr K H) us ps ∧ PrsOk ps ∧ Tabs T H ∧
  ∀ H' p us', ExtN H H' → Tabs T H' → (∀ b xs, H b = some (.lst xs) → b ≠ p) → H' p = some (.lst us') → Paired (IsPr K H') us' (ascP ps) → Q (.ref p) H'
theorem ok_ascending_pairs {f cA PA : Addr} {T : List (Addr × Str)} {oc kV doc pm ct : Value} {od an : Option Addr} {osl : Array (Option Value)} (b_sorted : mg "sorted" = none) (d_parting_scale : D P w K mg base "parting_scale" 1 (sp_psc K)) (d_scaled : D P w K mg base "scaled" 1 (sp_scl K))
    (hmT : (PA, qAp) ∈ T) (hu : ∀ p ∈ T, p.1 = PA → p.2 = qAp) (TB : TabB base mg cA PA) (lk : K.lookup f = some ⟨oc, od, .func (PySem.W.fnOf "ascending_pairs" "ascending_pairs" (defArgs s_ascending_pairs) (defBody s_ascending_pairs) (defScope s_ascending_pairs) .none kV doc pm an (.ref cA) ct), osl⟩) (hcd : PySem.W.codeIn K (.ref cA) "ascending_pairs" = true) :
    FnOk P w K mg base CX0 5 f (PySem.W.fnOf "ascending_pairs" "ascending_pairs" (defArgs s_ascending_pairs) (defBody s_ascending_pairs) (defScope s_ascending_pairs) .none kV doc pm an (.ref cA) ct) ["pairs"] (sp_ascP K T) := by
  refine fn_of lk hcd sc_ascending_pairs (fun vs H Q E h => ?_) (fun A outer s H vs Q E hr h => ?_)
  · obtain ⟨l, us, zs, rfl, _⟩ := h
    rfl
  obtain ⟨l, us, ps, rfl, hl, hA, ok, hT, q⟩ := h
  refine ⟨_, (pss_cons (ps_set (i := 1) sc_ascending_pairs.nd rfl (by first | exact Or.inl rfl | exact Or.inr rfl) (pc d_parting_scale (hr.mono (by decide)) (pa_cons (pe_lc2 (wi1 := iTup K (tVar 2)) (own := [("pair", 2), ("spot", 3)]) (vs1 := [3]) (g := gName 2) (g1 := gName 3) (tt := tYes) (tt1 := tYes) (by rfl) sc_ascending_pairs.nd (pi_list (pv 0)) (blkOk_by (own := [("pair", 2), ("spot", 3)]) (N := ["pairs", "scale", "pair", "spot"]) (sc := defScope s_ascending_pairs) (by decide +kernel)) (by decide) (fun _ _ _ _ _ => (pg_name (i := 2) sc_ascending_pairs.nd rfl (by first | exact Or.inl rfl | exact Or.inr rfl))) (fun _ _ _ _ _ => pts_nil) (fun _ _ _ _ _ => (pi_tup (pv 2))) (fun _ _ _ _ _ => (pg_name (i := 3) sc_ascending_pairs.nd rfl (by first | exact Or.inl rfl | exact Or.inr rfl))) (fun _ _ _ _ _ => pts_nil) (fun _ _ _ _ _ => (pe_ix (r := rIxT K) ix_tup (pv 3) pe_int (fun _ _ => rfl)))) pa_nil)))
    (pss_one (ps_ret (pe_sortL (T := T) (c := cA) (P := PA) (k := 1) (by rfl) b_sorted (pv 0) TB (by rfl) hmT hu (hr.mono (by decide)) (u65 hr) (nm := "one") (show LamS1 (defScope s_ascending_pairs) _ _ from lamS1_by (by decide +kernel)) (show ¬ ("one" : Str) ∈ (["pairs", "scale", "pair", "spot"] : List Str) from by decide) (by rfl) (fun _ _ _ _ _ v => by rfl) (fun A outer s H f c' hr' => pe_tup (pa_cons (pc d_scaled hr' (pa_cons (pe_ix (r := rIxT K) ix_tup (pv 4) pe_int (fun _ _ => rfl)) (pa_cons (pv 1) pa_nil))) (pa_cons (pc d_scaled hr' (pa_cons (pe_ix (r := rIxT K) ix_tup (pv 4) pe_int (fun _ _ => rfl)) (pa_cons (pv 1) pa_nil))) pa_nil))))))), ?_⟩
  have hlen := Paired.length hA
  have le := ok.le
  refine ⟨_, rfl, l, rfl, ⟨_, .inl (.inl hl)⟩, fun L hL => lc2_list (K := K) (a := l) (xs := us) (fun i H' => Same H H' ∧ H' L = some (.lst (((ps.take i).flatMap dens).map V.int))) ⟨same_new hL _, by rw [upd_same]; rfl⟩ (fun i H' hi ⟨s', _⟩ => .inl (.inl (s' _ _ hl))) ?_ ?_⟩
  · rintro i x H' hx ⟨s', hb⟩
    obtain ⟨p, ep, t, a, b, rfl, h1, h2, h3⟩ := pgt hA hx
    refine ⟨rfl, yes_of ?_⟩
    refine ⟨_, rfl, t, rfl, ⟨_, same_T s' h1⟩, in_tup (K := K) (b := t) (ys := [.ref a, .ref b]) (fun j H2 => Same H H2 ∧ H2 L = some (.lst (((ps.take i).flatMap dens ++ (dens p).take j).map V.int))) ⟨s', by rw [hb]; simp⟩ (fun j H2 _ ⟨s2, _⟩ => same_T s2 h1) ?_ ?_⟩
    · rintro j x H2 hj ⟨s2, hb2⟩
      have lb : (((ps.take i).flatMap dens ++ (dens p).take j).map V.int).length < sizeLine := small5 (by
        rw [List.length_map, List.length_append, dens_len, List.length_take, List.length_take]
        have : (dens p).length = 2 := rfl
        omega)
      match j, hj with
      | 0, hj =>
        cases hj
        refine ⟨rfl, yes_of ?_⟩
        refine ⟨_, rfl, a, _, 2, _, rfl, rfl, same_T s2 h2, rfl, _, hb2, lb, fun b' o e => ?_, ?_⟩
        · rw [upd_ne (ne_of_none e hL)]
          exact s2 _ _ e
        · rw [upd_same, List.map_append, List.map_append]
          simp [dens, v3]
      | 1, hj =>
        cases hj
        refine ⟨rfl, yes_of ?_⟩
        refine ⟨_, rfl, b, _, 2, _, rfl, rfl, same_T s2 h3, rfl, _, hb2, lb, fun b' o e => ?_, ?_⟩
        · rw [upd_ne (ne_of_none e hL)]
          exact s2 _ _ e
        · rw [upd_same, List.map_append, List.map_append]
          simp [dens, v3]
      | j + 2, hj => simp at hj
    · rintro H2 ⟨s2, hb2⟩
      refine ⟨s2, ?_⟩
      rw [hb2, List.take_succ, ep, List.flatMap_append]
      simp [dens]
  rintro H1 ⟨s1, hb⟩
  rw [hlen, List.take_length] at hb
  have bq : ∀ n ∈ ps.flatMap dens, n.natAbs < 2 ^ 4000 := fun n hn => by
    obtain ⟨g, hg, hn⟩ := List.mem_flatMap.mp hn
    have := ok.bd g hg
    simp only [dens, List.mem_cons, List.mem_nil_iff, or_false] at hn
    rcases hn with rfl | rfl
    · exact Nat.lt_of_lt_of_le this.1.2.2 (Nat.pow_le_pow_right (by decide) (by decide))
    · exact Nat.lt_of_lt_of_le this.2.2.2 (Nat.pow_le_pow_right (by decide) (by decide))
  refine ⟨_, ps.flatMap dens, rfl, .inl (.inl hb), bq, fun m hmax bm => ?_⟩
  have hm1 : ∀ p ∈ ps, p.1.2.2 ≤ m := fun p hp => hmax _ (List.mem_flatMap.mpr ⟨p, hp, by simp [dens]⟩)
  have hm2 : ∀ p ∈ ps, p.2.2.2 ≤ m := fun p hp => hmax _ (List.mem_flatMap.mpr ⟨p, hp, by simp [dens]⟩)
  refine ⟨_, rfl, l, rfl, hT.ext s1, fun H2 eN T2 => ?_⟩
  have hA2 : Paired (IsPr K H2) us ps := pimp (fun _ _ ⟨t, a, b, e, h1, h2, h3⟩ => ⟨t, a, b, e, extN_T (same_T s1 h1) eN, extN_T (same_T s1 h2) eN, extN_T (same_T s1 h3) eN⟩) hA
  have ez : us.zip (ps.map fun p => PyData.tuple [kd m p.1, kd m p.2]) = (us.zip ps).map fun q => (q.1, PyData.tuple [kd m q.2.1, kd m q.2.2]) := by
    rw [List.zip_map_right]
    rfl
  refine ⟨us, ps.map fun p => .tuple [kd m p.1, kd m p.2], .inl (.inl (extN_L (s1 _ _ hl) eN)), by rw [List.length_map, hlen], ?_, ?_, nl_kd _ _, ?_, ?_, ?_⟩
  · intro d hd d' hd'
    obtain ⟨g, _, rfl⟩ := List.mem_map.mp hd
    obtain ⟨g', _, rfl⟩ := List.mem_map.mp hd'
    simp [kd, PySem.W.alike, PySem.W.alikeAll]
  · refine .inl fun d hd => ?_
    obtain ⟨g, _, rfl⟩ := List.mem_map.mp hd
    exact ⟨_, _, rfl⟩
  · intro d hd
    obtain ⟨g, _, rfl⟩ := List.mem_map.mp hd
    show (PyData.tuple _).depth ≤ 60
    simp [kd, PyData.depth, PyData.depthAll]
  · intro i x d hx hd H3 s3
    obtain ⟨g, eg, pg, a, b, rfl, ig, ia, ib⟩ := pgt hA2 hx
    rw [List.getElem?_map, eg] at hd
    cases hd
    have hg := List.mem_of_getElem? eg
    have bg := ok.bd g hg
    have og := ok.ok g hg
    refine ⟨.ref pg, rfl, pg, _, 0, _, rfl, rfl, same_T s3 ig, rfl, .int (m * m), rfl, _, g.1, m * m, rfl, ⟨a, rfl, same_T s3 ia⟩, og.1.1, bg.1.mono (by decide), mul_lt (n := 4000) (m := 4000) bm bm, fun H4 p4 s4 h4 => ?_⟩
    refine ⟨.ref pg, rfl, pg, _, 1, _, rfl, rfl, same_T s4 (same_T s3 ig), rfl, .int (m * m), rfl, _, g.2, m * m, rfl, ⟨b, rfl, same_T s4 (same_T s3 ib)⟩, og.2.1, bg.2.mono (by decide), mul_lt (n := 4000) (m := 4000) bm bm, fun H5 p5 s5 h5 => ⟨(by show 2 ≤ sizeLine; decide), fun p6 hp6 => ?_⟩⟩
    have s6 := same_new hp6 (.tup [.ref p4, .ref p5])
    refine ⟨s4.trans (s5.trans s6), ?_⟩
    exact .tup (.inl (.inl upd_same)) (.cons (.tup (.inl (.inl (s6 _ _ (s5 _ _ h4)))) (.cons (.int _) (.cons (.int _) .nil))) (.cons (.tup (.inl (.inl (s6 _ _ h5))) (.cons (.int _) (.cons (.int _) .nil))) .nil))
  · intro H5 p s5 hp h5
    have em := List.map_mergeSort (r := fun (a b : V × (T3 × T3)) => leP a.2 b.2) (s := PySem.W.dataLe false (·.2)) (f := fun q : V × (T3 × T3) => (q.1, PyData.tuple [kd m q.2.1, kd m q.2.2])) (l := us.zip ps) (fun a ha b hb => by
      have ha := (List.of_mem_zip ha).2
      have hb := (List.of_mem_zip hb).2
      exact (dataLe_pp (ok.ok _ ha).1 (ok.ok _ ha).2 (ok.ok _ hb).1 (ok.ok _ hb).2 (hm1 _ ha) (hm2 _ ha) (hm1 _ hb) (hm2 _ hb)).symm)
    rw [ez, ← em, List.map_map] at h5
    have ea : ((us.zip ps).mergeSort fun a b => leP a.2 b.2).map (·.2) = ascP ps := by
      unfold ascP
      rw [List.map_mergeSort (f := fun q : V × (T3 × T3) => q.2) (s := leP) (fun _ _ _ _ => rfl), List.map_snd_zip (by omega)]
    have hp' : ((us.zip ps).mergeSort fun a b => leP a.2 b.2).Perm (us.zip ps) := List.mergeSort_perm _ _
    have pr := mem_zip (R := IsPr K H5) (ys := (us.zip ps).mergeSort fun a b => leP a.2 b.2) fun q hq => by
      obtain ⟨t, a, b, e, h1, h2, h3⟩ := zip_mem hA2 (hp'.mem_iff.mp hq)
      exact ⟨t, a, b, e, same_T s5 h1, same_T s5 h2, same_T s5 h3⟩
    rw [ea] at pr
    exact q H5 p _ ((ExtN.of s1).trans (eN.trans (ExtN.of s5))) (T2.ext s5) (fun b xs hb => ne_of_none (extN_L (s1 _ _ hb) eN) hp) h5 pr
end
end My

namespace My
open PySem L2 Mth LamX
abbrev s_dots_of : Stmt := topS 29
theorem sc_dots_of : FnScope ["strokes", "stroke"] ["strokes"] (defScope s_dots_of) := ⟨rfl, rfl, rfl, by decide +kernel, rfl, by decide +kernel, by decide +kernel⟩
abbrev s_in_order : Stmt := topS 31
theorem sc_in_order : FnScope ["one", "other"] ["one", "other"] (defScope s_in_order) := ⟨rfl, rfl, rfl, by decide +kernel, rfl, by decide +kernel, by decide +kernel⟩
abbrev s_line_through : Stmt := topS 18
theorem sc_line_through : FnScope ["one", "other", "x", "y", "d", "u", "v", "e"] ["one", "other"] (defScope s_line_through) := ⟨rfl, rfl, rfl, by decide +kernel, rfl, by decide +kernel, by decide +kernel⟩
abbrev s_stretches_of : Stmt := topS 30
theorem sc_stretches_of : FnScope ["strokes", "stroke", "start", "end"] ["strokes"] (defScope s_stretches_of) := ⟨rfl, rfl, rfl, by decide +kernel, rfl, by decide +kernel, by decide +kernel⟩
section
variable {P : Program} {w : World} {K : PySem.W.Frag} {mg : Str → Option Value} {base : Heap}
/-! ### stretches -/
def iEi (K : PySem.W.Frag) (tl : TE) : TI := fun σ H R => iList K tl σ H R ∨ iTup K tl σ H R
theorem pi_ei {X : Cx} {tg l : Expr} {tl : TE} (hl : PE X l tl) : PI X tg l (iEi X.K tl) := ⟨fun pins s σ H R I h => h.elim (fun h => (pi_list hl).run pins s σ H R I h) (fun h => (pi_tup hl).run pins s σ H R I h)⟩
def rLenQ (K : PySem.W.Frag) : List V → Hp → VK → Prop := fun xs H Q => ∃ p ys, xs = [V.ref p] ∧ (SqL K H p ys ∨ SqT K H p ys) ∧ Q (V.int (ys.length : Nat)) H
/-- a tuple or a list -/
def SqV (K : PySem.W.Frag) (H : Hp) (v : V) (us : List V) : Prop := ∃ a, v = .ref a ∧ (SqL K H a us ∨ SqT K H a us)
def sp_lthru (K : PySem.W.Frag) : Sp := fun vs H Q _ => ∃ va vb a b, vs = [va, vb] ∧ IsT K H va a ∧ IsT K H vb b ∧ Ok a ∧ Ok b ∧ a ≠ b ∧ B 1000 a ∧ B 1000 b ∧ ∀ H' v, Same H H' → IsT K H' v (lthru a b) → Q v H'
theorem ok_line_through {f : Addr} {fd : FuncData} (d_line_form : D P w K mg base "line_form" 2 (sp_line K)) (F : Fun K "line_through" "line_through" s_line_through f fd) : FnOk P w K mg base CX0 3 f fd ["one", "other"] (sp_lthru K) := by
  refine F.ok sc_line_through (fun vs H Q E h => ?_) (fun cdv A outer s H vs Q E hr h => ?_)
  · obtain ⟨va, vb, a, b, rfl, _⟩ := h
    rfl
  obtain ⟨va, vb, a, b, rfl, ⟨pa, rfl, ta⟩, ⟨pb, rfl, tb⟩, oa, ob, ne, ba, bb, q⟩ := h
  refine ⟨_, (pss_cons (ps_asg (pv 0) (pg_tup rfl (pgs_cons (pg_name (i := 2) sc_line_through.nd rfl (by first | exact Or.inl rfl | exact Or.inr rfl)) (pgs_cons (pg_name (i := 3) sc_line_through.nd rfl (by first | exact Or.inl rfl | exact Or.inr rfl)) (pgs_cons (pg_name (i := 4) sc_line_through.nd rfl (by first | exact Or.inl rfl | exact Or.inr rfl)) pgs_nil)))))
    (pss_cons (ps_asg (pv 1) (pg_tup rfl (pgs_cons (pg_name (i := 5) sc_line_through.nd rfl (by first | exact Or.inl rfl | exact Or.inr rfl)) (pgs_cons (pg_name (i := 6) sc_line_through.nd rfl (by first | exact Or.inl rfl | exact Or.inr rfl)) (pgs_cons (pg_name (i := 7) sc_line_through.nd rfl (by first | exact Or.inl rfl | exact Or.inr rfl)) pgs_nil)))))
    (pss_one (ps_ret (pc d_line_form (hr.mono (by decide)) (pa_cons (pe_op op_sub (pe_op op_mulW (pv 3) (pv 7)) (pe_op op_mulW (pv 6) (pv 4))) (pa_cons (pe_op op_sub (pe_op op_mulW (pv 5) (pv 4)) (pe_op op_mulW (pv 2) (pv 7))) (pa_cons (pe_op op_sub (pe_op op_mulW (pv 5) (pv 3)) (pe_op op_mulW (pv 2) (pv 6))) pa_nil)))))))), ?_⟩
  refine ⟨_, rfl, pa, _, rfl, ta, rfl, _, _, rfl, _, _, rfl, _, _, rfl, rfl, ?_⟩
  refine ⟨_, rfl, pb, _, rfl, tb, rfl, _, _, rfl, _, _, rfl, _, _, rfl, rfl, ?_⟩
  have hne : (a.2.1 * b.2.2 - b.2.1 * a.2.2 ≠ 0) ∨ (b.1 * a.2.2 - a.1 * b.2.2 ≠ 0) := by
    by_cases h : a.2.1 * b.2.2 - b.2.1 * a.2.2 = 0
    · refine .inr fun h2 => ne (cross_ext oa ob (by omega) (by omega))
    · exact .inl h
  have m := fun {x y : Int} (hx : x.natAbs < 2 ^ 1000) (hy : y.natAbs < 2 ^ 1000) => mul_lt (n := 1000) (m := 1000) hx hy
  refine ⟨_, rfl, _, rfl, _, _, rfl, rfl, mulW ba.2.1 bb.2.2, _, rfl, _, rfl, _, _, rfl, rfl, mulW bb.2.1 ba.2.2, _, _, rfl, rfl, ?_⟩
  refine ⟨_, rfl, _, rfl, _, _, rfl, rfl, mulW bb.1 ba.2.2, _, rfl, _, rfl, _, _, rfl, rfl, mulW ba.1 bb.2.2, _, _, rfl, rfl, ?_⟩
  refine ⟨_, rfl, _, rfl, _, _, rfl, rfl, mulW bb.1 ba.2.1, _, rfl, _, rfl, _, _, rfl, rfl, mulW ba.1 bb.2.1, _, _, rfl, rfl, ?_⟩
  refine ⟨(a.2.1 * b.2.2 - b.2.1 * a.2.2, b.1 * a.2.2 - a.1 * b.2.2, b.1 * a.2.1 - a.1 * b.2.1), rfl, hne, B.mono (n := 2001) ⟨sub_lt (m ba.2.1 bb.2.2) (m bb.2.1 ba.2.2), sub_lt (m bb.1 ba.2.2) (m ba.1 bb.2.2), sub_lt (m bb.1 ba.2.1) (m ba.1 bb.2.1)⟩ (by decide), fun H' v s' i => q H' v s' i⟩
def sp_inord (K : PySem.W.Frag) : Sp := fun vs H Q _ => ∃ va vb a b, vs = [va, vb] ∧ IsT K H va a ∧ IsT K H vb b ∧ B 8000 a ∧ B 8000 b ∧ ∀ H' v, Same H H' → IsPr K H' v (ordP a b) → Q v H'
theorem ok_in_order {f : Addr} {fd : FuncData} (d_precedes : D P w K mg base "precedes" 1 (sp_prec K)) (F : Fun K "in_order" "in_order" s_in_order f fd) : FnOk P w K mg base CX0 2 f fd ["one", "other"] (sp_inord K) := by
  refine F.ok sc_in_order (fun vs H Q E h => ?_) (fun cdv A outer s H vs Q E hr h => ?_)
  · obtain ⟨va, vb, a, b, rfl, _⟩ := h
    rfl
  obtain ⟨va, vb, a, b, rfl, ia, ib, ba, bb, q⟩ := h
  refine ⟨_, (pss_one (ps_ret (pe_ifExp (pt_val (pc d_precedes (hr.mono (by decide)) (pa_cons (pv 0) (pa_cons (pv 1) pa_nil)))) (pe_tup (pa_cons (pv 0) (pa_cons (pv 1) pa_nil))) (pe_tup (pa_cons (pv 1) (pa_cons (pv 0) pa_nil)))))), ?_⟩
  obtain ⟨pa, rfl, ta⟩ := id ia
  obtain ⟨pb, rfl, tb⟩ := id ib
  refine ⟨_, rfl, _, rfl, _, _, a, b, rfl, ia, ib, ba, bb, fun H1 s1 => ⟨_, rfl, ?_⟩⟩
  unfold ordP at q
  cases e : ltS a b with
  | true =>
    refine iteT ⟨_, rfl, _, rfl, (by show 2 ≤ sizeLine; decide), fun p hp => ?_⟩
    have s2 := same_new hp (.tup [.ref pa, .ref pb])
    rw [if_pos e] at q
    exact q _ _ (s1.trans s2) ⟨p, pa, pb, rfl, .inl (.inl upd_same), same_T s2 (same_T s1 ta), same_T s2 (same_T s1 tb)⟩
  | false =>
    refine iteF ⟨_, rfl, _, rfl, (by show 2 ≤ sizeLine; decide), fun p hp => ?_⟩
    have s2 := same_new hp (.tup [.ref pb, .ref pa])
    rw [if_neg (by rw [e]; exact Bool.false_ne_true)] at q
    exact q _ _ (s1.trans s2) ⟨p, pb, pa, rfl, .inl (.inl upd_same), same_T s2 (same_T s1 tb), same_T s2 (same_T s1 ta)⟩
/-- the spots that are dots -/
def sp_dots (K : PySem.W.Frag) : Sp := fun vs H Q _ => ∃ v us zss, vs = [v] ∧ SqV K H v us ∧ AllSt K H us zss ∧ (∀ zs ∈ zss, StOk zs) ∧ us.length ≤ 1000 ∧ ∀ H' L ws, Same H H' → H L = none → H' L = some (.lst ws) → Paired (IsT K H') ws (dotsF zss) → Q (.ref L) H'
theorem ok_dots_of {f : Addr} {fd : FuncData} (b_len : mg "len" = none) (F : Fun K "dots_of" "dots_of" s_dots_of f fd) : FnOk P w K mg base CX0 1 f fd ["strokes"] (sp_dots K) := by
  refine F.ok sc_dots_of (fun vs H Q E h => ?_) (fun cdv A outer s H vs Q E hr h => ?_)
  · obtain ⟨v, us, zss, rfl, _⟩ := h
    rfl
  obtain ⟨v, us, zss, rfl, hv, hA, hok, hl, q⟩ := h
  refine ⟨_, (pss_one (ps_ret (pe_lc (own := [("stroke", 1)]) (g := gName 1) (by rfl) sc_dots_of.nd (pi_ei (pv 0)) (blkOk_by (own := [("stroke", 1)]) (N := ["strokes", "stroke"]) (sc := defScope s_dots_of) (by decide +kernel)) (fun _ _ _ _ _ => (pg_name (i := 1) sc_dots_of.nd rfl (by first | exact Or.inl rfl | exact Or.inr rfl))) (fun _ _ _ _ _ => (pts_one (pt_cmpR (op_eq) (pe_callB (r := rLenQ K) call_len_seq (by rfl) b_len PySem.boot_len (pa_cons (pv 1) pa_nil)) pe_int (nomark _)))) (fun _ _ _ _ _ => (pe_ix (r := rIxT K) ix_tup (pv 1) pe_int (fun _ _ => rfl)))))), ?_⟩
  have hlen : us.length = zss.length := Paired.length hA
  rcases hv with ⟨a, rfl, h | h⟩
  all_goals first
  | refine .inl ⟨_, rfl, a, rfl, ⟨_, h⟩, fun L hL => lc_list (K := K) (a := a) (xs := us) (fun i H' => ∃ ws, Same H H' ∧ H' L = some (.lst ws) ∧ Paired (IsT K H') ws (dotsF (zss.take i)) ∧ ws.length ≤ i) ⟨[], same_new hL _, upd_same, .nil, Nat.le_refl _⟩ ?_ ?_ ?_⟩
  | refine .inr ⟨_, rfl, a, rfl, ⟨_, h⟩, fun L hL => lc_tup (K := K) (a := a) (xs := us) (fun i H' => ∃ ws, Same H H' ∧ H' L = some (.lst ws) ∧ Paired (IsT K H') ws (dotsF (zss.take i)) ∧ ws.length ≤ i) ⟨[], same_new hL _, upd_same, .nil, Nat.le_refl _⟩ ?_ ?_ ?_⟩
  all_goals first
    | (rintro i H' hi ⟨ws, s', _⟩; first | exact s'.seq h | exact same_T s' h)
    | (rintro H' ⟨ws, s', hb, hw, hn⟩
       rw [hlen, List.take_length] at hw
       exact q H' L ws s' hL hb hw)
    | skip
  all_goals
    rintro i x H' hx ⟨ws, s', hb, hw, hn⟩
    obtain ⟨zs, ez, t, vs, rfl, ht, hp⟩ := pgt hA hx
    have ls : vs.length = zs.length := Paired.length hp
    have ok := hok zs (List.mem_of_getElem? ez)
    have li := (List.getElem?_eq_some_iff.mp hx).1
    refine ⟨rfl, ?_⟩
    refine ⟨_, rfl, t, vs, rfl, .inr (same_T s' ht), rfl, _, rfl, ?_⟩
    by_cases e : vs.length = 1
    · obtain ⟨z, rfl⟩ : ∃ z, zs = [z] := List.length_eq_one_iff.mp (by omega)
      obtain ⟨v, rfl⟩ := List.length_eq_one_iff.mp e
      cases hp with
      | cons iz _ =>
        rw [show decide (((V.int ((([v] : List V).length : Nat) : Int)) : V) = V.int 1) = true from decide_eq_true rfl]
        refine iteT ⟨_, rfl, t, _, 0, _, rfl, rfl, same_T s' ht, rfl, ws, hb, small1000 (by omega), ws ++ [v], fun b o e => ?_, upd_same, ?_, ?_⟩
        · rw [upd_ne (ne_of_none e hL)]
          exact s' _ _ e
        · rw [dots_step ez]
          have k := keep_upd (d := L) (H := H') (o := .lst (ws ++ [v]))
          exact papp (pimp (fun _ _ i => i.keep hb k) hw) (.cons ((iz.same s').keep hb k) .nil)
        · rw [List.length_append]; show ws.length + 1 ≤ _; omega
    · rw [show decide (((V.int ((vs.length : Nat) : Int)) : V) = V.int 1) = false from decide_eq_false fun z => by
        have := V.int.inj z
        omega]
      refine iteF ⟨ws, s', hb, ?_, by omega⟩
      rw [dots_step ez]
      have : dot1 zs = [] := by
        match zs, ls with
        | [], _ => rfl
        | [z], l => exact absurd (l.trans rfl) e
        | _ :: _ :: _, _ => rfl
      rw [this, List.append_nil]
      exact hw
theorem IsPr_keep {d : Addr} {ys : List V} {H H' : Hp} {v : V} {p : Pr} (h : IsPr K H v p) (hd : H d = some (.lst ys)) (k : Keep d H H') : IsPr K H' v p := by
  obtain ⟨t, a, b, e, h1, h2, h3⟩ := h
  exact ⟨t, a, b, e, keep_T h1 hd k, keep_T h2 hd k, keep_T h3 hd k⟩
theorem IsPr_extN {H H' : Hp} {v : V} {p : Pr} (h : IsPr K H v p) (e : ExtN H H') : IsPr K H' v p := by
  obtain ⟨t, a, b, e1, h1, h2, h3⟩ := h
  exact ⟨t, a, b, e1, extN_T h1 e, extN_T h2 e, extN_T h3 e⟩
/-- the parts of all strokes -/
def sp_strs (K : PySem.W.Frag) : Sp := fun vs H Q _ => ∃ v us zss, vs = [v] ∧ SqV K H v us ∧ AllSt K H us zss ∧ (∀ zs ∈ zss, StOk zs) ∧ (∀ z ∈ zss.flatten, B 8000 z) ∧ us.length ≤ 1000 ∧ ∀ H' L ws, Same H H' → H L = none → H' L = some (.lst ws) → Paired (IsPr K H') ws (strF zss) → Q (.ref L) H'
theorem ok_stretches_of {f : Addr} {fd : FuncData} (d_in_order : D P w K mg base "in_order" 2 (sp_inord K)) (d_parts_of : D P w K mg base "parts_of" 1 (sp_parts K)) (F : Fun K "stretches_of" "stretches_of" s_stretches_of f fd) : FnOk P w K mg base CX0 3 f fd ["strokes"] (sp_strs K) := by
  refine F.ok sc_stretches_of (fun vs H Q E h => ?_) (fun cdv A outer s H vs Q E hr h => ?_)
  · obtain ⟨v, us, zss, rfl, _⟩ := h
    rfl
  obtain ⟨v, us, zss, rfl, hv, hA, hok, bd, hl, q⟩ := h
  refine ⟨_, (pss_one (ps_ret (pe_lc2 (wi1 := iList K (tCl (sp_parts K) (tCons (tVar 1) tNil))) (own := [("stroke", 1), ("start", 2), ("end", 3)]) (vs1 := [2, 3]) (g := gName 1) (g1 := gTup K 2 (gCons (gName 2) (gCons (gName 3) gNil))) (tt := tYes) (tt1 := tYes) (by rfl) sc_stretches_of.nd (pi_ei (pv 0)) (blkOk_by (own := [("stroke", 1), ("start", 2), ("end", 3)]) (N := ["strokes", "stroke", "start", "end"]) (sc := defScope s_stretches_of) (by decide +kernel)) (by decide) (fun _ _ _ _ _ => (pg_name (i := 1) sc_stretches_of.nd rfl (by first | exact Or.inl rfl | exact Or.inr rfl))) (fun _ _ _ _ _ => pts_nil) (fun _ _ _ _ _ => (pi_list (pc d_parts_of (hr.mono (by decide)) (pa_cons (pv 1) pa_nil)))) (fun _ _ _ _ _ => (pg_tup rfl (pgs_cons (pg_name (i := 2) sc_stretches_of.nd rfl (by first | exact Or.inl rfl | exact Or.inr rfl)) (pgs_cons (pg_name (i := 3) sc_stretches_of.nd rfl (by first | exact Or.inl rfl | exact Or.inr rfl)) pgs_nil)))) (fun _ _ _ _ _ => pts_nil) (fun _ _ _ _ _ => (pc d_in_order (hr.mono (by decide)) (pa_cons (pv 2) (pa_cons (pv 3) pa_nil))))))), ?_⟩
  have hlen : us.length = zss.length := Paired.length hA
  rcases hv with ⟨a, rfl, h | h⟩
  all_goals first
  | refine .inl ⟨_, rfl, a, rfl, ⟨_, h⟩, fun D hD => lc2_list (K := K) (a := a) (xs := us) (fun i H' => ∃ acc, Same H H' ∧ H' D = some (.lst acc) ∧ Paired (IsPr K H') acc (strF (zss.take i)) ∧ acc.length ≤ 12 * i) ⟨[], same_new hD _, upd_same, .nil, Nat.le_refl _⟩ ?_ ?_ ?_⟩
  | refine .inr ⟨_, rfl, a, rfl, ⟨_, h⟩, fun D hD => lc2_tup (K := K) (a := a) (xs := us) (fun i H' => ∃ acc, Same H H' ∧ H' D = some (.lst acc) ∧ Paired (IsPr K H') acc (strF (zss.take i)) ∧ acc.length ≤ 12 * i) ⟨[], same_new hD _, upd_same, .nil, Nat.le_refl _⟩ ?_ ?_ ?_⟩
  all_goals first
    | (rintro i H' hi ⟨ws, s', _⟩; first | exact s'.seq h | exact same_T s' h)
    | (rintro H' ⟨ws, s', hb, hw, hn⟩
       rw [hlen, List.take_length] at hw
       exact q H' D ws s' hD hb hw)
    | skip
  all_goals
    rintro i x H' hx ⟨acc, s', hb, hw, hn⟩
    obtain ⟨zs, ez, t, vs, rfl, ht, hp⟩ := pgt hA hx
    have ls : vs.length = zs.length := Paired.length hp
    have mz := List.mem_of_getElem? ez
    have ok := hok zs mz
    have lo := ok.lo
    have hi := ok.hi
    have li := (List.getElem?_eq_some_iff.mp hx).1
    refine ⟨rfl, yes_of ?_⟩
    refine ⟨_, rfl, t, vs, rfl, same_T s' ht, by omega, fun H2 L2 ps s2 hL2 h2 hP => ?_⟩
    have hDL : D ≠ L2 := ne_of_none hb hL2
    refine ⟨L2, rfl, ⟨_, .inl (.inl h2)⟩, in_list (K := K) (b := L2) (ys := ps) (fun j H3 => ∃ ac, Same H H3 ∧ Keep D H2 H3 ∧ H3 D = some (.lst ac) ∧ Paired (IsPr K H3) ac (strF (zss.take i) ++ ((nbs zs).take j).map fun q => ordP q.1 q.2) ∧ ac.length ≤ 12 * i + j) ⟨acc, s'.trans s2, fun b o _ e => e, s2 _ _ hb, ?_, by omega⟩ ?_ ?_ ?_⟩
    · rw [List.take_zero, List.map_nil, List.append_nil]
      exact pimp (fun _ _ i => i.same s2) hw
    · rintro j H3 _ ⟨_, _, k3, _⟩
      exact .inl (.inl (k3 _ _ hDL.symm h2))
    · rintro j x H3 hj ⟨ac, s3, k3, hb3, hw3, hn3⟩
      have lj := (List.getElem?_eq_some_iff.mp hj).1
      have lp := hP.1
      obtain ⟨vx, ex⟩ : ∃ v, vs[j]? = some v := ⟨vs[j]'(by omega), List.getElem?_eq_getElem _⟩
      obtain ⟨vy, ey⟩ : ∃ v, vs[j + 1]? = some v := ⟨vs[j + 1]'(by omega), List.getElem?_eq_getElem _⟩
      obtain ⟨T, eT, hT⟩ := hP.2 j vx vy ex ey
      rw [eT] at hj
      cases hj
      obtain ⟨z1, e1, i1⟩ := pgt hp ex
      obtain ⟨z2, e2, i2⟩ := pgt hp ey
      have hT3 := keep_T hT (s2 _ _ hb) k3
      refine ⟨T, _, rfl, hT3, rfl, _, _, rfl, _, _, rfl, rfl, rfl, yes_of ?_⟩
      refine ⟨_, rfl, _, rfl, vx, vy, z1, z2, rfl, i1.same s3, i2.same s3, bd z1 (List.mem_flatten.mpr ⟨zs, mz, List.mem_of_getElem? e1⟩), bd z2 (List.mem_flatten.mpr ⟨zs, mz, List.mem_of_getElem? e2⟩), fun H4 v4 s4 i4 => ?_⟩
      have hb4 := s4 _ _ hb3
      have k4 := keep_upd (d := D) (H := H4) (o := .lst (ac ++ [v4]))
      refine ⟨ac, hb4, small5 (by omega), ac ++ [v4], fun b o e => ?_, fun b o nb e => ?_, upd_same, ?_, ?_⟩
      · rw [upd_ne (ne_of_none e hD)]
        exact s4 _ _ (s3 _ _ e)
      · rw [upd_ne nb]
        exact s4 _ _ (k3 _ _ nb e)
      · rw [List.take_succ, nbs_at e1 e2, List.map_append, ← List.append_assoc]
        exact papp (pimp (fun _ _ i => IsPr_keep (i.same s4) hb4 k4) hw3) (.cons (IsPr_keep i4 hb4 k4) .nil)
      · rw [List.length_append]; show ac.length + 1 ≤ _; omega
    · rintro H3 ⟨ac, s3, _, hb3, hw3, hn3⟩
      have lp := hP.1
      refine ⟨ac, s3, hb3, ?_, by omega⟩
      rw [str_step ez]
      rw [show ps.length = (nbs zs).length by rw [nbs_len, lp, ls], List.take_length] at hw3
      exact hw3
end
end My

namespace My
open PySem L2 Mth LamX
abbrev s_joined : Stmt := topS 35
theorem sc_joined : FnScope ["row", "done", "first", "last", "start", "end"] ["row"] (defScope s_joined) := ⟨rfl, rfl, rfl, by decide +kernel, rfl, by decide +kernel, by decide +kernel⟩
section
variable {P : Program} {w : World} {K : PySem.W.Frag} {mg : Str → Option Value} {base : Heap}
/-! ### stretches of one line joined -/
theorem sig_of2 {t : St → Hp → Prop} {σ σ' : St} {H : Hp} (e : σ = σ') (h : t σ' H) : t σ H := e ▸ h
def sp_joined (K : PySem.W.Frag) : Sp := fun vs H Q _ => ∃ l us ps, vs = [.ref l] ∧ H l = some (.lst us) ∧ Paired (IsPr K H) us ps ∧ ps ≠ [] ∧ (∀ p ∈ ps, B 8000 p.1 ∧ B 8000 p.2) ∧ ps.length ≤ 90000 ∧ ∀ H' L ws, Same H H' → H L = none → H' L = some (.lst ws) → Paired (IsPr K H') ws (joinF ps) → Q (.ref L) H'
theorem ok_joined {f : Addr} {fd : FuncData} (d_precedes : D P w K mg base "precedes" 1 (sp_prec K)) (F : Fun K "joined" "joined" s_joined f fd) : FnOk P w K mg base CX0 2 f fd ["row"] (sp_joined K) := by
  refine F.ok sc_joined (fun vs H Q E h => ?_) (fun cdv A outer s H vs Q E hr h => ?_)
  · obtain ⟨l, us, ps, rfl, _⟩ := h
    rfl
  obtain ⟨l, us, ps, rfl, hl, hA, hne, bd, hle, q⟩ := h
  refine ⟨_, (pss_cons (ps_set (i := 1) sc_joined.nd rfl (by first | exact Or.inl rfl | exact Or.inr rfl) (pe_lst pa_nil))
    (pss_cons (ps_asg (pe_ix (r := rIxL K) ix_list (pv 0) pe_int (fun _ _ => rfl)) (pg_tup rfl (pgs_cons (pg_name (i := 2) sc_joined.nd rfl (by first | exact Or.inl rfl | exact Or.inr rfl)) (pgs_cons (pg_name (i := 3) sc_joined.nd rfl (by first | exact Or.inl rfl | exact Or.inr rfl)) pgs_nil))))
    (pss_cons (ps_for PassesOwn.never rfl (pi_list (pv 0)) (pg_tup rfl (pgs_cons (pg_name (i := 4) sc_joined.nd rfl (by first | exact Or.inl rfl | exact Or.inr rfl)) (pgs_cons (pg_name (i := 5) sc_joined.nd rfl (by first | exact Or.inl rfl | exact Or.inr rfl)) pgs_nil))) (pss_one (ps_if (pt_val (pc d_precedes (hr.mono (by decide)) (pa_cons (pv 3) (pa_cons (pv 4) pa_nil)))) (pss_cons (ps_expr (pe_bm PySem.F.plainAttrs_list PySem.F.slot_list_append PySem.F.type_list_append mt_append (pv 1) (pa_cons (pe_tup (pa_cons (pv 2) (pa_cons (pv 3) pa_nil))) pa_nil)))
    (pss_one (ps_par (i := 2) (j := 3) (by rfl) sc_joined.nd rfl rfl (by decide) rfl rfl (pa_cons (pv 4) (pa_cons (pv 5) pa_nil)) (by rfl)))) (pss_one (ps_if (pt_val (pc d_precedes (hr.mono (by decide)) (pa_cons (pv 3) (pa_cons (pv 5) pa_nil)))) (pss_one (ps_set (i := 3) sc_joined.nd rfl (by first | exact Or.inl rfl | exact Or.inr rfl) (pv 5))) pss_nil)))))
    (pss_cons (ps_expr (pe_bm PySem.F.plainAttrs_list PySem.F.slot_list_append PySem.F.type_list_append mt_append (pv 1) (pa_cons (pe_tup (pa_cons (pv 2) (pa_cons (pv 3) pa_nil))) pa_nil)))
    (pss_one (ps_ret (pv 1))))))), ?_⟩
  have hlen : us.length = ps.length := Paired.length hA
  obtain ⟨p0, pr, rfl⟩ : ∃ p r, ps = p :: r := by
    cases ps with
    | nil => exact absurd rfl hne
    | cons p r => exact ⟨p, r, rfl⟩
  obtain ⟨v0, ur, rfl⟩ : ∃ v r, us = v :: r := by
    cases us with
    | nil => simp at hlen
    | cons v r => exact ⟨v, r, rfl⟩
  refine ⟨(by show 0 ≤ sizeLine; decide), fun D hD => gn_of ?_⟩
  have s1 := same_new hD (.lst [])
  have hD1 := upd_same (H := H) (a := D) (o := .lst [])
  generalize upd H D (.lst []) = H1 at *
  dsimp only [tNext]
  obtain ⟨t0, a0, b0, e0, ht0, ha0, hb0⟩ : IsPr K H v0 p0 := by cases hA with | cons h _ => exact h
  subst e0
  refine ⟨_, rfl, l, _, 0, .ref t0, rfl, rfl, .inl (.inl (s1 _ _ hl)), (show atI (.ref t0 :: ur) ((0 : Nat) : Int) = some (.ref t0) from atI_nat rfl), t0, _, rfl, same_T s1 ht0, rfl, _, _, rfl, _, _, rfl, rfl, ?_⟩
  dsimp only [tNext]
  have hlD : l ≠ D := ne_of_none hl hD
  refine ⟨_, rfl, l, rfl, ⟨_, .inl (.inl (s1 _ _ hl))⟩, for_list (K := K) (a := l) (xs := .ref t0 :: ur) (fun i σ H' => ∃ y4 y5 va vb ac ds c, σ = [some (.ref l), some (.ref D), some va, some vb, y4, y5] ∧ Same H H' ∧ H' D = some (.lst ac) ∧ Paired (IsPr K H') ac ds ∧ (IsT K H' va c.1 ∧ IsT K H' vb c.2) ∧ (B 8000 c.1 ∧ B 8000 c.2) ∧ joinF (p0 :: pr) = ds ++ joinGo c ((p0 :: pr).drop i) ∧ ds.length ≤ i)
    ⟨none, none, .ref a0, .ref b0, [], [], p0, rfl, s1, hD1, .nil, ⟨⟨a0, rfl, same_T s1 ha0⟩, ⟨b0, rfl, same_T s1 hb0⟩⟩, bd p0 (.head _), rfl, Nat.le_refl _⟩ ?_ ?_ ?_⟩
  · rintro i σ H' _ ⟨y4, y5, va, vb, ac, ds, c, rfl, s', _⟩
    exact .inl (.inl (s' _ _ hl))
  · rintro i x σ H' hx ⟨y4, y5, va, vb, ac, ds, c, rfl, s', hb, hw, ⟨ia, ib⟩, ⟨ba, bb⟩, ej, hn⟩
    obtain ⟨p, ep, t, a, b, rfl, h1, h2, h3⟩ := pgt hA hx
    obtain ⟨bp1, bp2⟩ := bd p (List.mem_of_getElem? ep)
    have li := (List.getElem?_eq_some_iff.mp hx).1
    have ed : (p0 :: pr).drop i = p :: (p0 :: pr).drop (i + 1) := by
      obtain ⟨hi, ei⟩ := List.getElem?_eq_some_iff.mp ep
      rw [List.drop_eq_getElem_cons hi, ei]
    rw [ed] at ej
    have hlen2 : ac.length = ds.length := Paired.length hw
    refine ⟨t, _, rfl, same_T s' h1, rfl, _, _, rfl, _, _, rfl, rfl, ?_⟩
    refine sig_of2 (σ' := [some (.ref l), some (.ref D), some va, some vb, some (.ref a), some (.ref b)]) rfl ?_
    refine ⟨_, rfl, _, rfl, _, _, c.2, p.1, rfl, ib, ⟨a, rfl, same_T s' h2⟩, bb, bp1, fun H2 s2 => ⟨_, rfl, ?_⟩⟩
    obtain ⟨qa, rfl, ta⟩ := id ia
    obtain ⟨qb, rfl, tb⟩ := id ib
    cases e1 : ltS c.2 p.1 with
    | true =>
      refine iteT ?_
      refine ⟨_, rfl, .inl ⟨rfl, _, .inl (.inl (s2 _ _ hb))⟩, _, rfl, _, rfl, (by show 2 ≤ sizeLine; decide), fun q3 hq3 => ?_⟩
      have s3 := same_new hq3 (.tup [.ref qa, .ref qb])
      have hb3 := s3 _ _ (s2 _ _ hb)
      have k3 := keep_upd (d := D) (H := upd H2 q3 (.tup [.ref qa, .ref qb])) (o := .lst (ac ++ [.ref q3]))
      refine ⟨D, ac, .ref q3, rfl, rfl, hb3, small5 (by omega), ?_⟩
      dsimp only [tNext]
      refine ⟨_, rfl, _, rfl, _, _, rfl, ?_⟩
      have sH : Same H (upd (upd H2 q3 (.tup [.ref qa, .ref qb])) D (.lst (ac ++ [.ref q3]))) := fun b' o e => by
        rw [upd_ne (ne_of_none e hD)]
        exact s3 _ _ (s2 _ _ (s' _ _ e))
      refine ⟨_, _, .ref a, .ref b, ac ++ [.ref q3], ds ++ [c], p, rfl, sH, upd_same, papp (pimp (fun _ _ i => IsPr_keep ((i.same s2).same s3) hb3 k3) hw) (.cons ⟨q3, qa, qb, rfl, .inl (.inl (by rw [upd_ne (fun e => by subst e; rw [upd_same] at hb3; cases hb3)]; exact upd_same)), keep_T (same_T s3 (same_T s2 ta)) hb3 k3, keep_T (same_T s3 (same_T s2 tb)) hb3 k3⟩ .nil), ⟨⟨a, rfl, same_T sH h2⟩, ⟨b, rfl, same_T sH h3⟩⟩, ⟨bp1, bp2⟩, ?_, by rw [List.length_append]; show ds.length + 1 ≤ _; omega⟩
      rw [ej, List.append_assoc]
      show ds ++ (if ltS c.2 p.1 = true then _ else _) = _
      rw [if_pos e1]
      rfl
    | false =>
      refine iteF ?_
      refine ⟨_, rfl, _, rfl, _, _, c.2, p.2, rfl, ⟨qb, rfl, same_T s2 tb⟩, ⟨b, rfl, same_T s2 (same_T s' h3)⟩, bb, bp2, fun H3 s3 => ⟨_, rfl, ?_⟩⟩
      have s23 := s2.trans s3
      have sH := s'.trans s23
      cases e2 : ltS c.2 p.2 with
      | true =>
        refine iteT ⟨_, rfl, gn_of ?_⟩
        refine ⟨_, _, .ref qa, .ref b, ac, ds, (c.1, p.2), rfl, sH, s23 _ _ hb, pimp (fun _ _ i => i.same s23) hw, ⟨⟨qa, rfl, same_T s23 ta⟩, ⟨b, rfl, same_T sH h3⟩⟩, ⟨ba, bp2⟩, ?_, by omega⟩
        rw [ej]
        show ds ++ (if ltS c.2 p.1 = true then _ else if ltS c.2 p.2 = true then _ else _) = _
        rw [if_neg (by rw [e1]; exact Bool.false_ne_true), if_pos e2]
      | false =>
        refine iteF ?_
        refine ⟨_, _, .ref qa, .ref qb, ac, ds, c, rfl, sH, s23 _ _ hb, pimp (fun _ _ i => i.same s23) hw, ⟨⟨qa, rfl, same_T s23 ta⟩, ⟨qb, rfl, same_T s23 tb⟩⟩, ⟨ba, bb⟩, ?_, by omega⟩
        rw [ej]
        show ds ++ (if ltS c.2 p.1 = true then _ else if ltS c.2 p.2 = true then _ else _) = _
        rw [if_neg (by rw [e1]; exact Bool.false_ne_true), if_neg (by rw [e2]; exact Bool.false_ne_true)]
  rintro σ H2 ⟨y4, y5, va, vb, ac, ds, c, rfl, s2, hb, hw, ⟨⟨qa, rfl, ta⟩, ⟨qb, rfl, tb⟩⟩, _, ej, hn⟩
  have hlen2 : ac.length = ds.length := Paired.length hw
  rw [hlen, List.drop_length] at ej
  dsimp only [tNext]
  refine ⟨_, rfl, .inl ⟨rfl, _, .inl (.inl hb)⟩, _, rfl, _, rfl, (by show 2 ≤ sizeLine; decide), fun q3 hq3 => ?_⟩
  have s3 := same_new hq3 (.tup [.ref qa, .ref qb])
  have hb3 := s3 _ _ hb
  have k3 := keep_upd (d := D) (H := upd H2 q3 (.tup [.ref qa, .ref qb])) (o := .lst (ac ++ [.ref q3]))
  have hl2 : ds.length ≤ (V.ref t0 :: ur).length := hn
  refine ⟨D, ac, .ref q3, rfl, rfl, hb3, small5 (by omega), ?_⟩
  dsimp only [tNext]
  refine ⟨_, rfl, ?_⟩
  refine q _ D (ac ++ [.ref q3]) (fun b' o e => ?_) hD upd_same ?_
  · rw [upd_ne (ne_of_none e hD)]
    exact s3 _ _ (s2 _ _ e)
  · rw [ej]
    exact papp (pimp (fun _ _ i => IsPr_keep (i.same s3) hb3 k3) hw) (.cons ⟨q3, qa, qb, rfl, .inl (.inl (by rw [upd_ne (fun e => by subst e; rw [upd_same] at hb3; cases hb3)]; exact upd_same)), keep_T (same_T s3 ta) hb3 k3, keep_T (same_T s3 tb) hb3 k3⟩ .nil)
end
end My

namespace My
open PySem L2 Mth LamX
abbrev s_longest : Stmt := topS 34
theorem sc_longest : FnScope ["stretches", "along", "start", "end", "line", "row", "stretch"] ["stretches"] (defScope s_longest) := ⟨rfl, rfl, rfl, by decide +kernel, rfl, by decide +kernel, by decide +kernel⟩
section
variable {P : Program} {w : World} {K : PySem.W.Frag} {mg : Str → Option Value} {base : Heap}
/-! ### the longest stretches -/
theorem u9 {k : Nat} {A : Around} (r : Room k A) : A.units + 9 < cLine := by have := r.un; omega
def kT (l : T3) : NestedKey := nk3 l.1 l.2.1 l.2.2
theorem kT_inj {a b : T3} (e : kT a = kT b) : a = b := by
  obtain ⟨h1, h2, h3⟩ := nk3_inj e
  exact Prod.ext h1 (Prod.ext h2 h3)
def GrpR (K : PySem.W.Frag) (H2 H : Hp) (p : NestedKey × Addr × V) (g : T3 × List (T3 × T3)) : Prop := p.1 = kT g.1 ∧ ∃ L ws, p.2.2 = .ref L ∧ H2 L = none ∧ H L = some (.lst ws) ∧ Paired (IsPr K H) ws g.2
structure GrpAt (K : PySem.W.Frag) (H2 H : Hp) (kvs : KVs) (gs : Grp) : Prop where
  keys : KeysIn K H kvs
  rel : Paired (GrpR K H2 H) kvs gs
  kn : (kvs.map (·.1)).Nodup
  nd : (kvs.map (·.2.2)).Nodup
theorem GrpR.mono {H2 H H' : Hp} {p : NestedKey × Addr × V} {g : T3 × List (T3 × T3)} (h : GrpR K H2 H p g) (eT : ∀ p xs, SqT K H p xs → SqT K H' p xs) (eL : ∀ L ws, H2 L = none → H L = some (.lst ws) → H' L = some (.lst ws)) : GrpR K H2 H' p g := by
  obtain ⟨h1, L, ws, h2, h3, h4, h5⟩ := h
  refine ⟨h1, L, ws, h2, h3, eL _ _ h3 h4, pimp (fun _ _ ⟨t, a, b, e, k1, k2, k3⟩ => ⟨t, a, b, e, eT _ _ k1, eT _ _ k2, eT _ _ k3⟩) h5⟩
theorem GrpAt.mono {H2 H H' : Hp} {kvs : KVs} {gs : Grp} (h : GrpAt K H2 H kvs gs) (eT : ∀ p xs, SqT K H p xs → SqT K H' p xs) (eL : ∀ L ws, H2 L = none → H L = some (.lst ws) → H' L = some (.lst ws)) : GrpAt K H2 H' kvs gs :=
  ⟨h.keys.mono eT, pimp (fun _ _ r => r.mono eT eL) h.rel, h.kn, h.nd⟩
theorem GrpAt.same {H2 H H' : Hp} {kvs : KVs} {gs : Grp} (h : GrpAt K H2 H kvs gs) (s : Same H H') : GrpAt K H2 H' kvs gs := h.mono (fun _ _ t => same_T s t) fun _ _ _ e => s _ _ e
theorem grp_at {H2 H : Hp} : ∀ {kvs : KVs} {gs : Grp}, Paired (GrpR K H2 H) kvs gs → ∀ l : T3, (atN kvs (kT l)).isSome = gs.any fun g => decide (g.1 = l)
  | _, _, .nil, l => rfl
  | p :: kvs, g :: gs, .cons r t, l => by
    have ih := grp_at t l
    rw [List.any_cons, ← ih]
    show (atN.atK (p :: kvs) (kT l)).isSome = (decide (g.1 = l) || (atN.atK kvs (kT l)).isSome)
    by_cases e : g.1 = l
    · rw [decide_eq_true e, show atN.atK (p :: kvs) (kT l) = some p.2 from if_pos (by rw [r.1, e])]
      rfl
    · rw [decide_eq_false e, show atN.atK (p :: kvs) (kT l) = atN.atK kvs (kT l) from if_neg (by rw [r.1]; exact fun z => e (kT_inj z)), Bool.false_or]
theorem atN_mem : ∀ {kvs : KVs} {k : NestedKey} {q : Addr × V}, atN kvs k = some q → (k, q) ∈ kvs
  | [], _, _, h => by cases h
  | p :: kvs, k, q, h => by
    by_cases e : p.1 = k
    · rw [show atN (p :: kvs) k = some p.2 from if_pos e] at h
      cases h
      subst e
      exact .head _
    · rw [show atN (p :: kvs) k = atN kvs k from if_neg e] at h
      exact .tail _ (atN_mem h)
theorem nodup_uniq {α β : Type} {f : α → β} : ∀ {xs : List α}, (xs.map f).Nodup → ∀ {a b : α}, a ∈ xs → b ∈ xs → f a = f b → a = b
  | [], _, a, _, ha, _, _ => by cases ha
  | x :: xs, h, a, b, ha, hb, e => by
    rw [List.map_cons, List.nodup_cons] at h
    rcases List.mem_cons.mp ha with h1 | h1
    · rcases List.mem_cons.mp hb with h2 | h2
      · rw [h1, h2]
      · exact absurd (List.mem_map.mpr ⟨b, h2, by rw [← e, h1]⟩) h.1
    · rcases List.mem_cons.mp hb with h2 | h2
      · exact absurd (List.mem_map.mpr ⟨a, h1, by rw [e, h2]⟩) h.1
      · exact nodup_uniq h.2 h1 h2 e
theorem grp_in {H2 H : Hp} : ∀ {kvs : KVs} {gs : Grp}, Paired (GrpR K H2 H) kvs gs → ∀ {p : NestedKey × Addr × V}, p ∈ kvs → ∃ g ∈ gs, GrpR K H2 H p g
  | _, _, .cons r t, p, h => by
    rcases List.mem_cons.mp h with rfl | h
    · exact ⟨_, .head _, r⟩
    · obtain ⟨g, hg, r⟩ := grp_in t h
      exact ⟨g, .tail _ hg, r⟩
/-- a pair is put to the list of its line -/
theorem grp_app {H2 H : Hp} {kvs : KVs} {gs : Grp} (h : GrpAt K H2 H kvs gs) {l : T3} {b L : Addr} {ws : List V} (ha : atN kvs (kT l) = some (b, .ref L)) (hL : H L = some (.lst ws)) {v : V} {p : T3 × T3} (iv : IsPr K H v p) :
    GrpAt K H2 (upd H L (.lst (ws ++ [v]))) kvs (appG gs l p) := by
  have k := keep_upd (d := L) (H := H) (o := .lst (ws ++ [v]))
  have eT : ∀ p xs, SqT K H p xs → SqT K (upd H L (.lst (ws ++ [v]))) p xs := fun _ _ t => keep_T t hL k
  have hm := atN_mem ha
  refine ⟨h.keys.mono eT, ?_, h.kn, h.nd⟩
  have c1 : ∀ e ∈ kvs, e.1 = kT l → e.2.2 = .ref L := fun e he ek => by rw [nodup_uniq h.kn he hm ek]
  have c2 : ∀ e ∈ kvs, e.1 ≠ kT l → e.2.2 ≠ .ref L := fun e he ek ev => ek (by rw [nodup_uniq h.nd he hm ev])
  have rel := h.rel
  clear h hm ha
  induction rel with
  | nil => exact .nil
  | @cons e g es gs r t ih =>
    refine .cons ?_ (ih (fun e he => c1 e (.tail _ he)) fun e he => c2 e (.tail _ he))
    obtain ⟨r1, L', ws', r2, r3, r4, r5⟩ := r
    show GrpR K H2 _ e (if g.1 = l then (g.1, g.2 ++ [p]) else g)
    by_cases eg : g.1 = l
    · rw [if_pos eg]
      have := c1 e (.head _) (by rw [r1, eg])
      rw [r2] at this
      cases this
      rw [hL] at r4
      cases r4
      refine ⟨r1, L, ws ++ [v], r2, r3, upd_same, papp (pimp (fun _ _ i => IsPr_keep i hL k) r5) (.cons (IsPr_keep iv hL k) .nil)⟩
    · rw [if_neg eg]
      have := c2 e (.head _) (by rw [r1]; exact fun z => eg (kT_inj z))
      have nl : L' ≠ L := fun z => this (by rw [r2, z])
      exact ⟨r1, L', ws', r2, r3, by rw [upd_ne nl]; exact r4, pimp (fun _ _ i => IsPr_keep i hL k) r5⟩
theorem tot_mem : ∀ {gs : Grp} {g : T3 × List (T3 × T3)}, g ∈ gs → g.2.length ≤ tot gs
  | x :: gs, g, h => by
    rw [tot_cons]
    rcases List.mem_cons.mp h with h | h
    · rw [h]; omega
    · have := tot_mem h
      omega
theorem atN_no : ∀ {kvs : KVs} {k : NestedKey}, atN kvs k = none → ∀ e ∈ kvs, e.1 ≠ k
  | [], _, _, e, he => by cases he
  | p :: kvs, k, h, e, he => by
    by_cases ek : p.1 = k
    · rw [show atN (p :: kvs) k = some p.2 from if_pos ek] at h
      cases h
    · rw [show atN (p :: kvs) k = atN kvs k from if_neg ek] at h
      rcases List.mem_cons.mp he with he | he
      · rw [he]; exact ek
      · exact atN_no h e he
theorem atN_snoc : ∀ {kvs : KVs} {k : NestedKey} {q : Addr × V}, atN kvs k = none → atN (kvs ++ [(k, q)]) k = some q
  | [], k, q, _ => if_pos rfl
  | p :: kvs, k, q, h => by
    by_cases ek : p.1 = k
    · rw [show atN (p :: kvs) k = some p.2 from if_pos ek] at h
      cases h
    · rw [show atN (p :: kvs) k = atN kvs k from if_neg ek] at h
      show atN (p :: (kvs ++ [(k, q)])) k = _
      rw [show atN (p :: (kvs ++ [(k, q)])) k = atN (kvs ++ [(k, q)]) k from if_neg ek]
      exact atN_snoc h
theorem flat_at {α β : Type} {f : α → List β} {gs : List α} {i : Nat} {g : α} (e : gs[i]? = some g) : (gs.take (i + 1)).flatMap f = (gs.take i).flatMap f ++ f g := by
  rw [List.take_succ, e, List.flatMap_append]
  simp
theorem flat_le {α β : Type} {f : α → List β} {gs : List α} {i : Nat} {g : α} (e : gs[i]? = some g) : ((gs.take i).flatMap f).length + (f g).length ≤ (gs.flatMap f).length := by
  have h : gs.flatMap f = (gs.take (i + 1)).flatMap f ++ (gs.drop (i + 1)).flatMap f := by rw [← List.flatMap_append, List.take_append_drop]
  rw [h, flat_at e, List.length_append, List.length_append]
  omega
def sp_longest (K : PySem.W.Frag) (T : List (Addr × Str)) : Sp := fun vs H Q _ => ∃ (l : Addr) (us : List V) (ps : List (T3 × T3)), vs = [.ref l] ∧ H l = some (.lst us) ∧ Paired (IsPr K H) us ps ∧ PrsOk ps ∧ (∀ p ∈ ps, p.1 ≠ p.2) ∧ Tabs T H ∧
  ∀ H' L ws, ExtN H H' → Tabs T H' → (∀ b xs, H b = some (.lst xs) → b ≠ L) → H' L = some (.lst ws) → Paired (IsPr K H') ws (longestF ps) → Q (.ref L) H'
theorem ok_longest {f : Addr} {fd : FuncData} {T : List (Addr × Str)} (d_ascending_pairs : D P w K mg base "ascending_pairs" 5 (sp_ascP K T)) (d_line_through : D P w K mg base "line_through" 3 (sp_lthru K)) (d_joined : D P w K mg base "joined" 2 (sp_joined K)) (F : Fun K "longest" "longest" s_longest f fd) : FnOk P w K mg base CX0 6 f fd ["stretches"] (sp_longest K T) := by
  refine F.ok sc_longest (fun vs H Q E h => ?_) (fun cdv A outer s H vs Q E hr h => ?_)
  · obtain ⟨l, us, ps, rfl, _⟩ := h
    rfl
  obtain ⟨l, us, ps, rfl, hl, hA, ok, hne, hT, q⟩ := h
  refine ⟨_, (pss_cons (ps_set (i := 1) sc_longest.nd rfl (by first | exact Or.inl rfl | exact Or.inr rfl) (show PE _ _ (tDNew P w) from pe_dnewN))
    (pss_cons (ps_for PassesOwn.never rfl (pi_list (pc d_ascending_pairs (hr.mono (by decide)) (pa_cons (pv 0) pa_nil))) (pg_tup rfl (pgs_cons (pg_name (i := 2) sc_longest.nd rfl (by first | exact Or.inl rfl | exact Or.inr rfl)) (pgs_cons (pg_name (i := 3) sc_longest.nd rfl (by first | exact Or.inl rfl | exact Or.inr rfl)) pgs_nil))) (pss_cons (ps_set (i := 4) sc_longest.nd rfl (by first | exact Or.inl rfl | exact Or.inr rfl) (pc d_line_through (hr.mono (by decide)) (pa_cons (pv 2) (pa_cons (pv 3) pa_nil))))
    (pss_cons (ps_if (pt_cmp (pc_dnotinN (u9 hr) (pv 4) (pv 1))) (pss_one (show PS _ _ (sDPutN P w K (tVar 1) (tVar 4) (tLst tNil)) from ps_dputN (u9 hr) (pv 1) (pv 4) (pe_lst pa_nil) (by rfl))) pss_nil)
    (pss_one (ps_expr (pe_bm PySem.F.plainAttrs_list PySem.F.slot_list_append PySem.F.type_list_append mt_append (pe_dgetN (u9 hr) (pv 1) (pv 4) (fun _ _ => rfl)) (pa_cons (pe_tup (pa_cons (pv 2) (pa_cons (pv 3) pa_nil))) pa_nil)))))))
    (pss_one (ps_ret (pe_lock (pe_lc2 (wi1 := iList K (tCl (sp_joined K) (tCons (tVar 5) tNil))) (own := [("row", 5), ("stretch", 6)]) (vs1 := [6]) (g := gName 5) (g1 := gName 6) (tt := tYes) (tt1 := tYes) (by rfl) sc_longest.nd (pi_valuesN (pv 1)) (blkOk_by (own := [("row", 5), ("stretch", 6)]) (N := ["stretches", "along", "start", "end", "line", "row", "stretch"]) (sc := defScope s_longest) (by decide +kernel)) (by decide) (fun _ _ _ _ _ => (pg_name (i := 5) sc_longest.nd rfl (by first | exact Or.inl rfl | exact Or.inr rfl))) (fun _ _ _ _ _ => pts_nil) (fun _ _ _ _ _ => (pi_list (pc d_joined (hr.mono (by decide)) (pa_cons (pv 5) pa_nil)))) (fun _ _ _ _ _ => (pg_name (i := 6) sc_longest.nd rfl (by first | exact Or.inl rfl | exact Or.inr rfl))) (fun _ _ _ _ _ => pts_nil) (fun _ _ _ _ _ => (pv 6)))))))), ?_⟩
  refine fun D hD => gn_of ?_
  have s1 := same_new hD (DN P w D [])
  have hD1 := upd_same (H := H) (a := D) (o := DN P w D [])
  generalize upd H D (DN P w D []) = H1 at *
  dsimp only [tNext]
  refine ⟨_, rfl, l, us, ps, rfl, s1 _ _ hl, pimp (fun _ _ i => i.same s1) hA, ok, hT.ext s1, fun H2 p us2 e2 T2 n2 h2 w2 => ?_⟩
  have hD2 : H2 D = some (DN P w D []) := e2 _ _ hD1 (fun ps z => nomatch z)
  have hl2 : us2.length = (ascP ps).length := Paired.length w2
  have lp : (ascP ps).length = ps.length := by unfold ascP; rw [List.length_mergeSort]
  have mp : ∀ p ∈ ascP ps, p ∈ ps := fun p hp => (List.mergeSort_perm ps leP).mem_iff.mp hp
  have le := ok.le
  have hpD : p ≠ D := fun e => by subst e; rw [hD2] at h2; exact nomatch h2
  refine ⟨p, rfl, ⟨_, .inl (.inl h2)⟩, for_list (K := K) (a := p) (xs := us2) (fun i σ H' => ∃ y2 y3 y4 kvs, σ = [some (.ref l), some (.ref D), y2, y3, y4, none, none] ∧ Keep D H2 H' ∧ H' D = some (DN P w D kvs) ∧ GrpAt K H2 H' kvs (((ascP ps).take i).foldl addG []))
    ⟨none, none, none, [], rfl, (fun _ _ _ e => e), hD2, ⟨(fun p hp => by cases hp), .nil, .nil, .nil⟩⟩ ?_ ?_ ?_⟩
  · rintro i σ H' _ ⟨y2, y3, y4, kvs, rfl, k', _⟩
    exact .inl (.inl (k' _ _ hpD h2))
  · rintro i x σ H' hx ⟨y2, y3, y4, kvs, rfl, k', hd, g⟩
    obtain ⟨pr, ep, t, a, b, rfl, h3, h4, h5⟩ := pgt w2 hx
    have mpr := mp pr (List.mem_of_getElem? ep)
    have li := (List.getElem?_eq_some_iff.mp hx).1
    have gk := gok ((ascP ps).take i)
    have h3' := keepN_T hD2 k' h3
    have h4' := keepN_T hD2 k' h4
    have h5' := keepN_T hD2 k' h5
    have lkv : kvs.length ≤ i := by
      have e1 := Paired.length g.rel
      have e2 := gk.len
      rw [List.length_take] at e2
      omega
    refine ⟨t, _, rfl, h3', rfl, _, _, rfl, _, _, rfl, rfl, ?_⟩
    refine sig_of2 (σ' := [some (.ref l), some (.ref D), some (.ref a), some (.ref b), y4, none, none]) rfl ?_
    refine ⟨_, rfl, _, rfl, _, _, pr.1, pr.2, rfl, ⟨a, rfl, h4'⟩, ⟨b, rfl, h5'⟩, (ok.ok pr mpr).1, (ok.ok pr mpr).2, hne pr mpr, (ok.bd pr mpr).1, (ok.bd pr mpr).2, fun H3 vl s3 il => gn_of ?_⟩
    obtain ⟨q3, rfl, t3⟩ := il
    have hd3 := s3 _ _ hd
    have g3 := g.same s3
    have k3 : Keep D H2 H3 := fun b' o nb e => s3 _ _ (k' _ _ nb e)
    have ip3 : SqT K H3 a (v3 pr.1) ∧ SqT K H3 b (v3 pr.2) := ⟨same_T s3 h4', same_T s3 h5'⟩
    clear s3 g hd k' h3' h4' h5'
    dsimp only [tNext]
    refine sig_of2 (σ' := [some (.ref l), some (.ref D), some (.ref a), some (.ref b), some (.ref q3), none, none]) rfl ?_
    have ek := grp_at g3.rel (lthru pr.1 pr.2)
    have kq : KeyAt K H3 q3 (kT (lthru pr.1 pr.2)) := keyAt3 t3
    have et : ((ascP ps).take (i + 1)).foldl addG [] = addG (((ascP ps).take i).foldl addG []) pr := by
      rw [List.take_succ, ep, List.foldl_append]
      rfl
    rw [et, addG_eq]
    generalize ((ascP ps).take i).foldl addG [] = gs at *
    refine seq_join (fun σ' H' => ∃ kvs' b' L ws, σ' = [some (.ref l), some (.ref D), some (.ref a), some (.ref b), some (.ref q3), none, none] ∧ Keep D H2 H' ∧ H' D = some (DN P w D kvs') ∧ GrpAt K H2 H' kvs' (addE gs (lthru pr.1 pr.2)) ∧ atN kvs' (kT (lthru pr.1 pr.2)) = some (b', .ref L) ∧ H2 L = none ∧ H' L = some (.lst ws) ∧ KeyAt K H' q3 (kT (lthru pr.1 pr.2)) ∧ (SqT K H' a (v3 pr.1) ∧ SqT K H' b (v3 pr.2)) ∧ ws.length ≤ 90000) ?_ ?_
    rotate_left
    · intro D' _ hD'
      refine ⟨_, rfl, _, rfl, D, kvs, q3, kT (lthru pr.1 pr.2), rfl, rfl, .inl hd3, g3.keys, kq, _, rfl, ?_⟩
      cases ea : atN kvs (kT (lthru pr.1 pr.2)) with
      | some q =>
        rw [ea] at ek
        refine iteF (hD' _ _ ?_)
        have ee : addE gs (lthru pr.1 pr.2) = gs := by
          unfold addE
          rw [← ek]
          rfl
        obtain ⟨g', hg', _, L, ws, r2, r3, r4, r5⟩ := grp_in g3.rel (atN_mem ea)
        have r2 : q.2 = .ref L := r2
        refine ⟨kvs, q.1, L, ws, rfl, k3, hd3, by rw [ee]; exact g3, by rw [ea, ← r2], r3, r4, kq, ip3, ?_⟩
        have l1 := Paired.length r5
        have l2 := tot_mem hg'
        have l3 := gk.tot
        rw [List.length_take] at l3
        omega
      | none =>
        rw [ea] at ek
        refine iteT ?_
        refine ⟨(by show 0 ≤ sizeLine; decide), fun L hL => ⟨_, rfl, _, rfl, D, kvs, q3, kT (lthru pr.1 pr.2), rfl, rfl, ?_⟩⟩
        have nLD : D ≠ L := ne_of_none hd3 hL
        have s4 := same_new hL (.lst [])
        have g4 := g3.same s4
        have kq4 := kq.mono fun _ _ t => same_T s4 t
        have ip4 : SqT K (upd H3 L (.lst [])) a (v3 pr.1) ∧ SqT K (upd H3 L (.lst [])) b (v3 pr.2) := ⟨same_T s4 ip3.1, same_T s4 ip3.2⟩
        have hd4 := s4 _ _ hd3
        have hL4 : upd H3 L (.lst []) L = some (.lst []) := upd_same
        generalize upd H3 L (.lst []) = H4 at *
        refine ⟨hd4, g4.keys, kq4, small5 (by omega), ?_⟩
        have e0 : putN kvs (kT (lthru pr.1 pr.2)) q3 (.ref L) = kvs ++ [(kT (lthru pr.1 pr.2), q3, .ref L)] := by unfold putN; rw [ea]
        have hd5 : upd H4 D (DN P w D (putN kvs (kT (lthru pr.1 pr.2)) q3 (.ref L))) D = some (DN P w D (kvs ++ [(kT (lthru pr.1 pr.2), q3, .ref L)])) := by rw [upd_same, e0]
        have k5 : Keep D H4 (upd H4 D (DN P w D (putN kvs (kT (lthru pr.1 pr.2)) q3 (.ref L)))) := fun b' o nb e => by rw [upd_ne nb]; exact e
        have eT : ∀ p xs, SqT K H4 p xs → SqT K (upd H4 D (DN P w D (putN kvs (kT (lthru pr.1 pr.2)) q3 (.ref L)))) p xs := fun _ _ t => keepN_T hd4 k5 t
        generalize upd H4 D (DN P w D (putN kvs (kT (lthru pr.1 pr.2)) q3 (.ref L))) = H5 at *
        have nL2 : H2 L = none := by
          cases h : H2 L with
          | none => rfl
          | some o => have := k3 _ _ nLD.symm h; rw [hL] at this; cases this
        have ee : addE gs (lthru pr.1 pr.2) = gs ++ [(lthru pr.1 pr.2, [])] := by
          unfold addE
          rw [← ek]
          rfl
        have kq5 := kq4.mono eT
        have g5 := g4.mono eT (fun L' ws n e => k5 _ _ (fun z => by subst z; rw [hD2] at n; cases n) e)
        refine hD' _ _ ⟨_, q3, L, [], rfl, fun b' o nb e => k5 _ _ nb (s4 _ _ (k3 _ _ nb e)), hd5, ?_, atN_snoc ea, nL2, k5 _ _ nLD.symm hL4, kq5, ?_, Nat.zero_le _⟩
        · rw [ee]
          refine ⟨fun e he => ?_, papp g5.rel (.cons ⟨rfl, L, [], rfl, nL2, k5 _ _ nLD.symm hL4, .nil⟩ .nil), ?_, ?_⟩
          · rcases List.mem_append.mp he with he | he
            · exact g5.keys e he
            · rw [List.mem_singleton.mp he]; exact kq5
          · rw [List.map_append, List.nodup_append]
            refine ⟨g5.kn, by simp, fun x hx y hy e => ?_⟩
            simp only [List.map_cons, List.map_nil, List.mem_singleton] at hy
            obtain ⟨z, hz, rfl⟩ := List.mem_map.mp hx
            exact atN_no ea z hz (e.trans hy)
          · rw [List.map_append, List.nodup_append]
            refine ⟨g5.nd, by simp, fun x hx y hy e => ?_⟩
            simp only [List.map_cons, List.map_nil, List.mem_singleton] at hy
            obtain ⟨z, hz, rfl⟩ := List.mem_map.mp hx
            obtain ⟨_, _, _, L', ws', r2, _, r4, _⟩ := grp_in g3.rel hz
            rw [e, hy] at r2
            cases r2
            rw [hL] at r4
            cases r4
        · exact ⟨eT _ _ ip4.1, eT _ _ ip4.2⟩
    rintro σ' H6 ⟨kvs', b', L, ws, rfl, k6, hd6, g6, at6, nL, hL6, kq6, ip6, lw⟩
    refine ⟨_, rfl, _, rfl, D, kvs', q3, _, _, rfl, rfl, .inl hd6, g6.keys, kq6, at6, .inl ⟨rfl, ws, .inl (.inl hL6)⟩, ?_⟩
    refine ⟨_, rfl, _, rfl, (by show 2 ≤ sizeLine; decide), fun q7 hq7 => ?_⟩
    have s7 := same_new hq7 (.tup [.ref a, .ref b])
    have ip7 : IsPr K (upd H6 q7 (.tup [.ref a, .ref b])) (.ref q7) pr := ⟨q7, a, b, rfl, .inl (.inl upd_same), same_T s7 ip6.1, same_T s7 ip6.2⟩
    have g7 := g6.same s7
    have hL7 := s7 _ _ hL6
    have hd7 := s7 _ _ hd6
    have k7 : Keep D H2 (upd H6 q7 (.tup [.ref a, .ref b])) := fun b' o nb e => s7 _ _ (k6 _ _ nb e)
    generalize upd H6 q7 (.tup [.ref a, .ref b]) = H7 at *
    have nLD : L ≠ D := fun z => by subst z; rw [hD2] at nL; cases nL
    refine ⟨L, ws, .ref q7, rfl, rfl, hL7, small5 (by omega), ?_⟩
    refine ⟨_, _, _, kvs', rfl, fun b' o nb e => ?_, by rw [upd_ne nLD.symm]; exact hd7, grp_app g7 at6 hL7 ip7⟩
    rw [upd_ne (fun z => by subst z; rw [nL] at e; cases e)]
    exact k7 _ _ nb e
  rintro σ H3 ⟨y2, y3, y4, kvs, rfl, k3, hd3, g3⟩
  rw [hl2, List.take_length] at g3
  have gk := gok (ascP ps)
  have lkv := Paired.length g3.rel
  have lg := gk.len
  have lt := gk.tot
  dsimp only [tNext]
  refine ⟨D, _, hd3, True.intro, fun od => ?_⟩
  have kF : Keep D H3 (upd H3 D (.frz od (DN P w D kvs))) := fun b' o nb e => by rw [upd_ne nb]; exact e
  have hF : upd H3 D (.frz od (DN P w D kvs)) D = some (.frz od (DN P w D kvs)) := upd_same
  have gF := g3.mono (fun _ _ t => keepN_T hd3 kF t) (fun L ws n e => kF _ _ (fun z => by subst z; rw [hD2] at n; cases n) e)
  have kN : Keep D H2 (upd H3 D (.frz od (DN P w D kvs))) := fun b' o nb e => kF _ _ nb (k3 _ _ nb e)
  generalize upd H3 D (.frz od (DN P w D kvs)) = H4 at *
  have bq : ∀ g ∈ (ascP ps).foldl addG [], g.2 ≠ [] ∧ (∀ q ∈ g.2, B 8000 q.1 ∧ B 8000 q.2) ∧ g.2.length ≤ 90000 := fun g hg => ⟨gk.ne g hg, fun q hq => by
    have := ok.bd q (mp q (gk.mem g hg q hq).1)
    exact ⟨this.1.mono (by decide), this.2.mono (by decide)⟩, by have := tot_mem hg; omega⟩
  have lj := joins_len ((ascP ps).foldl addG [])
  have el : longestF ps = ((ascP ps).foldl addG []).flatMap fun g => joinF g.2 := rfl
  generalize (ascP ps).foldl addG [] = gs at *
  refine ⟨_, rfl, D, od, kvs, rfl, hF, fun M hM => lc2_valsN (P0 := P) (w0 := w) (d := D) (o := od) (kvs := kvs) (fun i H' => ∃ acc, Same H4 H' ∧ H' M = some (.lst acc) ∧ Paired (IsPr K H') acc ((gs.take i).flatMap fun g => joinF g.2)) ⟨[], same_new hM _, upd_same, .nil⟩ ?_ ?_ ?_⟩
  · rintro i H' _ ⟨acc, s', _⟩
    exact s' _ _ hF
  · rintro i pv H' hx ⟨acc, s', hb, ha⟩
    obtain ⟨g, eg, r1, L, ws, r2, r3, r4, r5⟩ := pgt gF.rel hx
    obtain ⟨pk, pb, pv⟩ := pv
    have r2 : pv = .ref L := r2
    subst r2
    obtain ⟨b1, b2, b3⟩ := bq g (List.mem_of_getElem? eg)
    refine ⟨rfl, yes_of ?_⟩
    refine ⟨_, rfl, L, ws, g.2, rfl, s' _ _ r4, pimp (fun _ _ i => i.same s') r5, b1, b2, b3, fun H6 Lj wj s6 n6 h6 w6 => ?_⟩
    have nML : M ≠ Lj := ne_of_none hb n6
    have fl := flat_le (f := fun g : T3 × List (T3 × T3) => joinF g.2) eg
    have lw := Paired.length w6
    refine ⟨Lj, rfl, ⟨_, .inl (.inl h6)⟩, in_list (K := K) (b := Lj) (ys := wj) (fun j H7 => ∃ ac, Same H4 H7 ∧ Keep M H6 H7 ∧ H7 M = some (.lst ac) ∧ Paired (IsPr K H7) ac ((gs.take i).flatMap (fun g => joinF g.2) ++ (joinF g.2).take j)) ⟨acc, s'.trans s6, fun _ _ _ e => e, s6 _ _ hb, ?_⟩ ?_ ?_ ?_⟩
    · rw [List.take_zero, List.append_nil]
      exact pimp (fun _ _ i => i.same s6) ha
    · rintro j H7 _ ⟨_, _, k7, _⟩
      exact .inl (.inl (k7 _ _ nML.symm h6))
    · rintro j x H7 hj ⟨ac, s7, k7, hb7, ha7⟩
      obtain ⟨q', eq', iq⟩ := pgt w6 hj
      have lj' := (List.getElem?_eq_some_iff.mp hj).1
      have lac := Paired.length ha7
      rw [List.length_append, List.length_take] at lac
      have k8 := keep_upd (d := M) (H := H7) (o := .lst (ac ++ [x]))
      have iq7 : IsPr K H7 x q' := IsPr_keep iq (s6 _ _ hb) k7
      refine ⟨rfl, yes_of ⟨_, rfl, ac, hb7, small5 (by omega), ac ++ [x], fun b' o e => ?_, fun b' o nb e => ?_, upd_same, ?_⟩⟩
      · rw [upd_ne (ne_of_none e hM)]
        exact s7 _ _ e
      · rw [upd_ne nb]
        exact k7 _ _ nb e
      · rw [List.take_succ, eq', ← List.append_assoc]
        exact papp (pimp (fun _ _ i => IsPr_keep i hb7 k8) ha7) (.cons (IsPr_keep iq7 hb7 k8) .nil)
    · rintro H7 ⟨ac, s7, _, hb7, ha7⟩
      refine ⟨ac, s7, hb7, ?_⟩
      rw [flat_at eg]
      rw [lw, List.take_length] at ha7
      exact ha7
  rintro H5 ⟨acc, s5, hb5, ha5⟩
  rw [lkv, List.take_length, ← el] at ha5
  have hd5 := s5 _ _ hF
  refine ⟨hd5, ?_⟩
  have nMD : M ≠ D := fun z => by subst z; rw [hF] at hM; cases hM
  have k6 : Keep D H5 (upd H5 D (DN P w D kvs)) := fun b' o nb e => by rw [upd_ne nb]; exact e
  have kA : Keep D H2 (upd H5 D (DN P w D kvs)) := fun b' o nb e => k6 _ _ nb (s5 _ _ (kN _ _ nb e))
  refine q _ M acc (fun b' o e nt => ?_) (fun p hp => TabS.keepN (T2 p hp) hD2 kA) (fun b' xs e z => ?_) (by rw [upd_ne nMD]; exact hb5) ?_
  · exact kA _ _ (fun z => by subst z; rw [hD] at e; cases e) (e2 _ _ (s1 _ _ e) nt)
  · subst z
    have := kN _ _ nMD (e2 _ _ (s1 _ _ e) (fun ps z => nomatch z))
    rw [hM] at this
    cases this
  · exact pimp (fun _ _ ⟨t, a, b, e, i1, i2, i3⟩ => ⟨t, a, b, e, keepF_T hd5 k6 i1, keepF_T hd5 k6 i2, keepF_T hd5 k6 i3⟩) ha5
end
end My

namespace My
open PySem L2 Mth LamX
abbrev s_ink_from : Stmt := topS 33
theorem sc_ink_from : FnScope ["dots", "stretches", "lines", "alone", "dot"] ["dots", "stretches"] (defScope s_ink_from) := ⟨rfl, rfl, rfl, by decide +kernel, rfl, by decide +kernel, by decide +kernel⟩
abbrev s_is_between : Stmt := topS 36
theorem sc_is_between : FnScope ["spot", "stretch"] ["spot", "stretch"] (defScope s_is_between) := ⟨rfl, rfl, rfl, by decide +kernel, rfl, by decide +kernel, by decide +kernel⟩
abbrev s_is_covered : Stmt := topS 38
theorem sc_is_covered : FnScope ["spot", "ink", "dots", "lines"] ["spot", "ink"] (defScope s_is_covered) := ⟨rfl, rfl, rfl, by decide +kernel, rfl, by decide +kernel, by decide +kernel⟩
abbrev s_is_on_any : Stmt := topS 37
theorem sc_is_on_any : FnScope ["spot", "stretches", "stretch"] ["spot", "stretches"] (defScope s_is_on_any) := ⟨rfl, rfl, rfl, by decide +kernel, rfl, by decide +kernel, by decide +kernel⟩
section
variable {P : Program} {w : World} {K : PySem.W.Frag} {mg : Str → Option Value} {base : Heap}
/-! ### what is covered -/
def sp_btw (K : PySem.W.Frag) : Sp := fun vs H Q _ => ∃ vz vp z p, vs = [vz, vp] ∧ IsT K H vz z ∧ IsPr K H vp p ∧ B 8000 z ∧ B 8000 p.1 ∧ B 8000 p.2 ∧ ∀ H', Same H H' → Q (.bl (btw z p)) H'
theorem ok_is_between {f : Addr} {fd : FuncData} (d_precedes : D P w K mg base "precedes" 1 (sp_prec K)) (F : Fun K "is_between" "is_between" s_is_between f fd) : FnOk P w K mg base CX0 2 f fd ["spot", "stretch"] (sp_btw K) := by
  refine F.ok sc_is_between (fun vs H Q E h => ?_) (fun cdv A outer s H vs Q E hr h => ?_)
  · obtain ⟨vz, vp, z, p, rfl, _⟩ := h
    rfl
  obtain ⟨vz, vp, z, p, rfl, iz, ip, bz, b1, b2, q⟩ := h
  refine ⟨_, (pss_one (ps_ret (pe_and (pe_not (pc d_precedes (hr.mono (by decide)) (pa_cons (pv 0) (pa_cons (pe_ix (r := rIxT K) ix_tup (pv 1) pe_int (fun _ _ => rfl)) pa_nil)))) (pe_one (pe_not (pc d_precedes (hr.mono (by decide)) (pa_cons (pe_ix (r := rIxT K) ix_tup (pv 1) pe_int (fun _ _ => rfl)) (pa_cons (pv 0) pa_nil)))))))), ?_⟩
  obtain ⟨t, a, b, rfl, h1, h2, h3⟩ := ip
  obtain ⟨pz, rfl, tz⟩ := id iz
  refine ⟨_, rfl, _, rfl, t, _, 0, _, rfl, rfl, h1, rfl, _, _, z, p.1, rfl, iz, ⟨a, rfl, h2⟩, bz, b1, fun H1 s1 => ⟨_, rfl, _, rfl, ?_⟩⟩
  unfold btw at q
  cases e1 : ltS z p.1 with
  | true =>
    rw [e1] at q
    exact iteF (q _ s1)
  | false =>
    rw [e1] at q
    refine iteT ?_
    refine ⟨_, rfl, t, _, 1, _, rfl, rfl, same_T s1 h1, rfl, _, rfl, _, _, p.2, z, rfl, ⟨b, rfl, same_T s1 h3⟩, iz.same s1, b2, bz, fun H2 s2 => ⟨_, rfl, ?_⟩⟩
    exact q _ (s1.trans s2)
def sp_onany (K : PySem.W.Frag) : Sp := fun vs H Q _ => ∃ vz v us z ps, vs = [vz, v] ∧ IsT K H vz z ∧ Ok z ∧ B 1000 z ∧ SqV K H v us ∧ Paired (IsPr K H) us ps ∧ (∀ p ∈ ps, Sg p) ∧ ∀ H', Same H H' → Q (.bl (onAny z ps)) H'
theorem ok_is_on_any {f : Addr} {fd : FuncData} (d_is_between : D P w K mg base "is_between" 2 (sp_btw K)) (d_line_through : D P w K mg base "line_through" 3 (sp_lthru K)) (d_is_on_line : D P w K mg base "is_on_line" 1 (sp_on K)) (F : Fun K "is_on_any" "is_on_any" s_is_on_any f fd) : FnOk P w K mg base CX0 4 f fd ["spot", "stretches"] (sp_onany K) := by
  refine F.ok sc_is_on_any (fun vs H Q E h => ?_) (fun cdv A outer s H vs Q E hr h => ?_)
  · obtain ⟨vz, v, us, z, ps, rfl, _⟩ := h
    rfl
  obtain ⟨vz, v, us, z, ps, rfl, iz, oz, bz, hv, hA, sg, q⟩ := h
  refine ⟨_, (pss_cons (ps_for PassesOwn.never rfl (pi_ei (pv 1)) (pg_name (i := 2) sc_is_on_any.nd rfl (by first | exact Or.inl rfl | exact Or.inr rfl)) (pss_one (ps_if (PW.pt (pw_and (pt_val (pc d_is_between (hr.mono (by decide)) (pa_cons (pv 0) (pa_cons (pv 2) pa_nil)))) (pw_and1 (pt_val (pc d_is_on_line (hr.mono (by decide)) (pa_cons (pv 0) (pa_cons (pc d_line_through (hr.mono (by decide)) (pa_cons (pe_ix (r := rIxT K) ix_tup (pv 2) pe_int (fun _ _ => rfl)) (pa_cons (pe_ix (r := rIxT K) ix_tup (pv 2) pe_int (fun _ _ => rfl)) pa_nil))) pa_nil))))))) (pss_one (ps_ret pe_bl)) pss_nil)))
    (pss_one (ps_ret pe_bl))), ?_⟩
  have hlen : us.length = ps.length := Paired.length hA
  rcases hv with ⟨l, rfl, h | h⟩
  all_goals first
  | refine .inl ⟨_, rfl, l, rfl, ⟨_, h⟩, for_list (K := K) (a := l) (xs := us) (fun i σ H' => ∃ y2, σ = [some vz, some (.ref l), y2] ∧ Same H H' ∧ onAny z (ps.take i) = false) ⟨none, rfl, Same.refl _, rfl⟩ ?_ ?_ ?_⟩
  | refine .inr ⟨_, rfl, l, rfl, ⟨_, h⟩, for_tup (K := K) (a := l) (xs := us) (fun i σ H' => ∃ y2, σ = [some vz, some (.ref l), y2] ∧ Same H H' ∧ onAny z (ps.take i) = false) ⟨none, rfl, Same.refl _, rfl⟩ ?_ ?_ ?_⟩
  all_goals first
    | (rintro i σ H' hi ⟨y2, rfl, s', _⟩; first | exact s'.seq h | exact same_T s' h)
    | (rintro σ H' ⟨y2, rfl, s', hn⟩
       rw [hlen, List.take_length] at hn
       rw [hn] at q
       exact q _ s')
    | skip
  all_goals
    rintro i x σ H' hx ⟨y2, rfl, s', hn⟩
    obtain ⟨p, ep, t, a, b, rfl, h1, h2, h3⟩ := pgt hA hx
    have sp := sg p (List.mem_of_getElem? ep)
    have an : onAny z (ps.take (i + 1)) = (btw z p && decide (on (lthru p.1 p.2) z)) := by
      unfold onAny at hn ⊢
      rw [List.take_succ, ep, List.any_append, hn]
      simp
    have yes : (btw z p && decide (on (lthru p.1 p.2) z)) = true → onAny z ps = true := fun e => by
      unfold onAny
      exact List.any_eq_true.mpr ⟨p, List.mem_of_getElem? ep, e⟩
    refine gn_of ?_
    refine sig_of2 (σ' := [some vz, some (.ref l), some (.ref t)]) rfl ?_
    refine ⟨_, rfl, _, rfl, _, _, z, p, rfl, iz.same s', ⟨t, a, b, rfl, same_T s' h1, same_T s' h2, same_T s' h3⟩, bz.mono (by decide), sp.b1.mono (by decide), sp.b2.mono (by decide), fun H2 s2 => ⟨_, rfl, ?_⟩⟩
    have s12 := s'.trans s2
    cases e1 : btw z p with
    | false =>
      rw [e1] at an
      exact iteF (iteF ⟨_, rfl, s12, an⟩)
    | true =>
      rw [e1] at an yes
      refine iteT ?_
      refine ⟨_, rfl, _, rfl, t, _, 0, _, rfl, rfl, same_T s12 h1, rfl, _, rfl, t, _, 1, _, rfl, rfl, same_T s12 h1, rfl, _, _, p.1, p.2, rfl, ⟨a, rfl, same_T s12 h2⟩, ⟨b, rfl, same_T s12 h3⟩, sp.o1, sp.o2, sp.ne, sp.b1, sp.b2, fun H3 vl s3 il => ?_⟩
      refine ⟨_, _, z, _, rfl, iz.same (s12.trans s3), il, bz.mono (by decide), (lthru_B sp.o1 sp.o2 sp.ne sp.b1 sp.b2).mono (by decide), ?_⟩
      cases e2 : decide (on (lthru p.1 p.2) z) with
      | false =>
        rw [e2] at an
        exact ⟨_, rfl, iteF ⟨_, rfl, s12.trans s3, an⟩⟩
      | true =>
        rw [yes (by rw [e2]; rfl)] at q
        exact ⟨_, rfl, iteT (q _ (s12.trans s3))⟩
theorem shS3 (zs : List T3) : SeqAt.shaped (.list (zs.map d3)) = true := by
  show (PyData.canLayAll0 (zs.map d3) && decide (PyData.depthAll (zs.map d3) + 1 ≤ 64)) = true
  rw [canAll (xs := zs.map d3) (fun x hx => by obtain ⟨z, _, rfl⟩ := List.mem_map.mp hx; rfl), decide_eq_true (by
    have := depAll (n := 5) (xs := zs.map d3) (fun x hx => by
      obtain ⟨z, _, rfl⟩ := List.mem_map.mp hx
      show PyData.depth (d3 z) ≤ 5
      simp [d3, PyData.depth, PyData.depthAll])
    omega)]
  rfl
/-- an ink, its parts tuples or lists -/
def InkV (K : PySem.W.Frag) (H : Hp) (v : V) (k : Ink) : Prop := ∃ p a b us ws, v = .ref p ∧ SqT K H p [a, b] ∧ SqV K H a us ∧ Paired (IsT K H) us k.1 ∧ SqV K H b ws ∧ Paired (IsPr K H) ws k.2
def sp_cvd (K : PySem.W.Frag) : Sp := fun vs H Q _ => ∃ vz vk z k, vs = [vz, vk] ∧ IsT K H vz z ∧ Ok z ∧ B 1000 z ∧ InkV K H vk k ∧ (∀ p ∈ k.2, Sg p) ∧ ∀ H', Same H H' → Q (.bl (cov z k)) H'
theorem ok_is_covered {f : Addr} {fd : FuncData} (d_is_on_any : D P w K mg base "is_on_any" 4 (sp_onany K)) (F : Fun K "is_covered" "is_covered" s_is_covered f fd) : FnOk P w K mg base CX0 5 f fd ["spot", "ink"] (sp_cvd K) := by
  refine F.ok sc_is_covered (fun vs H Q E h => ?_) (fun cdv A outer s H vs Q E hr h => ?_)
  · obtain ⟨vz, vk, z, k, rfl, _⟩ := h
    rfl
  obtain ⟨vz, vk, z, k, rfl, iz, oz, bz, ik, sg, q⟩ := h
  refine ⟨_, (pss_cons (ps_asg (pv 1) (pg_tup rfl (pgs_cons (pg_name (i := 2) sc_is_covered.nd rfl (by first | exact Or.inl rfl | exact Or.inr rfl)) (pgs_cons (pg_name (i := 3) sc_is_covered.nd rfl (by first | exact Or.inl rfl | exact Or.inr rfl)) pgs_nil))))
    (pss_one (ps_ret (pe_or (pe_cmpR (r := rInE K) (op_inE (u65 hr)) (pv 0) (pv 2) (by with_unfolding_all rfl)) (pe_one (pc d_is_on_any (hr.mono (by decide)) (pa_cons (pv 0) (pa_cons (pv 3) pa_nil)))))))), ?_⟩
  obtain ⟨p, a, b, us, ws, rfl, hp, hva, hA, hvb, hB⟩ := ik
  refine ⟨_, rfl, p, _, rfl, hp, rfl, _, _, rfl, _, _, rfl, rfl, ?_⟩
  obtain ⟨pz, rfl, tz⟩ := id iz
  obtain ⟨la, rfl, hla⟩ := id hva
  have dpy : Dp K H (.ref la) (.list (k.1.map d3)) ∨ Dp K H (.ref la) (.tuple (k.1.map d3)) := by
    rcases hla with h | h
    · exact .inl (.lst h (dps3 hA))
    · exact .inr (.tup h (dps3 hA))
  refine ⟨_, rfl, _, rfl, d3 z, k.1.map d3, Dp3 tz, dpy, shaped3 _, shS3 _, ?_⟩
  have ea : ((k.1.map d3).any fun y => PyData.eqv y (d3 z)) = decide (z ∈ k.1) := by
    rw [List.any_map, Bool.eq_iff_iff, List.any_eq_true, decide_eq_true_iff]
    constructor
    · rintro ⟨y, hy, e⟩
      have e : PyData.eqv (d3 y) (d3 z) = true := e
      rw [eqv3, decide_eq_true_iff] at e
      rw [← e]; exact hy
    · intro h
      exact ⟨z, h, by show PyData.eqv (d3 z) (d3 z) = true; rw [eqv3]; simp⟩
  rw [ea]
  refine ⟨_, rfl, ?_⟩
  unfold cov at q
  cases e1 : decide (z ∈ k.1) with
  | true =>
    rw [e1] at q
    exact iteT (q _ (Same.refl _))
  | false =>
    rw [e1] at q
    exact iteF ⟨_, rfl, _, rfl, _, _, ws, z, k.2, rfl, iz, oz, bz, hvb, hB, sg, fun H' s' => q _ s'⟩
/-- keys that are spots -/
def KzR (K : PySem.W.Frag) (H : Hp) (p : NestedKey × Addr × V) (z : T3) : Prop := p.1 = kT z ∧ SqT K H p.2.1 (v3 z)
theorem kz_keys {H : Hp} : ∀ {kvs : KVs} {zs : List T3}, Paired (KzR K H) kvs zs → KeysIn K H kvs
  | _, _, .nil, p, hp => by cases hp
  | _, _, .cons r t, p, hp => by
    rcases List.mem_cons.mp hp with rfl | hp
    · rw [r.1]; exact keyAt3 r.2
    · exact kz_keys t p hp
theorem kz_ist {H : Hp} : ∀ {kvs : KVs} {zs : List T3}, Paired (KzR K H) kvs zs → Paired (IsT K H) (kvs.map fun p => V.ref p.2.1) zs
  | _, _, .nil => .nil
  | _, _, .cons r t => .cons ⟨_, rfl, r.2⟩ (kz_ist t)
theorem kz_at {H : Hp} : ∀ {kvs : KVs} {zs : List T3}, Paired (KzR K H) kvs zs → ∀ z, (atN kvs (kT z)).isSome = decide (z ∈ zs)
  | _, _, .nil, z => rfl
  | p :: kvs, y :: zs, .cons r t, z => by
    have ih := kz_at t z
    by_cases e : y = z
    · rw [show atN (p :: kvs) (kT z) = some p.2 from if_pos (by rw [r.1, e]), e]
      simp
    · rw [show atN (p :: kvs) (kT z) = atN kvs (kT z) from if_neg (by rw [r.1]; exact fun h => e (kT_inj h)), ih]
      simp [Ne.symm e]
theorem kz_put {H : Hp} {kvs : KVs} {zs : List T3} (h : Paired (KzR K H) kvs zs) {z : T3} {b : Addr} {v : V} (hz : SqT K H b (v3 z)) : Paired (KzR K H) (putN kvs (kT z) b v) (ddStep zs z) := by
  have e := kz_at h z
  unfold putN ddStep
  cases ea : atN kvs (kT z) with
  | none =>
    rw [ea] at e
    rw [if_neg (of_decide_eq_false e.symm)]
    exact papp h (.cons ⟨rfl, hz⟩ .nil)
  | some q =>
    rw [ea] at e
    rw [if_pos (of_decide_eq_true e.symm)]
    clear e ea
    induction h with
    | nil => exact .nil
    | @cons p y ps ys r t ih =>
      refine .cons ?_ ih
      show KzR K H (if p.1 = kT z then (p.1, p.2.1, v) else p) y
      split
      · exact r
      · exact r
def IsInk (K : PySem.W.Frag) (H : Hp) (v : V) (k : Ink) : Prop := ∃ p a b us ws, v = .ref p ∧ SqT K H p [.ref a, .ref b] ∧ SqT K H a us ∧ Paired (IsT K H) us k.1 ∧ SqT K H b ws ∧ Paired (IsPr K H) ws k.2
def sp_inkfrom (K : PySem.W.Frag) (T : List (Addr × Str)) : Sp := fun vs H Q _ => ∃ ld lp us ws ds ps, vs = [.ref ld, .ref lp] ∧ H ld = some (.lst us) ∧ Paired (IsT K H) us ds ∧ H lp = some (.lst ws) ∧ Paired (IsPr K H) ws ps ∧ SpsOk ds ∧ (∀ p ∈ ps, Sg p) ∧ ps.length ≤ 40000 ∧ Tabs T H ∧
  ∀ H' v, ExtN H H' → Tabs T H' → IsInk K H' v (inkFrom ds ps) → Q v H'
theorem ok_ink_from {f : Addr} {fd : FuncData} {T : List (Addr × Str)} (b_list : mg "list" = none) (b_tuple : mg "tuple" = none) (d_longest : D P w K mg base "longest" 6 (sp_longest K T)) (d_is_on_any : D P w K mg base "is_on_any" 4 (sp_onany K)) (d_ascending : D P w K mg base "ascending" 5 (sp_ascS K T)) (d_ascending_pairs : D P w K mg base "ascending_pairs" 5 (sp_ascP K T))
    (F : Fun K "ink_from" "ink_from" s_ink_from f fd) : FnOk P w K mg base CX0 7 f fd ["dots", "stretches"] (sp_inkfrom K T) := by
  refine F.ok sc_ink_from (fun vs H Q E h => ?_) (fun cdv A outer s H vs Q E hr h => ?_)
  · obtain ⟨ld, lp, us, ws, ds, ps, rfl, _⟩ := h
    rfl
  obtain ⟨ld, lp, us, ws, ds, ps, rfl, hd, hD, hp, hP, okd, sg, lps, hT, q⟩ := h
  refine ⟨_, (pss_cons (ps_set (i := 2) sc_ink_from.nd rfl (by first | exact Or.inl rfl | exact Or.inr rfl) (pc d_longest (hr.mono (by decide)) (pa_cons (pv 1) pa_nil)))
    (pss_cons (ps_setDcG (o0 := fun D => DN P w D []) (put := putD P w K) (n := 9) putD_ok (u9 hr) (@fun H0 h hb => dN0 (H := H0) h hb) (i := 3) (own := [("dot", 4)]) (g := gName 4) (by rfl) sc_ink_from.nd rfl rfl (sw_trueD rfl rfl rfl (by decide +kernel)) (pi_list (pv 0)) (blkOk_by (own := [("dot", 4)]) (N := ["dots", "stretches", "lines", "alone", "dot"]) (sc := defScope s_ink_from) (by decide +kernel)) (fun _ _ _ _ _ => (pg_name (i := 4) sc_ink_from.nd rfl (by first | exact Or.inl rfl | exact Or.inr rfl))) (fun _ _ _ _ _ => (pts_one (pt_not (pt_val (pc d_is_on_any (hr.mono (by decide)) (pa_cons (pv 4) (pa_cons (pv 2) pa_nil))))))) (fun _ _ _ _ _ => (pv 4)) (fun _ _ _ _ _ => pe_bl))
    (pss_one (ps_ret (pe_tup (pa_cons (pe_callTy call_tuple_of (by rfl) b_tuple (by decide +kernel) (pa_cons (pc d_ascending (hr.mono (by decide)) (pa_cons (pe_callTy (r := rListN P w) (show CallR _ _ (rListN P w) from call_listN rfl) (by rfl) b_list (by decide +kernel) (pa_cons (pv 3) pa_nil)) pa_nil)) pa_nil)) (pa_cons (pe_callTy call_tuple_of (by rfl) b_tuple (by decide +kernel) (pa_cons (pc d_ascending_pairs (hr.mono (by decide)) (pa_cons (pv 2) pa_nil)) pa_nil)) pa_nil))))))), ?_⟩
  have prs : PrsOk ps := ⟨by omega, fun p hp => ⟨(sg p hp).o1, (sg p hp).o2⟩, fun p hp => ⟨(sg p hp).b1, (sg p hp).b2⟩⟩
  refine ⟨_, rfl, lp, ws, ps, rfl, hp, hP, prs, fun p hp => (sg p hp).ne, hT, fun H1 Ln wn e1 T1 n1 h1 w1 => gn_of ?_⟩
  have sgL := longest_sg sg
  have lenL := longest_len ps
  have eI : inkFrom ds ps = (asc (((ds.filter fun z => !onAny z (longestF ps))).foldl ddStep []), ascP (longestF ps)) := rfl
  rw [eI] at q
  generalize longestF ps = L at *
  dsimp only [tNext]
  have hd1 : H1 ld = some (.lst us) := extN_L hd e1
  have hD1 : Paired (IsT K H1) us ds := pimp (fun _ _ i => i.extN e1) hD
  have ld0 := okd.le
  have lus : us.length = ds.length := Paired.length hD
  refine ⟨_, rfl, ld, rfl, ⟨_, .inl (.inl hd1)⟩, fun D hDn => dcN_list (P := P) (w := w) (K := K) (a := ld) (xs := us) (fun i H' => ∃ kvs, Same H1 H' ∧ H' D = some (DN P w D kvs) ∧ Paired (KzR K H') kvs (((ds.take i).filter fun z => !onAny z L).foldl ddStep [])) ⟨[], same_new hDn _, upd_same, .nil⟩ ?_ ?_ ?_⟩
  · rintro i H' _ ⟨kvs, s', _⟩
    exact .inl (.inl (s' _ _ hd1))
  · rintro i x H' hx ⟨kvs, s', hb, hk⟩
    obtain ⟨z, ez, pd, rfl, tz⟩ := pgt hD1 hx
    have mz := List.mem_of_getElem? ez
    have li := (List.getElem?_eq_some_iff.mp hx).1
    have oz := okd.ok z mz
    have lk : kvs.length ≤ i := by
      have h1 := Paired.length hk
      have h2 := dd_len ((ds.take i).filter fun z => !onAny z L) []
      have h3 := List.length_filter_le (fun z => !onAny z L) (ds.take i)
      rw [List.length_take] at h3
      simp only [List.length_nil, Nat.zero_add] at h2
      omega
    refine ⟨rfl, ?_⟩
    refine ⟨_, rfl, _, rfl, _, _, wn, z, L, rfl, ⟨pd, rfl, same_T s' tz⟩, oz, okd.bd z mz, ⟨Ln, rfl, .inl (.inl (.inl (s' _ _ h1)))⟩, pimp (fun _ _ i => i.same s') w1, sgL, fun H2 s2 => ⟨_, rfl, ?_⟩⟩
    have s12 := s'.trans s2
    have hk2 : Paired (KzR K H2) kvs _ := pimp (fun _ _ ⟨a, b⟩ => ⟨a, same_T s2 b⟩) hk
    have ef : (ds.take (i + 1)).filter (fun z => !onAny z L) = (ds.take i).filter (fun z => !onAny z L) ++ (if (!onAny z L) = true then [z] else []) := by
      rw [List.take_succ, ez, List.filter_append]
      show _ ++ List.filter _ [z] = _
      rw [List.filter_cons, List.filter_nil]
    cases e : onAny z L with
    | true =>
      refine iteF ⟨kvs, s12, s2 _ _ hb, ?_⟩
      rw [ef, e, if_neg (by decide), List.append_nil]
      exact hk2
    | false =>
      refine iteT ?_
      have hb2 := s2 _ _ hb
      have tz2 := same_T s12 tz
      have kk : KeysIn K H2 kvs := kz_keys hk2
      refine ⟨_, rfl, _, ⟨kvs, pd, kT z, rfl, hb2, kk, keyAt3 tz2, small5 (by omega), rfl⟩, _, fun b o h => ?_, upd_same, ?_⟩
      · rw [upd_ne (ne_of_none h hDn)]
        exact s12 _ _ h
      · rw [ef, e, if_pos (by decide), List.foldl_append]
        have k3 : Keep D H2 (upd H2 D (DN P w D (putN kvs (kT z) pd (.bl true)))) := fun b' o nb e => by rw [upd_ne nb]; exact e
        exact kz_put (pimp (fun _ _ ⟨a, b⟩ => ⟨a, keepN_T hb2 k3 b⟩) hk2) (keepN_T hb2 k3 tz2)
  rintro H3 ⟨kvs, s3, hD3, hk3⟩
  rw [lus, List.take_length] at hk3
  refine gn_of ?_
  dsimp only [tNext]
  have mds : ∀ z ∈ (ds.filter fun z => !onAny z L).foldl ddStep [], z ∈ ds := fun z hz => by
    rw [dd_mem] at hz
    rcases hz with hz | hz
    · cases hz
    · exact (List.mem_filter.mp hz).1
  have lds : ((ds.filter fun z => !onAny z L).foldl ddStep []).length ≤ ds.length := by
    have h2 := dd_len (ds.filter fun z => !onAny z L) []
    have h3 := List.length_filter_le (fun z => !onAny z L) ds
    simp only [List.length_nil, Nat.zero_add] at h2
    omega
  generalize (ds.filter fun z => !onAny z L).foldl ddStep [] = zs at *
  have okz : SpsOk zs := ⟨by omega, fun z hz => okd.ok z (mds z hz), fun z hz => okd.bd z (mds z hz)⟩
  have T3 := T1.ext s3
  refine ⟨_, rfl, D, kvs, rfl, .inl hD3, fun La hLa => ?_⟩
  have s4 := same_new hLa (.lst (kvs.map fun p => V.ref p.2.1))
  refine ⟨La, _, zs, rfl, upd_same, kz_ist (pimp (fun _ _ ⟨a, b⟩ => ⟨a, same_T s4 b⟩) hk3), okz, T3.ext s4, fun H5 pa ua e5 T5 n5 h5 w5 => ⟨pa, ua, rfl, .inl ⟨.inl (.inl h5), fun ta hta => ?_⟩⟩⟩
  have s6 := same_new hta (.tup ua)
  have hLn6 : upd H5 ta (.tup ua) Ln = some (.lst wn) := s6 _ _ (extN_L (s4 _ _ (s3 _ _ h1)) e5)
  have w6 : Paired (IsPr K (upd H5 ta (.tup ua))) wn L := pimp (fun _ _ i => (IsPr_extN ((i.same s3).same s4) e5).same s6) w1
  have hta6 : upd H5 ta (.tup ua) ta = some (.tup ua) := upd_same
  have u6 : Paired (IsT K (upd H5 ta (.tup ua))) ua (asc zs) := pimp (fun _ _ i => i.same s6) w5
  have T6 := T5.ext s6
  have x6 : ExtN H1 (upd H5 ta (.tup ua)) := (ExtN.of (s3.trans s4)).trans (e5.trans (ExtN.of s6))
  generalize upd H5 ta (.tup ua) = H6 at *
  have prL : PrsOk L := ⟨by omega, fun p hp => ⟨(sgL p hp).o1, (sgL p hp).o2⟩, fun p hp => ⟨(sgL p hp).b1, (sgL p hp).b2⟩⟩
  refine ⟨_, rfl, Ln, wn, L, rfl, hLn6, w6, prL, T6, fun H7 pb ub e7 T7 n7 h7 w7 => ⟨pb, ub, rfl, .inl ⟨.inl (.inl h7), fun tb htb => ⟨(by show 2 ≤ sizeLine; decide), fun pr hpr => ?_⟩⟩⟩⟩
  have s8 := same_new htb (.tup ub)
  have s9 := same_new hpr (.tup [.ref ta, .ref tb])
  have htb8 : upd H7 tb (.tup ub) tb = some (.tup ub) := upd_same
  have x8 : ExtN H6 (upd (upd H7 tb (.tup ub)) pr (.tup [.ref ta, .ref tb])) := e7.trans (ExtN.of (s8.trans s9))
  refine q _ _ (e1.trans (x6.trans x8)) ((T7.ext s8).ext s9) ⟨pr, ta, tb, ua, ub, rfl, .inl (.inl upd_same), .inl (.inl (x8 _ _ hta6 (fun ps z => nomatch z))), pimp (fun _ _ i => i.extN x8) u6, .inl (.inl (s9 _ _ htb8)), pimp (fun _ _ i => (i.same s8).same s9) w7⟩
end
end My

namespace My
open PySem L2 Mth LamX
abbrev s_Drawing_ink : Stmt := inClass (topS 25) 7
theorem sc_Drawing_ink : FnScope ["self"] ["self"] (defScope s_Drawing_ink) := ⟨rfl, rfl, rfl, by decide +kernel, rfl, by decide +kernel, by decide +kernel⟩
abbrev s_ink_of : Stmt := topS 32
theorem sc_ink_of : FnScope ["strokes"] ["strokes"] (defScope s_ink_of) := ⟨rfl, rfl, rfl, by decide +kernel, rfl, by decide +kernel, by decide +kernel⟩
section
variable {P : Program} {w : World} {K : PySem.W.Frag} {mg : Str → Option Value} {base : Heap}
/-! ### the ink of strokes, of a drawing -/
structure ZsOk (zss : List (List T3)) : Prop where
  ok : ∀ zs ∈ zss, StOk zs
  bd : ∀ z ∈ zss.flatten, B 1000 z
  len : zss.length ≤ 300
theorem nbs_mem : ∀ {zs : List T3} {q : T3 × T3}, q ∈ nbs zs → ∃ j : Nat, zs[j]? = some q.1 ∧ zs[j + 1]? = some q.2
  | [], q, h => by cases h
  | [x], q, h => by cases h
  | x :: y :: r, q, h => by
    rcases List.mem_cons.mp h with h | h
    · rw [h]; exact ⟨0, rfl, rfl⟩
    · obtain ⟨j, h1, h2⟩ := nbs_mem h
      exact ⟨j + 1, h1, h2⟩
theorem strF_sg {zss : List (List T3)} (h : ZsOk zss) : ∀ p ∈ strF zss, Sg p := by
  intro p hp
  obtain ⟨zs, hz, hp⟩ := List.mem_flatMap.mp hp
  obtain ⟨q, hq, rfl⟩ := List.mem_map.mp hp
  obtain ⟨j, h1, h2⟩ := nbs_mem hq
  have m1 := List.mem_of_getElem? h1
  have m2 := List.mem_of_getElem? h2
  have st := h.ok zs hz
  exact ordP_sg (st.ok _ m1) (st.ok _ m2) (h.bd _ (List.mem_flatten.mpr ⟨zs, hz, m1⟩)) (h.bd _ (List.mem_flatten.mpr ⟨zs, hz, m2⟩)) (st.ne j _ _ h1 h2)
theorem strF_len : ∀ {zss : List (List T3)}, (∀ zs ∈ zss, StOk zs) → (strF zss).length ≤ 12 * zss.length
  | [], _ => Nat.le_refl _
  | zs :: zss, h => by
    have ih := strF_len (zss := zss) fun z hz => h z (.tail _ hz)
    have hi := (h zs (.head _)).hi
    have e : strF (zs :: zss) = ((nbs zs).map fun q => ordP q.1 q.2) ++ strF zss := rfl
    rw [e, List.length_append, List.length_map, nbs_len, List.length_cons]
    omega
theorem dotsF_len : ∀ zss : List (List T3), (dotsF zss).length ≤ zss.length
  | [] => Nat.le_refl _
  | zs :: zss => by
    have ih := dotsF_len zss
    have e : dotsF (zs :: zss) = dot1 zs ++ dotsF zss := rfl
    have h1 : (dot1 zs).length ≤ 1 := by
      unfold dot1
      split <;> simp
    rw [e, List.length_append, List.length_cons]
    omega
theorem dotsF_mem {zss : List (List T3)} {z : T3} (h : z ∈ dotsF zss) : [z] ∈ zss := by
  obtain ⟨zs, hz, hm⟩ := List.mem_flatMap.mp h
  unfold dot1 at hm
  split at hm
  · rw [List.mem_singleton.mp hm]; exact hz
  · cases hm
theorem dotsF_sps {zss : List (List T3)} (h : ZsOk zss) : SpsOk (dotsF zss) := by
  have hl := dotsF_len zss
  have := h.len
  refine ⟨by omega, fun z hz => ?_, fun z hz => ?_⟩
  · exact (h.ok _ (dotsF_mem hz)).ok z (.head _)
  · exact h.bd z (List.mem_flatten.mpr ⟨_, dotsF_mem hz, .head _⟩)
def sp_inkof (K : PySem.W.Frag) (T : List (Addr × Str)) : Sp := fun vs H Q _ => ∃ v us zss, vs = [v] ∧ SqV K H v us ∧ AllSt K H us zss ∧ ZsOk zss ∧ Tabs T H ∧ ∀ H' r, ExtN H H' → Tabs T H' → IsInk K H' r (inkF zss) → Q r H'
theorem ok_ink_of {f : Addr} {fd : FuncData} {T : List (Addr × Str)} (d_ink_from : D P w K mg base "ink_from" 7 (sp_inkfrom K T)) (d_dots_of : D P w K mg base "dots_of" 1 (sp_dots K)) (d_stretches_of : D P w K mg base "stretches_of" 3 (sp_strs K)) (F : Fun K "ink_of" "ink_of" s_ink_of f fd) : FnOk P w K mg base CX0 8 f fd ["strokes"] (sp_inkof K T) := by
  refine F.ok sc_ink_of (fun vs H Q E h => ?_) (fun cdv A outer s H vs Q E hr h => ?_)
  · obtain ⟨v, us, zss, rfl, _⟩ := h
    rfl
  obtain ⟨v, us, zss, rfl, hv, hA, ok, hT, q⟩ := h
  refine ⟨_, (pss_one (ps_ret (pc d_ink_from (hr.mono (by decide)) (pa_cons (pc d_dots_of (hr.mono (by decide)) (pa_cons (pv 0) pa_nil)) (pa_cons (pc d_stretches_of (hr.mono (by decide)) (pa_cons (pv 0) pa_nil)) pa_nil))))), ?_⟩
  have lu : us.length = zss.length := Paired.length hA
  have ll := ok.len
  refine ⟨_, rfl, v, us, zss, rfl, hv, hA, ok.ok, by omega, fun H1 L1 w1 s1 n1 h1 a1 => ?_⟩
  have hv1 : SqV K H1 v us := by
    obtain ⟨a, rfl, h⟩ := hv
    exact ⟨a, rfl, h.imp (fun h => s1.seq h) fun h => same_T s1 h⟩
  refine ⟨_, rfl, v, us, zss, rfl, hv1, pimp (fun _ _ i => i.same s1) hA, ok.ok, (fun z hz => (ok.bd z hz).mono (by decide)), by omega, fun H2 L2 w2 s2 n2 h2 a2 => ?_⟩
  have sl := strF_len ok.ok
  exact ⟨L1, L2, w1, w2, dotsF zss, strF zss, rfl, s2 _ _ h1, pimp (fun _ _ i => i.same s2) a1, h2, a2, dotsF_sps ok, strF_sg ok, by omega, hT.ext (s1.trans s2), fun H' r e T' i => q H' r ((ExtN.of (s1.trans s2)).trans e) T' i⟩
theorem DrOk.zs {zss : List (List T3)} (h : DrOk zss) (bd : ∀ z ∈ zss.flatten, B 1000 z) : ZsOk zss := ⟨h.ok, bd, by have := h.len; omega⟩
def sp_wink (K : PySem.W.Frag) (CW : Addr) (T : List (Addr × Str)) : Sp := fun vs H Q _ => ∃ v zss, vs = [v] ∧ IsW K CW H v zss ∧ ZsOk zss ∧ Tabs T H ∧ ∀ H' r, ExtN H H' → Tabs T H' → IsInk K H' r (inkF zss) → Q r H'
theorem ok_wink {f CW : Addr} {fd : FuncData} {T : List (Addr × Str)} (TX : WTxt K CW) (d_ink_of : D P w K mg base "ink_of" 8 (sp_inkof K T)) (F : Fun K "ink" "Drawing.ink" s_Drawing_ink f fd) : FnOk P w K mg base CX0 9 f fd ["self"] (sp_wink K CW T) := by
  refine F.ok sc_Drawing_ink (fun vs H Q E h => ?_) (fun cdv A outer s H vs Q E hr h => ?_)
  · obtain ⟨v, zss, rfl, _⟩ := h
    rfl
  obtain ⟨v, zss, rfl, ⟨p, dx, t, us, rfl, h1, h2, h3⟩, ok, hT, q⟩ := h
  refine ⟨_, (pss_one (ps_ret (pc d_ink_of (hr.mono (by decide)) (pa_cons (pe_fld (pv 0) rfl) pa_nil)))), ?_⟩
  exact ⟨_, rfl, p, CW, dx, _, _, rfl, h1, TX.cl, TX.nH, wf_held, _, us, zss, rfl, ⟨t, rfl, .inr h2⟩, h3, ok, hT, q⟩
structure MWk (P : Program) (w : World) (K : PySem.W.Frag) (mg : Str → Option Value) (base : Heap) (CW : Addr) (T : List (Addr × Str)) : Prop where
  cl : Cls K CW
  ex : ∃ f fd, FnOk P w K mg base CX0 9 f fd ["self"] (sp_wink K CW T) ∧ Binds K fd ["self"] [] ∧ Meth K CW "ink" f
theorem pe_ink {X : Cx} {CW : Addr} {T : List (Addr × Str)} {o : Expr} {to : TE} {apos pos : Pos} {pl : Sem Bool} (M : MWk X.prog X.w X.K X.mg X.base CW T) (hr : Room 9 X.A) (ho : PE X o to)
    (ht : eval (.Call (.Attribute o "ink" apos) [] [] pos) X.env = (do
      let ov ← eval o X.env
      standAt apos.atName
      let (g, first) ← holding [ov] (getMethod ov "ink" pl)
      callWith pos g first (backTo pos (starEach [] X.env)) (backToKw pos (keywordEach [] X.env))) := by rfl) :
    PE X (.Call (.Attribute o "ink" apos) [] [] pos) (tMeth CW "ink" (sp_wink X.K CW T) [] E0 to tNil) := by
  obtain ⟨f, fd, F, b, m⟩ := M.ex
  exact pe_meth0 ho M.cl m F hr b .nil pass0 ht
theorem wf_no2 {t : Addr} {x : Str} (h1 : (x == ("held" : Str)) = false) : (wf t).lookup x = none := by
  unfold wf
  simp only [List.lookup, h1]
theorem ink_at {CW : Addr} {T : List (Addr × Str)} {H : Hp} {Q : VK} {v : V} {zss : List (List T3)} (i : IsW K CW H v zss) (ok : ZsOk zss) (hT : Tabs T H) (q : ∀ H' r, ExtN H H' → Tabs T H' → IsInk K H' r (inkF zss) → Q r H') {σ : L2.St} : ∃ a dx fs, v = .ref a ∧ H a = some (.ins CW dx fs) ∧ fs.lookup ("ink" : Str) = none ∧ tNil σ H fun vs H2 => sp_wink K CW T (v :: (vs ++ [])) H2 Q E0 := by
  obtain ⟨p, dx, a, b, rfl, h1, h2, h3⟩ := id i
  exact ⟨p, dx, _, rfl, h1, wf_no2 (by decide +kernel), _, zss, rfl, i, ok, hT, q⟩
def dPr (p : T3 × T3) : PyData := .tuple [d3 p.1, d3 p.2]
def dInk (k : Ink) : PyData := .tuple [.tuple (k.1.map d3), .tuple (k.2.map dPr)]
theorem IsPr_dp {H : Hp} {v : V} {p : T3 × T3} (h : IsPr K H v p) : Dp K H v (dPr p) := by
  obtain ⟨t, a, b, rfl, h1, h2, h3⟩ := h
  exact .tup h1 (.cons (Dp3 h2) (.cons (Dp3 h3) .nil))
theorem IsPr_dps {H : Hp} : ∀ {us : List V} {ps : List (T3 × T3)}, Paired (IsPr K H) us ps → DpAll K H us (ps.map dPr)
  | _, _, .nil => .nil
  | _, _, .cons h t => .cons (IsPr_dp h) (IsPr_dps t)
theorem IsInk.dp {H : Hp} {v : V} {k : Ink} (h : IsInk K H v k) : Dp K H v (dInk k) := by
  obtain ⟨p, a, b, us, ws, rfl, h1, h2, h3, h4, h5⟩ := h
  exact .tup h1 (.cons (.tup h2 (dps3 h3)) (.cons (.tup h4 (IsPr_dps h5)) .nil))
theorem shInk (k : Ink) : SeqAt.shaped (dInk k) = true := by
  have h1 := canAll (xs := k.1.map d3) (fun x hx => by obtain ⟨z, _, rfl⟩ := List.mem_map.mp hx; rfl)
  have h2 := canAll (xs := k.2.map dPr) (fun x hx => by obtain ⟨z, _, rfl⟩ := List.mem_map.mp hx; rfl)
  have h3 := depAll (n := 6) (xs := k.1.map d3) (fun x hx => by
    obtain ⟨z, _, rfl⟩ := List.mem_map.mp hx
    show PyData.depth (d3 z) ≤ 6
    simp [d3, PyData.depth, PyData.depthAll])
  have h4 := depAll (n := 6) (xs := k.2.map dPr) (fun x hx => by
    obtain ⟨z, _, rfl⟩ := List.mem_map.mp hx
    show PyData.depth (dPr z) ≤ 6
    simp [dPr, d3, PyData.depth, PyData.depthAll])
  show ((PyData.canLayAll0 (k.1.map d3) && (PyData.canLayAll0 (k.2.map dPr) && true)) && decide ((dInk k).depth ≤ 64)) = true
  rw [h1, h2, decide_eq_true (by simp only [dInk, PyData.depth, PyData.depthAll]; omega)]
  rfl
theorem eqvPr (p q : T3 × T3) : PyData.eqv (dPr p) (dPr q) = decide (p = q) := by
  show (PyData.eqv (d3 p.1) (d3 q.1) && (PyData.eqv (d3 p.2) (d3 q.2) && true)) = _
  rw [eqv3, eqv3, Bool.and_true, Bool.eq_iff_iff, Bool.and_eq_true, decide_eq_true_iff, decide_eq_true_iff, decide_eq_true_iff]
  exact ⟨fun ⟨h1, h2⟩ => Prod.ext h1 h2, fun h => by rw [h]; exact ⟨rfl, rfl⟩⟩
theorem eqvAllM {α : Type} [DecidableEq α] {f : α → PyData} (h : ∀ a b, PyData.eqv (f a) (f b) = decide (a = b)) : ∀ as bs : List α, PyData.eqvAll (as.map f) (bs.map f) = decide (as = bs)
  | [], [] => rfl
  | [], _ :: _ => rfl
  | _ :: _, [] => rfl
  | a :: as, b :: bs => by
    show (PyData.eqv (f a) (f b) && PyData.eqvAll (as.map f) (bs.map f)) = _
    rw [h, eqvAllM h, Bool.eq_iff_iff]
    simp
theorem eqvInk (k l : Ink) : PyData.eqv (dInk k) (dInk l) = decide (k = l) := by
  show (PyData.eqvAll (k.1.map d3) (l.1.map d3) && (PyData.eqvAll (k.2.map dPr) (l.2.map dPr) && true)) = _
  rw [eqvAllM eqv3, eqvAllM eqvPr, Bool.and_true, Bool.eq_iff_iff, Bool.and_eq_true, decide_eq_true_iff, decide_eq_true_iff, decide_eq_true_iff]
  exact ⟨fun ⟨h1, h2⟩ => Prod.ext h1 h2, fun h => by rw [h]; exact ⟨rfl, rfl⟩⟩
theorem IsInk.extN {H H' : Hp} {v : V} {k : Ink} (h : IsInk K H v k) (e : ExtN H H') : IsInk K H' v k := by
  obtain ⟨p, a, b, us, ws, rfl, h1, h2, h3, h4, h5⟩ := h
  exact ⟨p, a, b, us, ws, rfl, extN_T h1 e, extN_T h2 e, pimp (fun _ _ i => i.extN e) h3, extN_T h4 e, pimp (fun _ _ i => IsPr_extN i e) h5⟩
theorem IsWx {CW : Addr} {H H' : Hp} {v : V} {zss : List (List T3)} (h : IsW K CW H v zss) (e : ExtN H H') : IsW K CW H' v zss := by
  obtain ⟨p, dx, t, us, rfl, h1, h2, h3⟩ := h
  exact ⟨p, dx, t, us, rfl, e _ _ h1 (fun ps z => nomatch z), extN_T h2 e, pimp (fun _ _ ⟨t, us, e1, a, b⟩ => ⟨t, us, e1, extN_T a e, pimp (fun _ _ i => i.extN e) b⟩) h3⟩
def sp_alike (K : PySem.W.Frag) (CW : Addr) (T : List (Addr × Str)) : Sp := fun vs H Q _ => ∃ va zss vb yss, vs = [va, vb] ∧ IsW K CW H va zss ∧ IsW K CW H vb yss ∧ ZsOk zss ∧ ZsOk yss ∧ Tabs T H ∧ ∀ H', ExtN H H' → Tabs T H' → Q (.bl (decide (inkF zss = inkF yss))) H'
end
end My

namespace My
open PySem L2 Mth LamX
abbrev s_overlap : Stmt := topS 39
theorem sc_overlap : FnScope ["one", "other", "line", "across", "start", "end", "spot"] ["one", "other"] (defScope s_overlap) := ⟨rfl, rfl, rfl, by decide +kernel, rfl, by decide +kernel, by decide +kernel⟩
section
variable {P : Program} {w : World} {K : PySem.W.Frag} {mg : Str → Option Value} {base : Heap}
/-! ### what two stretches, two inks share -/
def sp_olap (K : PySem.W.Frag) : Sp := fun vs H Q _ => ∃ va vb p q, vs = [va, vb] ∧ IsPr K H va p ∧ IsPr K H vb q ∧ Sg p ∧ Sg q ∧ (olap p q = none → ∀ H', Same H H' → Q .non H') ∧ ∀ s, olap p q = some s → ∀ H' v, Same H H' → IsPr K H' v s → Q v H'
theorem ok_overlap {f : Addr} {fd : FuncData} (d_line_through : D P w K mg base "line_through" 3 (sp_lthru K)) (d_in_order : D P w K mg base "in_order" 2 (sp_inord K)) (d_precedes : D P w K mg base "precedes" 1 (sp_prec K)) (d_are_parallel : D P w K mg base "are_parallel" 1 (sp_par K)) (d_crossing : D P w K mg base "crossing" 3 (sp_cross K)) (d_is_between : D P w K mg base "is_between" 2 (sp_btw K))
    (F : Fun K "overlap" "overlap" s_overlap f fd) : FnOk P w K mg base CX0 4 f fd ["one", "other"] (sp_olap K) := by
  refine F.ok sc_overlap (fun vs H Q E h => ?_) (fun cdv A outer s H vs Q E hr h => ?_)
  · obtain ⟨va, vb, p, q, rfl, _⟩ := h
    rfl
  obtain ⟨va, vb, p, q, rfl, ip, iq, sp, sq, q0, q1⟩ := h
  refine ⟨_, (pss_cons (ps_set (i := 2) sc_overlap.nd rfl (by first | exact Or.inl rfl | exact Or.inr rfl) (pc d_line_through (hr.mono (by decide)) (pa_cons (pe_ix (r := rIxT K) ix_tup (pv 0) pe_int (fun _ _ => rfl)) (pa_cons (pe_ix (r := rIxT K) ix_tup (pv 0) pe_int (fun _ _ => rfl)) pa_nil))))
    (pss_cons (ps_set (i := 3) sc_overlap.nd rfl (by first | exact Or.inl rfl | exact Or.inr rfl) (pc d_line_through (hr.mono (by decide)) (pa_cons (pe_ix (r := rIxT K) ix_tup (pv 1) pe_int (fun _ _ => rfl)) (pa_cons (pe_ix (r := rIxT K) ix_tup (pv 1) pe_int (fun _ _ => rfl)) pa_nil))))
    (pss_cons (ps_if (pt_cmpR (r := rEqD K) (op_eqD hr.units) (pv 2) (pv 3) (nomark _)) (pss_cons (ps_set (i := 4) sc_overlap.nd rfl (by first | exact Or.inl rfl | exact Or.inr rfl) (pe_ix (r := rIxT K) ix_tup (pc d_in_order (hr.mono (by decide)) (pa_cons (pe_ix (r := rIxT K) ix_tup (pv 0) pe_int (fun _ _ => rfl)) (pa_cons (pe_ix (r := rIxT K) ix_tup (pv 1) pe_int (fun _ _ => rfl)) pa_nil))) pe_int (fun _ _ => rfl)))
    (pss_cons (ps_set (i := 5) sc_overlap.nd rfl (by first | exact Or.inl rfl | exact Or.inr rfl) (pe_ix (r := rIxT K) ix_tup (pc d_in_order (hr.mono (by decide)) (pa_cons (pe_ix (r := rIxT K) ix_tup (pv 0) pe_int (fun _ _ => rfl)) (pa_cons (pe_ix (r := rIxT K) ix_tup (pv 1) pe_int (fun _ _ => rfl)) pa_nil))) pe_int (fun _ _ => rfl)))
    (pss_one (ps_ret (pe_ifExp (pt_val (pc d_precedes (hr.mono (by decide)) (pa_cons (pv 5) (pa_cons (pv 4) pa_nil)))) pe_non (pe_tup (pa_cons (pv 4) (pa_cons (pv 5) pa_nil)))))))) pss_nil)
    (pss_cons (ps_if (pt_val (pc d_are_parallel (hr.mono (by decide)) (pa_cons (pv 2) (pa_cons (pv 3) pa_nil)))) (pss_one (ps_ret pe_non)) pss_nil)
    (pss_cons (ps_set (i := 6) sc_overlap.nd rfl (by first | exact Or.inl rfl | exact Or.inr rfl) (pc d_crossing (hr.mono (by decide)) (pa_cons (pv 2) (pa_cons (pv 3) pa_nil))))
    (pss_one (ps_ret (pe_ifExp (PW.pt (pw_and (pt_val (pc d_is_between (hr.mono (by decide)) (pa_cons (pv 6) (pa_cons (pv 0) pa_nil)))) (pw_and1 (pt_val (pc d_is_between (hr.mono (by decide)) (pa_cons (pv 6) (pa_cons (pv 1) pa_nil))))))) (pe_tup (pa_cons (pv 6) (pa_cons (pv 6) pa_nil))) pe_non)))))))), ?_⟩
  obtain ⟨t, a, b, rfl, h1, h2, h3⟩ := id ip
  obtain ⟨t', a', b', rfl, k1, k2, k3⟩ := id iq
  refine ⟨_, rfl, t, _, 0, _, rfl, rfl, h1, rfl, _, rfl, t, _, 1, _, rfl, rfl, h1, rfl, _, _, p.1, p.2, rfl, ⟨a, rfl, h2⟩, ⟨b, rfl, h3⟩, sp.o1, sp.o2, sp.ne, sp.b1, sp.b2, fun H1 v1 s1 i1 => gn_of ?_⟩
  dsimp only [tNext]
  refine ⟨_, rfl, t', _, 0, _, rfl, rfl, same_T s1 k1, rfl, _, rfl, t', _, 1, _, rfl, rfl, same_T s1 k1, rfl, _, _, q.1, q.2, rfl, ⟨a', rfl, same_T s1 k2⟩, ⟨b', rfl, same_T s1 k3⟩, sq.o1, sq.o2, sq.ne, sq.b1, sq.b2, fun H2 v2 s2 i2 => gn_of ?_⟩
  dsimp only [tNext]
  obtain ⟨x1, rfl, t1⟩ := i1.same s2
  obtain ⟨x2, rfl, t2⟩ := i2
  have s12 := s1.trans s2
  have h1 := same_T s12 h1
  have h2 := same_T s12 h2
  have h3 := same_T s12 h3
  have k1 := same_T s12 k1
  have k2 := same_T s12 k2
  have k3 := same_T s12 k3
  have bl := lthru_B sp.o1 sp.o2 sp.ne sp.b1 sp.b2
  have bm := lthru_B sq.o1 sq.o2 sq.ne sq.b1 sq.b2
  refine sig_of2 (σ' := [some (.ref t), some (.ref t'), some (.ref x1), some (.ref x2), none, none, none]) rfl ?_
  refine ⟨_, rfl, _, rfl, d3 (lthru p.1 p.2), d3 (lthru q.1 q.2), Dp3 t1, Dp3 t2, shaped3 _, shaped3 _, _, rfl, ?_⟩
  rw [eqv3]
  unfold olap at q0 q1
  by_cases e : lthru p.1 p.2 = lthru q.1 q.2
  · rw [if_pos e] at q0 q1
    rw [decide_eq_true e]
    refine iteT ?_
    have w1 := ordP_B (sp.b1.mono (show 1000 ≤ 8000 by decide)) (sq.b1.mono (show 1000 ≤ 8000 by decide))
    have w2 := ordP_B (sp.b2.mono (show 1000 ≤ 8000 by decide)) (sq.b2.mono (show 1000 ≤ 8000 by decide))
    refine ⟨_, rfl, t, _, 0, _, rfl, rfl, h1, rfl, _, rfl, t', _, 0, _, rfl, rfl, k1, rfl, _, _, p.1, q.1, rfl, ⟨a, rfl, h2⟩, ⟨a', rfl, k2⟩, sp.b1.mono (by decide), sq.b1.mono (by decide), fun H3 v3 s3 i3 => ?_⟩
    obtain ⟨y, ya, yb, rfl, y1, y2, y3⟩ := i3
    refine ⟨y, _, 1, _, rfl, rfl, y1, rfl, gn_of ?_⟩
    dsimp only [tNext]
    have h1 := same_T s3 h1
    have k1 := same_T s3 k1
    refine ⟨_, rfl, t, _, 1, _, rfl, rfl, h1, rfl, _, rfl, t', _, 1, _, rfl, rfl, k1, rfl, _, _, p.2, q.2, rfl, ⟨b, rfl, same_T s3 h3⟩, ⟨b', rfl, same_T s3 k3⟩, sp.b2.mono (by decide), sq.b2.mono (by decide), fun H4 v4 s4 i4 => ?_⟩
    obtain ⟨z, za, zb, rfl, z1, z2, z3⟩ := i4
    refine ⟨z, _, 0, _, rfl, rfl, z1, rfl, gn_of ?_⟩
    have s04 := s12.trans (s3.trans s4)
    refine sig_of2 (σ' := [some (.ref t), some (.ref t'), some (.ref x1), some (.ref x2), some (.ref yb), some (.ref za), none]) rfl ?_
    refine ⟨_, rfl, _, rfl, _, _, (ordP p.2 q.2).1, (ordP p.1 q.1).2, rfl, ⟨za, rfl, z2⟩, ⟨yb, rfl, same_T s4 y3⟩, w2.1, w1.2, fun H5 s5 => ⟨_, rfl, ?_⟩⟩
    cases e2 : ltS (ordP p.2 q.2).1 (ordP p.1 q.1).2 with
    | true =>
      rw [if_pos e2] at q0
      exact iteT (q0 rfl _ (s04.trans s5))
    | false =>
      rw [if_neg (by rw [e2]; exact Bool.false_ne_true)] at q1
      refine iteF ⟨_, rfl, _, rfl, (by show 2 ≤ sizeLine; decide), fun r hr' => ?_⟩
      have s6 := same_new hr' (.tup [.ref yb, .ref za])
      exact q1 _ rfl _ _ (s04.trans (s5.trans s6)) ⟨r, yb, za, rfl, .inl (.inl upd_same), same_T s6 (same_T s5 (same_T s4 y3)), same_T s6 (same_T s5 z2)⟩
  rw [if_neg e] at q0 q1
  rw [decide_eq_false e]
  refine iteF ?_
  dsimp only [tNext]
  refine ⟨_, rfl, _, rfl, _, _, _, _, rfl, ⟨x1, rfl, t1⟩, ⟨x2, rfl, t2⟩, bl.mono (by decide), bm.mono (by decide), _, rfl, ?_⟩
  by_cases e2 : (lthru p.1 p.2).1 * (lthru q.1 q.2).2.1 = (lthru q.1 q.2).1 * (lthru p.1 p.2).2.1
  · rw [if_pos e2] at q0
    rw [decide_eq_true e2]
    exact iteT (q0 rfl _ s12)
  rw [if_neg e2] at q0 q1
  rw [decide_eq_false e2]
  refine iteF ?_
  dsimp only [tNext]
  refine ⟨_, rfl, _, rfl, _, _, _, _, rfl, ⟨x1, rfl, t1⟩, ⟨x2, rfl, t2⟩, bl.mono (by decide), bm.mono (by decide), e2, fun H3 v3 s3 i3 => gn_of ?_⟩
  have bc := cross_B e2 bl bm
  generalize cross (lthru p.1 p.2) (lthru q.1 q.2) = c at *
  obtain ⟨y, rfl, ty⟩ := id i3
  refine sig_of2 (σ' := [some (.ref t), some (.ref t'), some (.ref x1), some (.ref x2), none, none, some (.ref y)]) rfl ?_
  refine ⟨_, rfl, _, rfl, _, _, c, p, rfl, i3, ⟨t, a, b, rfl, same_T s3 h1, same_T s3 h2, same_T s3 h3⟩, bc.mono (by decide), sp.b1.mono (by decide), sp.b2.mono (by decide), fun H4 s4 => ⟨_, rfl, ?_⟩⟩
  have s34 := s3.trans s4
  cases e3 : btw c p with
  | false =>
    rw [e3] at q0
    exact iteF (iteF (q0 rfl _ (s12.trans s34)))
  | true =>
    rw [e3] at q0 q1
    refine iteT ?_
    refine ⟨_, rfl, _, rfl, _, _, c, q, rfl, i3.same s4, ⟨t', a', b', rfl, same_T s34 k1, same_T s34 k2, same_T s34 k3⟩, bc.mono (by decide), sq.b1.mono (by decide), sq.b2.mono (by decide), fun H5 s5 => ⟨_, rfl, ?_⟩⟩
    cases e4 : btw c q with
    | false =>
      rw [e4] at q0
      exact iteF (q0 rfl _ (s12.trans (s34.trans s5)))
    | true =>
      rw [e4] at q1
      refine iteT ⟨_, rfl, _, rfl, (by show 2 ≤ sizeLine; decide), fun r hr' => ?_⟩
      have s6 := same_new hr' (.tup [.ref y, .ref y])
      exact q1 _ rfl _ _ (s12.trans (s34.trans (s5.trans s6))) ⟨r, y, y, rfl, .inl (.inl upd_same), same_T s6 (same_T s5 (same_T s4 ty)), same_T s6 (same_T s5 (same_T s4 ty))⟩
theorem IsInk.v {H : Hp} {v : V} {k : Ink} (h : IsInk K H v k) : InkV K H v k := by
  obtain ⟨p, a, b, us, ws, rfl, h1, h2, h3, h4, h5⟩ := h
  exact ⟨p, .ref a, .ref b, us, ws, rfl, h1, ⟨a, rfl, .inr h2⟩, h3, ⟨b, rfl, .inr h4⟩, h5⟩
/-- what has been gathered of the overlaps: dots behind those that are there, stretches -/
def AccI (K : PySem.W.Frag) (H H' : Hp) (L1 L3 : Addr) (dd : List T3) (os : List (T3 × T3)) : Prop := ∃ us ws, Same H H' ∧ H' L1 = some (.lst us) ∧ H' L3 = some (.lst ws) ∧ Paired (IsT K H') us (dd ++ (os.filter fun s => decide (s.1 = s.2)).map (·.1)) ∧ Paired (IsPr K H') ws (os.filter fun s => !decide (s.1 = s.2))
theorem AccI.same {H H' H2 : Hp} {L1 L3 : Addr} {dd : List T3} {os : List (T3 × T3)} (h : AccI K H H' L1 L3 dd os) (s : Same H' H2) : AccI K H H2 L1 L3 dd os := by
  obtain ⟨us, ws, s0, h1, h2, a, b⟩ := h
  exact ⟨us, ws, s0.trans s, s _ _ h1, s _ _ h2, pimp (fun _ _ i => i.same s) a, pimp (fun _ _ i => i.same s) b⟩
theorem AccI.dot {H H' : Hp} {L1 L3 : Addr} {dd : List T3} {os : List (T3 × T3)} {s : T3 × T3} {v : V} {us : List V} (n1 : H L1 = none) (ne : L3 ≠ L1) (h : AccI K H H' L1 L3 dd os) (h1 : H' L1 = some (.lst us)) (e : s.1 = s.2) (iv : IsT K H' v s.1) : AccI K H (upd H' L1 (.lst (us ++ [v]))) L1 L3 dd (os ++ [s]) := by
  obtain ⟨us', ws, s0, h1', h2, a, b⟩ := h
  rw [h1] at h1'
  cases h1'
  have k := keep_upd (d := L1) (H := H') (o := .lst (us ++ [v]))
  refine ⟨us ++ [v], ws, fun b o e => ?_, upd_same, (upd_ne ne).trans h2, ?_, ?_⟩
  · rw [upd_ne (ne_of_none e n1)]; exact s0 _ _ e
  · rw [List.filter_append, List.filter_cons, if_pos (decide_eq_true e), List.filter_nil, List.map_append, ← List.append_assoc]
    exact papp (pimp (fun _ _ i => i.keep h1 k) a) (.cons (iv.keep h1 k) .nil)
  · rw [List.filter_append, List.filter_cons, if_neg (by rw [decide_eq_true e]; decide), List.filter_nil, List.append_nil]
    exact pimp (fun _ _ i => IsPr_keep i h1 k) b
theorem AccI.str {H H' : Hp} {L1 L3 : Addr} {dd : List T3} {os : List (T3 × T3)} {s : T3 × T3} {v : V} {ws : List V} (n3 : H L3 = none) (ne : L1 ≠ L3) (h : AccI K H H' L1 L3 dd os) (h1 : H' L3 = some (.lst ws)) (e : s.1 ≠ s.2) (iv : IsPr K H' v s) : AccI K H (upd H' L3 (.lst (ws ++ [v]))) L1 L3 dd (os ++ [s]) := by
  obtain ⟨us, ws', s0, h1', h2, a, b⟩ := h
  rw [h1] at h2
  cases h2
  have k := keep_upd (d := L3) (H := H') (o := .lst (ws ++ [v]))
  refine ⟨us, ws ++ [v], fun b o e => ?_, (upd_ne ne).trans h1', upd_same, ?_, ?_⟩
  · rw [upd_ne (ne_of_none e n3)]; exact s0 _ _ e
  · rw [List.filter_append, List.filter_cons, if_neg (by rw [decide_eq_false e]; decide), List.filter_nil, List.append_nil]
    exact pimp (fun _ _ i => i.keep h1 k) a
  · rw [List.filter_append, List.filter_cons, if_pos (by rw [decide_eq_false e]; rfl), List.filter_nil]
    exact papp (pimp (fun _ _ i => IsPr_keep i h1 k) b) (.cons (IsPr_keep iv h1 k) .nil)
def sp_comink (K : PySem.W.Frag) (T : List (Addr × Str)) : Sp := fun vs H Q _ => ∃ va vb k l, vs = [va, vb] ∧ IsInk K H va k ∧ IsInk K H vb l ∧ InkOk k ∧ InkOk l ∧ Tabs T H ∧ ∀ H' v, ExtN H H' → Tabs T H' → IsInk K H' v (comF k l) → Q v H'
end
end My

namespace My
open PySem L2 Mth LamX
abbrev s_Drawing_covers : Stmt := inClass (topS 25) 8
theorem sc_Drawing_covers : FnScope ["self", "spot"] ["self", "spot"] (defScope s_Drawing_covers) := ⟨rfl, rfl, rfl, by decide +kernel, rfl, by decide +kernel, by decide +kernel⟩
section
variable {P : Program} {w : World} {K : PySem.W.Frag} {mg : Str → Option Value} {base : Heap}
/-! ### what is common, what lies within, what is covered -/
theorem inkF_ok {zss : List (List T3)} (h : ZsOk zss) (l : zss.length ≤ 12) (b : ∀ z ∈ zss.flatten, B 120 z) : InkOk (inkF zss) := by
  have hs := strF_sg h
  have hl := strF_len h.ok
  have mB : ∀ p ∈ strF zss, B 120 p.1 ∧ B 120 p.2 := fun p hp => by
    obtain ⟨zs, hz, hp⟩ := List.mem_flatMap.mp hp
    obtain ⟨q, hq, rfl⟩ := List.mem_map.mp hp
    obtain ⟨j, h1, h2⟩ := nbs_mem hq
    exact ordP_B (b _ (List.mem_flatten.mpr ⟨zs, hz, List.mem_of_getElem? h1⟩)) (b _ (List.mem_flatten.mpr ⟨zs, hz, List.mem_of_getElem? h2⟩))
  have mD : ∀ z ∈ (inkF zss).1, z ∈ dotsF zss := fun z hz => by
    have h1 : z ∈ dedup ((dotsF zss).filter fun z => !onAny z (longestF (strF zss))) := asc_mem.mp hz
    have h2 := (dd_mem _ [] z).mp h1
    rcases h2 with h2 | h2
    · cases h2
    · exact (List.mem_filter.mp h2).1
  refine ⟨fun z hz => ?_, fun p hp => ?_, ?_, ?_⟩
  · have := dotsF_mem (mD z hz)
    exact ⟨(h.ok _ this).ok z (.head _), (b z (List.mem_flatten.mpr ⟨_, this, .head _⟩)).mono (by decide)⟩
  · have hp : p ∈ longestF (strF zss) := ascP_mem.mp hp
    exact ⟨longest_sg hs p hp, longest_P mB p hp⟩
  · have e1 : (inkF zss).1.length = (dedup ((dotsF zss).filter fun z => !onAny z (longestF (strF zss)))).length := List.length_mergeSort _
    have e2 := dd_len ((dotsF zss).filter fun z => !onAny z (longestF (strF zss))) []
    have e3 := List.length_filter_le (fun z => !onAny z (longestF (strF zss))) (dotsF zss)
    have e4 := dotsF_len zss
    have e2 : (dedup ((dotsF zss).filter fun z => !onAny z (longestF (strF zss)))).length ≤ 0 + ((dotsF zss).filter fun z => !onAny z (longestF (strF zss))).length := e2
    omega
  · have e1 : (inkF zss).2.length = (longestF (strF zss)).length := List.length_mergeSort _
    have e2 := longest_len1 hs
    omega
def sp_common (K : PySem.W.Frag) (CW : Addr) (T : List (Addr × Str)) : Sp := fun vs H Q _ => ∃ va zss vb yss, vs = [va, vb] ∧ IsW K CW H va zss ∧ IsW K CW H vb yss ∧ ZsOk zss ∧ ZsOk yss ∧ InkOk (inkF zss) ∧ InkOk (inkF yss) ∧ Tabs T H ∧ ∀ H' v, ExtN H H' → Tabs T H' → IsInk K H' v (comF (inkF zss) (inkF yss)) → Q v H'
def sp_within (K : PySem.W.Frag) (CW : Addr) (T : List (Addr × Str)) : Sp := fun vs H Q _ => ∃ va zss vb yss, vs = [va, vb] ∧ IsW K CW H va zss ∧ IsW K CW H vb yss ∧ ZsOk zss ∧ ZsOk yss ∧ InkOk (inkF zss) ∧ InkOk (inkF yss) ∧ Tabs T H ∧ ∀ H', ExtN H H' → Tabs T H' → Q (.bl (decide (comF (inkF zss) (inkF yss) = inkF zss))) H'
def sp_wcov (K : PySem.W.Frag) (CW : Addr) : Sp := fun vs H Q _ => ∃ v zss vz z, vs = [v, vz] ∧ IsW K CW H v zss ∧ ZsOk zss ∧ IsT K H vz z ∧ Ok z ∧ B 1000 z ∧ ∀ H', Same H H' → Q (.bl (cov z (dotsF zss, strF zss))) H'
theorem ok_wcov {f CW : Addr} {fd : FuncData} (TX : WTxt K CW) (d_check_spot : D P w K mg base "check_spot" 3 (sp_check K)) (d_dots_of : D P w K mg base "dots_of" 1 (sp_dots K)) (d_stretches_of : D P w K mg base "stretches_of" 3 (sp_strs K)) (d_is_covered : D P w K mg base "is_covered" 5 (sp_cvd K))
    (F : Fun K "covers" "Drawing.covers" s_Drawing_covers f fd) : FnOk P w K mg base CX0 6 f fd ["self", "spot"] (sp_wcov K CW) := by
  refine F.ok sc_Drawing_covers (fun vs H Q E h => ?_) (fun cdv A outer s H vs Q E hr h => ?_)
  · obtain ⟨v, zss, vz, z, rfl, _⟩ := h
    rfl
  obtain ⟨v, zss, vz, z, rfl, iw, oz, it, o, b, q⟩ := h
  refine ⟨_, (pss_cons (ps_expr (pc d_check_spot (hr.mono (by decide)) (pa_cons (pv 1) pa_nil)))
    (pss_one (ps_ret (pc d_is_covered (hr.mono (by decide)) (pa_cons (pv 1) (pa_cons (pe_tup (pa_cons (pc d_dots_of (hr.mono (by decide)) (pa_cons (pe_fld (pv 0) rfl) pa_nil)) (pa_cons (pc d_stretches_of (hr.mono (by decide)) (pa_cons (pe_fld (pv 0) rfl) pa_nil)) pa_nil))) pa_nil)))))), ?_⟩
  obtain ⟨p, dx, t, us, rfl, h1, h2, h3⟩ := iw
  have lu := Paired.length h3
  have lz := oz.len
  refine ⟨_, rfl, _, z, rfl, it, o, fun H1 s1 => ?_⟩
  dsimp only [tNext]
  have a1 := s1 _ _ h1
  have a3 : AllSt K H1 us zss := pimp (fun _ _ i => i.same s1) h3
  refine ⟨_, rfl, _, rfl, p, CW, dx, _, _, rfl, a1, TX.cl, TX.nH, wf_held, _, us, zss, rfl, ⟨t, rfl, .inr (same_T s1 h2)⟩, a3, oz.ok, by omega, fun H2 L ws s2 n2 b2 w2 => ?_⟩
  have s12 := s1.trans s2
  have a4 : AllSt K H2 us zss := pimp (fun _ _ i => i.same s2) a3
  refine ⟨_, rfl, p, CW, dx, _, _, rfl, s12 _ _ h1, TX.cl, TX.nH, wf_held, _, us, zss, rfl, ⟨t, rfl, .inr (same_T s12 h2)⟩, a4, oz.ok, fun z hz => (oz.bd z hz).mono (by decide), by omega, fun H3 M us3 s3 n3 b3 w3 => ?_⟩
  refine ⟨(by show 2 ≤ sizeLine; decide), fun u hu => ?_⟩
  have s4 := same_new hu (.tup [.ref L, .ref M])
  have s14 := s12.trans (s3.trans s4)
  exact ⟨_, _, z, (dotsF zss, strF zss), rfl, it.same s14, o, b, ⟨u, .ref L, .ref M, ws, us3, rfl, .inl (.inl upd_same), ⟨L, rfl, .inl (.inl (.inl (s4 _ _ (s3 _ _ b2))))⟩, pimp (fun _ _ i => i.same (s3.trans s4)) w2, ⟨M, rfl, .inl (.inl (.inl (s4 _ _ b3)))⟩, pimp (fun _ _ i => IsPr_extN i (ExtN.of s4)) w3⟩, strF_sg oz, fun H' s' => q _ (s14.trans s')⟩
structure MWv (P : Program) (w : World) (K : PySem.W.Frag) (mg : Str → Option Value) (base : Heap) (CW : Addr) : Prop where
  cl : Cls K CW
  ex : ∃ f fd, FnOk P w K mg base CX0 6 f fd ["self", "spot"] (sp_wcov K CW) ∧ Binds K fd ["self", "spot"] [] ∧ Meth K CW "covers" f
theorem pe_wcov {X : Cx} {CW : Addr} {o e : Expr} {to : TE} {t : TA} {apos pos : Pos} {pl : Sem Bool} (M : MWv X.prog X.w X.K X.mg X.base CW) (hr : Room 6 X.A) (ho : PE X o to) (ha : PA X [e] t)
    (hs1 : starEach [e] X.env = (false, eval e X.env) :: starEach [] X.env := by rfl) (hs2 : (backTo pos (starEach [] X.env)).any (·.1) = false := by rfl)
    (ht : eval (.Call (.Attribute o "covers" apos) [e] [] pos) X.env = (do
      let ov ← eval o X.env
      standAt apos.atName
      let (g, first) ← holding [ov] (getMethod ov "covers" pl)
      callWith pos g first (backTo pos (starEach [e] X.env)) (backToKw pos (keywordEach [] X.env))) := by rfl) :
    PE X (.Call (.Attribute o "covers" apos) [e] [] pos) (tMeth CW "covers" (sp_wcov X.K CW) [] E0 to t) := by
  obtain ⟨f, fd, F, b, m⟩ := M.ex
  exact pe_meth ho M.cl m F hr b .nil pass0 ha hs1 hs2 ht
theorem wcov_of {CW : Addr} {H : Hp} {Q : VK} {v : V} {zss : List (List T3)} (i : IsW K CW H v zss) {t : TA} {σ : L2.St} (q : t σ H fun vs H2 => sp_wcov K CW (v :: (vs ++ [])) H2 Q E0) : ∃ a dx fs, v = .ref a ∧ H a = some (.ins CW dx fs) ∧ fs.lookup ("covers" : Str) = none ∧ t σ H fun vs H2 => sp_wcov K CW (v :: (vs ++ [])) H2 Q E0 := by
  obtain ⟨p, dx, a, b, rfl, h1, _⟩ := i
  exact ⟨p, dx, _, rfl, h1, wf_no2 (by decide +kernel), q⟩
end
end My

namespace My
open PySem L2 Mth LamX
/-! ### what drawings cover: alike, within -/
/-- what the strokes of a drawing cover -/
def cvD (z : T3) (zss : List (List T3)) : Bool := cov z (dotsF zss, strF zss)
theorem cvD_iff {z : T3} {zss : List (List T3)} : cvD z zss = true ↔ z ∈ dotsF zss ∨ ∃ p ∈ strF zss, onS z p := cov_iff
theorem dotsF_ok {zss : List (List T3)} (h : ZsOk zss) : ∀ z ∈ dotsF zss, Ok z := (dotsF_sps h).ok
theorem cov_inkF {zss : List (List T3)} (h : ZsOk zss) {z : T3} (hz : Ok z) : cov z (inkF zss) = true ↔ cvD z zss = true := by
  rw [cvD_iff]
  unfold inkF
  rw [cov_inkFrom hz (strF_sg h), onAny_iff]
  exact Iff.rfl
theorem inkF_nf {zss : List (List T3)} (h : ZsOk zss) : NF (inkF zss) := nf_inkFrom (dotsF_ok h) (strF_sg h)
theorem inkF_eq {a b : List (List T3)} (ha : ZsOk a) (hb : ZsOk b) : inkF a = inkF b ↔ ∀ z, Ok z → (cvD z a = true ↔ cvD z b = true) := by
  constructor
  · intro e z oz
    rw [← cov_inkF ha oz, ← cov_inkF hb oz, e]
  · intro h
    exact ink_uniq (inkF_nf ha) (inkF_nf hb) fun z oz => by
      rw [cov_inkF ha oz, cov_inkF hb oz]
      exact h z oz
theorem com_nf {k l : Ink} (ok : InkOk k) (ol : InkOk l) : NF (comF k l) := by
  unfold comF
  refine nf_inkFrom (fun z hz => ?_) fun s hs => ?_
  · rcases List.mem_append.mp hz with hz | hz
    · rcases List.mem_append.mp hz with hz | hz
      · exact (ok.d z (List.mem_filter.mp hz).1).1
      · exact (ol.d z (List.mem_filter.mp hz).1).1
    · obtain ⟨s, hs, rfl⟩ := List.mem_map.mp hz
      obtain ⟨p, hp, q, hq, e⟩ := olaps_mem (List.mem_filter.mp hs).1
      have sp := ok.l p hp
      have sq := ol.l q hq
      exact (olap_ok sp.1 sq.1 sp.2.1 sp.2.2 sq.2.1 sq.2.2 e).1.1
  · obtain ⟨hm, hf⟩ := List.mem_filter.mp hs
    obtain ⟨p, hp, q, hq, e⟩ := olaps_mem hm
    have sp := ok.l p hp
    have sq := ol.l q hq
    exact (olap_ok sp.1 sq.1 sp.2.1 sp.2.2 sq.2.1 sq.2.2 e).2 fun x => by rw [decide_eq_true x] at hf; exact absurd hf (by decide)
theorem within_iff {a b : List (List T3)} (ha : ZsOk a) (hb : ZsOk b) (ka : InkOk (inkF a)) (kb : InkOk (inkF b)) : comF (inkF a) (inkF b) = inkF a ↔ ∀ z, Ok z → cvD z a = true → cvD z b = true := by
  constructor
  · intro e z oz h
    have := (cov_inkF ha oz).mpr h
    rw [← e, cov_com ka kb oz] at this
    exact (cov_inkF hb oz).mp this.2
  · intro h
    refine ink_uniq (com_nf ka kb) (inkF_nf ha) fun z oz => ?_
    rw [cov_com ka kb oz, cov_inkF ha oz, cov_inkF hb oz]
    exact ⟨fun x => x.1, fun x => ⟨x, h z oz x⟩⟩
theorem dotsF_app (a b : List (List T3)) : dotsF (a ++ b) = dotsF a ++ dotsF b := List.flatMap_append
theorem strF_app (a b : List (List T3)) : strF (a ++ b) = strF a ++ strF b := List.flatMap_append
theorem cvD_app {z : T3} {a b : List (List T3)} : cvD z (a ++ b) = true ↔ cvD z a = true ∨ cvD z b = true := by
  rw [cvD_iff, cvD_iff, cvD_iff, dotsF_app, strF_app]
  simp only [List.mem_append]
  constructor
  · rintro ((h | h) | ⟨p, h | h, x⟩)
    · exact .inl (.inl h)
    · exact .inr (.inl h)
    · exact .inl (.inr ⟨p, h, x⟩)
    · exact .inr (.inr ⟨p, h, x⟩)
  · rintro ((h | ⟨p, h, x⟩) | (h | ⟨p, h, x⟩))
    · exact .inl (.inl h)
    · exact .inr ⟨p, .inl h, x⟩
    · exact .inl (.inr h)
    · exact .inr ⟨p, .inr h, x⟩
theorem cvD_mem {z : T3} {a : List (List T3)} : cvD z a = true ↔ ∃ zs ∈ a, cvD z [zs] = true := by
  induction a with
  | nil =>
    rw [cvD_iff]
    constructor
    · rintro (h | ⟨p, h, _⟩)
      · cases h
      · cases h
    · rintro ⟨zs, h, _⟩
      cases h
  | cons x a ih =>
    rw [show x :: a = [x] ++ a from rfl, cvD_app, ih]
    simp
/-- the order of the strokes, and how often they stand, says nothing -/
theorem cvD_same {z : T3} {a b : List (List T3)} (h : ∀ zs, zs ∈ a ↔ zs ∈ b) : cvD z a = true ↔ cvD z b = true := by
  rw [cvD_mem, cvD_mem]
  simp only [h]
theorem cvD_dot {z s : T3} : cvD z [[s]] = true ↔ z = s := by
  rw [cvD_iff]
  constructor
  · rintro (h | ⟨p, h, _⟩)
    · exact List.mem_singleton.mp h
    · cases h
  · rintro rfl
    exact .inl (.head _)
/-! ### a stroke is its spot or its segments -/
theorem nbs_iff : ∀ {zs : List T3} {q : T3 × T3}, q ∈ nbs zs ↔ ∃ j : Nat, zs[j]? = some q.1 ∧ zs[j + 1]? = some q.2 := by
  intro zs q
  refine ⟨nbs_mem, ?_⟩
  rintro ⟨j, h1, h2⟩
  induction zs generalizing j with
  | nil => cases h1
  | cons x zs ih =>
    cases zs with
    | nil => cases j <;> simp at h2
    | cons y r =>
      cases j with
      | zero =>
        have e1 : x = q.1 := by simpa using h1
        have e2 : y = q.2 := by simpa using h2
        show q ∈ (x, y) :: nbs (y :: r)
        rw [e1, e2]
        exact .head _
      | succ j =>
        exact List.mem_cons_of_mem _ (ih j (by simpa using h1) (by simpa using h2))
theorem cvD_one {z : T3} {zs : List T3} : cvD z [zs] = true ↔ zs = [z] ∨ ∃ q ∈ nbs zs, seg z q.1 q.2 := by
  rw [cvD_iff]
  have e1 : z ∈ dotsF [zs] ↔ zs = [z] := by
    show z ∈ dot1 zs ++ [] ↔ _
    rw [List.append_nil]
    unfold dot1
    split
    · rename_i y
      rw [List.mem_singleton]
      exact ⟨fun e => by rw [e], fun e => by cases e; rfl⟩
    · rename_i h
      exact ⟨(fun x => nomatch x), (fun e => absurd e (h z))⟩
  have e2 : (∃ p ∈ strF [zs], onS z p) ↔ ∃ q ∈ nbs zs, seg z q.1 q.2 := by
    show (∃ p ∈ ((nbs zs).map fun q => ordP q.1 q.2) ++ [], onS z p) ↔ _
    rw [List.append_nil]
    constructor
    · rintro ⟨p, hp, h⟩
      obtain ⟨q, hq, rfl⟩ := List.mem_map.mp hp
      exact ⟨q, hq, h⟩
    · rintro ⟨q, hq, h⟩
      exact ⟨_, List.mem_map.mpr ⟨q, hq, rfl⟩, h⟩
  rw [e1, e2]
theorem cvD_rev {z : T3} {zs : List T3} (ok : ∀ y ∈ zs, Ok y) : cvD z [zs.reverse] = true ↔ cvD z [zs] = true := by
  have half : ∀ {zs : List T3}, (∀ y ∈ zs, Ok y) → cvD z [zs] = true → cvD z [zs.reverse] = true := by
    intro zs ok h
    rw [cvD_one] at h ⊢
    rcases h with h | ⟨q, hq, h⟩
    · exact .inl (by rw [h]; rfl)
    · obtain ⟨j, h1, h2⟩ := nbs_iff.mp hq
      have l2 := (List.getElem?_eq_some_iff.mp h2).1
      refine .inr ⟨(q.2, q.1), nbs_iff.mpr ⟨zs.length - 1 - (j + 1), ?_, ?_⟩, ?_⟩
      · rw [List.getElem?_reverse (by omega), show zs.length - 1 - (zs.length - 1 - (j + 1)) = j + 1 by omega]; exact h2
      · rw [List.getElem?_reverse (by omega), show zs.length - 1 - (zs.length - 1 - (j + 1) + 1) = j by omega]; exact h1
      · exact (seg_comm (ok _ (List.mem_of_getElem? h1)) (ok _ (List.mem_of_getElem? h2))).mp h
  constructor
  · intro h
    have := half (zs := zs.reverse) (fun y hy => ok y (List.mem_reverse.mp hy)) h
    rw [List.reverse_reverse] at this
    exact this
  · exact half ok
theorem cvD_two {z a b : T3} : cvD z [[a, b]] = true ↔ seg z a b := by
  rw [cvD_one]
  constructor
  · rintro (h | ⟨q, hq, h⟩)
    · cases h
    · rcases List.mem_cons.mp hq with rfl | hq
      · exact h
      · cases hq
  · exact fun h => .inr ⟨(a, b), .head _, h⟩
theorem cvD_four {z a b c d : T3} : cvD z [[a, b, c, d]] = true ↔ seg z a b ∨ seg z b c ∨ seg z c d := by
  rw [cvD_one]
  constructor
  · rintro (h | ⟨q, hq, h⟩)
    · cases h
    · have hq : q ∈ [(a, b), (b, c), (c, d)] := hq
      rcases List.mem_cons.mp hq with rfl | hq
      · exact .inl h
      · rcases List.mem_cons.mp hq with rfl | hq
        · exact .inr (.inl h)
        · rw [List.mem_singleton.mp hq] at h
          exact .inr (.inr h)
  · rintro (h | h | h)
    · exact .inr ⟨(a, b), .head _, h⟩
    · exact .inr ⟨(b, c), .tail _ (.head _), h⟩
    · exact .inr ⟨(c, d), .tail _ (.tail _ (.head _)), h⟩
end My

namespace My
open PySem L2 Mth LamX
/-! ### what is told of an ink, as strokes -/
theorem cvD_told {z : T3} {k : Ink} (hs : ∀ p ∈ k.2, Sg p) : cvD z (toldF k) = true ↔ cov z k = true := by
  unfold toldF
  rw [cvD_app, cvD_mem, cvD_mem, cov_iff]
  constructor
  · rintro (⟨zs, h, c⟩ | ⟨zs, h, c⟩)
    · obtain ⟨p, hp, rfl⟩ := List.mem_map.mp h
      refine .inr ⟨p, hp, ?_⟩
      have := cvD_two.mp c
      unfold seg ordP at this
      rw [if_pos (hs p hp).lt] at this
      exact this
    · obtain ⟨y, hy, rfl⟩ := List.mem_map.mp h
      rw [cvD_dot.mp c]
      exact .inl hy
  · rintro (h | ⟨p, hp, h⟩)
    · exact .inr ⟨[z], List.mem_map.mpr ⟨z, h, rfl⟩, cvD_dot.mpr rfl⟩
    · refine .inl ⟨_, List.mem_map.mpr ⟨p, hp, rfl⟩, cvD_two.mpr ?_⟩
      unfold seg ordP
      rw [if_pos (hs p hp).lt]
      exact h
theorem told_st {k : Ink} (hd : ∀ z ∈ k.1, Ok z) (hl : ∀ p ∈ k.2, Sg p) : ∀ zs ∈ toldF k, StOk zs := fun zs h => by
  rcases told_mem h with ⟨p, hp, rfl⟩ | ⟨y, hy, rfl⟩
  · have s := hl p hp
    refine ⟨by simp, by simp, fun z hz => ?_, fun j u v h1 h2 => ?_⟩
    · simp only [List.mem_cons, List.mem_nil_iff, or_false] at hz
      rcases hz with rfl | rfl
      · exact s.o1
      · exact s.o2
    · match j with
      | 0 => simp at h1 h2; subst h1 h2; exact s.ne
      | j + 1 => simp at h2
  · refine ⟨by simp, by simp, fun z hz => ?_, fun j u v h1 h2 => ?_⟩
    · rw [List.mem_singleton.mp hz]; exact hd y hy
    · simp at h2
/-- the ink of drawn strokes: how great its numbers are, and how many -/
theorem inkF_B {zss : List (List T3)} {n : Nat} (h : ZsOk zss) (b : ∀ z ∈ zss.flatten, B n z) : InkB n (inkF zss) := by
  refine ⟨fun z hz => ?_, fun p hp => ?_⟩
  · have := dotsF_mem (inkFrom_d hz)
    exact b z (List.mem_flatten.mpr ⟨_, this, .head _⟩)
  · refine longest_P (P := B n) (fun p hp => ?_) p (inkFrom_l hp)
    obtain ⟨zs, hz, hp⟩ := List.mem_flatMap.mp hp
    obtain ⟨q, hq, rfl⟩ := List.mem_map.mp hp
    obtain ⟨j, h1, h2⟩ := nbs_mem hq
    exact ordP_B (b _ (List.mem_flatten.mpr ⟨zs, hz, List.mem_of_getElem? h1⟩)) (b _ (List.mem_flatten.mpr ⟨zs, hz, List.mem_of_getElem? h2⟩))
theorem inkF_n (zss : List (List T3)) : (inkF zss).1.length ≤ zss.length := Nat.le_trans (inkFrom_n _ _) (dotsF_len zss)
theorem strF_lenN {n : Nat} : ∀ {zss : List (List T3)}, (∀ zs ∈ zss, zs.length ≤ n + 1) → (strF zss).length ≤ n * zss.length
  | [], _ => Nat.le_refl _
  | zs :: zss, h => by
    have ih := strF_lenN (zss := zss) fun z hz => h z (.tail _ hz)
    have hi := h zs (.head _)
    have e : strF (zs :: zss) = ((nbs zs).map fun q => ordP q.1 q.2) ++ strF zss := rfl
    rw [e, List.length_append, List.length_map, nbs_len, List.length_cons, Nat.mul_succ]
    omega
theorem inkF_m {zss : List (List T3)} {n : Nat} (h : ZsOk zss) (l : ∀ zs ∈ zss, zs.length ≤ n + 1) : (inkF zss).2.length ≤ n * zss.length := Nat.le_trans (inkFrom_m (strF_sg h)) (strF_lenN l)
theorem cvD_nil (z : T3) : cvD z [] = false := rfl
theorem zs_nil : ZsOk [] := ⟨(fun zs h => nomatch h), (fun z h => nomatch h), by decide⟩
theorem inkF_nil : inkF [] = ([], []) := ink_uniq (inkF_nf zs_nil) nf_nil fun z oz => by rw [cov_inkF zs_nil oz, cvD_nil, cov_nil]
theorem inkF_ext {a : List (List T3)} {k : Ink} (ha : ZsOk a) (hk : NF k) (h : ∀ z, Ok z → (cvD z a = true ↔ cov z k = true)) : inkF a = k :=
  ink_uniq (inkF_nf ha) hk fun z oz => by rw [cov_inkF ha oz, h z oz]
theorem deep3n (n : Nat) (z : T3) : Deep (n + 2) (d3 z) := ⟨by show 3 ≤ 1000; decide, fun d hd => by
  simp only [List.mem_cons, List.mem_nil_iff, or_false] at hd
  rcases hd with rfl | rfl | rfl <;> trivial⟩
theorem deepPr (n : Nat) (p : T3 × T3) : Deep (n + 3) (dPr p) := ⟨by show 2 ≤ 1000; decide, fun d hd => by
  simp only [List.mem_cons, List.mem_nil_iff, or_false] at hd
  rcases hd with rfl | rfl
  · exact deep3n n _
  · exact deep3n n _⟩
theorem deepInk {k : Ink} (h1 : k.1.length ≤ 1000) (h2 : k.2.length ≤ 1000) : Deep 6 (dInk k) := by
  refine ⟨by show 2 ≤ 1000; decide, fun d hd => ?_⟩
  simp only [List.mem_cons, List.mem_nil_iff, or_false] at hd
  rcases hd with rfl | rfl
  · refine ⟨by rw [List.length_map]; exact h1, fun d hd => ?_⟩
    obtain ⟨z, _, rfl⟩ := List.mem_map.mp hd
    exact deep3n 2 z
  · refine ⟨by rw [List.length_map]; exact h2, fun d hd => ?_⟩
    obtain ⟨z, _, rfl⟩ := List.mem_map.mp hd
    exact deepPr 1 z
section
variable {K : PySem.W.Frag}
theorem pr_st {H : Hp} : ∀ {us : List V} {ps : List (T3 × T3)}, Paired (IsPr K H) us ps → AllSt K H us (ps.map fun p => [p.1, p.2])
  | _, _, .nil => .nil
  | _, _, .cons h r => by
    obtain ⟨t, a, b, rfl, h1, h2, h3⟩ := h
    exact .cons ⟨t, [.ref a, .ref b], rfl, h1, .cons ⟨a, rfl, h2⟩ (.cons ⟨b, rfl, h3⟩ .nil)⟩ (pr_st r)
theorem told_sz {k : Ink} : ∀ zs ∈ toldF k, zs.length ≤ 2 := fun zs h => by
  rcases told_mem h with ⟨p, _, rfl⟩ | ⟨y, _, rfl⟩
  · exact Nat.le_refl _
  · show 1 ≤ 2
    decide
end
end My

namespace My
open PySem L2 Mth LamX
abbrev s_line_groups : Stmt := topS 42
theorem sc_line_groups : FnScope ["lines", "groups", "line"] ["lines"] (defScope s_line_groups) := ⟨rfl, rfl, rfl, by decide +kernel, rfl, by decide +kernel, by decide +kernel⟩
abbrev s_pieces : Stmt := topS 41
theorem sc_pieces : FnScope ["drawing", "dots", "lines"] ["drawing"] (defScope s_pieces) := ⟨rfl, rfl, rfl, by decide +kernel, rfl, by decide +kernel, by decide +kernel⟩
abbrev s_touches : Stmt := topS 44
theorem sc_touches : FnScope ["line", "group", "other"] ["line", "group"] (defScope s_touches) := ⟨rfl, rfl, rfl, by decide +kernel, rfl, by decide +kernel, by decide +kernel⟩
abbrev s_with_line : Stmt := topS 43
theorem sc_with_line : FnScope ["groups", "line", "apart", "joint", "group"] ["groups", "line"] (defScope s_with_line) := ⟨rfl, rfl, rfl, by decide +kernel, rfl, by decide +kernel, by decide +kernel⟩
section
variable {P : Program} {w : World} {K : PySem.W.Frag} {mg : Str → Option Value} {base : Heap}
/-! ### webs: lines that hang together -/
abbrev Pln := Mth.T3 × Mth.T3
def tch (p : Pln) (g : List Pln) : Bool := g.any fun q => (olap p q).isSome
def wlF (gs : List (List Pln)) (p : Pln) : List (List Pln) := (gs.filter fun g => !tch p g) ++ [p :: (gs.filter fun g => tch p g).flatten]
def lgF (ps : List Pln) : List (List Pln) := ps.foldl wlF []
/-- a list of lines -/
def IsG (K : PySem.W.Frag) (H : Hp) (v : V) (g : List Pln) : Prop := ∃ a us, v = .ref a ∧ H a = some (.lst us) ∧ Paired (IsPr K H) us g
theorem IsG.same {H H' : Hp} {v : V} {g : List Pln} (h : IsG K H v g) (s : Same H H') : IsG K H' v g := by
  obtain ⟨a, us, rfl, h1, h2⟩ := h
  exact ⟨a, us, rfl, s _ _ h1, pimp (fun _ _ i => i.same s) h2⟩
def sp_touch (K : PySem.W.Frag) : Sp := fun vs H Q _ => ∃ vp p vg g, vs = [vp, vg] ∧ IsPr K H vp p ∧ IsG K H vg g ∧ Sg p ∧ (∀ q ∈ g, Sg q) ∧ g.length ≤ 300 ∧ ∀ H', Same H H' → Q (.bl (tch p g)) H'
theorem ok_touches {f : Addr} {fd : FuncData} (b_any : mg "any" = none) (d_overlap : D P w K mg base "overlap" 4 (sp_olap K)) (F : Fun K "touches" "touches" s_touches f fd) : FnOk P w K mg base CX0 5 f fd ["line", "group"] (sp_touch K) := by
  refine F.ok sc_touches (fun vs H Q E h => ?_) (fun cdv A outer s H vs Q E hr h => ?_)
  · obtain ⟨vp, p, vg, g, rfl, _⟩ := h
    rfl
  obtain ⟨vp, p, vg, g, rfl, ip, ⟨a, us, rfl, ha, hu⟩, sp, sg, ln, q⟩ := h
  refine ⟨_, (pss_one (ps_ret (pe_callB (cr_any rfl) (by rfl) b_any (by decide +kernel) (pa_cons (pe_lc (own := [("other", 2)]) (g := gName 2) (tt := tYes) (by rfl) sc_touches.nd (pi_list (pv 1)) (blkOk_by (own := [("other", 2)]) (N := ["line", "group", "other"]) (sc := defScope s_touches) (by decide +kernel)) (fun _ _ _ _ _ => (pg_name (i := 2) sc_touches.nd rfl (by first | exact Or.inl rfl | exact Or.inr rfl))) (fun _ _ _ _ _ => pts_nil) (fun _ _ _ _ _ => (pe_cmpR (op_notN) (pc d_overlap (hr.mono (by decide)) (pa_cons (pv 0) (pa_cons (pv 2) pa_nil))) pe_non (nomark _)))) pa_nil)))), ?_⟩
  have lu := Paired.length hu
  refine ⟨_, rfl, a, rfl, ⟨_, .inl (.inl ha)⟩, fun D hD => lc_list (K := K) (a := a) (xs := us) (fun i H' => Same H H' ∧ H' D = some (.lst (((g.take i).map fun q => (olap p q).isSome).map V.bl))) ⟨same_new hD _, upd_same⟩ ?_ ?_ ?_⟩
  · rintro i H' _ ⟨s', _⟩
    exact .inl (.inl (s' _ _ ha))
  · rintro i x H' hx ⟨s', hb⟩
    obtain ⟨r, er, ir⟩ := pgt hu hx
    have li := (List.getElem?_eq_some_iff.mp er).1
    have stp : ∀ H2, Same H' H2 → ∃ acc, H2 D = some (.lst acc) ∧ acc.length < sizeLine ∧ Same H (upd H2 D (.lst (acc ++ [.bl (olap p r).isSome]))) ∧ (upd H2 D (.lst (acc ++ [.bl (olap p r).isSome]))) D = some (.lst (((g.take (i + 1)).map fun q => (olap p q).isSome).map V.bl)) := fun H2 s2 => by
      refine ⟨_, s2 _ _ hb, small1000 (by rw [List.length_map, List.length_map, List.length_take]; omega), fun b o h => ?_, ?_⟩
      · rw [upd_ne (ne_of_none h hD)]
        exact s2 _ _ (s' _ _ h)
      · rw [tk_map _ er, List.map_append]
        exact upd_same
    refine ⟨rfl, yes_of ?_⟩
    refine ⟨_, rfl, _, rfl, _, _, p, r, rfl, ip.same s', ir.same s', sp, sg r (List.mem_of_getElem? er), fun e H2 s2 => ⟨rfl, ?_⟩, fun z e H2 v s2 iv => ?_⟩
    · have := stp H2 s2
      rw [e] at this
      exact this
    · have := stp H2 s2
      rw [e] at this
      obtain ⟨t, x1, x2, rfl, _⟩ := iv
      refine ⟨rfl, ?_⟩
      exact this
  rintro H' ⟨s', hb⟩
  rw [lu, List.take_length] at hb
  refine ⟨D, (g.map fun q => (olap p q).isSome), rfl, .inl (.inl hb), ?_⟩
  have e : (g.map fun q => (olap p q).isSome).any id = tch p g := by unfold tch; rw [List.any_map]; rfl
  rw [e]
  exact q _ s'
theorem filter_flat {α : Type} (f : List α → Bool) : ∀ gs : List (List α), (gs.filter f).flatten.length ≤ gs.flatten.length
  | [] => Nat.le_refl _
  | g :: gs => by
    have ih := filter_flat f gs
    rw [List.flatten_cons, List.length_append]
    by_cases h : f g = true
    · rw [List.filter_cons_of_pos h, List.flatten_cons, List.length_append]
      omega
    · rw [List.filter_cons_of_neg h]
      omega
theorem take_flat {α : Type} (n : Nat) (gs : List (List α)) : (gs.take n).flatten.length ≤ gs.flatten.length := by
  have h := congrArg (fun l => l.flatten.length) (List.take_append_drop n gs)
  simp only [List.flatten_append, List.length_append] at h
  omega
theorem pflat {R : V → Pln → Prop} {us : List V} {g : List Pln} {gs : List (List Pln)} {vs : List V} (h1 : Paired R vs gs.flatten) (h2 : Paired R us g) : Paired R (vs ++ us) (gs ++ [g]).flatten := by
  rw [List.flatten_append, List.flatten_cons, List.flatten_nil, List.append_nil]
  exact papp h1 h2
def IsGs (K : PySem.W.Frag) (H : Hp) (vs : List V) (gs : List (List Pln)) : Prop := Paired (IsG K H) vs gs
theorem IsGs.same {H H' : Hp} {vs : List V} {gs : List (List Pln)} (h : IsGs K H vs gs) (s : Same H H') : IsGs K H' vs gs := pimp (fun _ _ i => i.same s) h
def sp_wline (K : PySem.W.Frag) : Sp := fun vs H Q _ => ∃ L us gs vp p, vs = [.ref L, vp] ∧ H L = some (.lst us) ∧ IsGs K H us gs ∧ IsPr K H vp p ∧ Sg p ∧ (∀ g ∈ gs, ∀ q ∈ g, Sg q) ∧ gs.length ≤ 300 ∧ gs.flatten.length ≤ 300 ∧
  ∀ H' L' us', Same H H' → H' L' = some (.lst us') → IsGs K H' us' (wlF gs p) → Q (.ref L') H'
theorem ok_with_line {f : Addr} {fd : FuncData} (d_touches : D P w K mg base "touches" 5 (sp_touch K)) (F : Fun K "with_line" "with_line" s_with_line f fd) : FnOk P w K mg base CX0 6 f fd ["groups", "line"] (sp_wline K) := by
  refine F.ok sc_with_line (fun vs H Q E h => ?_) (fun cdv A outer s H vs Q E hr h => ?_)
  · obtain ⟨L, us, gs, vp, p, rfl, _⟩ := h
    rfl
  obtain ⟨L, us, gs, vp, p, rfl, hL, hg, ip, sp, sg, ln, lf, q⟩ := h
  refine ⟨_, (pss_cons (ps_set (i := 2) sc_with_line.nd rfl (by first | exact Or.inl rfl | exact Or.inr rfl) (pe_lst pa_nil))
    (pss_cons (ps_set (i := 3) sc_with_line.nd rfl (by first | exact Or.inl rfl | exact Or.inr rfl) (pe_lst (pa_cons (pv 1) pa_nil)))
    (pss_cons (ps_for PassesOwn.never rfl (pi_list (pv 0)) (pg_name (i := 4) sc_with_line.nd rfl (by first | exact Or.inl rfl | exact Or.inr rfl)) (pss_one (ps_if (pt_val (pc d_touches (hr.mono (by decide)) (pa_cons (pv 1) (pa_cons (pv 4) pa_nil)))) (pss_one (ps_expr (pe_bm PySem.F.plainAttrs_list PySem.F.slot_list_extend PySem.F.type_list_extend mt_extend (pv 3) (pa_cons (pv 4) pa_nil)))) (pss_one (ps_expr (pe_bm PySem.F.plainAttrs_list PySem.F.slot_list_append PySem.F.type_list_append mt_append (pv 2) (pa_cons (pv 4) pa_nil)))))))
    (pss_one (ps_ret (pe_lst (StX.pa_star (pv 2) (pa_cons (pv 3) pa_nil)))))))), ?_⟩
  have lu := Paired.length hg
  refine ⟨(by show 0 ≤ sizeLine; decide), fun A1 hA => gn_of ?_⟩
  have s1 := same_new hA (.lst [])
  have a1 := upd_same (H := H) (a := A1) (o := .lst [])
  generalize upd H A1 (.lst []) = H1 at *
  refine ⟨_, rfl, (by show 1 ≤ sizeLine; decide), fun J hJ => gn_of ?_⟩
  have s2 := same_new hJ (.lst [vp])
  have j2 := upd_same (H := H1) (a := J) (o := .lst [vp])
  have a2 := s2 _ _ a1
  have nAJ : A1 ≠ J := fun e => by rw [e, hJ] at a1; cases a1
  have hJ' : H J = none := by
    cases e : H J with
    | none => rfl
    | some o => rw [s1 _ _ e] at hJ; cases hJ
  have s02 := s1.trans s2
  generalize upd H1 J (.lst [vp]) = H2 at *
  dsimp only [tNext]
  have fl : ∀ (i : Nat) {g : List Pln}, gs[i]? = some g → g.length ≤ 300 := fun i g e => by
    have := List.Sublist.length_le (List.sublist_flatten_of_mem (List.mem_of_getElem? e))
    omega
  refine ⟨_, rfl, L, rfl, ⟨_, .inl (.inl (s02 _ _ hL))⟩, for_list (K := K) (a := L) (xs := us) (fun i σ H' => ∃ x4 av jv, σ = [some (.ref L), some vp, some (.ref A1), some (.ref J), x4] ∧ Same H H' ∧ H' A1 = some (.lst av) ∧ H' J = some (.lst (vp :: jv)) ∧ IsGs K H av ((gs.take i).filter fun g => !tch p g) ∧ Paired (IsPr K H) jv ((gs.take i).filter fun g => tch p g).flatten) ⟨none, [], [], rfl, s02, a2, j2, .nil, .nil⟩ ?_ ?_ ?_⟩
  · rintro i σ H' _ ⟨x4, av, jv, rfl, s', _⟩
    exact .inl (.inl (s' _ _ hL))
  · rintro i x σ H' hx ⟨x4, av, jv, rfl, s', ha, hj, ga, pj⟩
    obtain ⟨g, eg, ig⟩ := pgt hg hx
    have li := (List.getElem?_eq_some_iff.mp eg).1
    have mg' := List.mem_of_getElem? eg
    have et : gs.take (i + 1) = gs.take i ++ [g] := by rw [List.take_succ, eg]; rfl
    have la := Paired.length ga
    have lj := Paired.length pj
    have b1 := List.length_filter_le (fun g => !tch p g) (gs.take i)
    rw [List.length_take] at b1
    have b2 : ((gs.take i).filter fun g => tch p g).flatten.length ≤ gs.flatten.length := Nat.le_trans (filter_flat _ _) (take_flat _ _)
    refine gn_of ?_
    refine ⟨_, rfl, _, rfl, _, p, _, g, rfl, ip.same s', ig.same s', sp, sg g mg', fl i eg, fun H3 s3 => ⟨_, rfl, ?_⟩⟩
    have ha3 := s3 _ _ ha
    have hj3 := s3 _ _ hj
    cases e : tch p g with
    | true =>
      obtain ⟨ga', ug, rfl, k1, k2⟩ := ig.same (s'.trans s3)
      refine iteT ⟨_, rfl, .inl ⟨rfl, _, .inl (.inl hj3)⟩, _, rfl, J, ga', _, ug, rfl, rfl, hj3, k1, small (by have := Paired.length k2; have := fl i eg; show _ + 1 + _ ≤ _; omega), ?_⟩
      have k4 := keep_upd (d := J) (H := H3) (o := .lst (vp :: jv ++ ug))
      refine ⟨_, av, jv ++ ug, rfl, fun b o h => ?_, ?_, upd_same, ?_, ?_⟩
      · rw [upd_ne (ne_of_none h hJ')]
        exact s3 _ _ (s' _ _ h)
      · rw [upd_ne nAJ]
        exact ha3
      · rw [et, List.filter_append, List.filter_cons_of_neg (by rw [e]; decide), List.filter_nil, List.append_nil]
        exact ga
      · rw [et, List.filter_append, List.filter_cons_of_pos e, List.filter_nil]
        obtain ⟨ga'', ug', ee, w1, w2⟩ := id ig
        cases ee
        have := (s'.trans s3) _ _ w1
        rw [k1] at this
        injection this with this
        injection this with this
        rw [this]
        exact pflat pj w2
    | false =>
      refine iteF ⟨_, rfl, .inl ⟨rfl, _, .inl (.inl ha3)⟩, _, rfl, A1, _, _, rfl, rfl, ha3, small1000 (by omega), ?_⟩
      refine ⟨_, av ++ [x], jv, rfl, fun b o h => ?_, upd_same, ?_, ?_, ?_⟩
      · rw [upd_ne (ne_of_none h hA)]
        exact s3 _ _ (s' _ _ h)
      · rw [upd_ne nAJ.symm]
        exact hj3
      · rw [et, List.filter_append, List.filter_cons_of_pos (by rw [e]; decide), List.filter_nil]
        exact papp ga (.cons ig .nil)
      · rw [et, List.filter_append, List.filter_cons_of_neg (by rw [e]; decide), List.filter_nil, List.append_nil]
        exact pj
  rintro σ H' ⟨x4, av, jv, rfl, s', ha, hj, ga, pj⟩
  rw [lu, List.take_length] at ga pj
  have la := Paired.length ga
  have b1 := List.length_filter_le (fun g => !tch p g) gs
  refine ⟨_, rfl, A1, av, rfl, .inr (.inl (.inl ha)), _, rfl, small (by rw [List.length_append]; show av.length + 1 ≤ _; omega), fun L' hL' => ?_⟩
  have s3 := same_new hL' (.lst (av ++ [.ref J]))
  have sx := s'.trans s3
  refine q _ L' (av ++ [.ref J]) sx upd_same (papp (IsGs.same ga sx) (.cons ⟨J, vp :: jv, rfl, s3 _ _ hj, .cons (ip.same sx) (pimp (fun _ _ i => i.same sx) pj)⟩ .nil))
theorem wlF_len (gs : List (List Pln)) (p : Pln) : (wlF gs p).length ≤ gs.length + 1 := by
  unfold wlF
  rw [List.length_append]
  have := List.length_filter_le (fun g => !tch p g) gs
  show _ + 1 ≤ _
  omega
theorem filter_both {α : Type} (f : List α → Bool) : ∀ gs : List (List α), (gs.filter fun g => !f g).flatten.length + (gs.filter fun g => f g).flatten.length = gs.flatten.length
  | [] => rfl
  | g :: gs => by
    have ih := filter_both f gs
    rw [List.flatten_cons, List.length_append]
    by_cases h : f g = true
    · rw [List.filter_cons_of_pos (p := fun g => f g) h, List.filter_cons_of_neg (p := fun g => !f g) (by rw [h]; decide), List.flatten_cons, List.length_append]
      omega
    · rw [List.filter_cons_of_neg (p := fun g => f g) h, List.filter_cons_of_pos (p := fun g => !f g) (by simpa using h), List.flatten_cons, List.length_append]
      omega
theorem wlF_flat (gs : List (List Pln)) (p : Pln) : (wlF gs p).flatten.length = gs.flatten.length + 1 := by
  unfold wlF
  rw [List.flatten_append, List.length_append, List.flatten_cons, List.flatten_nil, List.append_nil, List.length_cons]
  have := filter_both (tch p) gs
  omega
theorem wlF_mem {gs : List (List Pln)} {p q : Pln} : q ∈ (wlF gs p).flatten ↔ q ∈ gs.flatten ∨ q = p := by
  unfold wlF
  rw [List.flatten_append, List.mem_append, List.flatten_cons, List.flatten_nil, List.append_nil, List.mem_cons]
  constructor
  · rintro (h | h | h)
    · obtain ⟨g, hg, hq⟩ := List.mem_flatten.mp h
      exact .inl (List.mem_flatten.mpr ⟨g, (List.mem_filter.mp hg).1, hq⟩)
    · exact .inr h
    · obtain ⟨g, hg, hq⟩ := List.mem_flatten.mp h
      exact .inl (List.mem_flatten.mpr ⟨g, (List.mem_filter.mp hg).1, hq⟩)
  · rintro (h | h)
    · obtain ⟨g, hg, hq⟩ := List.mem_flatten.mp h
      cases e : tch p g with
      | true => exact .inr (.inr (List.mem_flatten.mpr ⟨g, List.mem_filter.mpr ⟨hg, e⟩, hq⟩))
      | false => exact .inl (List.mem_flatten.mpr ⟨g, List.mem_filter.mpr ⟨hg, by rw [e]; rfl⟩, hq⟩)
    · exact .inr (.inl h)
theorem lgF_step {ps : List Pln} {i : Nat} {p : Pln} (e : ps[i]? = some p) : lgF (ps.take (i + 1)) = wlF (lgF (ps.take i)) p := by
  unfold lgF
  rw [List.take_succ, e]
  show (ps.take i ++ [p]).foldl wlF [] = _
  rw [List.foldl_append]
  rfl
theorem lgF_all (ps : List Pln) : ∀ i, i ≤ ps.length → (lgF (ps.take i)).length ≤ i ∧ (lgF (ps.take i)).flatten.length = i ∧ ∀ q ∈ (lgF (ps.take i)).flatten, q ∈ ps
  | 0, _ => ⟨Nat.le_refl _, rfl, fun q h => nomatch h⟩
  | i + 1, h => by
    obtain ⟨h1, h2, h3⟩ := lgF_all ps i (by omega)
    have e : ps[i]? = some (ps[i]'(by omega)) := by simp
    rw [lgF_step e]
    have := wlF_len (lgF (ps.take i)) (ps[i]'(by omega))
    refine ⟨by omega, by rw [wlF_flat, h2], fun q hq => ?_⟩
    rcases wlF_mem.mp hq with h | h
    · exact h3 q h
    · rw [h]; exact List.getElem_mem _
def sp_lgroups (K : PySem.W.Frag) : Sp := fun vs H Q _ => ∃ t us ps, vs = [.ref t] ∧ SqT K H t us ∧ Paired (IsPr K H) us ps ∧ (∀ p ∈ ps, Sg p) ∧ ps.length ≤ 300 ∧
  ∀ H' L us', Same H H' → H' L = some (.lst us') → IsGs K H' us' (lgF ps) → Q (.ref L) H'
theorem ok_line_groups {f : Addr} {fd : FuncData} (d_with_line : D P w K mg base "with_line" 6 (sp_wline K)) (F : Fun K "line_groups" "line_groups" s_line_groups f fd) : FnOk P w K mg base CX0 7 f fd ["lines"] (sp_lgroups K) := by
  refine F.ok sc_line_groups (fun vs H Q E h => ?_) (fun cdv A outer s H vs Q E hr h => ?_)
  · obtain ⟨t, us, ps, rfl, _⟩ := h
    rfl
  obtain ⟨t, us, ps, rfl, hT, hp, sg, ln, q⟩ := h
  refine ⟨_, (pss_cons (ps_set (i := 1) sc_line_groups.nd rfl (by first | exact Or.inl rfl | exact Or.inr rfl) (pe_lst pa_nil))
    (pss_cons (ps_for PassesOwn.never rfl (pi_tup (pv 0)) (pg_name (i := 2) sc_line_groups.nd rfl (by first | exact Or.inl rfl | exact Or.inr rfl)) (pss_one (ps_set (i := 1) sc_line_groups.nd rfl (by first | exact Or.inl rfl | exact Or.inr rfl) (pc d_with_line (hr.mono (by decide)) (pa_cons (pv 1) (pa_cons (pv 2) pa_nil))))))
    (pss_one (ps_ret (pv 1))))), ?_⟩
  have lu := Paired.length hp
  refine ⟨(by show 0 ≤ sizeLine; decide), fun L hL => gn_of ?_⟩
  have s1 := same_new hL (.lst [])
  have l1 := upd_same (H := H) (a := L) (o := .lst [])
  generalize upd H L (.lst []) = H1 at *
  clear hL
  refine ⟨_, rfl, t, rfl, ⟨_, same_T s1 hT⟩, for_tup (K := K) (a := t) (xs := us) (fun i σ H' => ∃ L x2 us', σ = [some (.ref t), some (.ref L), x2] ∧ Same H H' ∧ H' L = some (.lst us') ∧ IsGs K H' us' (lgF (ps.take i))) ⟨L, none, [], rfl, s1, l1, .nil⟩ ?_ ?_ ?_⟩
  · rintro i σ H' _ ⟨L, x2, us', rfl, s', _⟩
    exact same_T s' hT
  · rintro i x σ H' hx ⟨L, x2, us', rfl, s', hl, hg⟩
    obtain ⟨p, ep, ip⟩ := pgt hp hx
    have li := (List.getElem?_eq_some_iff.mp ep).1
    obtain ⟨k1, k2, k3⟩ := lgF_all ps i (by omega)
    refine gn_of ?_
    refine ⟨_, rfl, _, rfl, L, us', _, _, p, rfl, hl, hg, ip.same s', sg p (List.mem_of_getElem? ep), fun g hg' q' hq => sg q' (k3 q' (List.mem_flatten.mpr ⟨g, hg', hq⟩)), by omega, by omega, fun H2 L2 us2 s2 h2 g2 => gn_of ?_⟩
    rw [← lgF_step ep] at g2
    exact ⟨L2, _, us2, rfl, s'.trans s2, h2, g2⟩
  rintro σ H' ⟨L, x2, us', rfl, s', hl, hg⟩
  rw [lu, List.take_length] at hg
  exact ⟨_, rfl, q _ _ _ s' hl hg⟩
def sp_pieces (K : PySem.W.Frag) (CW : Addr) (T : List (Addr × Str)) : Sp := fun vs H Q _ => ∃ v zss, vs = [v] ∧ IsW K CW H v zss ∧ ZsOk zss ∧ (inkF zss).2.length ≤ 300 ∧ Tabs T H ∧ ∀ H', ExtN H H' → Tabs T H' → Q (.int (((inkF zss).1.length : Int) + ((lgF (inkF zss).2).length : Int))) H'
theorem ok_pieces {f CW : Addr} {fd : FuncData} {T : List (Addr × Str)} (b_len : mg "len" = none) (m_wink : MWk P w K mg base CW T) (d_line_groups : D P w K mg base "line_groups" 7 (sp_lgroups K)) (F : Fun K "pieces" "pieces" s_pieces f fd) : FnOk P w K mg base CX0 10 f fd ["drawing"] (sp_pieces K CW T) := by
  refine F.ok sc_pieces (fun vs H Q E h => ?_) (fun cdv A outer s H vs Q E hr h => ?_)
  · obtain ⟨v, zss, rfl, _⟩ := h
    rfl
  obtain ⟨v, zss, rfl, iw, zo, ln, hT, q⟩ := h
  refine ⟨_, (pss_cons (ps_asg (pe_ink m_wink (hr.mono (by decide)) (pv 0)) (pg_tup rfl (pgs_cons (pg_name (i := 1) sc_pieces.nd rfl (by first | exact Or.inl rfl | exact Or.inr rfl)) (pgs_cons (pg_name (i := 2) sc_pieces.nd rfl (by first | exact Or.inl rfl | exact Or.inr rfl)) pgs_nil))))
    (pss_one (ps_ret (pe_op op_add (pe_callB call_len_seq (by rfl) b_len PySem.boot_len (pa_cons (pv 1) pa_nil)) (pe_callB call_len_seq (by rfl) b_len PySem.boot_len (pa_cons (pc d_line_groups (hr.mono (by decide)) (pa_cons (pv 2) pa_nil)) pa_nil)))))), ?_⟩
  have sg : ∀ p ∈ (inkF zss).2, Sg p := fun p hp => longest_sg (strF_sg zo) p (inkFrom_l hp)
  refine ⟨_, rfl, ink_at iw zo hT fun H1 vk e1 T1 ik => ?_⟩
  obtain ⟨pc, pd, pl, ud, ul, rfl, g1, g2, g3, g4, g5⟩ := ik
  refine ⟨pc, _, rfl, g1, rfl, _, _, rfl, _, _, rfl, rfl, ?_⟩
  refine ⟨_, rfl, pd, ud, rfl, .inr g2, _, rfl, pl, ul, (inkF zss).2, rfl, g4, g5, sg, ln, fun H2 L us2 s2 h2 gg => ?_⟩
  refine ⟨L, us2, rfl, .inl (.inl (.inl h2)), _, _, rfl, rfl, ?_⟩
  rw [Paired.length g3, Paired.length gg]
  exact q _ (e1.trans (ExtN.of s2)) (T1.ext s2)
end
end My

namespace My
open PySem L2 Mth
abbrev s_law_over : Stmt := topS 58
theorem sc_law_over : FnScope ["_law_one"] ["_law_one"] (defScope s_law_over) := ⟨rfl, rfl, rfl, by decide +kernel, rfl, by decide +kernel, by decide +kernel⟩
section
variable {P : Program} {w : World} {K : PySem.W.Frag} {mg : Str → Option Value} {base : Heap}
theorem ok_law_over {f : Addr} {fd : FuncData} (F : Fun K "_law_over" "_law_over" s_law_over f fd) : FnOk P w K mg base CX0 1 f fd ["_law_one"] (sp_one K over) := by
  refine F.ok sc_law_over (fun vs H Q E h => ?_) (fun cdv A outer s H vs Q E hr h => ?_)
  · obtain ⟨va, a, rfl, _⟩ := h
    rfl
  obtain ⟨va, ⟨x, y, d⟩, rfl, ⟨pa, rfl, ta⟩, q⟩ := h
  refine ⟨_, (pss_one (ps_ret (pe_tup (pa_cons (pe_ix (r := rIxT K) ix_tup (pv 0) pe_int (fun _ _ => rfl)) (pa_cons (pe_op op_sub pe_int (pe_ix (r := rIxT K) ix_tup (pv 0) pe_int (fun _ _ => rfl))) (pa_cons (pe_ix (r := rIxT K) ix_tup (pv 0) pe_int (fun _ _ => rfl)) pa_nil)))))), ?_⟩
  refine ⟨_, rfl, _, _, _, _, rfl, rfl, ta, by rfl, _, rfl, _, _, _, _, rfl, rfl, ta, by rfl, _, _, rfl, rfl, _, rfl, _, _, _, _, rfl, rfl, ta, by rfl, (by show 3 ≤ sizeLine; decide), fun p hp => ?_⟩
  refine q _ _ (same_new hp _) ?_
  unfold over
  dsimp only
  rw [← Int.zero_sub]
  exact IsT.new
end
end My

namespace My
open PySem L2 Mth
abbrev s_law_plus : Stmt := topS 55
theorem sc_law_plus : FnScope ["_law_one", "_law_other", "_law_x", "_law_y"] ["_law_one", "_law_other"] (defScope s_law_plus) := ⟨rfl, rfl, rfl, by decide +kernel, rfl, by decide +kernel, by decide +kernel⟩
section
variable {P : Program} {w : World} {K : PySem.W.Frag} {mg : Str → Option Value} {base : Heap}
theorem ok_law_plus {f : Addr} {fd : FuncData} (d_law_lowest : D P w K mg base "_law_lowest" 2 (sp_low K)) (F : Fun K "_law_plus" "_law_plus" s_law_plus f fd) : FnOk P w K mg base CX0 3 f fd ["_law_one", "_law_other"] (sp_two K plus) := by
  refine F.ok sc_law_plus (fun vs H Q E h => ?_) (fun cdv A outer s H vs Q E hr h => ?_)
  · obtain ⟨va, vb, a, b, rfl, _⟩ := h
    rfl
  obtain ⟨va, vb, ⟨x, y, d⟩, ⟨u, v, e⟩, rfl, ⟨pa, rfl, ta⟩, ⟨pb, rfl, tb⟩, oa, ob, ⟨a1, a2, a3⟩, ⟨b1, b2, b3⟩, q⟩ := h
  refine ⟨_, (pss_cons (ps_set (i := 2) sc_law_plus.nd rfl (by first | exact Or.inl rfl | exact Or.inr rfl) (pe_op op_add (pe_op op_mulW (pe_ix (r := rIxT K) ix_tup (pv 0) pe_int (fun _ _ => rfl)) (pe_ix (r := rIxT K) ix_tup (pv 1) pe_int (fun _ _ => rfl))) (pe_op op_mulW (pe_ix (r := rIxT K) ix_tup (pv 1) pe_int (fun _ _ => rfl)) (pe_ix (r := rIxT K) ix_tup (pv 0) pe_int (fun _ _ => rfl)))))
    (pss_cons (ps_set (i := 3) sc_law_plus.nd rfl (by first | exact Or.inl rfl | exact Or.inr rfl) (pe_op op_add (pe_op op_mulW (pe_ix (r := rIxT K) ix_tup (pv 0) pe_int (fun _ _ => rfl)) (pe_ix (r := rIxT K) ix_tup (pv 1) pe_int (fun _ _ => rfl))) (pe_op op_mulW (pe_ix (r := rIxT K) ix_tup (pv 1) pe_int (fun _ _ => rfl)) (pe_ix (r := rIxT K) ix_tup (pv 0) pe_int (fun _ _ => rfl)))))
    (pss_one (ps_ret (pc d_law_lowest (hr.mono (by decide)) (pa_cons (pv 2) (pa_cons (pv 3) (pa_cons (pe_op op_mulW (pe_ix (r := rIxT K) ix_tup (pv 0) pe_int (fun _ _ => rfl)) (pe_ix (r := rIxT K) ix_tup (pv 1) pe_int (fun _ _ => rfl))) pa_nil)))))))), ?_⟩
  refine ⟨_, rfl, _, _, _, _, rfl, rfl, ta, by rfl, _, rfl, _, _, _, _, rfl, rfl, tb, by rfl, _, _, rfl, rfl, mulW a1 b3, _, rfl, _, _, _, _, rfl, rfl, tb, by rfl, _, rfl, _, _, _, _, rfl, rfl, ta, by rfl, _, _, rfl, rfl, mulW b1 a3, _, _, rfl, rfl, ?_⟩
  refine ⟨_, rfl, _, _, _, _, rfl, rfl, ta, by rfl, _, rfl, _, _, _, _, rfl, rfl, tb, by rfl, _, _, rfl, rfl, mulW a2 b3, _, rfl, _, _, _, _, rfl, rfl, tb, by rfl, _, rfl, _, _, _, _, rfl, rfl, ta, by rfl, _, _, rfl, rfl, mulW b2 a3, _, _, rfl, rfl, ?_⟩
  refine ⟨_, rfl, _, rfl, _, rfl, _, _, _, _, rfl, rfl, ta, by rfl, _, rfl, _, _, _, _, rfl, rfl, tb, by rfl, _, _, rfl, rfl, mulW a3 b3, ?_⟩
  exact ⟨_, _, _, rfl, mul_ne oa.ne ob.ne, up_lt (by decide) (mul_lt a3 b3), q⟩
end
end My

namespace My
open PySem L2 Mth
abbrev s_law_minus : Stmt := topS 56
theorem sc_law_minus : FnScope ["_law_one", "_law_other"] ["_law_one", "_law_other"] (defScope s_law_minus) := ⟨rfl, rfl, rfl, by decide +kernel, rfl, by decide +kernel, by decide +kernel⟩
section
variable {P : Program} {w : World} {K : PySem.W.Frag} {mg : Str → Option Value} {base : Heap}
theorem ok_law_minus {f : Addr} {fd : FuncData} (d_law_plus : D P w K mg base "_law_plus" 3 (sp_two K plus)) (F : Fun K "_law_minus" "_law_minus" s_law_minus f fd) : FnOk P w K mg base CX0 4 f fd ["_law_one", "_law_other"] (sp_two K minus) := by
  refine F.ok sc_law_minus (fun vs H Q E h => ?_) (fun cdv A outer s H vs Q E hr h => ?_)
  · obtain ⟨va, vb, a, b, rfl, _⟩ := h
    rfl
  obtain ⟨va, vb, a, ⟨u, v, e⟩, rfl, ia, ⟨pb, rfl, tb⟩, oa, ob, ba, bb, q⟩ := h
  refine ⟨_, (pss_one (ps_ret (pc d_law_plus (hr.mono (by decide)) (pa_cons (pv 0) (pa_cons (pe_tup (pa_cons (pe_op op_sub pe_int (pe_ix (r := rIxT K) ix_tup (pv 1) pe_int (fun _ _ => rfl))) (pa_cons (pe_op op_sub pe_int (pe_ix (r := rIxT K) ix_tup (pv 1) pe_int (fun _ _ => rfl))) (pa_cons (pe_ix (r := rIxT K) ix_tup (pv 1) pe_int (fun _ _ => rfl)) pa_nil)))) pa_nil))))), ?_⟩
  refine ⟨_, rfl, _, rfl, _, _, _, _, rfl, rfl, tb, by rfl, _, _, rfl, rfl, _, rfl, _, _, _, _, rfl, rfl, tb, by rfl, _, _, rfl, rfl, _, rfl, _, _, _, _, rfl, rfl, tb, by rfl, (by show 3 ≤ sizeLine; decide), fun p hp => ?_⟩
  have s1 := same_new hp (.tup [.int (0 - u), .int (0 - v), .int e])
  have i1 : IsT K (upd H p (.tup [.int (0 - u), .int (0 - v), .int e])) (.ref p) (neg (u, v, e)) := by
    unfold neg
    dsimp only
    rw [← Int.zero_sub u, ← Int.zero_sub v]
    exact IsT.new (H := H)
  exact ⟨_, _, a, neg (u, v, e), rfl, ia.same s1, i1, oa, neg_ok ob, ba, neg_B bb, fun H2 r2 s2 i2 => q _ _ (s1.trans s2) i2⟩
end
end My

namespace My
open PySem L2 Mth
abbrev s_law_times : Stmt := topS 57
theorem sc_law_times : FnScope ["_law_one", "_law_other", "_law_x", "_law_y"] ["_law_one", "_law_other"] (defScope s_law_times) := ⟨rfl, rfl, rfl, by decide +kernel, rfl, by decide +kernel, by decide +kernel⟩
section
variable {P : Program} {w : World} {K : PySem.W.Frag} {mg : Str → Option Value} {base : Heap}
theorem ok_law_times {f : Addr} {fd : FuncData} (d_law_lowest : D P w K mg base "_law_lowest" 2 (sp_low K)) (F : Fun K "_law_times" "_law_times" s_law_times f fd) : FnOk P w K mg base CX0 3 f fd ["_law_one", "_law_other"] (sp_two K times) := by
  refine F.ok sc_law_times (fun vs H Q E h => ?_) (fun cdv A outer s H vs Q E hr h => ?_)
  · obtain ⟨va, vb, a, b, rfl, _⟩ := h
    rfl
  obtain ⟨va, vb, ⟨x, y, d⟩, ⟨u, v, e⟩, rfl, ⟨pa, rfl, ta⟩, ⟨pb, rfl, tb⟩, oa, ob, ⟨a1, a2, a3⟩, ⟨b1, b2, b3⟩, q⟩ := h
  refine ⟨_, (pss_cons (ps_set (i := 2) sc_law_times.nd rfl (by first | exact Or.inl rfl | exact Or.inr rfl) (pe_op op_sub (pe_op op_mulW (pe_ix (r := rIxT K) ix_tup (pv 0) pe_int (fun _ _ => rfl)) (pe_ix (r := rIxT K) ix_tup (pv 1) pe_int (fun _ _ => rfl))) (pe_op op_mulW (pe_ix (r := rIxT K) ix_tup (pv 0) pe_int (fun _ _ => rfl)) (pe_ix (r := rIxT K) ix_tup (pv 1) pe_int (fun _ _ => rfl)))))
    (pss_cons (ps_set (i := 3) sc_law_times.nd rfl (by first | exact Or.inl rfl | exact Or.inr rfl) (pe_op op_add (pe_op op_mulW (pe_ix (r := rIxT K) ix_tup (pv 0) pe_int (fun _ _ => rfl)) (pe_ix (r := rIxT K) ix_tup (pv 1) pe_int (fun _ _ => rfl))) (pe_op op_mulW (pe_ix (r := rIxT K) ix_tup (pv 0) pe_int (fun _ _ => rfl)) (pe_ix (r := rIxT K) ix_tup (pv 1) pe_int (fun _ _ => rfl)))))
    (pss_one (ps_ret (pc d_law_lowest (hr.mono (by decide)) (pa_cons (pv 2) (pa_cons (pv 3) (pa_cons (pe_op op_mulW (pe_ix (r := rIxT K) ix_tup (pv 0) pe_int (fun _ _ => rfl)) (pe_ix (r := rIxT K) ix_tup (pv 1) pe_int (fun _ _ => rfl))) pa_nil)))))))), ?_⟩
  refine ⟨_, rfl, _, _, _, _, rfl, rfl, ta, by rfl, _, rfl, _, _, _, _, rfl, rfl, tb, by rfl, _, _, rfl, rfl, mulW a1 b1, _, rfl, _, _, _, _, rfl, rfl, ta, by rfl, _, rfl, _, _, _, _, rfl, rfl, tb, by rfl, _, _, rfl, rfl, mulW a2 b2, _, _, rfl, rfl, ?_⟩
  refine ⟨_, rfl, _, _, _, _, rfl, rfl, ta, by rfl, _, rfl, _, _, _, _, rfl, rfl, tb, by rfl, _, _, rfl, rfl, mulW a1 b2, _, rfl, _, _, _, _, rfl, rfl, ta, by rfl, _, rfl, _, _, _, _, rfl, rfl, tb, by rfl, _, _, rfl, rfl, mulW a2 b1, _, _, rfl, rfl, ?_⟩
  refine ⟨_, rfl, _, rfl, _, rfl, _, _, _, _, rfl, rfl, ta, by rfl, _, rfl, _, _, _, _, rfl, rfl, tb, by rfl, _, _, rfl, rfl, mulW a3 b3, ?_⟩
  exact ⟨_, _, _, rfl, mul_ne oa.ne ob.ne, up_lt (by decide) (mul_lt a3 b3), q⟩
end
end My

namespace My
open PySem L2 Mth

section
variable {P : Program} {w : World} {K : PySem.W.Frag} {mg : Str → Option Value} {base : Heap}
end
end My

namespace My
open PySem L2 Mth
abbrev s_law_equal : Stmt := topS 61
theorem sc_law_equal : FnScope ["_law_actual", "_law_expected", "_law_k"] ["_law_actual", "_law_expected"] (defScope s_law_equal) := ⟨rfl, rfl, rfl, by decide +kernel, rfl, by decide +kernel, by decide +kernel⟩
section
variable {P : Program} {w : World} {K : PySem.W.Frag} {mg : Str → Option Value} {base : Heap}
/-- one of the sequences -/
def Sq (K : PySem.W.Frag) (H : Hp) (p : Addr) (xs : List V) (l : Bool) : Prop := if l = true then SqL K H p xs else SqT K H p xs
theorem Sq.same {H H' : Hp} {p : Addr} {xs : List V} {l : Bool} (h : Sq K H p xs l) (s : Same H H') : Sq K H' p xs l := by
  unfold Sq at *
  cases l with
  | true => exact s.seq h
  | false => exact same_T s h
theorem Sq.ix {H : Hp} {Q : VK} {p : Addr} {xs : List V} {l : Bool} {j : Nat} {x : V} (h : Sq K H p xs l) (e : xs[j]? = some x) (q : Q x H) : rIx K (.ref p) (.int (0 + (j : Int))) H Q := by
  rw [Int.zero_add]
  unfold Sq at h
  cases l with
  | true => exact .inl ⟨_, _, _, _, rfl, rfl, h, atI_nat e, q⟩
  | false => exact .inr (.inl ⟨_, _, _, _, rfl, rfl, h, atI_nat e, q⟩)
theorem ok_law_equal {f : Addr} {fd : FuncData} {n : Nat} (b_isinstance : mg "isinstance" = none) (b_int : mg "int" = none) (b_bool : mg "bool" = none) (b_str : mg "str" = none) (b_tuple : mg "tuple" = none) (b_list : mg "list" = none) (b_len : mg "len" = none) (b_all : mg "all" = none) (b_range : mg "range" = none)
    (d_law_equal : D P w K mg base "_law_equal" n (sp_equal K n)) (F : Fun K "_law_equal" "_law_equal" s_law_equal f fd) : FnOk P w K mg base CX0 (n + 1) f fd ["_law_actual", "_law_expected"] (sp_equal K (n + 1)) := by
  refine F.ok sc_law_equal (fun vs H Q E h => ?_) (fun cdv A outer s H vs Q E hr h => ?_)
  · obtain ⟨va, vb, d, rfl, _⟩ := h
    rfl
  obtain ⟨va, vb, d, rfl, da, db, dp, q⟩ := h
  refine ⟨_, (pss_cons (ps_if (pt_cmpR (op_isN) (pv 1) pe_non (nomark _)) (pss_one (ps_ret (pe_cmpR (op_isN) (pv 0) pe_non (nomark _)))) pss_nil)
    (pss_cons (ps_if (pt_val (pe_callB (r := rIsi K) call_isi (by rfl) b_isinstance (by decide +kernel) (pa_cons (pv 1) (pa_cons (pe_bltn (v := .ty "bool") (by rfl) b_bool (by decide +kernel) rfl) pa_nil)))) (pss_one (ps_ret (pe_and (pe_callB (r := rIsi K) call_isi (by rfl) b_isinstance (by decide +kernel) (pa_cons (pv 0) (pa_cons (pe_bltn (v := .ty "bool") (by rfl) b_bool (by decide +kernel) rfl) pa_nil))) (pe_one (pe_cmpR (op_eq) (pv 0) (pv 1) (nomark _)))))) pss_nil)
    (pss_cons (ps_if (pt_val (pe_callB (r := rIsi K) call_isi (by rfl) b_isinstance (by decide +kernel) (pa_cons (pv 1) (pa_cons (pe_bltn (v := .ty "int") (by rfl) b_int (by decide +kernel) rfl) pa_nil)))) (pss_one (ps_ret (pe_and (pe_callB (r := rIsi K) call_isi (by rfl) b_isinstance (by decide +kernel) (pa_cons (pv 0) (pa_cons (pe_bltn (v := .ty "int") (by rfl) b_int (by decide +kernel) rfl) pa_nil))) (pe_and (pe_not (pe_callB (r := rIsi K) call_isi (by rfl) b_isinstance (by decide +kernel) (pa_cons (pv 0) (pa_cons (pe_bltn (v := .ty "bool") (by rfl) b_bool (by decide +kernel) rfl) pa_nil)))) (pe_one (pe_cmpR (op_eq) (pv 0) (pv 1) (nomark _))))))) pss_nil)
    (pss_cons (ps_if (pt_val (pe_callB (r := rIsi K) call_isi (by rfl) b_isinstance (by decide +kernel) (pa_cons (pv 1) (pa_cons (pe_bltn (v := .ty "str") (by rfl) b_str (by decide +kernel) rfl) pa_nil)))) (pss_one (ps_ret (pe_and (pe_callB (r := rIsi K) call_isi (by rfl) b_isinstance (by decide +kernel) (pa_cons (pv 0) (pa_cons (pe_bltn (v := .ty "str") (by rfl) b_str (by decide +kernel) rfl) pa_nil))) (pe_one (pe_cmpR (op_eq) (pv 0) (pv 1) (nomark _)))))) pss_nil)
    (pss_cons (ps_if (pt_cmpR (op_ne) (pe_callB (r := rIsi K) call_isi (by rfl) b_isinstance (by decide +kernel) (pa_cons (pv 1) (pa_cons (pe_bltn (v := .ty "tuple") (by rfl) b_tuple (by decide +kernel) rfl) pa_nil))) (pe_callB (r := rIsi K) call_isi (by rfl) b_isinstance (by decide +kernel) (pa_cons (pv 0) (pa_cons (pe_bltn (v := .ty "tuple") (by rfl) b_tuple (by decide +kernel) rfl) pa_nil))) (nomark _)) (pss_one (ps_ret pe_bl)) pss_nil)
    (pss_cons (ps_if (pt_cmpR (op_ne) (pe_callB (r := rIsi K) call_isi (by rfl) b_isinstance (by decide +kernel) (pa_cons (pv 1) (pa_cons (pe_bltn (v := .ty "list") (by rfl) b_list (by decide +kernel) rfl) pa_nil))) (pe_callB (r := rIsi K) call_isi (by rfl) b_isinstance (by decide +kernel) (pa_cons (pv 0) (pa_cons (pe_bltn (v := .ty "list") (by rfl) b_list (by decide +kernel) rfl) pa_nil))) (nomark _)) (pss_one (ps_ret pe_bl)) pss_nil)
    (pss_cons (ps_if (pt_cmpR (op_ne) (pe_callB call_len_seq (by rfl) b_len PySem.boot_len (pa_cons (pv 0) pa_nil)) (pe_callB call_len_seq (by rfl) b_len PySem.boot_len (pa_cons (pv 1) pa_nil)) (nomark _)) (pss_one (ps_ret pe_bl)) pss_nil)
    (pss_one (ps_ret (pe_callB (cr_all rfl) (by rfl) b_all (by decide +kernel) (pa_cons (pe_lc (own := [("_law_k", 2)]) (g := gName 2) (tt := tYes) (by rfl) sc_law_equal.nd (pi_range1 (by rfl) b_range (pa_cons (pe_callB call_len_seq (by rfl) b_len PySem.boot_len (pa_cons (pv 1) pa_nil)) pa_nil)) (blkOk_by (own := [("_law_k", 2)]) (N := ["_law_actual", "_law_expected", "_law_k"]) (sc := defScope s_law_equal) (by decide +kernel)) (fun _ _ _ _ _ => (pg_name (i := 2) sc_law_equal.nd rfl (by first | exact Or.inl rfl | exact Or.inr rfl))) (fun _ _ _ _ _ => pts_nil) (fun _ _ _ _ _ => (pc d_law_equal hr (pa_cons (pe_ix (r := rIx K) ix_seq (pv 0) (pv 2) (fun _ _ => rfl)) (pa_cons (pe_ix (r := rIx K) ix_seq (pv 1) (pv 2) (fun _ _ => rfl)) pa_nil))))) pa_nil))))))))))), ?_⟩
  cases db with
  | non =>
    cases da
    refine ⟨_, rfl, rfl, _, rfl, ?_⟩
    refine (if_pos (by decide)).mpr ?_
    exact ⟨_, rfl, rfl, q _ (Same.refl _)⟩
  | bl b =>
    cases da
    refine ⟨_, rfl, rfl, _, rfl, ?_⟩
    refine (if_neg (show ¬ decide (V.bl b = V.non) = true by rw [decide_eq_false (by intro z; cases z)]; decide)).mpr ?_
    refine ⟨_, rfl, _, _, _, _, _, rfl, .ty _, .base (.bl b), kit_ty (by decide +kernel), true, rfl, iteT ?_⟩
    refine ⟨_, rfl, _, _, _, _, _, rfl, .ty _, .base (.bl b), kit_ty (by decide +kernel), true, rfl, iteT ?_⟩
    refine ⟨_, rfl, _, rfl, rfl, ?_⟩
    rw [decide_eq_true rfl]
    exact q _ (Same.refl _)
  | int i =>
    cases da
    refine ⟨_, rfl, rfl, _, rfl, ?_⟩
    refine (if_neg (show ¬ decide (V.int i = V.non) = true by rw [decide_eq_false (by intro z; cases z)]; decide)).mpr ?_
    refine ⟨_, rfl, _, _, _, _, _, rfl, .ty _, .base (.int i), kit_ty (by decide +kernel), false, rfl, iteF ?_⟩
    refine ⟨_, rfl, _, _, _, _, _, rfl, .ty _, .base (.int i), kit_ty (by decide +kernel), true, rfl, iteT ?_⟩
    refine ⟨_, rfl, _, _, _, _, _, rfl, .ty _, .base (.int i), kit_ty (by decide +kernel), true, rfl, iteT ?_⟩
    refine ⟨_, rfl, _, _, _, _, _, rfl, .ty _, .base (.int i), kit_ty (by decide +kernel), false, rfl, true, rfl, iteT ?_⟩
    refine ⟨_, rfl, _, rfl, rfl, ?_⟩
    rw [decide_eq_true rfl]
    exact q _ (Same.refl _)
  | str x =>
    cases da
    refine ⟨_, rfl, rfl, _, rfl, ?_⟩
    refine (if_neg (show ¬ decide (V.str x = V.non) = true by rw [decide_eq_false (by intro z; cases z)]; decide)).mpr ?_
    refine ⟨_, rfl, _, _, _, _, _, rfl, .ty _, .base (.str x), kit_ty (by decide +kernel), false, rfl, iteF ?_⟩
    refine ⟨_, rfl, _, _, _, _, _, rfl, .ty _, .base (.str x), kit_ty (by decide +kernel), false, rfl, iteF ?_⟩
    refine ⟨_, rfl, _, _, _, _, _, rfl, .ty _, .base (.str x), kit_ty (by decide +kernel), true, rfl, iteT ?_⟩
    refine ⟨_, rfl, _, _, _, _, _, rfl, .ty _, .base (.str x), kit_ty (by decide +kernel), true, rfl, iteT ?_⟩
    refine ⟨_, rfl, _, rfl, rfl, ?_⟩
    rw [decide_eq_true rfl]
    exact q _ (Same.refl _)
  | @lst p' ys ds hb tb =>
    cases da with
    | @lst p xs _ ha ta =>
    obtain ⟨hl, hds⟩ := dp
    have e1 := (DpAll.get ta).1
    have e2 := (DpAll.get tb).1
    refine ⟨_, rfl, rfl, _, rfl, ?_⟩
    refine (if_neg (show ¬ decide (V.ref p' = V.non) = true by rw [decide_eq_false (by intro z; cases z)]; decide)).mpr ?_
    refine ⟨_, rfl, _, _, _, _, _, rfl, .ty _, ty_L hb, kit_ty (by decide +kernel), false, rfl, iteF ?_⟩
    refine ⟨_, rfl, _, _, _, _, _, rfl, .ty _, ty_L hb, kit_ty (by decide +kernel), false, rfl, iteF ?_⟩
    refine ⟨_, rfl, _, _, _, _, _, rfl, .ty _, ty_L hb, kit_ty (by decide +kernel), false, rfl, iteF ?_⟩
    refine ⟨_, rfl, _, _, _, _, _, rfl, .ty _, ty_L hb, kit_ty (b := "tuple") (r := false) (by decide +kernel), _, rfl, _, _, _, _, _, rfl, .ty _, ty_L ha, kit_ty (b := "tuple") (r := false) (by decide +kernel), rfl, _, rfl, iteF ?_⟩
    refine ⟨_, rfl, _, _, _, _, _, rfl, .ty _, ty_L hb, kit_ty (b := "list") (r := true) (by decide +kernel), _, rfl, _, _, _, _, _, rfl, .ty _, ty_L ha, kit_ty (b := "list") (r := true) (by decide +kernel), rfl, _, rfl, iteF ?_⟩
    refine ⟨_, rfl, _, _, rfl, .inl ha, _, rfl, _, _, rfl, .inl hb, rfl, _, rfl, ?_⟩
    refine (if_neg (show ¬ (!decide (V.int (xs.length : Int) = V.int (ys.length : Int))) = true by rw [e1, e2, decide_eq_true rfl]; decide)).mpr ?_
    refine ⟨_, rfl, _, _, rfl, .inl hb, _, rfl, by omega, by rw [e2]; exact Int.lt_of_le_of_lt (by omega : ((ds.length : Nat) : Int) ≤ 1000) (by decide), fun L hL => lc_range (lo := 0) (n := (ys.length : Int).toNat) (fun i H1 => Same H H1 ∧ H1 L = some (.lst ((List.replicate i true).map V.bl)) ∧ H L = none) ⟨same_new hL _, upd_same, hL⟩ ?_ ?_⟩
    · rintro i H1 hi ⟨s1, h1, _⟩
      have hi' : i < ys.length := by simpa using hi
      have hi2 : i < xs.length := by omega
      have gx : xs[i]? = some xs[i] := List.getElem?_eq_getElem hi2
      have gy : ys[i]? = some ys[i] := List.getElem?_eq_getElem hi'
      obtain ⟨d1, k1, dx⟩ := (DpAll.get ta).2 i _ gx
      obtain ⟨d2, k2, dy⟩ := (DpAll.get tb).2 i _ gy
      rw [k1] at k2
      cases Option.some.inj k2
      refine ⟨rfl, ?_⟩
      refine yes_of ?_
      refine ⟨_, rfl, _, rfl, Sq.ix (l := true) (show Sq K H1 p xs true from s1.seq ha) gx ?_⟩
      refine ⟨_, rfl, _, rfl, Sq.ix (l := true) (show Sq K H1 p' ys true from s1.seq hb) gy ?_⟩
      refine ⟨_, _, d1, rfl, Dp.same s1 dx, Dp.same s1 dy, hds d1 (List.mem_of_getElem? k1), fun H2 s2 => ?_⟩
      refine ⟨_, s2 _ _ h1, ?_, ?_, ?_, hL⟩
      · rw [List.length_map, List.length_replicate]; exact small1000 (by omega)
      · intro b o e
        have nb : b ≠ L := ne_of_none e hL
        rw [upd_ne nb]
        exact s2 _ _ (s1 _ _ e)
      · rw [upd_same, List.replicate_succ', List.map_append]
        rfl
    · rintro H1 ⟨s1, h1, _⟩
      refine ⟨_, _, rfl, .inl (.inl h1), ?_⟩
      have e : (List.replicate (ys.length : Int).toNat true).all id = true := by simp
      show Q (.bl ((List.replicate (ys.length : Int).toNat true).all id)) H1
      rw [e]
      exact q _ s1
  | @tup p' ys ds hb tb =>
    cases da with
    | @tup p xs _ ha ta =>
    obtain ⟨hl, hds⟩ := dp
    have e1 := (DpAll.get ta).1
    have e2 := (DpAll.get tb).1
    refine ⟨_, rfl, rfl, _, rfl, ?_⟩
    refine (if_neg (show ¬ decide (V.ref p' = V.non) = true by rw [decide_eq_false (by intro z; cases z)]; decide)).mpr ?_
    refine ⟨_, rfl, _, _, _, _, _, rfl, .ty _, ty_T hb, kit_ty (by decide +kernel), false, rfl, iteF ?_⟩
    refine ⟨_, rfl, _, _, _, _, _, rfl, .ty _, ty_T hb, kit_ty (by decide +kernel), false, rfl, iteF ?_⟩
    refine ⟨_, rfl, _, _, _, _, _, rfl, .ty _, ty_T hb, kit_ty (by decide +kernel), false, rfl, iteF ?_⟩
    refine ⟨_, rfl, _, _, _, _, _, rfl, .ty _, ty_T hb, kit_ty (b := "tuple") (r := true) (by decide +kernel), _, rfl, _, _, _, _, _, rfl, .ty _, ty_T ha, kit_ty (b := "tuple") (r := true) (by decide +kernel), rfl, _, rfl, iteF ?_⟩
    refine ⟨_, rfl, _, _, _, _, _, rfl, .ty _, ty_T hb, kit_ty (b := "list") (r := false) (by decide +kernel), _, rfl, _, _, _, _, _, rfl, .ty _, ty_T ha, kit_ty (b := "list") (r := false) (by decide +kernel), rfl, _, rfl, iteF ?_⟩
    refine ⟨_, rfl, _, _, rfl, .inr ha, _, rfl, _, _, rfl, .inr hb, rfl, _, rfl, ?_⟩
    refine (if_neg (show ¬ (!decide (V.int (xs.length : Int) = V.int (ys.length : Int))) = true by rw [e1, e2, decide_eq_true rfl]; decide)).mpr ?_
    refine ⟨_, rfl, _, _, rfl, .inr hb, _, rfl, by omega, by rw [e2]; exact Int.lt_of_le_of_lt (by omega : ((ds.length : Nat) : Int) ≤ 1000) (by decide), fun L hL => lc_range (lo := 0) (n := (ys.length : Int).toNat) (fun i H1 => Same H H1 ∧ H1 L = some (.lst ((List.replicate i true).map V.bl)) ∧ H L = none) ⟨same_new hL _, upd_same, hL⟩ ?_ ?_⟩
    · rintro i H1 hi ⟨s1, h1, _⟩
      have hi' : i < ys.length := by simpa using hi
      have hi2 : i < xs.length := by omega
      have gx : xs[i]? = some xs[i] := List.getElem?_eq_getElem hi2
      have gy : ys[i]? = some ys[i] := List.getElem?_eq_getElem hi'
      obtain ⟨d1, k1, dx⟩ := (DpAll.get ta).2 i _ gx
      obtain ⟨d2, k2, dy⟩ := (DpAll.get tb).2 i _ gy
      rw [k1] at k2
      cases Option.some.inj k2
      refine ⟨rfl, ?_⟩
      refine yes_of ?_
      refine ⟨_, rfl, _, rfl, Sq.ix (l := false) (show Sq K H1 p xs false from same_T s1 ha) gx ?_⟩
      refine ⟨_, rfl, _, rfl, Sq.ix (l := false) (show Sq K H1 p' ys false from same_T s1 hb) gy ?_⟩
      refine ⟨_, _, d1, rfl, Dp.same s1 dx, Dp.same s1 dy, hds d1 (List.mem_of_getElem? k1), fun H2 s2 => ?_⟩
      refine ⟨_, s2 _ _ h1, ?_, ?_, ?_, hL⟩
      · rw [List.length_map, List.length_replicate]; exact small1000 (by omega)
      · intro b o e
        have nb : b ≠ L := ne_of_none e hL
        rw [upd_ne nb]
        exact s2 _ _ (s1 _ _ e)
      · rw [upd_same, List.replicate_succ', List.map_append]
        rfl
    · rintro H1 ⟨s1, h1, _⟩
      refine ⟨_, _, rfl, .inl (.inl h1), ?_⟩
      have e : (List.replicate (ys.length : Int).toNat true).all id = true := by simp
      show Q (.bl ((List.replicate (ys.length : Int).toNat true).all id)) H1
      rw [e]
      exact q _ s1
end
end My

namespace My
open PySem L2 Mth
abbrev s_law_step : Stmt := topS 48
theorem sc_law_step : FnScope ["_law_d", "_law_size_now"] ["_law_d", "_law_size_now"] (defScope s_law_step) := ⟨rfl, rfl, rfl, by decide +kernel, rfl, by decide +kernel, by decide +kernel⟩
section
variable {P : Program} {w : World} {K : PySem.W.Frag} {mg : Str → Option Value} {base : Heap}
def sp_step (K : PySem.W.Frag) : Sp := fun vs H Q _ => ∃ (d : Addr) (n : Int) (st : Src), vs = [.ref d, .int n] ∧ 0 ≤ n ∧ n ≤ 7 ∧ H d = some (.lst (encD st)) ∧ SrcOk st ∧
  ∀ H' st' r, Keep d H H' → H' d = some (.lst (encD st')) → SrcOk st' → (∃ t, IsT K H' r t ∧ SpotIn t) → Q r H'
theorem ok_law_step {f : Addr} {fd : FuncData} (d_law_below : D P w K mg base "_law_below" 1 sp_below) (F : Fun K "_law_step" "_law_step" s_law_step f fd) : FnOk P w K mg base CX0 2 f fd ["_law_d", "_law_size_now"] (sp_step K) := by
  refine F.ok sc_law_step (fun vs H Q E h => ?_) (fun cdv A outer s H vs Q E hr h => ?_)
  · obtain ⟨d, n, st, rfl, _⟩ := h
    rfl
  obtain ⟨d, n, st, rfl, n0, n7, hd, ok, q⟩ := h
  refine ⟨_, (pss_one (ps_ret (pe_tup (pa_cons (pe_op op_sub (pc d_law_below (hr.mono (by decide)) (pa_cons (pv 0) (pa_cons (pe_op op_add (pe_op op_mulW pe_int (pv 1)) pe_int) pa_nil))) (pv 1)) (pa_cons (pe_op op_sub (pc d_law_below (hr.mono (by decide)) (pa_cons (pv 0) (pa_cons (pe_op op_add (pe_op op_mulW pe_int (pv 1)) pe_int) pa_nil))) (pv 1)) (pa_cons pe_int pa_nil)))))), ?_⟩
  have m2 : CMulW 2 n := mulW (a := 1) (b := 2) (by decide) (show n.natAbs < 8 by omega)
  refine ⟨_, rfl, _, rfl, _, _, rfl, rfl, m2, _, _, rfl, rfl, d, _, st, rfl, by omega, by omega, hd, ok, fun st1 x ok1 x0 x1 => ?_⟩
  refine ⟨_, rfl, _, _, rfl, rfl, ?_⟩
  refine ⟨_, rfl, _, rfl, _, _, rfl, rfl, m2, _, _, rfl, rfl, d, _, st1, rfl, by omega, by omega, upd_same, ok1, fun st2 y ok2 y0 y1 => ?_⟩
  refine ⟨_, rfl, _, _, rfl, rfl, (by show 3 ≤ sizeLine; decide), fun p hp => ?_⟩
  have sp' := same_new hp (.tup [.int (x - n), .int (y - n), .int 1])
  refine q _ st2 _ (keep_upd.trans (keep_upd.trans (Keep.of sp'))) (sp' _ _ upd_same) ok2 ⟨(x - n, y - n, 1), IsT.new, ⟨⟨(by decide : (0 : Int) < 1), by unfold g3; dsimp only; rw [Int.gcd_one_right]; rfl⟩, ?_⟩⟩
  refine ⟨?_, ?_, ?_⟩ <;> show _ < 8
  · show (x - n).natAbs < 8; omega
  · show (y - n).natAbs < 8; omega
  · show (1 : Nat) < 8; decide
end
end My

namespace My
open PySem L2 Mth
abbrev s_law_stroke : Stmt := topS 52
theorem sc_law_stroke : FnScope ["_law_d", "_law_most", "_law_stroke_here", "_law_k", "_law_spot_here"] ["_law_d", "_law_most"] (defScope s_law_stroke) := ⟨rfl, rfl, rfl, by decide +kernel, rfl, by decide +kernel, by decide +kernel⟩
section
variable {P : Program} {w : World} {K : PySem.W.Frag} {mg : Str → Option Value} {base : Heap}
/-- a stroke that the law draws -/
structure LSt (n : Nat) (zs : List T3) : Prop where
  st : StOk zs
  len : zs.length ≤ n
  sp : ∀ z ∈ zs, SpotIn z
theorem LSt.mono {n m : Nat} {zs : List T3} (h : LSt n zs) (e : n ≤ m) : LSt m zs := ⟨h.st, Nat.le_trans h.len e, h.sp⟩
theorem LSt.more {n : Nat} {zs : List T3} {z l : T3} (h : LSt n zs) (hn : n ≤ 11) (hz : SpotIn z) (hl : zs.getLast? = some l) (ne : z ≠ l) : LSt (n + 1) (zs ++ [z]) := by
  have len := h.len
  refine ⟨⟨?_, ?_, fun y hy => ?_, fun j x y hx hy => ?_⟩, ?_, fun y hy => ?_⟩
  · rw [List.length_append]; exact Nat.le_add_left ..
  · rw [List.length_append, List.length_singleton]; omega
  · rcases List.mem_append.mp hy with i | i
    · exact h.st.ok y i
    · rw [List.mem_singleton.mp i]; exact hz.ok
  · by_cases hj : j + 1 < zs.length
    · rw [List.getElem?_append_left (by omega)] at hx
      rw [List.getElem?_append_left hj] at hy
      exact h.st.ne j x y hx hy
    · have hj2 := (List.getElem?_eq_some_iff.mp hy).1
      rw [List.length_append, List.length_singleton] at hj2
      have ej : j + 1 = zs.length := by omega
      rw [List.getElem?_append_left (by omega)] at hx
      rw [ej, List.getElem?_concat_length] at hy
      cases hy
      rw [List.getLast?_eq_getElem?, ← ej] at hl
      have : j + 1 - 1 = j := by omega
      rw [this, hx] at hl
      cases hl
      exact fun z => ne z.symm
  · rw [List.length_append, List.length_singleton]; omega
  · rcases List.mem_append.mp hy with i | i
    · exact h.sp y i
    · rw [List.mem_singleton.mp i]; exact hz
def sp_lstroke (K : PySem.W.Frag) : Sp := fun vs H Q _ => ∃ (d : Addr) (n : Int) (st : Src), vs = [.ref d, .int n] ∧ 0 < n ∧ n ≤ 12 ∧ H d = some (.lst (encD st)) ∧ SrcOk st ∧
  ∀ H' st' r zs, Keep d H H' → H' d = some (.lst (encD st')) → SrcOk st' → IsSt K H' r zs → LSt n.toNat zs → Q r H'
theorem ok_law_stroke {f : Addr} {fd : FuncData} (b_range : mg "range" = none) (d_law_below : D P w K mg base "_law_below" 1 sp_below) (d_law_step : D P w K mg base "_law_step" 2 (sp_step K)) (d_law_spot : D P w K mg base "_law_spot" 3 (sp_draw fun H r => ∃ t, IsT K H r t ∧ SpotIn t))
    (F : Fun K "_law_stroke" "_law_stroke" s_law_stroke f fd) : FnOk P w K mg base CX0 4 f fd ["_law_d", "_law_most"] (sp_lstroke K) := by
  refine F.ok sc_law_stroke (fun vs H Q E h => ?_) (fun cdv A outer s H vs Q E hr h => ?_)
  · obtain ⟨d, n, st, rfl, _⟩ := h
    rfl
  obtain ⟨d, n, st, rfl, n0, n12, hd, ok, q⟩ := h
  refine ⟨_, (pss_cons (ps_set (i := 2) sc_law_stroke.nd rfl (by first | exact Or.inl rfl | exact Or.inr rfl) (pe_tup (pa_cons (pc d_law_step (hr.mono (by decide)) (pa_cons (pv 0) (pa_cons pe_int pa_nil))) pa_nil)))
    (pss_cons (ps_for PassesOwn.never rfl (pi_range1 (by rfl) b_range (pa_cons (pc d_law_below (hr.mono (by decide)) (pa_cons (pv 0) (pa_cons (pv 1) pa_nil))) pa_nil)) (pg_name (i := 3) sc_law_stroke.nd rfl (by first | exact Or.inl rfl | exact Or.inr rfl)) (pss_cons (ps_set (i := 4) sc_law_stroke.nd rfl (by first | exact Or.inl rfl | exact Or.inr rfl) (pe_ifExp (pt_cmpR (op_gt) (pc d_law_below (hr.mono (by decide)) (pa_cons (pv 0) (pa_cons pe_int pa_nil))) pe_int (nomark _)) (pc d_law_step (hr.mono (by decide)) (pa_cons (pv 0) (pa_cons pe_int pa_nil))) (pc d_law_spot (hr.mono (by decide)) (pa_cons (pv 0) pa_nil))))
    (pss_one (ps_if (pt_cmpR (r := rNeD K) (op_neD hr.units) (pv 4) (pe_ix (r := rIxT K) ix_tup (pv 2) (pe_un un_neg pe_int) (fun _ _ => rfl)) (nomark _)) (pss_one (ps_set (i := 2) sc_law_stroke.nd rfl (by first | exact Or.inl rfl | exact Or.inr rfl) (pe_op (r := rCatT K) op_catT (pv 2) (pe_tup (pa_cons (pv 4) pa_nil))))) pss_nil))))
    (pss_one (ps_ret (pv 2))))), ?_⟩
  refine ⟨_, rfl, d, 3, st, rfl, by decide, by decide, hd, ok, fun H1 st1 r1 k1 hd1 ok1 ⟨z, iz, nz⟩ => ?_⟩
  refine ⟨(by show 1 ≤ sizeLine; decide), fun p hp => ?_⟩
  have s1 := same_new hp (.tup [r1])
  refine ⟨_, rfl, _, rfl, d, n, st1, rfl, n0, by omega, s1 _ _ hd1, ok1, fun st2 m ok2 m0 m1 => ?_⟩
  have kd := keep_upd (d := d) (H := upd H1 p (.tup [r1])) (o := .lst (encD st2))
  have hd1' := s1 _ _ hd1
  have iS : IsSt K (upd H1 p (.tup [r1])) (.ref p) [z] := ⟨p, [r1], rfl, .inl (.inl upd_same), .cons (iz.same s1) .nil⟩
  have iS2 := iS.keep hd1' kd
  have k2 := (k1.trans (Keep.of s1)).trans kd
  have hd2 := upd_same (H := upd H1 p (.tup [r1])) (a := d) (o := .lst (encD st2))
  generalize upd (upd H1 p (.tup [r1])) d (.lst (encD st2)) = H2 at *
  refine ⟨m, rfl, by omega, by omega, ?_⟩
  have L1 : LSt 1 [z] := ⟨⟨Nat.le_refl _, (by show 1 ≤ 12; decide), fun y hy => by rw [List.mem_singleton.mp hy]; exact nz.ok, fun j x y hx hy => by simp at hy⟩, Nat.le_refl _, fun y hy => by rw [List.mem_singleton.mp hy]; exact nz⟩
  refine for_range (lo := 0) (n := m.toNat) (fun i σ H' => ∃ x3 x4 r zs st, σ = [some (.ref d), some (.int n), some r, x3, x4] ∧ Keep d H H' ∧ H' d = some (.lst (encD st)) ∧ SrcOk st ∧ IsSt K H' r zs ∧ LSt (i + 1) zs) ⟨none, none, .ref p, [z], st2, rfl, k2, hd2, ok2, iS2, L1⟩ ?_ ?_
  · rintro i σ H3 hi ⟨x3, x4, r, zs, st3, rfl, k3, hd3, ok3, iS3, L3⟩
    refine asg_of (te_join (fun v H' => ∃ y st', Keep d H3 H' ∧ H' d = some (.lst (encD st')) ∧ SrcOk st' ∧ IsT K H' v y ∧ SpotIn y) ?_ ?_)
    · rintro v H4 ⟨y, st4, k4, hd4, ok4, iy, ny⟩
      obtain ⟨t, us, rfl, hT, hA⟩ := iS3.keep hd3 k4
      obtain ⟨py, rfl, ty⟩ := iy
      have hlen := Paired.length hA
      have lo := L3.st.lo
      obtain ⟨un, eun⟩ : ∃ u, us[us.length - 1]? = some u := ⟨us[us.length - 1]'(by omega), by simp⟩
      obtain ⟨an, ean, pn, rfl, i_n⟩ := pgt hA eun
      have last : atI us (-1) = some (.ref pn) := by
        obtain ⟨l, hl⟩ : ∃ l, us = l ++ [.ref pn] := List.getLast?_eq_some_iff.mp (by rw [List.getLast?_eq_getElem?]; exact eun)
        rw [hl]
        exact atI_last l _
      have hlast : zs.getLast? = some an := by rw [List.getLast?_eq_getElem?, ← hlen]; exact ean
      refine gn_of ?_
      refine ⟨_, rfl, _, rfl, 1, rfl, t, _, _, _, rfl, rfl, hT, last, _, _, Dp3 ty, Dp3 i_n, shaped3 _, shaped3 _, _, rfl, ?_⟩
      rw [eqv3]
      by_cases e : y = an
      · rw [decide_eq_true e]
        refine iteF ?_
        exact ⟨_, _, _, zs, st4, rfl, k3.trans k4, hd4, ok4, ⟨t, us, rfl, hT, hA⟩, L3.mono (by omega)⟩
      · rw [decide_eq_false e]
        refine iteT ?_
        refine ⟨_, rfl, _, rfl, (by show 1 ≤ sizeLine; decide), fun p5 hp5 => ?_⟩
        have s5 := same_new hp5 (.tup [.ref py])
        refine ⟨t, p5, us, [.ref py], rfl, rfl, same_T s5 hT, .inl (.inl upd_same), (fun z => by rw [z] at hlen; simp at hlen; omega), ?_, (fun z => by cases z), fun _ p6 hp6 => ?_⟩
        · have := L3.len
          exact small (by rw [hlen]; show _ + 1 ≤ _; omega)
        have s6 := same_new hp6 (.tup (us ++ [.ref py]))
        have s56 := s5.trans s6
        refine ⟨_, _, _, zs ++ [y], st4, rfl, (k3.trans k4).trans (Keep.of s56), s56 _ _ hd4, ok4, ⟨p6, _, rfl, .inl (.inl upd_same), ?_⟩, L3.more (by omega) ny hlast e⟩
        exact papp (L2.Paired.mapP hA (fun _ _ i => IsT.same i s56)) (.cons ⟨py, rfl, same_T s56 ty⟩ .nil)
    · intro Q' hQ'
      refine ⟨_, rfl, d, _, st3, rfl, by decide, by decide, hd3, ok3, fun st4 b ok4 b0 b6 => ?_⟩
      have kd4 := keep_upd (d := d) (H := H3) (o := .lst (encD st4))
      refine ⟨_, _, rfl, rfl, _, rfl, ?_⟩
      refine ite2 (fun c => ?_) (fun c => ?_)
      · refine ⟨_, rfl, d, 3, st4, rfl, by decide, by decide, upd_same, ok4, fun H5 st5 r5 k5 hd5 ok5 ⟨y, iy, ny⟩ => ?_⟩
        exact hQ' _ _ ⟨y, st5, kd4.trans k5, hd5, ok5, iy, ny⟩
      · refine ⟨_, rfl, d, st4, rfl, upd_same, ok4, fun H5 st5 r5 k5 hd5 ok5 ⟨y, iy, ny⟩ => ?_⟩
        exact hQ' _ _ ⟨y, st5, kd4.trans k5, hd5, ok5, iy, ny⟩
  · rintro σ H3 ⟨x3, x4, r, zs, st3, rfl, k3, hd3, ok3, iS3, L3⟩
    exact ⟨_, rfl, q _ st3 _ zs k3 hd3 ok3 iS3 (L3.mono (by omega))⟩
end
end My

namespace My
open PySem L2 Mth
abbrev s_law_drawing : Stmt := topS 54
theorem sc_law_drawing : FnScope ["_law_strokes_here", "_law_drawing_here", "_law_stroke_here"] ["_law_strokes_here"] (defScope s_law_drawing) := ⟨rfl, rfl, rfl, by decide +kernel, rfl, by decide +kernel, by decide +kernel⟩
abbrev s_law_strokes : Stmt := topS 53
theorem sc_law_strokes : FnScope ["_law_d", "_law_most", "_law_k"] ["_law_d", "_law_most"] (defScope s_law_strokes) := ⟨rfl, rfl, rfl, by decide +kernel, rfl, by decide +kernel, by decide +kernel⟩
section
variable {P : Program} {w : World} {K : PySem.W.Frag} {mg : Str → Option Value} {base : Heap}
/-! ### the law's strokes, and their drawing -/
theorem keepsSt : KeepsI (IsSt K) := fun _ _ _ _ _ _ i hd k => i.keep hd k
def sp_lstrokes (K : PySem.W.Frag) : Sp := fun vs H Q _ => ∃ (d : Addr) (n : Int) (st : Src), vs = [.ref d, .int n] ∧ 0 ≤ n ∧ n ≤ 11 ∧ H d = some (.lst (encD st)) ∧ SrcOk st ∧
  ∀ H' st' p us zss, Keep d H H' → H' d = some (.lst (encD st')) → SrcOk st' → SqT K H' p us → AllSt K H' us zss → (∀ zs ∈ zss, LSt 4 zs) → zss.length ≤ n.toNat → Q (.ref p) H'
theorem ok_law_strokes {f : Addr} {fd : FuncData} (b_range : mg "range" = none) (b_tuple : mg "tuple" = none) (d_law_below : D P w K mg base "_law_below" 1 sp_below) (d_law_stroke : D P w K mg base "_law_stroke" 4 (sp_lstroke K))
    (F : Fun K "_law_strokes" "_law_strokes" s_law_strokes f fd) : FnOk P w K mg base CX0 5 f fd ["_law_d", "_law_most"] (sp_lstrokes K) := by
  refine F.ok sc_law_strokes (fun vs H Q E h => ?_) (fun cdv A outer s H vs Q E hr h => ?_)
  · obtain ⟨d, n, st, rfl, _⟩ := h
    rfl
  obtain ⟨d, n, st, rfl, n0, n11, hd, ok, q⟩ := h
  refine ⟨_, (pss_one (ps_ret (pe_callTy call_tuple_of (by rfl) b_tuple (by decide +kernel) (pa_cons (pe_lc (own := [("_law_k", 2)]) (g := gName 2) (tt := tYes) (by rfl) sc_law_strokes.nd (pi_range1 (by rfl) b_range (pa_cons (pc d_law_below (hr.mono (by decide)) (pa_cons (pv 0) (pa_cons (pe_op op_add (pv 1) pe_int) pa_nil))) pa_nil)) (blkOk_by (own := [("_law_k", 2)]) (N := ["_law_d", "_law_most", "_law_k"]) (sc := defScope s_law_strokes) (by decide +kernel)) (fun _ _ _ _ _ => (pg_name (i := 2) sc_law_strokes.nd rfl (by first | exact Or.inl rfl | exact Or.inr rfl))) (fun _ _ _ _ _ => pts_nil) (fun _ _ _ _ _ => (pc d_law_stroke (hr.mono (by decide)) (pa_cons (pv 0) (pa_cons pe_int pa_nil))))) pa_nil)))), ?_⟩
  refine ⟨_, rfl, _, rfl, _, _, rfl, rfl, d, _, st, rfl, by omega, by omega, hd, ok, fun st2 m ok2 m0 m1 => ?_⟩
  have kd := keep_upd (d := d) (H := H) (o := .lst (encD st2))
  have hd2 := upd_same (H := H) (a := d) (o := .lst (encD st2))
  generalize upd H d (.lst (encD st2)) = H2 at *
  refine ⟨m, rfl, by omega, by omega, fun L hL => lc_range (lo := 0) (n := m.toNat) (fun i H' => DrawnG (IsSt K) (LSt 4) d L H2 H' i) (drawnG_start hd2 ok2 hL) ?_ ?_⟩
  · rintro i H' hi ⟨st3, vs, xs, k3, hd3, ok3, hL3, hn3, hp3, hg3⟩
    have nL : L ≠ d := fun z => by rw [z, hd2] at hL; cases hL
    refine ⟨rfl, yes_of ?_⟩
    refine ⟨_, rfl, d, 4, st3, rfl, by decide, by decide, hd3, ok3, fun H4 st4 r zs k4 hd4 ok4 i4 l4 => ?_⟩
    exact ⟨vs, k4 _ _ nL hL3, small1000 (by omega), drawnG_more keepsSt hL nL k3 hd3 hL3 hn3 hp3 hg3 k4 hd4 ok4 i4 l4⟩
  · rintro H3 ⟨st3, vs, xs, k3, hd3, ok3, hL3, hn3, hp3, hg3⟩
    refine ⟨L, vs, rfl, .inl ⟨.inl (.inl hL3), fun T hT => ?_⟩⟩
    have sn := same_new hT (.tup vs)
    have hl := Paired.length hp3
    exact q _ st3 T vs xs ((kd.trans k3).trans (Keep.of sn)) (sn _ _ hd3) ok3 (.inl (.inl upd_same)) (pimp (fun _ _ i => i.same sn) hp3) hg3 (by omega)
def sp_ldrawing (K : PySem.W.Frag) (CW : Addr) : Sp := fun vs H Q _ => ∃ (t : Addr) (us : List V) (zss : List (List T3)), vs = [.ref t] ∧ SqT K H t us ∧ AllSt K H us zss ∧ DrOk zss ∧ ∀ H' r, Same H H' → IsW K CW H' r zss → Q r H'
theorem ok_law_drawing {f fI CW : Addr} {fd : FuncData} (TW : DrawI P w K mg base CW fI) (m_wadd : MWa P w K mg base CW) (F : Fun K "_law_drawing" "_law_drawing" s_law_drawing f fd) : FnOk P w K mg base CX0 8 f fd ["_law_strokes_here"] (sp_ldrawing K CW) := by
  refine F.ok sc_law_drawing (fun vs H Q E h => ?_) (fun cdv A outer s H vs Q E hr h => ?_)
  · obtain ⟨t, us, zss, rfl, _⟩ := h
    rfl
  obtain ⟨t, us, zss, rfl, hT, hA, ok, q⟩ := h
  refine ⟨_, (pss_cons (ps_set (i := 1) sc_law_drawing.nd rfl (by first | exact Or.inl rfl | exact Or.inr rfl) (pe_makeR0 TW.mkC TW.ok (hr.mono (by decide)) (by rfl) TW.mgC))
    (pss_cons (ps_for PassesOwn.never rfl (pi_tup (pv 0)) (pg_name (i := 2) sc_law_drawing.nd rfl (by first | exact Or.inl rfl | exact Or.inr rfl)) (pss_one (ps_set (i := 1) sc_law_drawing.nd rfl (by first | exact Or.inl rfl | exact Or.inr rfl) (pe_op (op_wadd m_wadd (hr.mono (by decide))) (pv 1) (StX.pe_makeR TW.mkC TW.ok (hr.mono (by decide)) (by rfl) TW.mgC pass0 (pa_cons (pv 2) pa_nil))))))
    (pss_one (ps_ret (pv 1))))), ?_⟩
  have hl := Paired.length hA
  refine mkw_of2 (K := K) (us := []) (zss := []) .nil drNil fun H1 x1 s1 i1 => ⟨rfl, ?_⟩
  refine ⟨_, rfl, t, rfl, ⟨_, same_T s1 hT⟩, for_tup (K := K) (a := t) (xs := us) (fun i σ H' => ∃ r x, σ = [some (.ref t), some r, x] ∧ Same H H' ∧ IsW K CW H' r (zss.take i)) ⟨.ref x1, none, rfl, s1, i1⟩ ?_ ?_ ?_⟩
  · rintro i σ H' _ ⟨r, x, rfl, s', _⟩
    exact same_T s' hT
  · rintro i y σ H' hy ⟨r, x, rfl, s', i'⟩
    obtain ⟨zs, ez, iz⟩ := pgt hA hy
    have hz := List.mem_of_getElem? ez
    have d1 : DrOk [zs] := ⟨(by show 1 ≤ 12; decide), fun z h => by rw [List.mem_singleton.mp h]; exact ok.ok zs hz⟩
    have d2 : DrOk (zss.take i ++ [zs]) := by
      rw [← take_more ez]
      exact ⟨by have := ok.len; rw [List.length_take]; omega, fun z h => ok.ok z (List.mem_of_mem_take h)⟩
    refine ⟨_, rfl, _, rfl, ?_⟩
    refine mkw_of2 (K := K) (us := [y]) (zss := [zs]) (.cons (iz.same s') .nil) d1 fun H2 x2 s2 i2 => ⟨rfl, ?_⟩
    refine wadd_of (i'.same s2) i2 d2 fun H3 r3 s3 i3 => gn_of ?_
    rw [← take_more ez] at i3
    exact ⟨r3, _, rfl, (s'.trans s2).trans s3, i3⟩
  · rintro σ H' ⟨r, x, rfl, s', i'⟩
    rw [hl, List.take_length] at i'
    exact ⟨_, rfl, q _ _ s' i'⟩
end
end My

namespace My
open PySem L2 Mth

section
variable {P : Program} {w : World} {K : PySem.W.Frag} {mg : Str → Option Value} {base : Heap}
/-! ### a drawing of a list of strokes; tuples joined -/
def sp_ldrawingL (K : PySem.W.Frag) (CW : Addr) : Sp := fun vs H Q _ => ∃ (t : Addr) (us : List V) (zss : List (List T3)), vs = [.ref t] ∧ H t = some (.lst us) ∧ AllSt K H us zss ∧ DrOk zss ∧ ∀ H' r, Same H H' → IsW K CW H' r zss → Q r H'
theorem ok_law_drawingL {f fI CW : Addr} {fd : FuncData} (TW : DrawI P w K mg base CW fI) (m_wadd : MWa P w K mg base CW) (F : Fun K "_law_drawing" "_law_drawing" s_law_drawing f fd) : FnOk P w K mg base CX0 8 f fd ["_law_strokes_here"] (sp_ldrawingL K CW) := by
  refine F.ok sc_law_drawing (fun vs H Q E h => ?_) (fun cdv A outer s H vs Q E hr h => ?_)
  · obtain ⟨t, us, zss, rfl, _⟩ := h
    rfl
  obtain ⟨t, us, zss, rfl, hT, hA, ok, q⟩ := h
  refine ⟨_, (pss_cons (ps_set (i := 1) sc_law_drawing.nd rfl (by first | exact Or.inl rfl | exact Or.inr rfl) (pe_makeR0 TW.mkC TW.ok (hr.mono (by decide)) (by rfl) TW.mgC))
    (pss_cons (ps_for PassesOwn.never rfl (pi_list (pv 0)) (pg_name (i := 2) sc_law_drawing.nd rfl (by first | exact Or.inl rfl | exact Or.inr rfl)) (pss_one (ps_set (i := 1) sc_law_drawing.nd rfl (by first | exact Or.inl rfl | exact Or.inr rfl) (pe_op (op_wadd m_wadd (hr.mono (by decide))) (pv 1) (StX.pe_makeR TW.mkC TW.ok (hr.mono (by decide)) (by rfl) TW.mgC pass0 (pa_cons (pv 2) pa_nil))))))
    (pss_one (ps_ret (pv 1))))), ?_⟩
  have hl := Paired.length hA
  refine mkw_of2 (K := K) (us := []) (zss := []) .nil drNil fun H1 x1 s1 i1 => ⟨rfl, ?_⟩
  refine ⟨_, rfl, t, rfl, ⟨_, .inl (.inl (s1 _ _ hT))⟩, for_list (K := K) (a := t) (xs := us) (fun i σ H' => ∃ r x, σ = [some (.ref t), some r, x] ∧ Same H H' ∧ IsW K CW H' r (zss.take i)) ⟨.ref x1, none, rfl, s1, i1⟩ ?_ ?_ ?_⟩
  · rintro i σ H' _ ⟨r, x, rfl, s', _⟩
    exact .inl (.inl (s' _ _ hT))
  · rintro i y σ H' hy ⟨r, x, rfl, s', i'⟩
    obtain ⟨zs, ez, iz⟩ := pgt hA hy
    have hz := List.mem_of_getElem? ez
    have d1 : DrOk [zs] := ⟨(by show 1 ≤ 12; decide), fun z h => by rw [List.mem_singleton.mp h]; exact ok.ok zs hz⟩
    have d2 : DrOk (zss.take i ++ [zs]) := by
      rw [← take_more ez]
      exact ⟨by have := ok.len; rw [List.length_take]; omega, fun z h => ok.ok z (List.mem_of_mem_take h)⟩
    refine ⟨_, rfl, _, rfl, ?_⟩
    refine mkw_of2 (K := K) (us := [y]) (zss := [zs]) (.cons (iz.same s') .nil) d1 fun H2 x2 s2 i2 => ⟨rfl, ?_⟩
    refine wadd_of (i'.same s2) i2 d2 fun H3 r3 s3 i3 => gn_of ?_
    rw [← take_more ez] at i3
    exact ⟨r3, _, rfl, (s'.trans s2).trans s3, i3⟩
  · rintro σ H' ⟨r, x, rfl, s', i'⟩
    rw [hl, List.take_length] at i'
    exact ⟨_, rfl, q _ _ s' i'⟩
theorem catT_of {H : Hp} {Q : VK} {t1 t2 : Addr} {us ws : List V} (h1 : SqT K H t1 us) (h2 : SqT K H t2 ws) (hl : us.length + ws.length ≤ 1000) (q : ∀ H' p, Same H H' → SqT K H' p (us ++ ws) → Q (.ref p) H') : rCatA K (.ref t1) (.ref t2) H Q := by
  refine ⟨t1, t2, us, ws, rfl, rfl, h1, h2, small hl, fun e => ?_, fun e1 e2 => ?_, fun _ _ p hp => q _ p (same_new hp _) (.inl (.inl upd_same))⟩
  · subst e
    exact q H t2 (Same.refl _) h2
  · subst e2
    exact q H t1 (Same.refl _) (by rw [List.append_nil]; exact h1)
end
end My

namespace My
open PySem L2 Mth
section
variable {K : PySem.W.Frag}
/-- a fraction -/
def IsF (K : PySem.W.Frag) (H : Hp) (v : V) (f : Int × Int) : Prop := ∃ p, v = .ref p ∧ SqT K H p [.int f.1, .int f.2]
theorem IsF.same {H H' : Hp} {v : V} {f : Int × Int} (h : IsF K H v f) (e : Same H H') : IsF K H' v f := by
  obtain ⟨p, rfl, q⟩ := h
  exact ⟨p, rfl, same_T e q⟩
theorem IsF.keep {H H' : Hp} {v : V} {f : Int × Int} {d : Addr} {ys : List V} (h : IsF K H v f) (hd : H d = some (.lst ys)) (k : Keep d H H') : IsF K H' v f := by
  obtain ⟨p, rfl, q⟩ := h
  exact ⟨p, rfl, keep_T q hd k⟩
theorem IsF.new {H : Hp} {p : Addr} {a b : Int} : IsF K (upd H p (.tup [.int a, .int b])) (.ref p) (a, b) := ⟨p, rfl, .inl (.inl upd_same)⟩
def dF (f : Int × Int) : PyData := .tuple [.int f.1, .int f.2]
theorem IsF.dp {H : Hp} {v : V} {f : Int × Int} (h : IsF K H v f) : Dp K H v (dF f) := by
  obtain ⟨p, rfl, q⟩ := h
  exact .tup q (.cons (.int _) (.cons (.int _) .nil))
theorem shapedF (f : Int × Int) : SeqAt.shaped (dF f) = true := rfl
theorem deepF (n : Nat) (f : Int × Int) : Deep (n + 2) (dF f) := by
  refine ⟨(by show 2 ≤ 1000; decide), fun d hd => ?_⟩
  simp only [List.mem_cons, List.mem_nil_iff, or_false] at hd
  rcases hd with rfl | rfl <;> trivial
end
end My

namespace My
open PySem L2 Mth
abbrev s_law_ratio : Stmt := topS 59
theorem sc_law_ratio : FnScope ["_law_p", "_law_q"] ["_law_p", "_law_q"] (defScope s_law_ratio) := ⟨rfl, rfl, rfl, by decide +kernel, rfl, by decide +kernel, by decide +kernel⟩
section
variable {P : Program} {w : World} {K : PySem.W.Frag} {mg : Str → Option Value} {base : Heap}
/-! ### the law's fractions -/
def sp_ratio (K : PySem.W.Frag) : Sp := fun vs H Q _ => ∃ p q : Int, vs = [.int p, .int q] ∧ q ≠ 0 ∧ q.natAbs < 2 ^ 8500 ∧ ∀ H' r, Same H H' → IsF K H' r (fr p q) → Q r H'
theorem ok_law_ratio {f : Addr} {fd : FuncData} (d_law_lowest : D P w K mg base "_law_lowest" 2 (sp_low K)) (F : Fun K "_law_ratio" "_law_ratio" s_law_ratio f fd) : FnOk P w K mg base CX0 3 f fd ["_law_p", "_law_q"] (sp_ratio K) := by
  refine F.ok sc_law_ratio (fun vs H Q E h => ?_) (fun cdv A outer s H vs Q E hr h => ?_)
  · obtain ⟨p, d, rfl, _⟩ := h
    rfl
  obtain ⟨p, d, rfl, hd, hB, q⟩ := h
  refine ⟨_, (pss_one (ps_ret (pe_tup (pa_cons (pe_ix (r := rIxT K) ix_tup (pc d_law_lowest (hr.mono (by decide)) (pa_cons (pv 0) (pa_cons pe_int (pa_cons (pv 1) pa_nil)))) pe_int (fun _ _ => rfl)) (pa_cons (pe_ix (r := rIxT K) ix_tup (pc d_law_lowest (hr.mono (by decide)) (pa_cons (pv 0) (pa_cons pe_int (pa_cons (pv 1) pa_nil)))) pe_int (fun _ _ => rfl)) pa_nil))))), ?_⟩
  refine ⟨_, rfl, _, rfl, p, 0, d, rfl, hd, hB, fun H1 r1 s1 i1 => ?_⟩
  obtain ⟨p1, e1, t1⟩ := i1
  subst e1
  refine ⟨p1, _, _, _, rfl, rfl, t1, by rfl, ?_⟩
  refine ⟨_, rfl, _, rfl, p, 0, d, rfl, hd, hB, fun H2 r2 s2 i2 => ?_⟩
  obtain ⟨p2, e2, t2⟩ := i2
  subst e2
  refine ⟨p2, _, _, _, rfl, rfl, t2, by rfl, (by show 2 ≤ sizeLine; decide), fun p3 hp3 => ?_⟩
  exact q _ _ (s1.trans (s2.trans (same_new hp3 _))) (IsF.new (a := (fr p d).1) (b := (fr p d).2))
def sp_size (K : PySem.W.Frag) : Sp := fun vs H Q _ => ∃ v a, vs = [v] ∧ IsT K H v a ∧ Ok a ∧ B 4000 a ∧ ∀ H' r, Same H H' → IsF K H' r (gr a) → Q r H'
end
end My

namespace My
open PySem L2 Mth

section
variable {P : Program} {w : World} {K : PySem.W.Frag} {mg : Str → Option Value} {base : Heap}
/-! ### the law's own cover of a spot -/
def sp_lies (K : PySem.W.Frag) : Sp := fun vs H Q _ => ∃ vz va vb z a b, vs = [vz, va, vb] ∧ IsT K H vz z ∧ IsT K H va a ∧ IsT K H vb b ∧ Ok z ∧ Ok a ∧ Ok b ∧ a ≠ b ∧ B 1000 z ∧ B 1000 a ∧ B 1000 b ∧ ∀ H', Same H H' → Q (.bl (segB z a b)) H'
theorem seg_self {z b : T3} (oz : Ok z) (ob : Ok b) (ne : z ≠ b) : seg z z b := (seg_iff oz oz ob ne).mpr ⟨lthru_on1 oz ob ne, (le_total z b).elim (fun h => .inl ⟨le_refl z, h⟩) fun h => .inr ⟨h, le_refl z⟩⟩
theorem cvD_head {z : T3} {zs : List T3} (h : StOk zs) (e : zs[0]? = some z) : cvD z [zs] = true := by
  match zs, h, e with
  | [y], h, e =>
    simp at e
    subst e
    exact cvD_dot.mpr rfl
  | x :: y :: r, h, e =>
    simp at e
    subst e
    exact cvD_one.mpr (.inr ⟨(x, y), .head _, seg_self (h.ok x (.head _)) (h.ok y (.tail _ (.head _))) (h.ne 0 x y rfl rfl)⟩)
theorem dpIs {H : Hp} : ∀ ns : List Int, DpAll K H (ns.map V.int) (ns.map PyData.int)
  | [] => .nil
  | n :: ns => .cons (.int n) (dpIs ns)
theorem shIs (ns : List Int) : SeqAt.shaped (.list (ns.map PyData.int)) = true := shapedL fun x hx => by
  obtain ⟨n, _, rfl⟩ := List.mem_map.mp hx
  exact ⟨rfl, by simp [PyData.depth]⟩
def sp_lcov (K : PySem.W.Frag) : Sp := fun vs H Q _ => ∃ t us zss vz z, vs = [.ref t, vz] ∧ SqT K H t us ∧ AllSt K H us zss ∧ (∀ zs ∈ zss, StOk zs) ∧ (∀ z ∈ zss.flatten, B 1000 z) ∧ IsT K H vz z ∧ Ok z ∧ B 1000 z ∧ ∀ H', Same H H' → Q (.bl (cvD z zss)) H'
end
end My

namespace My
open PySem L2 Mth LamX
abbrev s_law_cross : Stmt := topS 60
theorem sc_law_cross : FnScope ["_law_one", "_law_other", "_law_here", "_law_there", "_law_step_here", "_law_turn", "_law_first", "_law_second", "_law_along", "_law_aside", "_law_part"] ["_law_one", "_law_other"] (defScope s_law_cross) := ⟨rfl, rfl, rfl, by decide +kernel, rfl, by decide +kernel, by decide +kernel⟩
section
variable {P : Program} {w : World} {K : PySem.W.Frag} {mg : Str → Option Value} {base : Heap}
/-! ### where two lines cross, by the law's own reckoning -/
def dFr (f : Int × Int) : PyData := .tuple [.int f.1, .int f.2]
theorem IsF_dps {H : Hp} : ∀ {us : List V} {fs : List (Int × Int)}, Paired (IsF K H) us fs → DpAll K H us (fs.map dFr)
  | _, _, .nil => .nil
  | _, _, .cons ⟨p, e, h⟩ t => by
    subst e
    exact .cons (.tup h (.cons (.int _) (.cons (.int _) .nil))) (IsF_dps t)
theorem shFrs (fs : List (Int × Int)) : SeqAt.shaped (.list (fs.map dFr)) = true := shapedL fun x hx => by
  obtain ⟨p, _, rfl⟩ := List.mem_map.mp hx
  exact ⟨rfl, by simp [dFr, PyData.depth, PyData.depthAll]⟩
def sp_lcross (K : PySem.W.Frag) : Sp := fun vs H Q _ => ∃ vp vq p q, vs = [vp, vq] ∧ IsPr K H vp p ∧ IsPr K H vq q ∧ Sg p ∧ Sg q ∧ B 120 p.1 ∧ B 120 p.2 ∧ B 120 q.1 ∧ B 120 q.2 ∧
  (crF p q = none → ∀ H', Same H H' → Q .non H') ∧ ∀ z, crF p q = some z → ∀ H' r, Same H H' → IsT K H' r z → Q r H'
theorem ok_law_cross {f : Addr} {fd : FuncData} (d_law_minus : D P w K mg base "_law_minus" 4 (sp_two K minus)) (d_law_times : D P w K mg base "_law_times" 3 (sp_two K times)) (d_law_over : D P w K mg base "_law_over" 1 (sp_one K over)) (d_law_plus : D P w K mg base "_law_plus" 3 (sp_two K plus)) (d_law_ratio : D P w K mg base "_law_ratio" 3 (sp_ratio K))
    (F : Fun K "_law_cross" "_law_cross" s_law_cross f fd) : FnOk P w K mg base CX0 5 f fd ["_law_one", "_law_other"] (sp_lcross K) := by
  refine F.ok sc_law_cross (fun vs H Q E h => ?_) (fun cdv A outer s H vs Q E hr h => ?_)
  · obtain ⟨vp, vq, p, q, rfl, _⟩ := h
    rfl
  obtain ⟨vp, vq, p, q, rfl, ⟨tp, pa, pb, rfl, i1, i2, i3⟩, ⟨tq, qa, qb, rfl, j1, j2, j3⟩, sp, sq, b1, b2, c1, c2, qn, qs⟩ := h
  refine ⟨_, (pss_cons (ps_par3 (i := 2) (j := 3) (l := 4) (by rfl) sc_law_cross.nd rfl rfl rfl (by decide) (by decide) (by decide) rfl rfl rfl (pa_cons (pc d_law_minus (hr.mono (by decide)) (pa_cons (pe_ix (r := rIxT K) ix_tup (pv 0) pe_int (fun _ _ => rfl)) (pa_cons (pe_ix (r := rIxT K) ix_tup (pv 0) pe_int (fun _ _ => rfl)) pa_nil))) (pa_cons (pc d_law_minus (hr.mono (by decide)) (pa_cons (pe_ix (r := rIxT K) ix_tup (pv 1) pe_int (fun _ _ => rfl)) (pa_cons (pe_ix (r := rIxT K) ix_tup (pv 1) pe_int (fun _ _ => rfl)) pa_nil))) (pa_cons (pc d_law_minus (hr.mono (by decide)) (pa_cons (pe_ix (r := rIxT K) ix_tup (pv 1) pe_int (fun _ _ => rfl)) (pa_cons (pe_ix (r := rIxT K) ix_tup (pv 0) pe_int (fun _ _ => rfl)) pa_nil))) pa_nil))) (by rfl))
    (pss_cons (ps_set (i := 5) sc_law_cross.nd rfl (by first | exact Or.inl rfl | exact Or.inr rfl) (pc d_law_times (hr.mono (by decide)) (pa_cons (pc d_law_over (hr.mono (by decide)) (pa_cons (pv 2) pa_nil)) (pa_cons (pv 3) pa_nil))))
    (pss_cons (ps_if (pt_cmpR (op_eq) (pe_ix (r := rIxT K) ix_tup (pv 5) pe_int (fun _ _ => rfl)) pe_int (nomark _)) (pss_one (ps_ret pe_non)) pss_nil)
    (pss_cons (ps_par (i := 6) (j := 7) (by rfl) sc_law_cross.nd rfl rfl (by decide) rfl rfl (pa_cons (pc d_law_times (hr.mono (by decide)) (pa_cons (pc d_law_over (hr.mono (by decide)) (pa_cons (pv 4) pa_nil)) (pa_cons (pv 3) pa_nil))) (pa_cons (pc d_law_times (hr.mono (by decide)) (pa_cons (pc d_law_over (hr.mono (by decide)) (pa_cons (pv 4) pa_nil)) (pa_cons (pv 2) pa_nil))) pa_nil)) (by rfl))
    (pss_cons (ps_set (i := 8) sc_law_cross.nd rfl (by first | exact Or.inl rfl | exact Or.inr rfl) (pc d_law_ratio (hr.mono (by decide)) (pa_cons (pe_op op_mulW (pe_ix (r := rIxT K) ix_tup (pv 6) pe_int (fun _ _ => rfl)) (pe_ix (r := rIxT K) ix_tup (pv 5) pe_int (fun _ _ => rfl))) (pa_cons (pe_op op_mulW (pe_ix (r := rIxT K) ix_tup (pv 6) pe_int (fun _ _ => rfl)) (pe_ix (r := rIxT K) ix_tup (pv 5) pe_int (fun _ _ => rfl))) pa_nil))))
    (pss_cons (ps_set (i := 9) sc_law_cross.nd rfl (by first | exact Or.inl rfl | exact Or.inr rfl) (pc d_law_ratio (hr.mono (by decide)) (pa_cons (pe_op op_mulW (pe_ix (r := rIxT K) ix_tup (pv 7) pe_int (fun _ _ => rfl)) (pe_ix (r := rIxT K) ix_tup (pv 5) pe_int (fun _ _ => rfl))) (pa_cons (pe_op op_mulW (pe_ix (r := rIxT K) ix_tup (pv 7) pe_int (fun _ _ => rfl)) (pe_ix (r := rIxT K) ix_tup (pv 5) pe_int (fun _ _ => rfl))) pa_nil))))
    (pss_cons (ps_if (pt_cmpR (r := rNeD K) (op_neD hr.units) (pe_lc (own := [("_law_part", 10)]) (g := gName 10) (by rfl) sc_law_cross.nd (pi_tup (pe_tup (pa_cons (pv 8) (pa_cons (pv 9) pa_nil)))) (blkOk_by (own := [("_law_part", 10)]) (N := ["_law_one", "_law_other", "_law_here", "_law_there", "_law_step_here", "_law_turn", "_law_first", "_law_second", "_law_along", "_law_aside", "_law_part"]) (sc := defScope s_law_cross) (by decide +kernel)) (fun _ _ _ _ _ => (pg_name (i := 10) sc_law_cross.nd rfl (by first | exact Or.inl rfl | exact Or.inr rfl))) (fun _ _ _ _ _ => (pts_one (PW.pt (pw_or (pt_cmpR (op_lt) (pe_ix (r := rIxT K) ix_tup (pv 10) pe_int (fun _ _ => rfl)) pe_int (nomark _)) (pw_or1 (pt_cmpR (op_gt) (pe_ix (r := rIxT K) ix_tup (pv 10) pe_int (fun _ _ => rfl)) (pe_ix (r := rIxT K) ix_tup (pv 10) pe_int (fun _ _ => rfl)) (nomark _))))))) (fun _ _ _ _ _ => (pv 10))) (pe_lst pa_nil) (nomark _)) (pss_one (ps_ret pe_non)) pss_nil)
    (pss_one (ps_ret (pc d_law_plus (hr.mono (by decide)) (pa_cons (pe_ix (r := rIxT K) ix_tup (pv 0) pe_int (fun _ _ => rfl)) (pa_cons (pc d_law_times (hr.mono (by decide)) (pa_cons (pv 2) (pa_cons (pe_tup (pa_cons (pe_ix (r := rIxT K) ix_tup (pv 8) pe_int (fun _ _ => rfl)) (pa_cons pe_int (pa_cons (pe_ix (r := rIxT K) ix_tup (pv 8) pe_int (fun _ _ => rfl)) pa_nil)))) pa_nil))) pa_nil)))))))))))), ?_⟩
  obtain ⟨oT, o1, o2, _, _, _⟩ := cr_facts sp.o1 sp.o2 sq.o1 sq.o2
  have om := minus_ok sp.o2 sp.o1
  have on := minus_ok sq.o2 sq.o1
  have os := minus_ok sq.o1 sp.o1
  have bm := minus_B sp.o2 sp.o1 b2 b1
  have bn := minus_B sq.o2 sq.o1 c2 c1
  have bs := minus_B sq.o1 sp.o1 c1 b1
  have bT : B 600 (crT p q) := (times_B (over_ok om) on (over_B bm) bn).mono (by decide)
  have bF : B 600 (cr1 p q) := (times_B (over_ok os) on (over_B bs) bn).mono (by decide)
  have bS : B 600 (cr2 p q) := (times_B (over_ok os) om (over_B bs) bm).mono (by decide)
  refine ⟨_, rfl, tp, _, 1, _, rfl, rfl, i1, by rfl, _, rfl, tp, _, 0, _, rfl, rfl, i1, by rfl, ?_⟩
  dsimp only [tNil]
  refine ⟨_, _, p.2, p.1, rfl, ⟨pb, rfl, i3⟩, ⟨pa, rfl, i2⟩, sp.o2, sp.o1, b2.mono (by decide), b1.mono (by decide), fun H1 v1 s1 k1 => ?_⟩
  refine ⟨_, rfl, tq, _, 1, _, rfl, rfl, same_T s1 j1, by rfl, _, rfl, tq, _, 0, _, rfl, rfl, same_T s1 j1, by rfl, ?_⟩
  dsimp only [tNil]
  refine ⟨_, _, q.2, q.1, rfl, ⟨qb, rfl, same_T s1 j3⟩, ⟨qa, rfl, same_T s1 j2⟩, sq.o2, sq.o1, c2.mono (by decide), c1.mono (by decide), fun H2 v2 s2 k2 => ?_⟩
  have s12 := s1.trans s2
  refine ⟨_, rfl, tq, _, 0, _, rfl, rfl, same_T s12 j1, by rfl, _, rfl, tp, _, 0, _, rfl, rfl, same_T s12 i1, by rfl, ?_⟩
  dsimp only [tNil]
  refine ⟨_, _, q.1, p.1, rfl, ⟨qa, rfl, same_T s12 j2⟩, ⟨pa, rfl, same_T s12 i2⟩, sq.o1, sp.o1, c1.mono (by decide), b1.mono (by decide), fun H3 v3' s3 k3 => ⟨_, _, _, rfl, ?_⟩⟩
  have k1 := (k1.same s2).same s3
  have k2 := k2.same s3
  have s13 := s12.trans s3
  have i1 := same_T s13 i1
  have i2 := same_T s13 i2
  clear s1 s2 s3 s12 j1 j2 j3 i3 qa qb
  try dsimp only
  refine ⟨_, rfl, _, _, rfl, k1, fun H4 w4 s4 k4 => ?_⟩
  refine ⟨_, rfl, _, _, _, _, rfl, k4, k2.same s4, over_ok om, on, (over_B bm).mono (by decide), bn.mono (by decide), fun H5 v5 s5 k5 => gn_of ?_⟩
  have k5 : IsT K H5 v5 (crT p q) := k5
  obtain ⟨t5, rfl, x5⟩ := id k5
  have s45 := s4.trans s5
  try dsimp only
  refine ⟨_, rfl, t5, _, 1, _, rfl, rfl, x5, by rfl, rfl, _, rfl, ?_⟩
  by_cases h : (crT p q).2.1 = 0
  · rw [decide_eq_true (show V.int (crT p q).2.1 = V.int 0 by rw [h])]
    refine iteT ?_
    exact qn (by unfold crF; rw [if_pos h]) _ (s13.trans s45)
  rw [decide_eq_false (show ¬ V.int (crT p q).2.1 = V.int 0 from fun x => h (by injection x))]
  refine iteF ?_
  dsimp only [tNext]
  have k1 := k1.same s45
  have k2 := k2.same s45
  have k3 := k3.same s45
  refine ⟨_, rfl, _, _, rfl, k3, fun H6 w6 s6 k6 => ?_⟩
  refine ⟨_, rfl, _, _, _, _, rfl, k6, k2.same s6, over_ok os, on, (over_B bs).mono (by decide), bn.mono (by decide), fun H7 v7 s7 k7 => ?_⟩
  have s67 := s6.trans s7
  refine ⟨_, rfl, _, _, rfl, k3.same s67, fun H8 w8 s8 k8 => ?_⟩
  refine ⟨_, rfl, _, _, _, _, rfl, k8, (k1.same s67).same s8, over_ok os, om, (over_B bs).mono (by decide), bm.mono (by decide), fun H9 v9 s9 k9 => ⟨_, _, rfl, ?_⟩⟩
  have s89 := s8.trans s9
  have k7 : IsT K H9 v7 (cr1 p q) := k7.same s89
  have k9 : IsT K H9 v9 (cr2 p q) := k9
  obtain ⟨t7, rfl, x7⟩ := k7
  obtain ⟨t9, rfl, x9⟩ := k9
  have s69 := s67.trans s89
  have x5 := same_T s69 x5
  have k1 := k1.same s69
  have sA := s13.trans (s45.trans s69)
  have i1 := same_T (s45.trans s69) i1
  have i2 := same_T (s45.trans s69) i2
  clear k2 k3 k4 k5 k6 k8 s4 s5 s6 s7 s8 s9 s45 s67 s89 s69 s13
  try dsimp only
  have big : ∀ {x y : Int}, x.natAbs < 2 ^ 600 → y.natAbs < 2 ^ 600 → (x * y).natAbs < 2 ^ 8500 := fun {x y} hx hy => by
    have := mul_lt hx hy
    exact up_lt (by decide) this
  refine ⟨_, rfl, t7, _, 1, _, rfl, rfl, x7, by rfl, _, rfl, t5, _, 2, _, rfl, rfl, x5, by rfl, _, _, rfl, rfl, mulW bF.2.1 bT.2.2, ?_⟩
  refine ⟨_, rfl, t7, _, 2, _, rfl, rfl, x7, by rfl, _, rfl, t5, _, 1, _, rfl, rfl, x5, by rfl, _, _, rfl, rfl, mulW bF.2.2 bT.2.1, ?_⟩
  dsimp only [tNil]
  refine ⟨_, _, rfl, Int.mul_ne_zero o1.ne h, big bF.2.2 bT.2.1, fun H10 v10 s10 k10 => gn_of ?_⟩
  have k10 : IsF K H10 v10 (crA p q) := k10
  have x5 := same_T s10 x5
  have x9 := same_T s10 x9
  refine ⟨_, rfl, t9, _, 1, _, rfl, rfl, x9, by rfl, _, rfl, t5, _, 2, _, rfl, rfl, x5, by rfl, _, _, rfl, rfl, mulW bS.2.1 bT.2.2, ?_⟩
  refine ⟨_, rfl, t9, _, 2, _, rfl, rfl, x9, by rfl, _, rfl, t5, _, 1, _, rfl, rfl, x5, by rfl, _, _, rfl, rfl, mulW bS.2.2 bT.2.1, ?_⟩
  dsimp only [tNil]
  refine ⟨_, _, rfl, Int.mul_ne_zero o2.ne h, big bS.2.2 bT.2.1, fun H11 v11 s11 k11 => gn_of ?_⟩
  have k11 : IsF K H11 v11 (crB p q) := k11
  have k10 := k10.same s11
  have k1 := k1.same (s10.trans s11)
  have i1 := same_T (s10.trans s11) i1
  have i2 := same_T (s10.trans s11) i2
  have sB := sA.trans (s10.trans s11)
  clear x5 x7 x9 s10 s11 sA
  try dsimp only [tNext]
  refine sig_of2 (σ' := [some (.ref tp), some (.ref tq), some v1, some v2, some v3', some (.ref t5), some (.ref t7), some (.ref t9), some v10, some v11, none]) rfl ?_
  refine ⟨_, rfl, _, rfl, (by show 2 ≤ sizeLine; decide), fun pt hpt => ?_⟩
  have sC := same_new hpt (.tup [v10, v11])
  have htp : SqT K (upd H11 pt (.tup [v10, v11])) pt [v10, v11] := .inl (.inl upd_same)
  have k10 := k10.same sC
  have k11 := k11.same sC
  have k1 := k1.same sC
  have i1 := same_T sC i1
  have i2 := same_T sC i2
  have sD := sB.trans sC
  generalize upd H11 pt (.tup [v10, v11]) = H12 at *
  clear sB sC
  have pf : Paired (IsF K H12) [v10, v11] [crA p q, crB p q] := .cons k10 (.cons k11 .nil)
  refine ⟨pt, rfl, ⟨_, htp⟩, fun D hD => lc_tup (K := K) (a := pt) (xs := [v10, v11]) (fun i H' => ∃ acc fs, Same H12 H' ∧ H' D = some (.lst acc) ∧ Paired (IsF K H') acc fs ∧ fs = (([crA p q, crB p q].take i).filter fun f => !in01 f)) ⟨[], [], same_new hD _, upd_same, .nil, rfl⟩ ?_ ?_ ?_⟩
  · rintro i H' _ ⟨acc, fs, s', _⟩
    exact same_T s' htp
  · rintro i x H' hx ⟨acc, fs, s', hb, hf, ef⟩
    obtain ⟨f, efi, kf⟩ := pgt pf hx
    have lf := Paired.length hf
    have li := (List.getElem?_eq_some_iff.mp efi).1
    have l2 : fs.length ≤ 2 := by rw [ef]; exact Nat.le_trans (List.length_filter_le _ _) (by rw [List.length_take]; show min i 2 ≤ 2; omega)
    obtain ⟨tf, rfl, xf⟩ := kf.same s'
    have et : ([crA p q, crB p q].take (i + 1)).filter (fun f => !in01 f) = fs ++ if in01 f = true then [] else [f] := by
      rw [List.take_succ, efi, ef]
      show ((List.take i [crA p q, crB p q] ++ [f]).filter _) = _
      rw [List.filter_append]
      congr 1
      cases e : in01 f with
      | true => rw [if_pos rfl, List.filter_cons_of_neg (by rw [e]; decide)]; rfl
      | false => rw [if_neg (by decide), List.filter_cons_of_pos (by rw [e]; decide)]; rfl
    have yes : in01 f = false → ∃ acc', H' D = some (.lst acc') ∧ acc'.length < sizeLine ∧ ∃ acc fs, Same H12 (upd H' D (.lst (acc' ++ [.ref tf]))) ∧ (upd H' D (.lst (acc' ++ [.ref tf]))) D = some (.lst acc) ∧ Paired (IsF K (upd H' D (.lst (acc' ++ [.ref tf])))) acc fs ∧ fs = (([crA p q, crB p q].take (i + 1)).filter fun f => !in01 f) := fun e => by
      rw [e, if_neg (by decide)] at et
      have k9 := keep_upd (d := D) (H := H') (o := .lst (acc ++ [.ref tf]))
      refine ⟨acc, hb, small1000 (by omega), acc ++ [.ref tf], fs ++ [f], fun b o h => ?_, upd_same, papp (pimp (fun _ _ i => i.keep hb k9) hf) (.cons (IsF.keep (H := H') ⟨_, rfl, xf⟩ hb k9) .nil), et.symm⟩
      rw [upd_ne (ne_of_none h hD)]
      exact s' _ _ h
    refine ⟨rfl, ?_⟩
    refine ⟨_, rfl, tf, _, 0, _, rfl, rfl, xf, by rfl, _, _, rfl, rfl, _, rfl, ?_⟩
    by_cases h1 : f.1 < 0
    · rw [decide_eq_true h1]
      refine iteT ⟨_, rfl, yes ?_⟩
      unfold in01
      rw [decide_eq_true h1]
      rfl
    · rw [decide_eq_false h1]
      refine iteF ⟨_, rfl, tf, _, 0, _, rfl, rfl, xf, by rfl, _, rfl, tf, _, 1, _, rfl, rfl, xf, by rfl, _, _, rfl, rfl, _, rfl, ?_⟩
      by_cases h2 : f.2 < f.1
      · rw [decide_eq_true h2]
        refine iteT ⟨_, rfl, yes ?_⟩
        unfold in01
        rw [decide_eq_true h2, Bool.or_true]
        rfl
      · rw [decide_eq_false h2]
        have e : in01 f = true := by
          unfold in01
          rw [decide_eq_false h1, decide_eq_false h2]
          rfl
        rw [e, if_pos rfl, List.append_nil] at et
        exact iteF ⟨acc, fs, s', hb, hf, et.symm⟩
  rintro H13 ⟨acc, fs, s13, hb, hf, ef⟩
  have ef : fs = [crA p q, crB p q].filter fun f => !in01 f := ef
  refine ⟨(by show 0 ≤ sizeLine; decide), fun p14 hp14 => ?_⟩
  have s14 := same_new hp14 (.lst [])
  refine ⟨.list (fs.map dFr), .list [], .lst (.inl (.inl (s14 _ _ hb))) (IsF_dps (pimp (fun _ _ i => i.same s14) hf)), .lst (.inl (.inl upd_same)) .nil, shFrs _, rfl, _, rfl, ?_⟩
  have k10 := k10.same (s13.trans s14)
  have k1 := k1.same (s13.trans s14)
  have i1 := same_T (s13.trans s14) i1
  have i2 := same_T (s13.trans s14) i2
  have sE := sD.trans (s13.trans s14)
  generalize upd H13 p14 (.lst []) = H14 at *
  rw [eqvL]
  by_cases c : (in01 (crA p q) && in01 (crB p q)) = true
  · have c' := Bool.and_eq_true _ _ ▸ c
    have fn : fs = [] := by
      rw [ef]
      refine List.filter_eq_nil_iff.mpr fun f hf => ?_
      simp only [List.mem_cons, List.mem_nil_iff, or_false] at hf
      rcases hf with rfl | rfl
      · rw [c'.1]; decide
      · rw [c'.2]; decide
    rw [fn]
    refine iteF ?_
    try dsimp only [tNext]
    obtain ⟨tA, rfl, xA⟩ := k10
    refine ⟨_, rfl, tp, _, 0, _, rfl, rfl, i1, by rfl, _, rfl, _, rfl, tA, _, 0, _, rfl, rfl, xA, by rfl, _, rfl, tA, _, 1, _, rfl, rfl, xA, by rfl, (by show 3 ≤ sizeLine; decide), fun p15 hp15 => ?_⟩
    have s15 := same_new hp15 (.tup [.int (crA p q).1, .int 0, .int (crA p q).2])
    have i15 : IsT K _ (.ref p15) ((crA p q).1, 0, (crA p q).2) := IsT.new (H := H14) (p := p15)
    have oA : Ok ((crA p q).1, 0, (crA p q).2) := isfr_ok ⟨_, _, Int.mul_ne_zero o1.ne h, rfl⟩
    have fA : FB 1300 (crA p q) := fr_FB (Int.mul_ne_zero o1.ne h) (up_lt (by decide) (mul_lt bF.2.1 bT.2.2)) (up_lt (by decide) (mul_lt bF.2.2 bT.2.1))
    have bA : B 1300 ((crA p q).1, 0, (crA p q).2) := ⟨fA.1, up_lt (n := 1) (by decide) (show (0 : Int).natAbs < 2 ^ 1 by decide), fA.2⟩
    dsimp only [tNil]
    refine ⟨_, _, _, _, rfl, k1.same s15, i15, om, oA, bm.mono (by decide), bA.mono (by decide), fun H16 v16 s16 k16 => ?_⟩
    have i2' : IsT K H14 (.ref pa) p.1 := ⟨pa, rfl, i2⟩
    refine ⟨_, _, _, _, rfl, i2'.same (s15.trans s16), k16, sp.o1, times_ok om oA, b1.mono (by decide), (times_B om oA bm bA).mono (by decide), fun H17 v17 s17 k17 => ?_⟩
    have e : crF p q = some (crZ p q) := by unfold crF; rw [if_neg h, if_pos c]
    exact qs _ e _ _ (sE.trans (s15.trans (s16.trans s17))) k17
  · have fn : fs ≠ [] := fun e => by
      rw [e] at ef
      have no := List.filter_eq_nil_iff.mp ef.symm
      refine c (Bool.and_eq_true _ _ ▸ ⟨?_, ?_⟩)
      · have := no (crA p q) (.head _)
        simpa using this
      · have := no (crB p q) (.tail _ (.head _))
        simpa using this
    have e : crF p q = none := by unfold crF; rw [if_neg h, if_neg c]
    rw [show (fs.map dFr).isEmpty = false by cases fs with
      | nil => exact absurd rfl fn
      | cons => rfl]
    exact iteT (qn e _ sE)
end
end My

namespace My
open PySem L2 Mth LamX
/-! ### drawings on small numbers, and what two of them share -/
structure GD (zss : List (List T3)) : Prop where
  dr : DrOk zss
  bd : ∀ z ∈ zss.flatten, B 15 z
theorem GD.zo {a : List (List T3)} (h : GD a) : ZsOk a := h.dr.zs fun z hz => (h.bd z hz).mono (by decide)
theorem GD.ko {a : List (List T3)} (h : GD a) : InkOk (inkF a) := inkF_ok h.zo h.dr.len fun z hz => (h.bd z hz).mono (by decide)
theorem GD.app {a b : List (List T3)} (h : GD a) (k : GD b) (l : a.length + b.length ≤ 12) : GD (a ++ b) := by
  refine ⟨⟨by rw [List.length_append]; exact l, fun zs hz => (List.mem_append.mp hz).elim (h.dr.ok zs) (k.dr.ok zs)⟩, fun z hz => ?_⟩
  rw [List.flatten_append] at hz
  exact (List.mem_append.mp hz).elim (h.bd z) (k.bd z)
theorem GD.nil : GD [] := ⟨⟨by decide, fun zs h => nomatch h⟩, fun z h => nomatch h⟩
theorem GD.dot {z : T3} (o : Ok z) (b : B 15 z) : GD [[z]] := by
  refine ⟨⟨by show 1 ≤ 12; decide, fun zs h => ?_⟩, fun y hy => ?_⟩
  · rw [List.mem_singleton.mp h]
    exact ⟨by simp, by simp, fun y hy => by rw [List.mem_singleton.mp hy]; exact o, fun j u v h1 h2 => by simp at h2⟩
  · rw [show y = z by simpa using hy]
    exact b
/-- strokes as the law draws them -/
structure GL (n : Nat) (zss : List (List T3)) : Prop where
  len : zss.length ≤ n
  st : ∀ zs ∈ zss, LSt 4 zs
theorem GL.sp {n : Nat} {a : List (List T3)} (h : GL n a) : ∀ z ∈ a.flatten, SpotIn z := fun z hz => by
  obtain ⟨zs, h1, h2⟩ := List.mem_flatten.mp hz
  exact (h.st zs h1).sp z h2
theorem GL.gd {n : Nat} {a : List (List T3)} (h : GL n a) (l : n ≤ 12) : GD a :=
  ⟨⟨Nat.le_trans h.len l, fun zs hz => (h.st zs hz).st⟩, fun z hz => (h.sp z hz).bd.mono (by decide)⟩
theorem GL.app {n m : Nat} {a b : List (List T3)} (h : GL n a) (k : GL m b) : GL (n + m) (a ++ b) :=
  ⟨by rw [List.length_append]; exact Nat.add_le_add h.len k.len, fun zs hz => (List.mem_append.mp hz).elim (h.st zs) (k.st zs)⟩
theorem GL.n {n : Nat} {a : List (List T3)} (h : GL n a) : (inkF a).1.length ≤ n := Nat.le_trans (inkF_n a) h.len
theorem GL.m {n : Nat} {a : List (List T3)} (h : GL n a) (l : n ≤ 12) : (inkF a).2.length ≤ 3 * n := Nat.le_trans (inkF_m (n := 3) (h.gd l).zo fun zs hz => (h.st zs hz).len) (Nat.mul_le_mul_left 3 h.len)
theorem GL.ib {n : Nat} {a : List (List T3)} (h : GL n a) (l : n ≤ 12) : InkB 3 (inkF a) := inkF_B (h.gd l).zo fun z hz => (h.sp z hz).bd
theorem GD.ink_eq {a b : List (List T3)} (h : GD a) (k : GD b) : inkF a = inkF b ↔ ∀ z, Ok z → (cvD z a = true ↔ cvD z b = true) := inkF_eq h.zo k.zo
theorem GD.wi {a b : List (List T3)} (h : GD a) (k : GD b) : comF (inkF a) (inkF b) = inkF a ↔ ∀ z, Ok z → cvD z a = true → cvD z b = true := within_iff h.zo k.zo h.ko k.ko
theorem GD.cc {a b : List (List T3)} (h : GD a) (k : GD b) {z : T3} (oz : Ok z) : cov z (comF (inkF a) (inkF b)) = true ↔ cvD z a = true ∧ cvD z b = true :=
  (cov_com h.ko k.ko oz).trans (and_congr (cov_inkF h.zo oz) (cov_inkF k.zo oz))
theorem GD.com_eq {a b c d : List (List T3)} (ha : GD a) (hb : GD b) (hc : GD c) (hd : GD d) (h : ∀ z, Ok z → ((cvD z a = true ∧ cvD z b = true) ↔ (cvD z c = true ∧ cvD z d = true))) : comF (inkF a) (inkF b) = comF (inkF c) (inkF d) :=
  ink_uniq (com_nf ha.ko hb.ko) (com_nf hc.ko hd.ko) fun z oz => by rw [ha.cc hb oz, hc.cc hd oz]; exact h z oz
theorem GD.com_ink {a b c : List (List T3)} (ha : GD a) (hb : GD b) (hc : GD c) (h : ∀ z, Ok z → ((cvD z a = true ∧ cvD z b = true) ↔ cvD z c = true)) : comF (inkF a) (inkF b) = inkF c :=
  ink_uniq (com_nf ha.ko hb.ko) (inkF_nf hc.zo) fun z oz => by rw [ha.cc hb oz, cov_inkF hc.zo oz]; exact h z oz
theorem GD.com_nil {a : List (List T3)} (ha : GD a) : comF (inkF a) (inkF []) = ([], []) :=
  ink_uniq (com_nf ha.ko GD.nil.ko) nf_nil fun z oz => by
    rw [cov_com ha.ko GD.nil.ko oz, cov_inkF zs_nil oz, cvD_nil, cov_nil]
    simp
/-- what two drawings share, told as strokes -/
structure GT (c : Ink) (a b : List (List T3)) : Prop where
  n : c.1.length ≤ 300
  m : c.2.length ≤ 300
  st : ∀ zs ∈ toldF c, StOk zs
  bd : ∀ z ∈ (toldF c).flatten, B 15 z
  nf : NF c
  cv : ∀ z, Ok z → (cvD z (toldF c) = true ↔ cvD z a = true ∧ cvD z b = true)
  sg : ∀ p ∈ c.2, Sg p
  ok : ∀ z ∈ c.1, Ok z
theorem gt_com {n m : Nat} {a b : List (List T3)} (ha : GL n a) (hb : GL m b) (l1 : n ≤ 5) (l2 : m ≤ 5) : GT (comF (inkF a) (inkF b)) a b := by
  have ga := ha.gd (by omega)
  have gb := hb.gd (by omega)
  have m1 := ha.m (by omega)
  have m2 := hb.m (by omega)
  have n1 := ha.n
  have n2 := hb.n
  have mm : (inkF a).2.length * (inkF b).2.length ≤ 15 * 15 := Nat.mul_le_mul (by omega) (by omega)
  have hd : ∀ z ∈ (comF (inkF a) (inkF b)).1, Ok z := fun z => com_d ga.ko gb.ko
  have hl : ∀ p ∈ (comF (inkF a) (inkF b)).2, Sg p := fun p => com_l ga.ko gb.ko
  exact ⟨Nat.le_trans com_n (by omega), Nat.le_trans (com_m ga.ko gb.ko) (by omega), told_st hd hl, told_B (com_B ga.ko gb.ko (ha.ib (by omega)) (hb.ib (by omega))), com_nf ga.ko gb.ko, fun z oz => (cvD_told hl).trans (ga.cc gb oz), hl, hd⟩
theorem GT.gd {c : Ink} {a b : List (List T3)} (h : GT c a b) (l : (toldF c).length ≤ 12) : GD (toldF c) := ⟨⟨l, h.st⟩, h.bd⟩
/-- an ink alone, told as strokes -/
theorem gt_ink {n : Nat} {a : List (List T3)} (ha : GL n a) (l : n ≤ 12) : GT (inkF a) a a := by
  have ga := ha.gd l
  have m1 := ha.m l
  have n1 := ha.n
  have hd : ∀ z ∈ (inkF a).1, Ok z := fun z hz => (ga.ko.d z hz).1
  have hl : ∀ p ∈ (inkF a).2, Sg p := fun p hp => (ga.ko.l p hp).1
  have ib := ha.ib l
  refine ⟨by omega, by omega, told_st hd hl, fun z hz => (told_B ib z hz).mono (by decide), inkF_nf ga.zo, fun z oz => ?_, hl, hd⟩
  rw [cvD_told hl, cov_inkF ga.zo oz]
  exact ⟨fun h => ⟨h, h⟩, fun h => h.1⟩
end My

namespace My
open PySem L2 Mth LamX
section
variable {P : Program} {w : World} {K : PySem.W.Frag} {mg : Str → Option Value} {base : Heap}
def rTupO (K : PySem.W.Frag) : List V → Hp → VK → Prop := fun xs H Q => ∃ p ys, xs = [V.ref p] ∧ ((SqL K H p ys ∧ ∀ l, H l = none → Q (.ref l) (upd H l (.tup ys))) ∨ (SqT K H p ys ∧ Q (.ref p) H))
def lcS : Stmt → Scope
  | .Assign _ (.ListComp _ _ sc _) _ => sc
  | _ => default
/-! ### covers within a comprehension; what ink tells, kept; strokes kept -/
theorem pe_wcovK {X : Cx} {CW : Addr} {o e : Expr} {to : TE} {t : TA} {apos pos : Pos} {pl : Sem Bool} (hK : X.K = K) (M : MWv X.prog X.w X.K X.mg X.base CW) (hr : Room 6 X.A) (ho : PE X o to) (ha : PA X [e] t)
    (hs1 : starEach [e] X.env = (false, eval e X.env) :: starEach [] X.env := by rfl) (hs2 : (backTo pos (starEach [] X.env)).any (·.1) = false := by rfl)
    (ht : eval (.Call (.Attribute o "covers" apos) [e] [] pos) X.env = (do
      let ov ← eval o X.env
      standAt apos.atName
      let (g, first) ← holding [ov] (getMethod ov "covers" pl)
      callWith pos g first (backTo pos (starEach [e] X.env)) (backToKw pos (keywordEach [] X.env))) := by rfl) :
    PE X (.Call (.Attribute o "covers" apos) [e] [] pos) (tMeth CW "covers" (sp_wcov K CW) [] E0 to t) := by
  subst hK
  exact pe_wcov M hr ho ha hs1 hs2 ht
theorem IsInk.keep {H H' : Hp} {v : V} {k : Ink} {d : Addr} {ys : List V} (h : IsInk K H v k) (hd : H d = some (.lst ys)) (s : Keep d H H') : IsInk K H' v k := by
  obtain ⟨p, a, b, us, ws, rfl, h1, h2, h3, h4, h5⟩ := h
  refine ⟨p, a, b, us, ws, rfl, keep_T h1 hd s, keep_T h2 hd s, pimp (fun _ _ i => i.keep hd s) h3, keep_T h4 hd s, pimp (fun _ _ i => ?_) h5⟩
  obtain ⟨t, x, y, rfl, i1, i2, i3⟩ := i
  exact ⟨t, x, y, rfl, keep_T i1 hd s, keep_T i2 hd s, keep_T i3 hd s⟩
theorem IsStx {H H' : Hp} {v : V} {zs : List T3} (h : IsSt K H v zs) (e : ExtN H H') : IsSt K H' v zs := by
  obtain ⟨t, us, e1, a, b⟩ := h
  exact ⟨t, us, e1, extN_T a e, pimp (fun _ _ i => i.extN e) b⟩
theorem AllStx {H H' : Hp} {us : List V} {zss : List (List T3)} (h : AllSt K H us zss) (e : ExtN H H') : AllSt K H' us zss := pimp (fun _ _ i => IsStx i e) h
/-- strokes that tell an ink: `lines + tuple([(dot,) for dot in dots])` -/
def IsTd (K : PySem.W.Frag) (H : Hp) (v : V) (k : Ink) : Prop := ∃ t us, v = .ref t ∧ SqT K H t us ∧ AllSt K H us (toldF k)
theorem IsTd.same {H H' : Hp} {v : V} {k : Ink} (h : IsTd K H v k) (s : Same H H') : IsTd K H' v k := by
  obtain ⟨t, us, rfl, h1, h2⟩ := h
  exact ⟨t, us, rfl, same_T s h1, AllSt.same h2 s⟩
theorem IsTd.extN {H H' : Hp} {v : V} {k : Ink} (h : IsTd K H v k) (e : ExtN H H') : IsTd K H' v k := by
  obtain ⟨t, us, rfl, h1, h2⟩ := h
  exact ⟨t, us, rfl, extN_T h1 e, AllStx h2 e⟩
theorem IsTd.keep {H H' : Hp} {v : V} {k : Ink} {d : Addr} {ys : List V} (h : IsTd K H v k) (hd : H d = some (.lst ys)) (s : Keep d H H') : IsTd K H' v k := by
  obtain ⟨t, us, rfl, h1, h2⟩ := h
  exact ⟨t, us, rfl, keep_T h1 hd s, AllSt.keep h2 hd s⟩
theorem bbF (b : Bool) : (!decide (V.bl b = V.bl b)) = false := by simp
theorem hu2 {PA PB : Addr} (n1 : (PB == PA) = false) :
    (∀ p ∈ [(PA, qAs), (PB, qAp)], p.1 = PA → p.2 = qAs) ∧ (∀ p ∈ [(PA, qAs), (PB, qAp)], p.1 = PB → p.2 = qAp) := by
  have no : ∀ {x y : Addr}, (y == x) = false → y = x → False := fun {x y} h e => by
    rw [e] at h
    simp at h
  refine ⟨fun p hp e => ?_, fun p hp e => ?_⟩ <;> rw [List.mem_cons, List.mem_singleton] at hp <;> rcases hp with hp | hp <;> rw [hp] at e ⊢
  · exact (no n1 e).elim
  · exact (no n1 e.symm).elim
end
end My

namespace My
open PySem L2 Mth LamX
/-! ### copies carry what is covered -/
theorem nbs_map (f : T3 → T3) : ∀ zs : List T3, nbs (zs.map f) = (nbs zs).map fun q => (f q.1, f q.2)
  | [] => rfl
  | [_] => rfl
  | x :: y :: r => by
    show (f x, f y) :: nbs ((y :: r).map f) = (f x, f y) :: (nbs (y :: r)).map _
    rw [nbs_map f (y :: r)]
theorem cvD_ap {c : Cp} (hc : CpOk c) {zss : List (List T3)} (ok : ∀ zs ∈ zss, StOk zs) {z : T3} (oz : Ok z) : cvD (ap c z) (zss.map fun zs => zs.map (ap c)) = true ↔ cvD z zss = true := by
  rw [cvD_mem, cvD_mem]
  have one : ∀ zs ∈ zss, (cvD (ap c z) [zs.map (ap c)] = true ↔ cvD z [zs] = true) := fun zs hz => by
    have st := ok zs hz
    rw [cvD_one, cvD_one, nbs_map]
    constructor
    · rintro (h | ⟨q, hq, h⟩)
      · match zs, h, st with
        | [y], h, st =>
          left
          have e : ap c y = ap c z := by injection h
          rw [ap_inj hc (st.ok y (.head _)) oz e]
        | x :: y :: r, h, _ => simp at h
      · obtain ⟨p, hp, rfl⟩ := List.mem_map.mp hq
        obtain ⟨j, h1, h2⟩ := nbs_iff.mp hp
        exact .inr ⟨p, hp, (seg_ap hc oz (st.ok _ (List.mem_of_getElem? h1)) (st.ok _ (List.mem_of_getElem? h2)) (st.ne j _ _ h1 h2)).mp h⟩
    · rintro (h | ⟨p, hp, h⟩)
      · rw [h]
        exact .inl rfl
      · obtain ⟨j, h1, h2⟩ := nbs_iff.mp hp
        exact .inr ⟨_, List.mem_map.mpr ⟨p, hp, rfl⟩, (seg_ap hc oz (st.ok _ (List.mem_of_getElem? h1)) (st.ok _ (List.mem_of_getElem? h2)) (st.ne j _ _ h1 h2)).mpr h⟩
  constructor
  · rintro ⟨zs, hz, h⟩
    obtain ⟨ys, hy, rfl⟩ := List.mem_map.mp hz
    exact ⟨ys, hy, (one ys hy).mp h⟩
  · rintro ⟨ys, hy, h⟩
    exact ⟨_, List.mem_map.mpr ⟨ys, hy, rfl⟩, (one ys hy).mpr h⟩
/-! ### one dot and a drawing -/
theorem longest_nil : longestF [] = [] := List.eq_nil_of_length_eq_zero (Nat.le_zero.mp (longest_len1 (ps := []) fun p h => nomatch h))
theorem ink_dot (z : T3) : inkF [[z]] = ([z], []) := by
  show inkFrom [z] [] = _
  have e : ascP (longestF []) = [] := List.eq_nil_of_length_eq_zero (by rw [longest_nil]; exact List.length_mergeSort _)
  have h : (inkFrom [z] []).2 = [] := e
  have h1 : (inkFrom [z] []).1 = [z] := by
    show asc (dedup ([z].filter fun z => !onAny z (longestF []))) = [z]
    rw [longest_nil]
    show asc (dedup [z]) = [z]
    have : dedup [z] = [z] := by simp [dedup]
    rw [this]
    exact List.mergeSort_singleton _
  exact Prod.ext h1 h
theorem GD.com_dot {a : List (List T3)} (h : GD a) {z : T3} (k : GD [[z]]) (oz : Ok z) : comF (inkF a) (inkF [[z]]) = ([z], []) ↔ cvD z a = true := by
  rw [← ink_dot z]
  constructor
  · intro e
    have := (h.cc k oz).mp (by rw [e, cov_inkF k.zo oz]; exact cvD_dot.mpr rfl)
    exact this.1
  · intro hz
    exact h.com_ink k k fun y _ => ⟨fun x => x.2, fun x => ⟨by rw [cvD_dot.mp x]; exact hz, x⟩⟩
theorem GD.dot_wi {a : List (List T3)} (h : GD a) {z : T3} (k : GD [[z]]) (oz : Ok z) : comF (inkF [[z]]) (inkF a) = inkF [[z]] ↔ cvD z a = true := by
  rw [k.wi h]
  exact ⟨fun x => x z oz (cvD_dot.mpr rfl), fun x y _ hy => by rw [cvD_dot.mp hy]; exact x⟩
theorem GD.dot_add {a : List (List T3)} (h : GD a) {z : T3} (k : GD (a ++ [[z]])) (oz : Ok z) : inkF a = inkF (a ++ [[z]]) ↔ cvD z a = true := by
  rw [h.ink_eq k]
  constructor
  · intro x
    exact (x z oz).mpr (cvD_app.mpr (.inr (cvD_dot.mpr rfl)))
  · intro x y _
    rw [cvD_app, cvD_dot]
    exact ⟨.inl, fun y => y.elim (fun z => z) fun e => by rw [e]; exact x⟩
end My

namespace My
open PySem L2 Mth LamX SX
abbrev s_law : Stmt := topS 62
theorem sc_law : FnScope ["_law_script", "_law_d", "_law_strokes_here", "_law_drawing_here", "_law_dots", "_law_lines", "_law_label", "_law_turn", "_law_k", "_law_j", "_law_least_now", "_law_count", "_law_spot_here", "_law_more"] ["_law_script"] (defScope s_law) := ⟨rfl, rfl, rfl, by decide +kernel, rfl, by decide +kernel, by decide +kernel⟩
section
variable {P : Program} {w : World} {K : PySem.W.Frag} {mg : Str → Option Value} {base : Heap}
def spLaw (K : PySem.W.Frag) (T : List (Addr × Str)) : Sp := fun vs H Q _ => ∃ (a : Addr) (ns : List Int), vs = [.ref a] ∧ SqL K H a (ns.map V.int) ∧ ns.length ≤ 63 ∧ Tabs T H ∧ ∀ H', Q (.bl true) H'
theorem sig_of {t : St → Hp → Prop} {σ σ' : St} {H : Hp} (e : σ = σ') (h : t σ' H) : t σ H := e ▸ h
theorem hu2' {PA PB : Addr} (n1 : (PB == PA) = false) :
    (∀ p ∈ [(PA, qAs), (PB, qAp)], p.1 = PA → p.2 = qAs) ∧ (∀ p ∈ [(PA, qAs), (PB, qAp)], p.1 = PB → p.2 = qAp) := hu2 n1
/-- what stands while the law runs -/
structure S26 (K : PySem.W.Frag) (CW : Addr) (T : List (Addr × Str)) (d pd pl : Addr) (ud ul : List V) (vd : V) (zss : List (List T3)) (ps : List Pln) (H : Hp) : Prop where
  hd : ∃ st, H d = some (.lst (encD st)) ∧ SrcOk st
  tb : Tabs T H
  iw : IsW K CW H vd zss
  hp : SqT K H pd ud
  hl : SqT K H pl ul
  al : Paired (IsPr K H) ul ps
theorem S26.same {CW : Addr} {T : List (Addr × Str)} {d pd pl : Addr} {ud ul : List V} {vd : V} {zss : List (List T3)} {ps : List Pln} {H H' : Hp} (h : S26 K CW T d pd pl ud ul vd zss ps H) (s : Same H H') : S26 K CW T d pd pl ud ul vd zss ps H' := by
  obtain ⟨st, h1, h2⟩ := h.hd
  exact ⟨⟨st, s _ _ h1, h2⟩, h.tb.ext s, h.iw.same s, same_T s h.hp, same_T s h.hl, pimp (fun _ _ i => i.same s) h.al⟩
theorem S26.keep {CW : Addr} {T : List (Addr × Str)} {d pd pl L : Addr} {ud ul ys : List V} {vd : V} {zss : List (List T3)} {ps : List Pln} {H H' : Hp} (h : S26 K CW T d pd pl ud ul vd zss ps H) (nL : d ≠ L) (hL : H L = some (.lst ys)) (s : Keep L H H') : S26 K CW T d pd pl ud ul vd zss ps H' := by
  obtain ⟨st, h1, h2⟩ := h.hd
  exact ⟨⟨st, s _ _ nL h1, h2⟩, fun p hp => TabS.keep (h.tb p hp) hL s, h.iw.keep hL s, keep_T h.hp hL s, keep_T h.hl hL s, pimp (fun _ _ i => i.keep hL s) h.al⟩
theorem S26.extN {CW : Addr} {T : List (Addr × Str)} {d pd pl : Addr} {ud ul : List V} {vd : V} {zss : List (List T3)} {ps : List Pln} {H H' : Hp} (h : S26 K CW T d pd pl ud ul vd zss ps H) (e : ExtN H H') (t : Tabs T H') : S26 K CW T d pd pl ud ul vd zss ps H' := by
  obtain ⟨st, h1, h2⟩ := h.hd
  exact ⟨⟨st, extN_L h1 e, h2⟩, t, IsWx h.iw e, extN_T h.hp e, extN_T h.hl e, pimp (fun _ _ i => IsPr_extN i e) h.al⟩
def adjF (ps : List Pln) (i j : Nat) : Bool := match ps[i]?, ps[j]? with
  | some p, some q => Rl p q
  | _, _ => false
theorem adjF_at {ps : List Pln} {i j : Nat} {p q : Pln} (hi : ps[i]? = some p) (hj : ps[j]? = some q) : adjF ps i j = Rl p q := by unfold adjF; rw [hi, hj]
theorem adjF_symm {ps : List Pln} (sg : ∀ p ∈ ps, Sg p) (i j : Nat) : adjF ps i j = adjF ps j i := by
  unfold adjF
  cases e1 : ps[i]? with
  | none => cases ps[j]? <;> rfl
  | some p =>
    cases e2 : ps[j]? with
    | none => rfl
    | some q => exact Rl_symm (sg p (List.mem_of_getElem? e1)) (sg q (List.mem_of_getElem? e2))
def nV (xs : List Nat) : List V := xs.map fun n : Nat => V.int (n : Int)
theorem rg_nV (n : Nat) : rgV 0 (n : Int) = nV (List.range n) := by
  unfold rgV nV
  rw [show ((n : Int) - 0).toNat = n by omega]
  exact List.map_congr_left fun i _ => by rw [Int.zero_add]
theorem ixN_nat {n k : Nat} (h : k < n) : ixN n (k : Int) = some k := by
  unfold ixN
  rw [if_pos (by omega), if_pos (by omega)]
  rfl
theorem nV_at {xs : List Nat} {i x : Nat} (h : xs[i]? = some x) : (nV xs)[i]? = some (.int (x : Int)) := by
  unfold nV
  rw [List.getElem?_map, h]
  rfl
theorem nV_set (xs : List Nat) (i x : Nat) : (nV xs).set i (.int (x : Int)) = nV (xs.set i x) := by
  unfold nV
  rw [List.map_set]
theorem nV_len (xs : List Nat) : (nV xs).length = xs.length := by unfold nV; rw [List.length_map]
theorem min_int (a b : Nat) : (if (b : Int) < (a : Int) then (b : Int) else (a : Int)) = ((min a b : Nat) : Int) := by
  by_cases h : (b : Int) < (a : Int)
  · rw [if_pos h, Nat.min_eq_right (by omega)]
  · rw [if_neg h, Nat.min_eq_left (by omega)]
theorem lgF_GI {ps : List Pln} (nf : ∀ p ∈ ps, Sg p) (nd : ps.Nodup) (ap : ∀ p ∈ ps, ∀ q ∈ ps, p ≠ q → apart p q) : ∀ i, i ≤ ps.length → GI (ps.take i) (lgF (ps.take i))
  | 0, _ => ⟨fun q => by simp [lgF], (fun g h => nomatch h), .nil, fun g h => nomatch h⟩
  | i + 1, h => by
    have ih := lgF_GI nf nd ap i (by omega)
    have e : ps[i]? = some (ps[i]'(by omega)) := by simp
    have et : ps.take (i + 1) = ps.take i ++ [ps[i]'(by omega)] := by rw [List.take_succ, e]; rfl
    have mi : ps[i]'(by omega) ∈ ps := List.getElem_mem _
    have new : ps[i]'(by omega) ∉ ps.take i := fun hm => by
      obtain ⟨j, lj, ej⟩ := List.getElem_of_mem hm
      rw [List.length_take] at lj
      rw [List.getElem_take] at ej
      exact List.pairwise_iff_getElem.mp nd j i (by omega) (by omega) (by omega) ej
    rw [lgF_step e, et]
    refine ih.step (tch := tch) (fun q hq => nf q ?_) new fun g hg => ?_
    · rcases List.mem_append.mp hq with hq | hq
      · exact List.mem_of_mem_take hq
      · rw [List.mem_singleton.mp hq]; exact mi
    · unfold tch
      rw [List.any_eq_true]
      refine exists_congr fun q => and_congr_right fun hq => ?_
      have mq := (ih.mem q).mp (List.mem_flatten.mpr ⟨g, hg, hq⟩)
      have nq : ps[i]'(by omega) ≠ q := fun e => new (e ▸ mq)
      have mq' := List.mem_of_mem_take mq
      unfold Rl
      rw [crF_olap (nf _ mi) (nf q mq') (ap _ mi q mq' nq)]
theorem dot_new {zss : List (List T3)} (h : ZsOk zss) {z : T3} (oz : Ok z) (no : cvD z zss = false) : (inkF (zss ++ [[z]])).1.length = (inkF zss).1.length + 1 ∧ (inkF (zss ++ [[z]])).2 = (inkF zss).2 := by
  have ed : dotsF (zss ++ [[z]]) = dotsF zss ++ [z] := dotsF_app _ _
  have es : strF (zss ++ [[z]]) = strF zss := by rw [strF_app]; exact List.append_nil _
  have off : onAny z (longestF (strF zss)) = false := by
    rw [onAny_longest oz (strF_sg h), ← Bool.not_eq_true]
    intro e
    have : cvD z zss = true := cvD_iff.mpr (.inr (onAny_iff.mp e))
    rw [no] at this
    cases this
  have nd : z ∉ dotsF zss := fun hm => by
    have : cvD z zss = true := cvD_iff.mpr (.inl hm)
    rw [no] at this
    cases this
  unfold inkF inkFrom
  rw [ed, es]
  refine ⟨?_, rfl⟩
  show (asc _).length = (asc _).length + 1
  rw [asc, asc, List.length_mergeSort, List.length_mergeSort, List.filter_append, List.filter_cons_of_pos (by rw [off]; rfl), List.filter_nil, dedup_eq, dedup_eq, List.foldl_append]
  show (ddStep _ z).length = _
  unfold ddStep
  rw [if_neg (fun hm => by
    rcases (dd_mem _ _ _).mp hm with h | h
    · cases h
    · exact nd (List.mem_filter.mp h).1), List.length_append]
  rfl
theorem ok_law {f CW fI : Addr} {fd : FuncData} {T : List (Addr × Str)}
    (TW : DrawI P w K mg base CW fI) (m_wadd : MWa P w K mg base CW) (m_wink : MWk P w K mg base CW T) (m_wcov : MWv P w K mg base CW)
    (b_range : mg "range" = none) (b_len : mg "len" = none) (b_list : mg "list" = none) (b_min : mg "min" = none) (b_set : mg "set" = none) (b_sorted : mg "sorted" = none) (b_int : mg "int" = none)
    (d_law_random : D P w K mg base "_law_random" 1 (sp_random K)) (d_law_step : D P w K mg base "_law_step" 2 (sp_step K)) (d_law_strokes : D P w K mg base "_law_strokes" 5 (sp_lstrokes K)) (d_law_drawing : D P w K mg base "_law_drawing" 8 (sp_ldrawing K CW))
    (d_law_cross : D P w K mg base "_law_cross" 5 (sp_lcross K)) (d_law_equal : D P w K mg base "_law_equal" 1 (sp_equal K 1)) (d_pieces : D P w K mg base "pieces" 10 (sp_pieces K CW T))
    (F : Fun K "law" "law" s_law f fd) : FnOk P w K mg base CX0 15 f fd ["_law_script"] (spLaw K T) := by
  refine F.ok sc_law (fun vs H Q E h => ?_) (fun cdv A outer s H vs Q E hr h => ?_)
  · obtain ⟨a, ns, rfl, _⟩ := h
    rfl
  obtain ⟨a, ns, rfl, hS, h63, hT, q⟩ := h
  refine ⟨_, (pss_cons (ps_set (i := 1) sc_law.nd rfl (by first | exact Or.inl rfl | exact Or.inr rfl) (pc d_law_random (hr.mono (by decide)) (pa_cons (pv 0) (pa_cons pe_int pa_nil))))
    (pss_cons (ps_set (i := 2) sc_law.nd rfl (by first | exact Or.inl rfl | exact Or.inr rfl) (pc d_law_strokes (hr.mono (by decide)) (pa_cons (pv 1) (pa_cons pe_int pa_nil))))
    (pss_cons (ps_set (i := 3) sc_law.nd rfl (by first | exact Or.inl rfl | exact Or.inr rfl) (pc d_law_drawing (hr.mono (by decide)) (pa_cons (pv 2) pa_nil)))
    (pss_cons (ps_asg (pe_ink m_wink (hr.mono (by decide)) (pv 3)) (pg_tup rfl (pgs_cons (pg_name (i := 4) sc_law.nd rfl (by first | exact Or.inl rfl | exact Or.inr rfl)) (pgs_cons (pg_name (i := 5) sc_law.nd rfl (by first | exact Or.inl rfl | exact Or.inr rfl)) pgs_nil))))
    (pss_cons (ps_set (i := 6) sc_law.nd rfl (by first | exact Or.inl rfl | exact Or.inr rfl) (pe_listRg rfl (by rfl) b_list (prg_1 (by rfl) b_range (pe_callB call_len_seq (by rfl) b_len PySem.boot_len (pa_cons (pv 5) pa_nil)))))
    (pss_cons (ps_for PassesOwn.never rfl (pi_range1 (by rfl) b_range (pa_cons (pe_callB call_len_seq (by rfl) b_len PySem.boot_len (pa_cons (pv 5) pa_nil)) pa_nil)) (pg_name (i := 7) sc_law.nd rfl (by first | exact Or.inl rfl | exact Or.inr rfl)) (pss_one (ps_for PassesOwn.never rfl (pi_range1 (by rfl) b_range (pa_cons (pe_callB call_len_seq (by rfl) b_len PySem.boot_len (pa_cons (pv 5) pa_nil)) pa_nil)) (pg_name (i := 8) sc_law.nd rfl (by first | exact Or.inl rfl | exact Or.inr rfl)) (pss_one (ps_for PassesOwn.never rfl (pi_range1 (by rfl) b_range (pa_cons (pe_callB call_len_seq (by rfl) b_len PySem.boot_len (pa_cons (pv 5) pa_nil)) pa_nil)) (pg_name (i := 9) sc_law.nd rfl (by first | exact Or.inl rfl | exact Or.inr rfl)) (pss_one (ps_if (pt_cmpR (op_notN) (pc d_law_cross (hr.mono (by decide)) (pa_cons (pe_ix (r := rIxT K) ix_tup (pv 5) (pv 8) (fun _ _ => rfl)) (pa_cons (pe_ix (r := rIxT K) ix_tup (pv 5) (pv 9) (fun _ _ => rfl)) pa_nil))) pe_non (nomark _)) (pss_cons (ps_set (i := 10) sc_law.nd rfl (by first | exact Or.inl rfl | exact Or.inr rfl) (pe_callB (call_min2 rfl) (by rfl) b_min (by decide +kernel) (pa_cons (pe_ix (r := rIxL K) ix_list (pv 6) (pv 8) (fun _ _ => rfl)) (pa_cons (pe_ix (r := rIxL K) ix_list (pv 6) (pv 9) (fun _ _ => rfl)) pa_nil))))
    (pss_one (ps_asg (pe_tup (pa_cons (pv 10) (pa_cons (pv 10) pa_nil))) (pg_tup rfl (pgs_cons (pg_sub (pv 6) (pv 8) set_list) (pgs_cons (pg_sub (pv 6) (pv 9) set_list) pgs_nil)))))) pss_nil)))))))
    (pss_cons (ps_set (i := 11) sc_law.nd rfl (by first | exact Or.inl rfl | exact Or.inr rfl) (pe_op op_add (pe_callB call_len_seq (by rfl) b_len PySem.boot_len (pa_cons (pe_callB (r := rSortedSet w) (cr_sortedSet rfl) (by rfl) b_sorted (by decide +kernel) (pa_cons (pe_callTy (r := rSetOfI K w) (cr_setOfI rfl) (by rfl) b_set (by decide +kernel) (pa_cons (pv 6) pa_nil)) pa_nil)) pa_nil)) (pe_callB call_len_seq (by rfl) b_len PySem.boot_len (pa_cons (pv 4) pa_nil))))
    (pss_cons (ps_if (PW.pt (pw_or (pt_not (pt_val (pc d_law_equal (hr.mono (by decide)) (pa_cons (pc d_pieces (hr.mono (by decide)) (pa_cons (pv 3) pa_nil)) (pa_cons (pv 11) pa_nil))))) (pw_or1 (pt_cmpR (op_ne) (pc d_pieces (hr.mono (by decide)) (pa_cons (pe_makeR0 TW.mkC TW.ok (hr.mono (by decide)) (by rfl) TW.mgC) pa_nil)) pe_int (nomark _))))) (pss_one (ps_ret pe_bl)) pss_nil)
    (pss_cons (ps_set (i := 12) sc_law.nd rfl (by first | exact Or.inl rfl | exact Or.inr rfl) (pc d_law_step (hr.mono (by decide)) (pa_cons (pv 1) (pa_cons pe_int pa_nil))))
    (pss_cons (ps_set (i := 13) sc_law.nd rfl (by first | exact Or.inl rfl | exact Or.inr rfl) (pc d_pieces (hr.mono (by decide)) (pa_cons (pe_op (op_wadd m_wadd (hr.mono (by decide))) (pv 3) (StX.pe_makeR TW.mkC TW.ok (hr.mono (by decide)) (by rfl) TW.mgC pass0 (pa_cons (pe_tup (pa_cons (pv 12) pa_nil)) pa_nil))) pa_nil)))
    (pss_one (ps_ret (pe_cmpR (op_eq) (pv 13) (pe_op op_add (pv 11) (pe_callTy call_int1 (by rfl) b_int (by decide +kernel) (pa_cons (pe_not (pe_wcov m_wcov (hr.mono (by decide)) (pv 3) (pa_cons (pv 12) pa_nil))) pa_nil))) (nomark _)))))))))))))), ?_⟩
  refine ⟨_, rfl, a, ns, 26, rfl, hS, h63, by decide, by decide, fun H1 d st1 s1 hd1 ok1 => ?_⟩
  have T1 := hT.ext s1
  refine ⟨_, rfl, d, 6, st1, rfl, by decide, by decide, hd1, ok1, fun H2 st2 pt ws zss k2 hd2 ok2 hTs hA hLn hn => ?_⟩
  have T2 : Tabs T H2 := fun p hp => TabS.keep (T1 p hp) hd1 k2
  have gl : GL 6 zss := ⟨hn, hLn⟩
  have G := gl.gd (by decide)
  clear T1 k2 hd1 ok1 s1 hS hT
  refine gn_of ⟨_, rfl, pt, ws, zss, rfl, hTs, hA, G.dr, fun H4 vd s4 iw => gn_of ?_⟩
  have hd4 := s4 _ _ hd2
  have T4 := T2.ext s4
  clear T2 hd2 s4 hTs hA
  dsimp only [tNext]
  refine ⟨_, rfl, ink_at iw G.zo T4 fun H5 vk e5 T5 j5 => ?_⟩
  obtain ⟨pc, pd, pl, ud, ul, rfl, g1, g2, g3, g4, g5⟩ := j5
  refine ⟨pc, _, rfl, g1, rfl, _, _, rfl, _, _, rfl, rfl, ?_⟩
  have S5 : S26 K CW T d pd pl ud ul vd zss (inkF zss).2 H5 := ⟨⟨st2, extN_L hd4 e5, ok2⟩, T5, IsWx iw e5, g2, g4, g5⟩
  have lud := Paired.length g3
  have lul := Paired.length g5
  have kL : ∀ p ∈ (inkF zss).2, Sg p := fun p hp => (G.ko.l p hp).1
  have kB : ∀ p ∈ (inkF zss).2, B 120 p.1 ∧ B 120 p.2 := fun p hp => (G.ko.l p hp).2
  have kn : (inkF zss).1.length ≤ 6 := gl.n
  have km : (inkF zss).2.length ≤ 18 := gl.m (by decide)
  have nf := inkF_nf G.zo
  clear iw T4 hd4 e5 T5 ok2 g2 g3 g4 g5 g1 st2
  dsimp only [tNext]
  refine sig_of (σ' := [some (.ref a), some (.ref d), some (.ref pt), some vd, some (.ref pd), some (.ref pl), none, none, none, none, none, none, none, none]) rfl ?_
  refine ⟨_, rfl, pl, ul, rfl, .inr S5.hl, ?_⟩
  refine ⟨_, rfl, ⟨by omega, by omega, by omega, by omega, by omega⟩, fun L hL => gn_of ?_⟩
  rw [rg_nV]
  have s6 := same_new hL (.lst (nV (List.range ul.length)))
  have hl6 := upd_same (H := H5) (a := L) (o := .lst (nV (List.range ul.length)))
  have nL : d ≠ L := fun e => by
    obtain ⟨st, h1, _⟩ := S5.hd
    rw [e, hL] at h1
    cases h1
  have S6 := S5.same s6
  generalize upd H5 L (.lst (nV (List.range ul.length))) = H6 at *
  clear S5 s6 hL
  dsimp only [tNext]
  have sy := adjF_symm kL
  have li0 : LI ul.length (adjF (inkF zss).2) (List.range ul.length) := ⟨List.length_range, fun i x hx => by
    obtain ⟨l, e⟩ := List.getElem?_eq_some_iff.mp hx
    rw [List.getElem_range] at e
    omega, fun i x hx => by
    obtain ⟨l, e⟩ := List.getElem?_eq_some_iff.mp hx
    rw [List.getElem_range] at e
    rw [← e]
    exact .refl (by rw [List.length_range] at l; exact l)⟩
  refine sig_of (σ' := [some (.ref a), some (.ref d), some (.ref pt), some vd, some (.ref pd), some (.ref pl), some (.ref L), none, none, none, none, none, none, none]) rfl ?_
  refine ⟨_, rfl, pl, ul, rfl, .inr S6.hl, _, rfl, by omega, by omega, for_range (lo := 0) (n := ((ul.length : Nat) : Int).toNat) (fun t σ H' => ∃ x7 x8 x9 x10 lab, σ = [some (.ref a), some (.ref d), some (.ref pt), some vd, some (.ref pd), some (.ref pl), some (.ref L), x7, x8, x9, x10, none, none, none] ∧ S26 K CW T d pd pl ud ul vd zss (inkF zss).2 H' ∧ H' L = some (.lst (nV lab)) ∧ LI ul.length (adjF (inkF zss).2) lab ∧ ((∀ i, i < ul.length → Gd ul.length (adjF (inkF zss).2) lab i) ∨ t ≤ cntG ul.length (adjF (inkF zss).2) lab)) ⟨none, none, none, none, _, rfl, S6, hl6, li0, .inr (Nat.zero_le _)⟩ ?_ ?_⟩
  · rintro t σ H7 _ ⟨x7, x8, x9, x10, l0, rfl, S7, h7, li, gd⟩
    refine gn_of ?_
    refine ⟨_, rfl, pl, ul, rfl, .inr S7.hl, _, rfl, by omega, by omega, for_range (lo := 0) (n := ((ul.length : Nat) : Int).toNat) (fun k σ H' => ∃ x8 x9 x10 lab, σ = [some (.ref a), some (.ref d), some (.ref pt), some vd, some (.ref pd), some (.ref pl), some (.ref L), some (.int (0 + (t : Int))), x8, x9, x10, none, none, none] ∧ S26 K CW T d pd pl ud ul vd zss (inkF zss).2 H' ∧ H' L = some (.lst (nV lab)) ∧ LI ul.length (adjF (inkF zss).2) lab ∧ (∀ i, Gd ul.length (adjF (inkF zss).2) l0 i → Gd ul.length (adjF (inkF zss).2) lab i) ∧ ∀ k' j', k' < k → j' < ul.length → adjF (inkF zss).2 k' j' = true → Gd ul.length (adjF (inkF zss).2) l0 k' → Gd ul.length (adjF (inkF zss).2) lab j') ⟨x8, x9, x10, l0, rfl, S7, h7, li, fun _ h => h, fun _ _ h => absurd h (Nat.not_lt_zero _)⟩ ?_ ?_⟩
    · rintro k σ H8 hk ⟨x8, x9, x10, l1, rfl, S8, h8, li1, mo1, ne1⟩
      have hk : k < ul.length := by simpa using hk
      rw [Int.zero_add]
      refine gn_of ?_
      refine ⟨_, rfl, pl, ul, rfl, .inr S8.hl, _, rfl, by omega, by omega, for_range (lo := 0) (n := ((ul.length : Nat) : Int).toNat) (fun j σ H' => ∃ x9 x10 lab, σ = [some (.ref a), some (.ref d), some (.ref pt), some vd, some (.ref pd), some (.ref pl), some (.ref L), some (.int (0 + (t : Int))), some (.int (k : Int)), x9, x10, none, none, none] ∧ S26 K CW T d pd pl ud ul vd zss (inkF zss).2 H' ∧ H' L = some (.lst (nV lab)) ∧ LI ul.length (adjF (inkF zss).2) lab ∧ (∀ i, Gd ul.length (adjF (inkF zss).2) l1 i → Gd ul.length (adjF (inkF zss).2) lab i) ∧ ∀ j', j' < j → adjF (inkF zss).2 k j' = true → Gd ul.length (adjF (inkF zss).2) l1 k → Gd ul.length (adjF (inkF zss).2) lab j') ⟨x9, x10, l1, rfl, S8, h8, li1, fun _ h => h, fun _ h => absurd h (Nat.not_lt_zero _)⟩ ?_ ?_⟩
      · rintro j σ H9 hj ⟨x9, x10, l2, rfl, S9, h9, li2, mo2, ne2⟩
        have hj : j < ul.length := by simpa using hj
        rw [Int.zero_add]
        obtain ⟨v0, ev0⟩ : ∃ u, ul[k]? = some u := ⟨ul[k], by simp⟩
        obtain ⟨v1, ev1⟩ : ∃ u, ul[j]? = some u := ⟨ul[j], by simp⟩
        obtain ⟨p, ep, ip⟩ := pgt S9.al ev0
        obtain ⟨q', eq, iq⟩ := pgt S9.al ev1
        have mp := List.mem_of_getElem? ep
        have mq := List.mem_of_getElem? eq
        have ea : adjF (inkF zss).2 k j = (crF p q').isSome := adjF_at ep eq
        refine gn_of ?_
        refine sig_of (σ' := [some (.ref a), some (.ref d), some (.ref pt), some vd, some (.ref pd), some (.ref pl), some (.ref L), some (.int (0 + (t : Int))), some (.int (k : Int)), some (.int (j : Int)), x10, none, none, none]) rfl ?_
        refine ⟨_, rfl, _, rfl, pl, ul, _, v0, rfl, rfl, S9.hl, atI_nat ev0, _, rfl, _, rfl, pl, ul, _, v1, rfl, rfl, S9.hl, atI_nat ev1, ?_⟩
        dsimp only [tNil]
        refine ⟨_, _, p, q', rfl, ip, iq, kL p mp, kL q' mq, (kB p mp).1, (kB p mp).2, (kB q' mq).1, (kB q' mq).2, fun e H10 s10 => ⟨rfl, _, rfl, ?_⟩, fun z e H10 r s10 iz => ⟨rfl, _, rfl, ?_⟩⟩
        · rw [decide_eq_true (rfl : V.non = V.non)]
          refine iteF ⟨_, _, l2, rfl, S9.same s10, s10 _ _ h9, li2, mo2, fun j' hj' e1 g => ?_⟩
          rcases Nat.lt_succ_iff_lt_or_eq.mp hj' with h | h
          · exact ne2 j' h e1 g
          · rw [h, ea, e] at e1
            cases e1
        · obtain ⟨pz, rfl, _⟩ := iz
          rw [decide_eq_false (show ¬ V.ref pz = V.non from fun h => nomatch h)]
          refine iteT ?_
          rw [e] at ea
          have ea : adjF (inkF zss).2 k j = true := ea
          have h10 := s10 _ _ h9
          have S10 := S9.same s10
          have lk : k < l2.length := by rw [li2.len]; exact hk
          have lj : j < l2.length := by rw [li2.len]; exact hj
          have xa : l2[k]? = some l2[k] := List.getElem?_eq_getElem lk
          have xb : l2[j]? = some l2[j] := List.getElem?_eq_getElem lj
          refine ⟨_, rfl, _, rfl, L, _, _, _, rfl, rfl, .inl (.inl h10), atI_nat (nV_at xa), _, rfl, _, rfl, L, _, _, _, rfl, rfl, .inl (.inl h10), atI_nat (nV_at xb), _, _, rfl, gn_of ?_⟩
          rw [min_int]
          refine ⟨_, rfl, _, rfl, (by show 2 ≤ sizeLine; decide), fun p11 hp11 => ?_⟩
          have s11 := same_new hp11 (.tup [.int ((min l2[k] l2[j] : Nat) : Int), .int ((min l2[k] l2[j] : Nat) : Int)])
          have hx := upd_same (H := H10) (a := p11) (o := .tup [.int ((min l2[k] l2[j] : Nat) : Int), .int ((min l2[k] l2[j] : Nat) : Int)])
          have h11 := s11 _ _ h10
          have S11 := S10.same s11
          refine ⟨p11, _, rfl, .inl (.inl hx), rfl, _, _, rfl, _, rfl, _, rfl, L, _, _, k, rfl, rfl, h11, ixN_nat (by rw [nV_len]; exact lk), ?_⟩
          generalize upd H10 p11 (.tup [.int ((min l2[k] l2[j] : Nat) : Int), .int ((min l2[k] l2[j] : Nat) : Int)]) = H11 at *
          rw [nV_set]
          have k12 := keep_upd (d := L) (H := H11) (o := .lst (nV (l2.set k (min l2[k] l2[j]))))
          have S12 := S11.keep nL h11 k12
          have h12 := upd_same (H := H11) (a := L) (o := .lst (nV (l2.set k (min l2[k] l2[j]))))
          refine ⟨_, _, rfl, _, rfl, _, rfl, L, _, _, j, rfl, rfl, h12, ixN_nat (by rw [nV_len, List.length_set]; exact lj), rfl, ?_⟩
          rw [nV_set]
          generalize upd H11 L (.lst (nV (l2.set k (min l2[k] l2[j])))) = H12 at *
          have k13 := keep_upd (d := L) (H := H12) (o := .lst (nV ((l2.set k (min l2[k] l2[j])).set j (min l2[k] l2[j]))))
          refine ⟨_, _, up2 l2 k j (min l2[k] l2[j]), rfl, S12.keep nL h12 k13, upd_same, up2_LI sy li2 xa xb ea, fun i g => up2_Gd sy li2 xa xb ea (mo2 i g), fun j' hj' e1 g => ?_⟩
          rcases Nat.lt_succ_iff_lt_or_eq.mp hj' with h | h
          · exact up2_Gd sy li2 xa xb ea (ne2 j' h e1 g)
          · rw [h]
            exact up2_new sy li2 xa xb ea (mo2 k g)
      · rintro σ H9 ⟨x9, x10, l2, rfl, S9, h9, li2, mo2, ne2⟩
        refine ⟨_, _, _, l2, rfl, S9, h9, li2, fun i g => mo2 i (mo1 i g), fun k' j' hk' hj' e g => ?_⟩
        rcases Nat.lt_succ_iff_lt_or_eq.mp hk' with h | h
        · exact mo2 _ (ne1 k' j' h hj' e g)
        · rw [h] at e g
          exact ne2 j' (by simpa using hj') e (mo1 k g)
    · rintro σ H8 ⟨x8, x9, x10, l1, rfl, S8, h8, li1, mo1, ne1⟩
      exact ⟨_, _, _, _, l1, rfl, S8, h8, li1, round_step sy li mo1 (fun k' j' hk' hj' e g => ne1 k' j' (by simpa using hk') hj' e g) gd⟩
  rintro σ H7 ⟨x7, x8, x9, x10, lab, rfl, S7, h7, li, gd⟩
  have ag := all_good (by simpa using gd)
  clear S6 hl6 li0 gd
  dsimp only [tNext]
  have eqL := fun i j x y c hx hy => good_eq (i := i) (j := j) (a := x) (b := y) sy li ag c hx hy
  have nd : (inkF zss).2.Nodup := nf.sep.imp_of_mem fun {p q} mp mq ap e => by
    subst e
    rcases ap rfl with n | n
    · exact n (kL p mp).le
    · exact n (kL p mp).le
  have gi := lgF_GI kL nd (fun p mp q mq ne => nf.two mp mq ne) _ (Nat.le_refl _)
  rw [List.take_length] at gi
  have e7 : (lab.map fun n : Nat => (n : Int)).map V.int = nV lab := by
    unfold nV
    rw [List.map_map]
    rfl
  have ll := li.len
  rw [← e7] at h7
  refine ⟨_, rfl, L, lab.map fun n : Nat => (n : Int), rfl, .inl (.inl h7), by rw [List.length_map]; omega, fun a8 c8 ha8 hc8 => ?_⟩
  rw [List.length_map] at hc8
  have s8 := same_new ha8 (SetO w a8 (fun j => decide (j ∈ lab.map fun n : Nat => (n : Int))) c8)
  have S8 := S7.same s8
  have h8 := upd_same (H := H7) (a := a8) (o := SetO w a8 (fun j => decide (j ∈ lab.map fun n : Nat => (n : Int))) c8)
  generalize upd H7 a8 (SetO w a8 (fun j => decide (j ∈ lab.map fun n : Nat => (n : Int))) c8) = H8 at *
  refine ⟨a8, _, c8, rfl, h8, by omega, fun ms p9 hpw hmem hlen hp9 => ?_⟩
  have s9 := same_new hp9 (.lst (ms.map V.int))
  have S9 := S8.same s9
  have h9 := upd_same (H := H8) (a := p9) (o := .lst (ms.map V.int))
  generalize upd H8 p9 (.lst (ms.map V.int)) = H9 at *
  have cnt : ms.length = (lgF (inkF zss).2).length := by
    have e : ms = (ms.map Int.toNat).map fun n : Nat => (n : Int) := by
      rw [List.map_map]
      refine (List.map_id ms).symm.trans (List.map_congr_left fun x hx => ?_)
      have := (hmem x).mp hx
      obtain ⟨n, _, rfl⟩ := List.mem_map.mp (of_decide_eq_true this)
      rfl
    have := GI.count kL nd gi (lab := lab) (adj := adjF (inkF zss).2) (fun i j p q hi hj => adjF_at hi hj) (by rw [← lul]; exact li) (fun i j x y c hx hy => by rw [← lul] at c; exact eqL i j x y c hx hy) (ds := ms.map Int.toNat) ?_ ?_
    · rwa [List.length_map] at this
    · have p2 : ((ms.map Int.toNat).map fun n : Nat => (n : Int)).Pairwise (· < ·) := e ▸ hpw
      exact (List.pairwise_map.mp p2).imp fun h e => by rw [e] at h; exact absurd h (Int.lt_irrefl _)
    · intro x
      rw [List.mem_map]
      constructor
      · rintro ⟨y, hy, rfl⟩
        obtain ⟨n, hn, e2⟩ := List.mem_map.mp (of_decide_eq_true ((hmem y).mp hy))
        rw [← e2]
        exact hn
      · intro hx
        exact ⟨(x : Int), (hmem _).mpr (decide_eq_true (List.mem_map.mpr ⟨x, hx, rfl⟩)), rfl⟩
  refine ⟨p9, _, rfl, .inl (.inl (.inl h9)), ?_⟩
  refine ⟨_, rfl, pd, ud, rfl, .inr S9.hp, _, _, rfl, rfl, gn_of ?_⟩
  have ec : ((ms.length : Nat) : Int) + ((ud.length : Nat) : Int) = ((inkF zss).1.length : Int) + ((lgF (inkF zss).2).length : Int) := by rw [cnt, lud]; omega
  try dsimp only [tNext]
  refine sig_of (σ' := [some (.ref a), some (.ref d), some (.ref pt), some vd, some (.ref pd), some (.ref pl), some (.ref L), x7, x8, x9, x10, some (.int (((inkF zss).1.length : Int) + ((lgF (inkF zss).2).length : Int))), none, none]) (by rw [← ec, ← List.length_map (f := V.int) (as := ms)]; rfl) ?_
  clear ec cnt h9 h8 h7 hmem hpw gi eqL ag li e7 s8 s9 S7 S8 hp9 ha8
  refine ⟨_, rfl, vd, zss, rfl, S9.iw, G.zo, by omega, S9.tb, fun H10 e10 T10 => ⟨_, rfl, ?_⟩⟩
  have S10 := S9.extN e10 T10
  dsimp only [tNil]
  refine ⟨_, _, .int _, rfl, .int _, .int _, trivial, fun H11 s11 => ⟨_, rfl, iteF ?_⟩⟩
  have S11 := S10.same s11
  refine mkw_of2 (K := K) (us := []) (zss := []) .nil drNil fun H12 x12 s12 i12 => ⟨rfl, ?_⟩
  have S12 := S11.same s12
  dsimp only [tNil]
  refine ⟨_, [], rfl, i12, zs_nil, by rw [inkF_nil]; decide, S12.tb, fun H13 e13 T13 => ⟨rfl, _, rfl, ?_⟩⟩
  rw [inkF_nil]
  refine iteF ?_
  have S13 := S12.extN e13 T13
  clear S9 S10 S11 S12 e10 T10 s11 s12 i12 e13 T13
  try dsimp only [tNext]
  obtain ⟨st13, hd13, ok13⟩ := S13.hd
  refine ⟨_, rfl, d, 4, st13, rfl, by decide, by decide, hd13, ok13, fun H14 st14 r k14 hd14 ok14 ⟨z, iz, nz⟩ => gn_of ?_⟩
  have iw14 := S13.iw.keep hd13 k14
  have T14 : Tabs T H14 := fun p hp => TabS.keep (S13.tb p hp) hd13 k14
  clear S13 k14 hd13 ok13
  try dsimp only [tNext]
  refine ⟨_, rfl, _, rfl, (by show 1 ≤ sizeLine; decide), fun p15 hp15 => ?_⟩
  have s15 := same_new hp15 (.tup [r])
  have oz := nz.ok
  have GC := GD.dot oz (nz.bd.mono (by decide))
  have GN := G.app GC (by have := gl.len; show _ + 1 ≤ 12; omega)
  have iS : IsSt K _ (.ref p15) [z] := ⟨p15, [r], rfl, .inl (.inl upd_same), .cons (iz.same s15) .nil⟩
  refine mkw_of2 (K := K) (us := [.ref p15]) (zss := [[z]]) (.cons iS .nil) GC.dr fun H16 x16 s16 i16 => ⟨rfl, ?_⟩
  have iw16 := (iw14.same s15).same s16
  refine wadd_of iw16 i16 GN.dr fun H17 v17 s17 i17 => ?_
  have s47 := s15.trans (s16.trans s17)
  dsimp only [tNil]
  have kn2 := inkF_m (n := 11) GN.zo fun zs hz => (GN.dr.ok zs hz).hi
  have ln2 : (zss ++ [[z]]).length ≤ 7 := by rw [List.length_append]; have := gl.len; show _ + 1 ≤ 7; omega
  refine ⟨v17, zss ++ [[z]], rfl, i17, GN.zo, by omega, T14.ext s47, fun H18 e18 T18 => gn_of ?_⟩
  have iw18 := IsWx (iw14.same s47) e18
  have iz18 : IsT K H18 r z := (iz.same s47).extN e18
  try dsimp only [tNext]
  refine ⟨_, rfl, _, rfl, _, rfl, wcov_of iw18 ⟨_, rfl, ?_⟩⟩
  dsimp only [tNil]
  refine ⟨_, zss, _, z, rfl, iw18, G.zo, iz18, oz, nz.bd.mono (by decide), fun H19 s19 => ?_⟩
  refine ⟨_, rfl, .inr ⟨_, rfl, _, _, rfl, rfl, rfl, ?_⟩⟩
  have ev : ((inkF (zss ++ [[z]])).1.length : Int) + ((lgF (inkF (zss ++ [[z]])).2).length : Int) = ((inkF zss).1.length : Int) + ((lgF (inkF zss).2).length : Int) + (if (!cov z (dotsF zss, strF zss)) = true then 1 else 0) := by
    cases e : cvD z zss with
    | true =>
      have e' : cov z (dotsF zss, strF zss) = true := e
      rw [e', ← (GD.dot_add G GN oz).mpr e]
      simp
    | false =>
      have e' : cov z (dotsF zss, strF zss) = false := e
      obtain ⟨h1, h2⟩ := dot_new G.zo oz e
      rw [e', h1, h2]
      simp
      omega
  rw [ev, decide_eq_true rfl]
  exact q _
end
end My

namespace My
open PySem L2 Mth LamX
theorem all_mk {l : PySem.W.OpenLaw} {w : World} {K : PySem.W.Frag} {h : Heap} {mg : Str → Option Value} {fa : Addr} (X : K.In h) (G : h.Ns mainGlobals mg) (hfa : mg "law" = some (.ref fa)) (bl : Blank K mg ["ascending", "ascending_pairs"] h)
    {tk_MOST_SPOTS : Tok}
    {tk_MOST_STROKES : Tok}
    {f_common_divisor : Addr} {od_common_divisor an_common_divisor : Option Addr} {sl_common_divisor : Array (Option Value)} {oc_common_divisor kV_common_divisor dc_common_divisor pm_common_divisor cd_common_divisor ct_common_divisor : Value}
    {f_is_whole : Addr} {od_is_whole an_is_whole : Option Addr} {sl_is_whole : Array (Option Value)} {oc_is_whole kV_is_whole dc_is_whole pm_is_whole cd_is_whole ct_is_whole : Value}
    {f_is_spot : Addr} {od_is_spot an_is_spot : Option Addr} {sl_is_spot : Array (Option Value)} {oc_is_spot kV_is_spot dc_is_spot pm_is_spot cd_is_spot ct_is_spot : Value}
    {f_spot_at : Addr} {od_spot_at an_spot_at : Option Addr} {sl_spot_at : Array (Option Value)} {oc_spot_at kV_spot_at dc_spot_at pm_spot_at cd_spot_at ct_spot_at : Value}
    {f_precedes : Addr} {od_precedes an_precedes : Option Addr} {sl_precedes : Array (Option Value)} {oc_precedes kV_precedes dc_precedes pm_precedes cd_precedes ct_precedes : Value}
    {f_parting_scale : Addr} {od_parting_scale an_parting_scale : Option Addr} {sl_parting_scale : Array (Option Value)} {oc_parting_scale kV_parting_scale dc_parting_scale pm_parting_scale cd_parting_scale ct_parting_scale : Value}
    {f_scaled : Addr} {od_scaled an_scaled : Option Addr} {sl_scaled : Array (Option Value)} {oc_scaled kV_scaled dc_scaled pm_scaled cd_scaled ct_scaled : Value}
    {f_ascending : Addr} {od_ascending an_ascending : Option Addr} {sl_ascending : Array (Option Value)} {oc_ascending kV_ascending dc_ascending pm_ascending ct_ascending : Value}
    {cc_ascending PP_ascending : Addr} {oq_ascending : Value} {dq_ascending : Option Addr} {vq_ascending : Array Value} {sq_ascending : Array (Option Value)}
    {f_ascending_pairs : Addr} {od_ascending_pairs an_ascending_pairs : Option Addr} {sl_ascending_pairs : Array (Option Value)} {oc_ascending_pairs kV_ascending_pairs dc_ascending_pairs pm_ascending_pairs ct_ascending_pairs : Value}
    {cc_ascending_pairs PP_ascending_pairs : Addr} {oq_ascending_pairs : Value} {dq_ascending_pairs : Option Addr} {vq_ascending_pairs : Array Value} {sq_ascending_pairs : Array (Option Value)}
    {f_line_form : Addr} {od_line_form an_line_form : Option Addr} {sl_line_form : Array (Option Value)} {oc_line_form kV_line_form dc_line_form pm_line_form cd_line_form ct_line_form : Value}
    {f_line_through : Addr} {od_line_through an_line_through : Option Addr} {sl_line_through : Array (Option Value)} {oc_line_through kV_line_through dc_line_through pm_line_through cd_line_through ct_line_through : Value}
    {f_is_on_line : Addr} {od_is_on_line an_is_on_line : Option Addr} {sl_is_on_line : Array (Option Value)} {oc_is_on_line kV_is_on_line dc_is_on_line pm_is_on_line cd_is_on_line ct_is_on_line : Value}
    {f_are_parallel : Addr} {od_are_parallel an_are_parallel : Option Addr} {sl_are_parallel : Array (Option Value)} {oc_are_parallel kV_are_parallel dc_are_parallel pm_are_parallel cd_are_parallel ct_are_parallel : Value}
    {f_crossing : Addr} {od_crossing an_crossing : Option Addr} {sl_crossing : Array (Option Value)} {oc_crossing kV_crossing dc_crossing pm_crossing cd_crossing ct_crossing : Value}
    {f_parts_of : Addr} {od_parts_of an_parts_of : Option Addr} {sl_parts_of : Array (Option Value)} {oc_parts_of kV_parts_of dc_parts_of pm_parts_of cd_parts_of ct_parts_of : Value}
    {f_is_stroke : Addr} {od_is_stroke an_is_stroke : Option Addr} {sl_is_stroke : Array (Option Value)} {oc_is_stroke kV_is_stroke dc_is_stroke pm_is_stroke cd_is_stroke ct_is_stroke : Value}
    {f_check_strokes : Addr} {od_check_strokes an_check_strokes : Option Addr} {sl_check_strokes : Array (Option Value)} {oc_check_strokes kV_check_strokes dc_check_strokes pm_check_strokes cd_check_strokes ct_check_strokes : Value}
    {f_in_order : Addr} {od_in_order an_in_order : Option Addr} {sl_in_order : Array (Option Value)} {oc_in_order kV_in_order dc_in_order pm_in_order cd_in_order ct_in_order : Value}
    {f_dots_of : Addr} {od_dots_of an_dots_of : Option Addr} {sl_dots_of : Array (Option Value)} {oc_dots_of kV_dots_of dc_dots_of pm_dots_of cd_dots_of ct_dots_of : Value}
    {f_stretches_of : Addr} {od_stretches_of an_stretches_of : Option Addr} {sl_stretches_of : Array (Option Value)} {oc_stretches_of kV_stretches_of dc_stretches_of pm_stretches_of cd_stretches_of ct_stretches_of : Value}
    {f_joined : Addr} {od_joined an_joined : Option Addr} {sl_joined : Array (Option Value)} {oc_joined kV_joined dc_joined pm_joined cd_joined ct_joined : Value}
    {f_longest : Addr} {od_longest an_longest : Option Addr} {sl_longest : Array (Option Value)} {oc_longest kV_longest dc_longest pm_longest cd_longest ct_longest : Value}
    {f_is_between : Addr} {od_is_between an_is_between : Option Addr} {sl_is_between : Array (Option Value)} {oc_is_between kV_is_between dc_is_between pm_is_between cd_is_between ct_is_between : Value}
    {f_is_on_any : Addr} {od_is_on_any an_is_on_any : Option Addr} {sl_is_on_any : Array (Option Value)} {oc_is_on_any kV_is_on_any dc_is_on_any pm_is_on_any cd_is_on_any ct_is_on_any : Value}
    {f_is_covered : Addr} {od_is_covered an_is_covered : Option Addr} {sl_is_covered : Array (Option Value)} {oc_is_covered kV_is_covered dc_is_covered pm_is_covered cd_is_covered ct_is_covered : Value}
    {f_ink_from : Addr} {od_ink_from an_ink_from : Option Addr} {sl_ink_from : Array (Option Value)} {oc_ink_from kV_ink_from dc_ink_from pm_ink_from cd_ink_from ct_ink_from : Value}
    {f_ink_of : Addr} {od_ink_of an_ink_of : Option Addr} {sl_ink_of : Array (Option Value)} {oc_ink_of kV_ink_of dc_ink_of pm_ink_of cd_ink_of ct_ink_of : Value}
    {f_overlap : Addr} {od_overlap an_overlap : Option Addr} {sl_overlap : Array (Option Value)} {oc_overlap kV_overlap dc_overlap pm_overlap cd_overlap ct_overlap : Value}
    {f_check_spot : Addr} {od_check_spot an_check_spot : Option Addr} {sl_check_spot : Array (Option Value)} {oc_check_spot kV_check_spot dc_check_spot pm_check_spot cd_check_spot ct_check_spot : Value}
    {CW : Addr}
    {f_Drawing___init__ : Addr} {od_Drawing___init__ an_Drawing___init__ : Option Addr} {sl_Drawing___init__ : Array (Option Value)} {oc_Drawing___init__ kV_Drawing___init__ dc_Drawing___init__ pm_Drawing___init__ cd_Drawing___init__ ct_Drawing___init__ : Value}
    {f_Drawing___add__ : Addr} {od_Drawing___add__ an_Drawing___add__ : Option Addr} {sl_Drawing___add__ : Array (Option Value)} {oc_Drawing___add__ kV_Drawing___add__ dc_Drawing___add__ pm_Drawing___add__ cd_Drawing___add__ ct_Drawing___add__ : Value}
    {f_Drawing_ink : Addr} {od_Drawing_ink an_Drawing_ink : Option Addr} {sl_Drawing_ink : Array (Option Value)} {oc_Drawing_ink kV_Drawing_ink dc_Drawing_ink pm_Drawing_ink cd_Drawing_ink ct_Drawing_ink : Value}
    {f_Drawing_covers : Addr} {od_Drawing_covers an_Drawing_covers : Option Addr} {sl_Drawing_covers : Array (Option Value)} {oc_Drawing_covers kV_Drawing_covers dc_Drawing_covers pm_Drawing_covers cd_Drawing_covers ct_Drawing_covers : Value}
    {f_touches : Addr} {od_touches an_touches : Option Addr} {sl_touches : Array (Option Value)} {oc_touches kV_touches dc_touches pm_touches cd_touches ct_touches : Value}
    {f_with_line : Addr} {od_with_line an_with_line : Option Addr} {sl_with_line : Array (Option Value)} {oc_with_line kV_with_line dc_with_line pm_with_line cd_with_line ct_with_line : Value}
    {f_line_groups : Addr} {od_line_groups an_line_groups : Option Addr} {sl_line_groups : Array (Option Value)} {oc_line_groups kV_line_groups dc_line_groups pm_line_groups cd_line_groups ct_line_groups : Value}
    {f_pieces : Addr} {od_pieces an_pieces : Option Addr} {sl_pieces : Array (Option Value)} {oc_pieces kV_pieces dc_pieces pm_pieces cd_pieces ct_pieces : Value}
    {f_law_random : Addr} {od_law_random an_law_random : Option Addr} {sl_law_random : Array (Option Value)} {oc_law_random kV_law_random dc_law_random pm_law_random cd_law_random ct_law_random : Value}
    {f_law_below : Addr} {od_law_below an_law_below : Option Addr} {sl_law_below : Array (Option Value)} {oc_law_below kV_law_below dc_law_below pm_law_below cd_law_below ct_law_below : Value}
    {f_law_step : Addr} {od_law_step an_law_step : Option Addr} {sl_law_step : Array (Option Value)} {oc_law_step kV_law_step dc_law_step pm_law_step cd_law_step ct_law_step : Value}
    {f_law_common : Addr} {od_law_common an_law_common : Option Addr} {sl_law_common : Array (Option Value)} {oc_law_common kV_law_common dc_law_common pm_law_common cd_law_common ct_law_common : Value}
    {f_law_lowest : Addr} {od_law_lowest an_law_lowest : Option Addr} {sl_law_lowest : Array (Option Value)} {oc_law_lowest kV_law_lowest dc_law_lowest pm_law_lowest cd_law_lowest ct_law_lowest : Value}
    {f_law_spot : Addr} {od_law_spot an_law_spot : Option Addr} {sl_law_spot : Array (Option Value)} {oc_law_spot kV_law_spot dc_law_spot pm_law_spot cd_law_spot ct_law_spot : Value}
    {f_law_stroke : Addr} {od_law_stroke an_law_stroke : Option Addr} {sl_law_stroke : Array (Option Value)} {oc_law_stroke kV_law_stroke dc_law_stroke pm_law_stroke cd_law_stroke ct_law_stroke : Value}
    {f_law_strokes : Addr} {od_law_strokes an_law_strokes : Option Addr} {sl_law_strokes : Array (Option Value)} {oc_law_strokes kV_law_strokes dc_law_strokes pm_law_strokes cd_law_strokes ct_law_strokes : Value}
    {f_law_drawing : Addr} {od_law_drawing an_law_drawing : Option Addr} {sl_law_drawing : Array (Option Value)} {oc_law_drawing kV_law_drawing dc_law_drawing pm_law_drawing cd_law_drawing ct_law_drawing : Value}
    {f_law_plus : Addr} {od_law_plus an_law_plus : Option Addr} {sl_law_plus : Array (Option Value)} {oc_law_plus kV_law_plus dc_law_plus pm_law_plus cd_law_plus ct_law_plus : Value}
    {f_law_minus : Addr} {od_law_minus an_law_minus : Option Addr} {sl_law_minus : Array (Option Value)} {oc_law_minus kV_law_minus dc_law_minus pm_law_minus cd_law_minus ct_law_minus : Value}
    {f_law_equal : Addr} {od_law_equal an_law_equal : Option Addr} {sl_law_equal : Array (Option Value)} {oc_law_equal kV_law_equal dc_law_equal pm_law_equal cd_law_equal ct_law_equal : Value}
    {f_law_times : Addr} {od_law_times an_law_times : Option Addr} {sl_law_times : Array (Option Value)} {oc_law_times kV_law_times dc_law_times pm_law_times cd_law_times ct_law_times : Value}
    {f_law_ratio : Addr} {od_law_ratio an_law_ratio : Option Addr} {sl_law_ratio : Array (Option Value)} {oc_law_ratio kV_law_ratio dc_law_ratio pm_law_ratio cd_law_ratio ct_law_ratio : Value}
    {f_law_over : Addr} {od_law_over an_law_over : Option Addr} {sl_law_over : Array (Option Value)} {oc_law_over kV_law_over dc_law_over pm_law_over cd_law_over ct_law_over : Value}
    {f_law_cross : Addr} {od_law_cross an_law_cross : Option Addr} {sl_law_cross : Array (Option Value)} {oc_law_cross kV_law_cross dc_law_cross pm_law_cross cd_law_cross ct_law_cross : Value}
    {f_law : Addr} {od_law an_law : Option Addr} {sl_law : Array (Option Value)} {oc_law kV_law dc_law pm_law cd_law ct_law : Value}
    (z_abs : PySem.W.nsIn K mainGlobals "abs" = some none)
    (z_len : PySem.W.nsIn K mainGlobals "len" = some none)
    (z_isinstance : PySem.W.nsIn K mainGlobals "isinstance" = some none)
    (z_int : PySem.W.nsIn K mainGlobals "int" = some none)
    (z_bool : PySem.W.nsIn K mainGlobals "bool" = some none)
    (z_str : PySem.W.nsIn K mainGlobals "str" = some none)
    (z_tuple : PySem.W.nsIn K mainGlobals "tuple" = some none)
    (z_list : PySem.W.nsIn K mainGlobals "list" = some none)
    (z_all : PySem.W.nsIn K mainGlobals "all" = some none)
    (z_any : PySem.W.nsIn K mainGlobals "any" = some none)
    (z_range : PySem.W.nsIn K mainGlobals "range" = some none)
    (z_enumerate : PySem.W.nsIn K mainGlobals "enumerate" = some none)
    (z_zip : PySem.W.nsIn K mainGlobals "zip" = some none)
    (z_max : PySem.W.nsIn K mainGlobals "max" = some none)
    (z_min : PySem.W.nsIn K mainGlobals "min" = some none)
    (z_set : PySem.W.nsIn K mainGlobals "set" = some none)
    (z_sorted : PySem.W.nsIn K mainGlobals "sorted" = some none)
    (mi_MOST_SPOTS : PySem.W.nsIn K mainGlobals "MOST_SPOTS" = some (some (.int 12 tk_MOST_SPOTS)))
    (mi_MOST_STROKES : PySem.W.nsIn K mainGlobals "MOST_STROKES" = some (some (.int 12 tk_MOST_STROKES)))
    (a_common_divisor : PySem.W.nsIn K mainGlobals "common_divisor" = some (some (.ref f_common_divisor)))
    (l_common_divisor : K.lookup f_common_divisor = some ⟨oc_common_divisor, od_common_divisor, .func (PySem.W.fnOf "common_divisor" "common_divisor" (defArgs s_common_divisor) (defBody s_common_divisor) (defScope s_common_divisor) .none kV_common_divisor dc_common_divisor pm_common_divisor an_common_divisor cd_common_divisor ct_common_divisor), sl_common_divisor⟩)
    (c_common_divisor : PySem.W.codeIn K cd_common_divisor "common_divisor" = true)
    (k_common_divisor : PySem.W.keepIn K (.ref f_common_divisor) = true)
    (a_is_whole : PySem.W.nsIn K mainGlobals "is_whole" = some (some (.ref f_is_whole)))
    (l_is_whole : K.lookup f_is_whole = some ⟨oc_is_whole, od_is_whole, .func (PySem.W.fnOf "is_whole" "is_whole" (defArgs s_is_whole) (defBody s_is_whole) (defScope s_is_whole) .none kV_is_whole dc_is_whole pm_is_whole an_is_whole cd_is_whole ct_is_whole), sl_is_whole⟩)
    (c_is_whole : PySem.W.codeIn K cd_is_whole "is_whole" = true)
    (k_is_whole : PySem.W.keepIn K (.ref f_is_whole) = true)
    (a_is_spot : PySem.W.nsIn K mainGlobals "is_spot" = some (some (.ref f_is_spot)))
    (l_is_spot : K.lookup f_is_spot = some ⟨oc_is_spot, od_is_spot, .func (PySem.W.fnOf "is_spot" "is_spot" (defArgs s_is_spot) (defBody s_is_spot) (defScope s_is_spot) .none kV_is_spot dc_is_spot pm_is_spot an_is_spot cd_is_spot ct_is_spot), sl_is_spot⟩)
    (c_is_spot : PySem.W.codeIn K cd_is_spot "is_spot" = true)
    (k_is_spot : PySem.W.keepIn K (.ref f_is_spot) = true)
    (a_spot_at : PySem.W.nsIn K mainGlobals "spot_at" = some (some (.ref f_spot_at)))
    (l_spot_at : K.lookup f_spot_at = some ⟨oc_spot_at, od_spot_at, .func (PySem.W.fnOf "spot_at" "spot_at" (defArgs s_spot_at) (defBody s_spot_at) (defScope s_spot_at) .none kV_spot_at dc_spot_at pm_spot_at an_spot_at cd_spot_at ct_spot_at), sl_spot_at⟩)
    (c_spot_at : PySem.W.codeIn K cd_spot_at "spot_at" = true)
    (k_spot_at : PySem.W.keepIn K (.ref f_spot_at) = true)
    (a_precedes : PySem.W.nsIn K mainGlobals "precedes" = some (some (.ref f_precedes)))
    (l_precedes : K.lookup f_precedes = some ⟨oc_precedes, od_precedes, .func (PySem.W.fnOf "precedes" "precedes" (defArgs s_precedes) (defBody s_precedes) (defScope s_precedes) .none kV_precedes dc_precedes pm_precedes an_precedes cd_precedes ct_precedes), sl_precedes⟩)
    (c_precedes : PySem.W.codeIn K cd_precedes "precedes" = true)
    (k_precedes : PySem.W.keepIn K (.ref f_precedes) = true)
    (a_parting_scale : PySem.W.nsIn K mainGlobals "parting_scale" = some (some (.ref f_parting_scale)))
    (l_parting_scale : K.lookup f_parting_scale = some ⟨oc_parting_scale, od_parting_scale, .func (PySem.W.fnOf "parting_scale" "parting_scale" (defArgs s_parting_scale) (defBody s_parting_scale) (defScope s_parting_scale) .none kV_parting_scale dc_parting_scale pm_parting_scale an_parting_scale cd_parting_scale ct_parting_scale), sl_parting_scale⟩)
    (c_parting_scale : PySem.W.codeIn K cd_parting_scale "parting_scale" = true)
    (k_parting_scale : PySem.W.keepIn K (.ref f_parting_scale) = true)
    (a_scaled : PySem.W.nsIn K mainGlobals "scaled" = some (some (.ref f_scaled)))
    (l_scaled : K.lookup f_scaled = some ⟨oc_scaled, od_scaled, .func (PySem.W.fnOf "scaled" "scaled" (defArgs s_scaled) (defBody s_scaled) (defScope s_scaled) .none kV_scaled dc_scaled pm_scaled an_scaled cd_scaled ct_scaled), sl_scaled⟩)
    (c_scaled : PySem.W.codeIn K cd_scaled "scaled" = true)
    (k_scaled : PySem.W.keepIn K (.ref f_scaled) = true)
    (ne_ascending_ascending_pairs : (PP_ascending_pairs == PP_ascending) = false)
    (a_ascending : PySem.W.nsIn K mainGlobals "ascending" = some (some (.ref f_ascending)))
    (l_ascending : K.lookup f_ascending = some ⟨oc_ascending, od_ascending, .func (PySem.W.fnOf "ascending" "ascending" (defArgs s_ascending) (defBody s_ascending) (defScope s_ascending) .none kV_ascending dc_ascending pm_ascending an_ascending (.ref cc_ascending) ct_ascending), sl_ascending⟩)
    (c_ascending : PySem.W.codeIn K (.ref cc_ascending) "ascending" = true)
    (k_ascending : PySem.W.keepIn K (.ref f_ascending) = true)
    (q_ascending : K.lookup cc_ascending = some ⟨oq_ascending, dq_ascending, .fields vq_ascending, sq_ascending⟩)
    (v_ascending : vq_ascending[11]? = some (.ref PP_ascending))
    (n_ascending : K.lookup PP_ascending = none)
    (h_ascending : PySem.W.codeHdIn K cc_ascending PP_ascending = true)
    (a_ascending_pairs : PySem.W.nsIn K mainGlobals "ascending_pairs" = some (some (.ref f_ascending_pairs)))
    (l_ascending_pairs : K.lookup f_ascending_pairs = some ⟨oc_ascending_pairs, od_ascending_pairs, .func (PySem.W.fnOf "ascending_pairs" "ascending_pairs" (defArgs s_ascending_pairs) (defBody s_ascending_pairs) (defScope s_ascending_pairs) .none kV_ascending_pairs dc_ascending_pairs pm_ascending_pairs an_ascending_pairs (.ref cc_ascending_pairs) ct_ascending_pairs), sl_ascending_pairs⟩)
    (c_ascending_pairs : PySem.W.codeIn K (.ref cc_ascending_pairs) "ascending_pairs" = true)
    (k_ascending_pairs : PySem.W.keepIn K (.ref f_ascending_pairs) = true)
    (q_ascending_pairs : K.lookup cc_ascending_pairs = some ⟨oq_ascending_pairs, dq_ascending_pairs, .fields vq_ascending_pairs, sq_ascending_pairs⟩)
    (v_ascending_pairs : vq_ascending_pairs[11]? = some (.ref PP_ascending_pairs))
    (n_ascending_pairs : K.lookup PP_ascending_pairs = none)
    (h_ascending_pairs : PySem.W.codeHdIn K cc_ascending_pairs PP_ascending_pairs = true)
    (a_line_form : PySem.W.nsIn K mainGlobals "line_form" = some (some (.ref f_line_form)))
    (l_line_form : K.lookup f_line_form = some ⟨oc_line_form, od_line_form, .func (PySem.W.fnOf "line_form" "line_form" (defArgs s_line_form) (defBody s_line_form) (defScope s_line_form) .none kV_line_form dc_line_form pm_line_form an_line_form cd_line_form ct_line_form), sl_line_form⟩)
    (c_line_form : PySem.W.codeIn K cd_line_form "line_form" = true)
    (k_line_form : PySem.W.keepIn K (.ref f_line_form) = true)
    (a_line_through : PySem.W.nsIn K mainGlobals "line_through" = some (some (.ref f_line_through)))
    (l_line_through : K.lookup f_line_through = some ⟨oc_line_through, od_line_through, .func (PySem.W.fnOf "line_through" "line_through" (defArgs s_line_through) (defBody s_line_through) (defScope s_line_through) .none kV_line_through dc_line_through pm_line_through an_line_through cd_line_through ct_line_through), sl_line_through⟩)
    (c_line_through : PySem.W.codeIn K cd_line_through "line_through" = true)
    (k_line_through : PySem.W.keepIn K (.ref f_line_through) = true)
    (a_is_on_line : PySem.W.nsIn K mainGlobals "is_on_line" = some (some (.ref f_is_on_line)))
    (l_is_on_line : K.lookup f_is_on_line = some ⟨oc_is_on_line, od_is_on_line, .func (PySem.W.fnOf "is_on_line" "is_on_line" (defArgs s_is_on_line) (defBody s_is_on_line) (defScope s_is_on_line) .none kV_is_on_line dc_is_on_line pm_is_on_line an_is_on_line cd_is_on_line ct_is_on_line), sl_is_on_line⟩)
    (c_is_on_line : PySem.W.codeIn K cd_is_on_line "is_on_line" = true)
    (k_is_on_line : PySem.W.keepIn K (.ref f_is_on_line) = true)
    (a_are_parallel : PySem.W.nsIn K mainGlobals "are_parallel" = some (some (.ref f_are_parallel)))
    (l_are_parallel : K.lookup f_are_parallel = some ⟨oc_are_parallel, od_are_parallel, .func (PySem.W.fnOf "are_parallel" "are_parallel" (defArgs s_are_parallel) (defBody s_are_parallel) (defScope s_are_parallel) .none kV_are_parallel dc_are_parallel pm_are_parallel an_are_parallel cd_are_parallel ct_are_parallel), sl_are_parallel⟩)
    (c_are_parallel : PySem.W.codeIn K cd_are_parallel "are_parallel" = true)
    (k_are_parallel : PySem.W.keepIn K (.ref f_are_parallel) = true)
    (a_crossing : PySem.W.nsIn K mainGlobals "crossing" = some (some (.ref f_crossing)))
    (l_crossing : K.lookup f_crossing = some ⟨oc_crossing, od_crossing, .func (PySem.W.fnOf "crossing" "crossing" (defArgs s_crossing) (defBody s_crossing) (defScope s_crossing) .none kV_crossing dc_crossing pm_crossing an_crossing cd_crossing ct_crossing), sl_crossing⟩)
    (c_crossing : PySem.W.codeIn K cd_crossing "crossing" = true)
    (k_crossing : PySem.W.keepIn K (.ref f_crossing) = true)
    (a_parts_of : PySem.W.nsIn K mainGlobals "parts_of" = some (some (.ref f_parts_of)))
    (l_parts_of : K.lookup f_parts_of = some ⟨oc_parts_of, od_parts_of, .func (PySem.W.fnOf "parts_of" "parts_of" (defArgs s_parts_of) (defBody s_parts_of) (defScope s_parts_of) .none kV_parts_of dc_parts_of pm_parts_of an_parts_of cd_parts_of ct_parts_of), sl_parts_of⟩)
    (c_parts_of : PySem.W.codeIn K cd_parts_of "parts_of" = true)
    (k_parts_of : PySem.W.keepIn K (.ref f_parts_of) = true)
    (a_is_stroke : PySem.W.nsIn K mainGlobals "is_stroke" = some (some (.ref f_is_stroke)))
    (l_is_stroke : K.lookup f_is_stroke = some ⟨oc_is_stroke, od_is_stroke, .func (PySem.W.fnOf "is_stroke" "is_stroke" (defArgs s_is_stroke) (defBody s_is_stroke) (defScope s_is_stroke) .none kV_is_stroke dc_is_stroke pm_is_stroke an_is_stroke cd_is_stroke ct_is_stroke), sl_is_stroke⟩)
    (c_is_stroke : PySem.W.codeIn K cd_is_stroke "is_stroke" = true)
    (k_is_stroke : PySem.W.keepIn K (.ref f_is_stroke) = true)
    (a_check_strokes : PySem.W.nsIn K mainGlobals "check_strokes" = some (some (.ref f_check_strokes)))
    (l_check_strokes : K.lookup f_check_strokes = some ⟨oc_check_strokes, od_check_strokes, .func (PySem.W.fnOf "check_strokes" "check_strokes" (defArgs s_check_strokes) (defBody s_check_strokes) (defScope s_check_strokes) .none kV_check_strokes dc_check_strokes pm_check_strokes an_check_strokes cd_check_strokes ct_check_strokes), sl_check_strokes⟩)
    (c_check_strokes : PySem.W.codeIn K cd_check_strokes "check_strokes" = true)
    (k_check_strokes : PySem.W.keepIn K (.ref f_check_strokes) = true)
    (a_in_order : PySem.W.nsIn K mainGlobals "in_order" = some (some (.ref f_in_order)))
    (l_in_order : K.lookup f_in_order = some ⟨oc_in_order, od_in_order, .func (PySem.W.fnOf "in_order" "in_order" (defArgs s_in_order) (defBody s_in_order) (defScope s_in_order) .none kV_in_order dc_in_order pm_in_order an_in_order cd_in_order ct_in_order), sl_in_order⟩)
    (c_in_order : PySem.W.codeIn K cd_in_order "in_order" = true)
    (k_in_order : PySem.W.keepIn K (.ref f_in_order) = true)
    (a_dots_of : PySem.W.nsIn K mainGlobals "dots_of" = some (some (.ref f_dots_of)))
    (l_dots_of : K.lookup f_dots_of = some ⟨oc_dots_of, od_dots_of, .func (PySem.W.fnOf "dots_of" "dots_of" (defArgs s_dots_of) (defBody s_dots_of) (defScope s_dots_of) .none kV_dots_of dc_dots_of pm_dots_of an_dots_of cd_dots_of ct_dots_of), sl_dots_of⟩)
    (c_dots_of : PySem.W.codeIn K cd_dots_of "dots_of" = true)
    (k_dots_of : PySem.W.keepIn K (.ref f_dots_of) = true)
    (a_stretches_of : PySem.W.nsIn K mainGlobals "stretches_of" = some (some (.ref f_stretches_of)))
    (l_stretches_of : K.lookup f_stretches_of = some ⟨oc_stretches_of, od_stretches_of, .func (PySem.W.fnOf "stretches_of" "stretches_of" (defArgs s_stretches_of) (defBody s_stretches_of) (defScope s_stretches_of) .none kV_stretches_of dc_stretches_of pm_stretches_of an_stretches_of cd_stretches_of ct_stretches_of), sl_stretches_of⟩)
    (c_stretches_of : PySem.W.codeIn K cd_stretches_of "stretches_of" = true)
    (k_stretches_of : PySem.W.keepIn K (.ref f_stretches_of) = true)
    (a_joined : PySem.W.nsIn K mainGlobals "joined" = some (some (.ref f_joined)))
    (l_joined : K.lookup f_joined = some ⟨oc_joined, od_joined, .func (PySem.W.fnOf "joined" "joined" (defArgs s_joined) (defBody s_joined) (defScope s_joined) .none kV_joined dc_joined pm_joined an_joined cd_joined ct_joined), sl_joined⟩)
    (c_joined : PySem.W.codeIn K cd_joined "joined" = true)
    (k_joined : PySem.W.keepIn K (.ref f_joined) = true)
    (a_longest : PySem.W.nsIn K mainGlobals "longest" = some (some (.ref f_longest)))
    (l_longest : K.lookup f_longest = some ⟨oc_longest, od_longest, .func (PySem.W.fnOf "longest" "longest" (defArgs s_longest) (defBody s_longest) (defScope s_longest) .none kV_longest dc_longest pm_longest an_longest cd_longest ct_longest), sl_longest⟩)
    (c_longest : PySem.W.codeIn K cd_longest "longest" = true)
    (k_longest : PySem.W.keepIn K (.ref f_longest) = true)
    (a_is_between : PySem.W.nsIn K mainGlobals "is_between" = some (some (.ref f_is_between)))
    (l_is_between : K.lookup f_is_between = some ⟨oc_is_between, od_is_between, .func (PySem.W.fnOf "is_between" "is_between" (defArgs s_is_between) (defBody s_is_between) (defScope s_is_between) .none kV_is_between dc_is_between pm_is_between an_is_between cd_is_between ct_is_between), sl_is_between⟩)
    (c_is_between : PySem.W.codeIn K cd_is_between "is_between" = true)
    (k_is_between : PySem.W.keepIn K (.ref f_is_between) = true)
    (a_is_on_any : PySem.W.nsIn K mainGlobals "is_on_any" = some (some (.ref f_is_on_any)))
    (l_is_on_any : K.lookup f_is_on_any = some ⟨oc_is_on_any, od_is_on_any, .func (PySem.W.fnOf "is_on_any" "is_on_any" (defArgs s_is_on_any) (defBody s_is_on_any) (defScope s_is_on_any) .none kV_is_on_any dc_is_on_any pm_is_on_any an_is_on_any cd_is_on_any ct_is_on_any), sl_is_on_any⟩)
    (c_is_on_any : PySem.W.codeIn K cd_is_on_any "is_on_any" = true)
    (k_is_on_any : PySem.W.keepIn K (.ref f_is_on_any) = true)
    (a_is_covered : PySem.W.nsIn K mainGlobals "is_covered" = some (some (.ref f_is_covered)))
    (l_is_covered : K.lookup f_is_covered = some ⟨oc_is_covered, od_is_covered, .func (PySem.W.fnOf "is_covered" "is_covered" (defArgs s_is_covered) (defBody s_is_covered) (defScope s_is_covered) .none kV_is_covered dc_is_covered pm_is_covered an_is_covered cd_is_covered ct_is_covered), sl_is_covered⟩)
    (c_is_covered : PySem.W.codeIn K cd_is_covered "is_covered" = true)
    (k_is_covered : PySem.W.keepIn K (.ref f_is_covered) = true)
    (a_ink_from : PySem.W.nsIn K mainGlobals "ink_from" = some (some (.ref f_ink_from)))
    (l_ink_from : K.lookup f_ink_from = some ⟨oc_ink_from, od_ink_from, .func (PySem.W.fnOf "ink_from" "ink_from" (defArgs s_ink_from) (defBody s_ink_from) (defScope s_ink_from) .none kV_ink_from dc_ink_from pm_ink_from an_ink_from cd_ink_from ct_ink_from), sl_ink_from⟩)
    (c_ink_from : PySem.W.codeIn K cd_ink_from "ink_from" = true)
    (k_ink_from : PySem.W.keepIn K (.ref f_ink_from) = true)
    (a_ink_of : PySem.W.nsIn K mainGlobals "ink_of" = some (some (.ref f_ink_of)))
    (l_ink_of : K.lookup f_ink_of = some ⟨oc_ink_of, od_ink_of, .func (PySem.W.fnOf "ink_of" "ink_of" (defArgs s_ink_of) (defBody s_ink_of) (defScope s_ink_of) .none kV_ink_of dc_ink_of pm_ink_of an_ink_of cd_ink_of ct_ink_of), sl_ink_of⟩)
    (c_ink_of : PySem.W.codeIn K cd_ink_of "ink_of" = true)
    (k_ink_of : PySem.W.keepIn K (.ref f_ink_of) = true)
    (a_overlap : PySem.W.nsIn K mainGlobals "overlap" = some (some (.ref f_overlap)))
    (l_overlap : K.lookup f_overlap = some ⟨oc_overlap, od_overlap, .func (PySem.W.fnOf "overlap" "overlap" (defArgs s_overlap) (defBody s_overlap) (defScope s_overlap) .none kV_overlap dc_overlap pm_overlap an_overlap cd_overlap ct_overlap), sl_overlap⟩)
    (c_overlap : PySem.W.codeIn K cd_overlap "overlap" = true)
    (k_overlap : PySem.W.keepIn K (.ref f_overlap) = true)
    (a_check_spot : PySem.W.nsIn K mainGlobals "check_spot" = some (some (.ref f_check_spot)))
    (l_check_spot : K.lookup f_check_spot = some ⟨oc_check_spot, od_check_spot, .func (PySem.W.fnOf "check_spot" "check_spot" (defArgs s_check_spot) (defBody s_check_spot) (defScope s_check_spot) .none kV_check_spot dc_check_spot pm_check_spot an_check_spot cd_check_spot ct_check_spot), sl_check_spot⟩)
    (c_check_spot : PySem.W.codeIn K cd_check_spot "check_spot" = true)
    (k_check_spot : PySem.W.keepIn K (.ref f_check_spot) = true)
    (aCW : PySem.W.nsIn K mainGlobals "Drawing" = some (some (.ref CW)))
    (inCW : PySem.W.findIn K (.ref CW) "__init__" = some (some (.ref f_Drawing___init__)))
    (l_Drawing___init__ : K.lookup f_Drawing___init__ = some ⟨oc_Drawing___init__, od_Drawing___init__, .func (PySem.W.fnOf "__init__" "Drawing.__init__" (defArgs s_Drawing___init__) (defBody s_Drawing___init__) (defScope s_Drawing___init__) .none kV_Drawing___init__ dc_Drawing___init__ pm_Drawing___init__ an_Drawing___init__ cd_Drawing___init__ ct_Drawing___init__), sl_Drawing___init__⟩)
    (c_Drawing___init__ : PySem.W.codeIn K cd_Drawing___init__ "Drawing.__init__" = true)
    (k_Drawing___init__ : PySem.W.keepIn K (.ref f_Drawing___init__) = true)
    (pgCW : PySem.W.plainGet K CW Str.empty = true)
    (hdCW : PySem.W.hasDictIn K CW = true)
    (poCW : PySem.W.plainOver K CW = true)
    (saCW : PySem.W.findIn K (.ref CW) "__setattr__" = some (some (.builtin "object.__setattr__")))
    (mkCW : PySem.W.makesIn K CW = true)
    (kcCW : PySem.W.keepIn K (.ref CW) = true)
    (isCW : PySem.W.isFn K (.ref f_Drawing___init__) = true)
    (nCW_held : PySem.W.findIn K (.ref CW) "held" = some none)
    (sfCW : PySem.W.selfFirst K CW = true)
    (a_Drawing___add__ : PySem.W.findIn K (.ref CW) "__add__" = some (some (.ref f_Drawing___add__)))
    (i_Drawing___add__ : PySem.W.isFn K (.ref f_Drawing___add__) = true)
    (l_Drawing___add__ : K.lookup f_Drawing___add__ = some ⟨oc_Drawing___add__, od_Drawing___add__, .func (PySem.W.fnOf "__add__" "Drawing.__add__" (defArgs s_Drawing___add__) (defBody s_Drawing___add__) (defScope s_Drawing___add__) .none kV_Drawing___add__ dc_Drawing___add__ pm_Drawing___add__ an_Drawing___add__ cd_Drawing___add__ ct_Drawing___add__), sl_Drawing___add__⟩)
    (c_Drawing___add__ : PySem.W.codeIn K cd_Drawing___add__ "Drawing.__add__" = true)
    (k_Drawing___add__ : PySem.W.keepIn K (.ref f_Drawing___add__) = true)
    (a_Drawing_ink : PySem.W.findIn K (.ref CW) "ink" = some (some (.ref f_Drawing_ink)))
    (i_Drawing_ink : PySem.W.isFn K (.ref f_Drawing_ink) = true)
    (l_Drawing_ink : K.lookup f_Drawing_ink = some ⟨oc_Drawing_ink, od_Drawing_ink, .func (PySem.W.fnOf "ink" "Drawing.ink" (defArgs s_Drawing_ink) (defBody s_Drawing_ink) (defScope s_Drawing_ink) .none kV_Drawing_ink dc_Drawing_ink pm_Drawing_ink an_Drawing_ink cd_Drawing_ink ct_Drawing_ink), sl_Drawing_ink⟩)
    (c_Drawing_ink : PySem.W.codeIn K cd_Drawing_ink "Drawing.ink" = true)
    (k_Drawing_ink : PySem.W.keepIn K (.ref f_Drawing_ink) = true)
    (a_Drawing_covers : PySem.W.findIn K (.ref CW) "covers" = some (some (.ref f_Drawing_covers)))
    (i_Drawing_covers : PySem.W.isFn K (.ref f_Drawing_covers) = true)
    (l_Drawing_covers : K.lookup f_Drawing_covers = some ⟨oc_Drawing_covers, od_Drawing_covers, .func (PySem.W.fnOf "covers" "Drawing.covers" (defArgs s_Drawing_covers) (defBody s_Drawing_covers) (defScope s_Drawing_covers) .none kV_Drawing_covers dc_Drawing_covers pm_Drawing_covers an_Drawing_covers cd_Drawing_covers ct_Drawing_covers), sl_Drawing_covers⟩)
    (c_Drawing_covers : PySem.W.codeIn K cd_Drawing_covers "Drawing.covers" = true)
    (k_Drawing_covers : PySem.W.keepIn K (.ref f_Drawing_covers) = true)
    (a_touches : PySem.W.nsIn K mainGlobals "touches" = some (some (.ref f_touches)))
    (l_touches : K.lookup f_touches = some ⟨oc_touches, od_touches, .func (PySem.W.fnOf "touches" "touches" (defArgs s_touches) (defBody s_touches) (defScope s_touches) .none kV_touches dc_touches pm_touches an_touches cd_touches ct_touches), sl_touches⟩)
    (c_touches : PySem.W.codeIn K cd_touches "touches" = true)
    (k_touches : PySem.W.keepIn K (.ref f_touches) = true)
    (a_with_line : PySem.W.nsIn K mainGlobals "with_line" = some (some (.ref f_with_line)))
    (l_with_line : K.lookup f_with_line = some ⟨oc_with_line, od_with_line, .func (PySem.W.fnOf "with_line" "with_line" (defArgs s_with_line) (defBody s_with_line) (defScope s_with_line) .none kV_with_line dc_with_line pm_with_line an_with_line cd_with_line ct_with_line), sl_with_line⟩)
    (c_with_line : PySem.W.codeIn K cd_with_line "with_line" = true)
    (k_with_line : PySem.W.keepIn K (.ref f_with_line) = true)
    (a_line_groups : PySem.W.nsIn K mainGlobals "line_groups" = some (some (.ref f_line_groups)))
    (l_line_groups : K.lookup f_line_groups = some ⟨oc_line_groups, od_line_groups, .func (PySem.W.fnOf "line_groups" "line_groups" (defArgs s_line_groups) (defBody s_line_groups) (defScope s_line_groups) .none kV_line_groups dc_line_groups pm_line_groups an_line_groups cd_line_groups ct_line_groups), sl_line_groups⟩)
    (c_line_groups : PySem.W.codeIn K cd_line_groups "line_groups" = true)
    (k_line_groups : PySem.W.keepIn K (.ref f_line_groups) = true)
    (a_pieces : PySem.W.nsIn K mainGlobals "pieces" = some (some (.ref f_pieces)))
    (l_pieces : K.lookup f_pieces = some ⟨oc_pieces, od_pieces, .func (PySem.W.fnOf "pieces" "pieces" (defArgs s_pieces) (defBody s_pieces) (defScope s_pieces) .none kV_pieces dc_pieces pm_pieces an_pieces cd_pieces ct_pieces), sl_pieces⟩)
    (c_pieces : PySem.W.codeIn K cd_pieces "pieces" = true)
    (k_pieces : PySem.W.keepIn K (.ref f_pieces) = true)
    (a_law_random : PySem.W.nsIn K mainGlobals "_law_random" = some (some (.ref f_law_random)))
    (l_law_random : K.lookup f_law_random = some ⟨oc_law_random, od_law_random, .func (PySem.W.fnOf "_law_random" "_law_random" (defArgs s_law_random) (defBody s_law_random) (defScope s_law_random) .none kV_law_random dc_law_random pm_law_random an_law_random cd_law_random ct_law_random), sl_law_random⟩)
    (c_law_random : PySem.W.codeIn K cd_law_random "_law_random" = true)
    (k_law_random : PySem.W.keepIn K (.ref f_law_random) = true)
    (a_law_below : PySem.W.nsIn K mainGlobals "_law_below" = some (some (.ref f_law_below)))
    (l_law_below : K.lookup f_law_below = some ⟨oc_law_below, od_law_below, .func (PySem.W.fnOf "_law_below" "_law_below" (defArgs s_law_below) (defBody s_law_below) (defScope s_law_below) .none kV_law_below dc_law_below pm_law_below an_law_below cd_law_below ct_law_below), sl_law_below⟩)
    (c_law_below : PySem.W.codeIn K cd_law_below "_law_below" = true)
    (k_law_below : PySem.W.keepIn K (.ref f_law_below) = true)
    (a_law_step : PySem.W.nsIn K mainGlobals "_law_step" = some (some (.ref f_law_step)))
    (l_law_step : K.lookup f_law_step = some ⟨oc_law_step, od_law_step, .func (PySem.W.fnOf "_law_step" "_law_step" (defArgs s_law_step) (defBody s_law_step) (defScope s_law_step) .none kV_law_step dc_law_step pm_law_step an_law_step cd_law_step ct_law_step), sl_law_step⟩)
    (c_law_step : PySem.W.codeIn K cd_law_step "_law_step" = true)
    (k_law_step : PySem.W.keepIn K (.ref f_law_step) = true)
    (a_law_common : PySem.W.nsIn K mainGlobals "_law_common" = some (some (.ref f_law_common)))
    (l_law_common : K.lookup f_law_common = some ⟨oc_law_common, od_law_common, .func (PySem.W.fnOf "_law_common" "_law_common" (defArgs s_law_common) (defBody s_law_common) (defScope s_law_common) .none kV_law_common dc_law_common pm_law_common an_law_common cd_law_common ct_law_common), sl_law_common⟩)
    (c_law_common : PySem.W.codeIn K cd_law_common "_law_common" = true)
    (k_law_common : PySem.W.keepIn K (.ref f_law_common) = true)
    (a_law_lowest : PySem.W.nsIn K mainGlobals "_law_lowest" = some (some (.ref f_law_lowest)))
    (l_law_lowest : K.lookup f_law_lowest = some ⟨oc_law_lowest, od_law_lowest, .func (PySem.W.fnOf "_law_lowest" "_law_lowest" (defArgs s_law_lowest) (defBody s_law_lowest) (defScope s_law_lowest) .none kV_law_lowest dc_law_lowest pm_law_lowest an_law_lowest cd_law_lowest ct_law_lowest), sl_law_lowest⟩)
    (c_law_lowest : PySem.W.codeIn K cd_law_lowest "_law_lowest" = true)
    (k_law_lowest : PySem.W.keepIn K (.ref f_law_lowest) = true)
    (a_law_spot : PySem.W.nsIn K mainGlobals "_law_spot" = some (some (.ref f_law_spot)))
    (l_law_spot : K.lookup f_law_spot = some ⟨oc_law_spot, od_law_spot, .func (PySem.W.fnOf "_law_spot" "_law_spot" (defArgs s_law_spot) (defBody s_law_spot) (defScope s_law_spot) .none kV_law_spot dc_law_spot pm_law_spot an_law_spot cd_law_spot ct_law_spot), sl_law_spot⟩)
    (c_law_spot : PySem.W.codeIn K cd_law_spot "_law_spot" = true)
    (k_law_spot : PySem.W.keepIn K (.ref f_law_spot) = true)
    (a_law_stroke : PySem.W.nsIn K mainGlobals "_law_stroke" = some (some (.ref f_law_stroke)))
    (l_law_stroke : K.lookup f_law_stroke = some ⟨oc_law_stroke, od_law_stroke, .func (PySem.W.fnOf "_law_stroke" "_law_stroke" (defArgs s_law_stroke) (defBody s_law_stroke) (defScope s_law_stroke) .none kV_law_stroke dc_law_stroke pm_law_stroke an_law_stroke cd_law_stroke ct_law_stroke), sl_law_stroke⟩)
    (c_law_stroke : PySem.W.codeIn K cd_law_stroke "_law_stroke" = true)
    (k_law_stroke : PySem.W.keepIn K (.ref f_law_stroke) = true)
    (a_law_strokes : PySem.W.nsIn K mainGlobals "_law_strokes" = some (some (.ref f_law_strokes)))
    (l_law_strokes : K.lookup f_law_strokes = some ⟨oc_law_strokes, od_law_strokes, .func (PySem.W.fnOf "_law_strokes" "_law_strokes" (defArgs s_law_strokes) (defBody s_law_strokes) (defScope s_law_strokes) .none kV_law_strokes dc_law_strokes pm_law_strokes an_law_strokes cd_law_strokes ct_law_strokes), sl_law_strokes⟩)
    (c_law_strokes : PySem.W.codeIn K cd_law_strokes "_law_strokes" = true)
    (k_law_strokes : PySem.W.keepIn K (.ref f_law_strokes) = true)
    (a_law_drawing : PySem.W.nsIn K mainGlobals "_law_drawing" = some (some (.ref f_law_drawing)))
    (l_law_drawing : K.lookup f_law_drawing = some ⟨oc_law_drawing, od_law_drawing, .func (PySem.W.fnOf "_law_drawing" "_law_drawing" (defArgs s_law_drawing) (defBody s_law_drawing) (defScope s_law_drawing) .none kV_law_drawing dc_law_drawing pm_law_drawing an_law_drawing cd_law_drawing ct_law_drawing), sl_law_drawing⟩)
    (c_law_drawing : PySem.W.codeIn K cd_law_drawing "_law_drawing" = true)
    (k_law_drawing : PySem.W.keepIn K (.ref f_law_drawing) = true)
    (a_law_plus : PySem.W.nsIn K mainGlobals "_law_plus" = some (some (.ref f_law_plus)))
    (l_law_plus : K.lookup f_law_plus = some ⟨oc_law_plus, od_law_plus, .func (PySem.W.fnOf "_law_plus" "_law_plus" (defArgs s_law_plus) (defBody s_law_plus) (defScope s_law_plus) .none kV_law_plus dc_law_plus pm_law_plus an_law_plus cd_law_plus ct_law_plus), sl_law_plus⟩)
    (c_law_plus : PySem.W.codeIn K cd_law_plus "_law_plus" = true)
    (k_law_plus : PySem.W.keepIn K (.ref f_law_plus) = true)
    (a_law_minus : PySem.W.nsIn K mainGlobals "_law_minus" = some (some (.ref f_law_minus)))
    (l_law_minus : K.lookup f_law_minus = some ⟨oc_law_minus, od_law_minus, .func (PySem.W.fnOf "_law_minus" "_law_minus" (defArgs s_law_minus) (defBody s_law_minus) (defScope s_law_minus) .none kV_law_minus dc_law_minus pm_law_minus an_law_minus cd_law_minus ct_law_minus), sl_law_minus⟩)
    (c_law_minus : PySem.W.codeIn K cd_law_minus "_law_minus" = true)
    (k_law_minus : PySem.W.keepIn K (.ref f_law_minus) = true)
    (a_law_equal : PySem.W.nsIn K mainGlobals "_law_equal" = some (some (.ref f_law_equal)))
    (l_law_equal : K.lookup f_law_equal = some ⟨oc_law_equal, od_law_equal, .func (PySem.W.fnOf "_law_equal" "_law_equal" (defArgs s_law_equal) (defBody s_law_equal) (defScope s_law_equal) .none kV_law_equal dc_law_equal pm_law_equal an_law_equal cd_law_equal ct_law_equal), sl_law_equal⟩)
    (c_law_equal : PySem.W.codeIn K cd_law_equal "_law_equal" = true)
    (k_law_equal : PySem.W.keepIn K (.ref f_law_equal) = true)
    (a_law_times : PySem.W.nsIn K mainGlobals "_law_times" = some (some (.ref f_law_times)))
    (l_law_times : K.lookup f_law_times = some ⟨oc_law_times, od_law_times, .func (PySem.W.fnOf "_law_times" "_law_times" (defArgs s_law_times) (defBody s_law_times) (defScope s_law_times) .none kV_law_times dc_law_times pm_law_times an_law_times cd_law_times ct_law_times), sl_law_times⟩)
    (c_law_times : PySem.W.codeIn K cd_law_times "_law_times" = true)
    (k_law_times : PySem.W.keepIn K (.ref f_law_times) = true)
    (a_law_ratio : PySem.W.nsIn K mainGlobals "_law_ratio" = some (some (.ref f_law_ratio)))
    (l_law_ratio : K.lookup f_law_ratio = some ⟨oc_law_ratio, od_law_ratio, .func (PySem.W.fnOf "_law_ratio" "_law_ratio" (defArgs s_law_ratio) (defBody s_law_ratio) (defScope s_law_ratio) .none kV_law_ratio dc_law_ratio pm_law_ratio an_law_ratio cd_law_ratio ct_law_ratio), sl_law_ratio⟩)
    (c_law_ratio : PySem.W.codeIn K cd_law_ratio "_law_ratio" = true)
    (k_law_ratio : PySem.W.keepIn K (.ref f_law_ratio) = true)
    (a_law_over : PySem.W.nsIn K mainGlobals "_law_over" = some (some (.ref f_law_over)))
    (l_law_over : K.lookup f_law_over = some ⟨oc_law_over, od_law_over, .func (PySem.W.fnOf "_law_over" "_law_over" (defArgs s_law_over) (defBody s_law_over) (defScope s_law_over) .none kV_law_over dc_law_over pm_law_over an_law_over cd_law_over ct_law_over), sl_law_over⟩)
    (c_law_over : PySem.W.codeIn K cd_law_over "_law_over" = true)
    (k_law_over : PySem.W.keepIn K (.ref f_law_over) = true)
    (a_law_cross : PySem.W.nsIn K mainGlobals "_law_cross" = some (some (.ref f_law_cross)))
    (l_law_cross : K.lookup f_law_cross = some ⟨oc_law_cross, od_law_cross, .func (PySem.W.fnOf "_law_cross" "_law_cross" (defArgs s_law_cross) (defBody s_law_cross) (defScope s_law_cross) .none kV_law_cross dc_law_cross pm_law_cross an_law_cross cd_law_cross ct_law_cross), sl_law_cross⟩)
    (c_law_cross : PySem.W.codeIn K cd_law_cross "_law_cross" = true)
    (k_law_cross : PySem.W.keepIn K (.ref f_law_cross) = true)
    (a_law : PySem.W.nsIn K mainGlobals "law" = some (some (.ref f_law)))
    (l_law : K.lookup f_law = some ⟨oc_law, od_law, .func (PySem.W.fnOf "law" "law" (defArgs s_law) (defBody s_law) (defScope s_law) .none kV_law dc_law pm_law an_law cd_law ct_law), sl_law⟩)
    (c_law : PySem.W.codeIn K cd_law "law" = true)
    (k_law : PySem.W.keepIn K (.ref f_law) = true)
    : LawAtS l w K CX0 15 63 "_law_script" mg fa h := by
  have e := hfa.symm.trans (PySem.W.mg_of X G a_law)
  cases e
  have b_abs := PySem.W.mg_none_of X G z_abs
  have b_len := PySem.W.mg_none_of X G z_len
  have b_isinstance := PySem.W.mg_none_of X G z_isinstance
  have b_int := PySem.W.mg_none_of X G z_int
  have b_bool := PySem.W.mg_none_of X G z_bool
  have b_str := PySem.W.mg_none_of X G z_str
  have b_tuple := PySem.W.mg_none_of X G z_tuple
  have b_list := PySem.W.mg_none_of X G z_list
  have b_all := PySem.W.mg_none_of X G z_all
  have b_any := PySem.W.mg_none_of X G z_any
  have b_range := PySem.W.mg_none_of X G z_range
  have b_enumerate := PySem.W.mg_none_of X G z_enumerate
  have b_zip := PySem.W.mg_none_of X G z_zip
  have b_max := PySem.W.mg_none_of X G z_max
  have b_min := PySem.W.mg_none_of X G z_min
  have b_set := PySem.W.mg_none_of X G z_set
  have b_sorted := PySem.W.mg_none_of X G z_sorted
  have m_MOST_SPOTS := PySem.W.mg_of X G mi_MOST_SPOTS
  have m_MOST_STROKES := PySem.W.mg_of X G mi_MOST_STROKES
  have F_common_divisor := fun_mk (st := s_common_divisor) l_common_divisor c_common_divisor k_common_divisor
  have B_common_divisor := F_common_divisor.binds (ps := ["one", "other"]) fun _ _ _ _ _ _ us hl => match us, hl with | [_, _], _ => rfl
  have F_is_whole := fun_mk (st := s_is_whole) l_is_whole c_is_whole k_is_whole
  have B_is_whole := F_is_whole.binds (ps := ["value"]) fun _ _ _ _ _ _ us hl => match us, hl with | [_], _ => rfl
  have F_is_spot := fun_mk (st := s_is_spot) l_is_spot c_is_spot k_is_spot
  have B_is_spot := F_is_spot.binds (ps := ["value"]) fun _ _ _ _ _ _ us hl => match us, hl with | [_], _ => rfl
  have F_spot_at := fun_mk (st := s_spot_at) l_spot_at c_spot_at k_spot_at
  have B_spot_at := F_spot_at.binds (ps := ["x", "y", "d"]) fun _ _ _ _ _ _ us hl => match us, hl with | [_, _, _], _ => rfl
  have F_precedes := fun_mk (st := s_precedes) l_precedes c_precedes k_precedes
  have B_precedes := F_precedes.binds (ps := ["one", "other"]) fun _ _ _ _ _ _ us hl => match us, hl with | [_, _], _ => rfl
  have F_parting_scale := fun_mk (st := s_parting_scale) l_parting_scale c_parting_scale k_parting_scale
  have B_parting_scale := F_parting_scale.binds (ps := ["divisors"]) fun _ _ _ _ _ _ us hl => match us, hl with | [_], _ => rfl
  have F_scaled := fun_mk (st := s_scaled) l_scaled c_scaled k_scaled
  have B_scaled := F_scaled.binds (ps := ["spot", "scale"]) fun _ _ _ _ _ _ us hl => match us, hl with | [_, _], _ => rfl
  have F_ascending := fun_mk (st := s_ascending) l_ascending c_ascending k_ascending
  have B_ascending := F_ascending.binds (ps := ["spots"]) fun _ _ _ _ _ _ us hl => match us, hl with | [_], _ => rfl
  have F_ascending_pairs := fun_mk (st := s_ascending_pairs) l_ascending_pairs c_ascending_pairs k_ascending_pairs
  have B_ascending_pairs := F_ascending_pairs.binds (ps := ["pairs"]) fun _ _ _ _ _ _ us hl => match us, hl with | [_], _ => rfl
  have F_line_form := fun_mk (st := s_line_form) l_line_form c_line_form k_line_form
  have B_line_form := F_line_form.binds (ps := ["a", "b", "c"]) fun _ _ _ _ _ _ us hl => match us, hl with | [_, _, _], _ => rfl
  have F_line_through := fun_mk (st := s_line_through) l_line_through c_line_through k_line_through
  have B_line_through := F_line_through.binds (ps := ["one", "other"]) fun _ _ _ _ _ _ us hl => match us, hl with | [_, _], _ => rfl
  have F_is_on_line := fun_mk (st := s_is_on_line) l_is_on_line c_is_on_line k_is_on_line
  have B_is_on_line := F_is_on_line.binds (ps := ["spot", "line"]) fun _ _ _ _ _ _ us hl => match us, hl with | [_, _], _ => rfl
  have F_are_parallel := fun_mk (st := s_are_parallel) l_are_parallel c_are_parallel k_are_parallel
  have B_are_parallel := F_are_parallel.binds (ps := ["one", "other"]) fun _ _ _ _ _ _ us hl => match us, hl with | [_, _], _ => rfl
  have F_crossing := fun_mk (st := s_crossing) l_crossing c_crossing k_crossing
  have B_crossing := F_crossing.binds (ps := ["one", "other"]) fun _ _ _ _ _ _ us hl => match us, hl with | [_, _], _ => rfl
  have F_parts_of := fun_mk (st := s_parts_of) l_parts_of c_parts_of k_parts_of
  have B_parts_of := F_parts_of.binds (ps := ["stroke"]) fun _ _ _ _ _ _ us hl => match us, hl with | [_], _ => rfl
  have F_is_stroke := fun_mk (st := s_is_stroke) l_is_stroke c_is_stroke k_is_stroke
  have B_is_stroke := F_is_stroke.binds (ps := ["value"]) fun _ _ _ _ _ _ us hl => match us, hl with | [_], _ => rfl
  have F_check_strokes := fun_mk (st := s_check_strokes) l_check_strokes c_check_strokes k_check_strokes
  have B_check_strokes := F_check_strokes.binds (ps := ["strokes"]) fun _ _ _ _ _ _ us hl => match us, hl with | [_], _ => rfl
  have F_in_order := fun_mk (st := s_in_order) l_in_order c_in_order k_in_order
  have B_in_order := F_in_order.binds (ps := ["one", "other"]) fun _ _ _ _ _ _ us hl => match us, hl with | [_, _], _ => rfl
  have F_dots_of := fun_mk (st := s_dots_of) l_dots_of c_dots_of k_dots_of
  have B_dots_of := F_dots_of.binds (ps := ["strokes"]) fun _ _ _ _ _ _ us hl => match us, hl with | [_], _ => rfl
  have F_stretches_of := fun_mk (st := s_stretches_of) l_stretches_of c_stretches_of k_stretches_of
  have B_stretches_of := F_stretches_of.binds (ps := ["strokes"]) fun _ _ _ _ _ _ us hl => match us, hl with | [_], _ => rfl
  have F_joined := fun_mk (st := s_joined) l_joined c_joined k_joined
  have B_joined := F_joined.binds (ps := ["row"]) fun _ _ _ _ _ _ us hl => match us, hl with | [_], _ => rfl
  have F_longest := fun_mk (st := s_longest) l_longest c_longest k_longest
  have B_longest := F_longest.binds (ps := ["stretches"]) fun _ _ _ _ _ _ us hl => match us, hl with | [_], _ => rfl
  have F_is_between := fun_mk (st := s_is_between) l_is_between c_is_between k_is_between
  have B_is_between := F_is_between.binds (ps := ["spot", "stretch"]) fun _ _ _ _ _ _ us hl => match us, hl with | [_, _], _ => rfl
  have F_is_on_any := fun_mk (st := s_is_on_any) l_is_on_any c_is_on_any k_is_on_any
  have B_is_on_any := F_is_on_any.binds (ps := ["spot", "stretches"]) fun _ _ _ _ _ _ us hl => match us, hl with | [_, _], _ => rfl
  have F_is_covered := fun_mk (st := s_is_covered) l_is_covered c_is_covered k_is_covered
  have B_is_covered := F_is_covered.binds (ps := ["spot", "ink"]) fun _ _ _ _ _ _ us hl => match us, hl with | [_, _], _ => rfl
  have F_ink_from := fun_mk (st := s_ink_from) l_ink_from c_ink_from k_ink_from
  have B_ink_from := F_ink_from.binds (ps := ["dots", "stretches"]) fun _ _ _ _ _ _ us hl => match us, hl with | [_, _], _ => rfl
  have F_ink_of := fun_mk (st := s_ink_of) l_ink_of c_ink_of k_ink_of
  have B_ink_of := F_ink_of.binds (ps := ["strokes"]) fun _ _ _ _ _ _ us hl => match us, hl with | [_], _ => rfl
  have F_overlap := fun_mk (st := s_overlap) l_overlap c_overlap k_overlap
  have B_overlap := F_overlap.binds (ps := ["one", "other"]) fun _ _ _ _ _ _ us hl => match us, hl with | [_, _], _ => rfl
  have F_check_spot := fun_mk (st := s_check_spot) l_check_spot c_check_spot k_check_spot
  have B_check_spot := F_check_spot.binds (ps := ["value"]) fun _ _ _ _ _ _ us hl => match us, hl with | [_], _ => rfl
  have F_Drawing___init__ := fun_mk (st := s_Drawing___init__) l_Drawing___init__ c_Drawing___init__ k_Drawing___init__
  have mgCW := PySem.W.mg_of X G aCW
  have MKCW : Mk K CW f_Drawing___init__ := ⟨mkCW, inCW, isCW, kcCW⟩
  have clCW : Cls K CW := ⟨pgCW, hdCW, poCW, saCW⟩
  have TXW : WTxt K CW := ⟨clCW, nCW_held⟩
  have F_Drawing___add__ := fun_mk (st := s_Drawing___add__) l_Drawing___add__ c_Drawing___add__ k_Drawing___add__
  have B_Drawing___add__ := F_Drawing___add__.binds (ps := ["self", "other"]) fun _ _ _ _ _ _ us hl => match us, hl with | [_, _], _ => rfl
  have F_Drawing_ink := fun_mk (st := s_Drawing_ink) l_Drawing_ink c_Drawing_ink k_Drawing_ink
  have B_Drawing_ink := F_Drawing_ink.binds (ps := ["self"]) fun _ _ _ _ _ _ us hl => match us, hl with | [_], _ => rfl
  have F_Drawing_covers := fun_mk (st := s_Drawing_covers) l_Drawing_covers c_Drawing_covers k_Drawing_covers
  have B_Drawing_covers := F_Drawing_covers.binds (ps := ["self", "spot"]) fun _ _ _ _ _ _ us hl => match us, hl with | [_, _], _ => rfl
  have F_touches := fun_mk (st := s_touches) l_touches c_touches k_touches
  have B_touches := F_touches.binds (ps := ["line", "group"]) fun _ _ _ _ _ _ us hl => match us, hl with | [_, _], _ => rfl
  have F_with_line := fun_mk (st := s_with_line) l_with_line c_with_line k_with_line
  have B_with_line := F_with_line.binds (ps := ["groups", "line"]) fun _ _ _ _ _ _ us hl => match us, hl with | [_, _], _ => rfl
  have F_line_groups := fun_mk (st := s_line_groups) l_line_groups c_line_groups k_line_groups
  have B_line_groups := F_line_groups.binds (ps := ["lines"]) fun _ _ _ _ _ _ us hl => match us, hl with | [_], _ => rfl
  have F_pieces := fun_mk (st := s_pieces) l_pieces c_pieces k_pieces
  have B_pieces := F_pieces.binds (ps := ["drawing"]) fun _ _ _ _ _ _ us hl => match us, hl with | [_], _ => rfl
  have F_law_random := fun_mk (st := s_law_random) l_law_random c_law_random k_law_random
  have B_law_random := F_law_random.binds (ps := ["_law_script", "_law_salt"]) fun _ _ _ _ _ _ us hl => match us, hl with | [_, _], _ => rfl
  have F_law_below := fun_mk (st := s_law_below) l_law_below c_law_below k_law_below
  have B_law_below := F_law_below.binds (ps := ["_law_d", "_law_limit"]) fun _ _ _ _ _ _ us hl => match us, hl with | [_, _], _ => rfl
  have F_law_step := fun_mk (st := s_law_step) l_law_step c_law_step k_law_step
  have B_law_step := F_law_step.binds (ps := ["_law_d", "_law_size_now"]) fun _ _ _ _ _ _ us hl => match us, hl with | [_, _], _ => rfl
  have F_law_common := fun_mk (st := s_law_common) l_law_common c_law_common k_law_common
  have B_law_common := F_law_common.binds (ps := ["_law_one", "_law_other"]) fun _ _ _ _ _ _ us hl => match us, hl with | [_, _], _ => rfl
  have F_law_lowest := fun_mk (st := s_law_lowest) l_law_lowest c_law_lowest k_law_lowest
  have B_law_lowest := F_law_lowest.binds (ps := ["_law_x", "_law_y", "_law_q"]) fun _ _ _ _ _ _ us hl => match us, hl with | [_, _, _], _ => rfl
  have F_law_spot := fun_mk (st := s_law_spot) l_law_spot c_law_spot k_law_spot
  have B_law_spot := F_law_spot.binds (ps := ["_law_d"]) fun _ _ _ _ _ _ us hl => match us, hl with | [_], _ => rfl
  have F_law_stroke := fun_mk (st := s_law_stroke) l_law_stroke c_law_stroke k_law_stroke
  have B_law_stroke := F_law_stroke.binds (ps := ["_law_d", "_law_most"]) fun _ _ _ _ _ _ us hl => match us, hl with | [_, _], _ => rfl
  have F_law_strokes := fun_mk (st := s_law_strokes) l_law_strokes c_law_strokes k_law_strokes
  have B_law_strokes := F_law_strokes.binds (ps := ["_law_d", "_law_most"]) fun _ _ _ _ _ _ us hl => match us, hl with | [_, _], _ => rfl
  have F_law_drawing := fun_mk (st := s_law_drawing) l_law_drawing c_law_drawing k_law_drawing
  have B_law_drawing := F_law_drawing.binds (ps := ["_law_strokes_here"]) fun _ _ _ _ _ _ us hl => match us, hl with | [_], _ => rfl
  have F_law_plus := fun_mk (st := s_law_plus) l_law_plus c_law_plus k_law_plus
  have B_law_plus := F_law_plus.binds (ps := ["_law_one", "_law_other"]) fun _ _ _ _ _ _ us hl => match us, hl with | [_, _], _ => rfl
  have F_law_minus := fun_mk (st := s_law_minus) l_law_minus c_law_minus k_law_minus
  have B_law_minus := F_law_minus.binds (ps := ["_law_one", "_law_other"]) fun _ _ _ _ _ _ us hl => match us, hl with | [_, _], _ => rfl
  have F_law_equal := fun_mk (st := s_law_equal) l_law_equal c_law_equal k_law_equal
  have B_law_equal := F_law_equal.binds (ps := ["_law_actual", "_law_expected"]) fun _ _ _ _ _ _ us hl => match us, hl with | [_, _], _ => rfl
  have F_law_times := fun_mk (st := s_law_times) l_law_times c_law_times k_law_times
  have B_law_times := F_law_times.binds (ps := ["_law_one", "_law_other"]) fun _ _ _ _ _ _ us hl => match us, hl with | [_, _], _ => rfl
  have F_law_ratio := fun_mk (st := s_law_ratio) l_law_ratio c_law_ratio k_law_ratio
  have B_law_ratio := F_law_ratio.binds (ps := ["_law_p", "_law_q"]) fun _ _ _ _ _ _ us hl => match us, hl with | [_, _], _ => rfl
  have F_law_over := fun_mk (st := s_law_over) l_law_over c_law_over k_law_over
  have B_law_over := F_law_over.binds (ps := ["_law_one"]) fun _ _ _ _ _ _ us hl => match us, hl with | [_], _ => rfl
  have F_law_cross := fun_mk (st := s_law_cross) l_law_cross c_law_cross k_law_cross
  have B_law_cross := F_law_cross.binds (ps := ["_law_one", "_law_other"]) fun _ _ _ _ _ _ us hl => match us, hl with | [_, _], _ => rfl
  have F_law := fun_mk (st := s_law) l_law c_law k_law
  have B_law := F_law.binds (ps := ["_law_script"]) fun _ _ _ _ _ _ us hl => match us, hl with | [_], _ => rfl
  refine ⟨PySem.W.fnOf "law" "law" (defArgs s_law) (defBody s_law) (defScope s_law) .none kV_law dc_law pm_law an_law cd_law ct_law, [(cc_ascending, PP_ascending), (cc_ascending_pairs, PP_ascending_pairs)], spLaw K [(PP_ascending, qAs), (PP_ascending_pairs, qAp)], fun p hp => ?_, fun p hp => ?_, fun p hp => ?_, fun s v => .of_eq rfl, fun H a ns hl _ hH hS => ⟨a, ns, rfl, hS, hl, fun p hp => ?_, fun _ => rfl⟩, fun base _ _ TB => ?_⟩
  · simp only [List.mem_cons, List.mem_nil_iff, or_false] at hp; rcases hp with rfl | rfl
    · exact bl "ascending" (by simp) _ (PySem.W.mg_of X G a_ascending) cc_ascending PP_ascending _ _ _ _ _ _ l_ascending rfl rfl q_ascending v_ascending
    · exact bl "ascending_pairs" (by simp) _ (PySem.W.mg_of X G a_ascending_pairs) cc_ascending_pairs PP_ascending_pairs _ _ _ _ _ _ l_ascending_pairs rfl rfl q_ascending_pairs v_ascending_pairs
  · simp only [List.mem_cons, List.mem_nil_iff, or_false] at hp; rcases hp with rfl | rfl
    · exact n_ascending
    · exact n_ascending_pairs
  · simp only [List.mem_cons, List.mem_nil_iff, or_false] at hp; rcases hp with rfl | rfl
    · exact PySem.W.codeHd_of_K X h_ascending
    · exact PySem.W.codeHd_of_K X h_ascending_pairs
  · simp only [List.mem_cons, List.mem_nil_iff, or_false] at hp; rcases hp with rfl | rfl
    · exact TabS.nil (hH (cc_ascending, PP_ascending) (by simp))
    · exact TabS.nil (hH (cc_ascending_pairs, PP_ascending_pairs) (by simp))
  have d_common_divisor : D l.prog w K mg base "common_divisor" 1 sp_gcd := ⟨_, rOf (ok_common_divisor b_abs F_common_divisor) B_common_divisor, k_common_divisor, PySem.W.mg_of X G a_common_divisor⟩
  have d_is_whole : D l.prog w K mg base "is_whole" 1 sp_whole := ⟨_, rOf (ok_is_whole b_isinstance b_int b_bool F_is_whole) B_is_whole, k_is_whole, PySem.W.mg_of X G a_is_whole⟩
  have d_is_spot : D l.prog w K mg base "is_spot" 2 (sp_isspot K) := ⟨_, rOf (ok_is_spot b_isinstance b_tuple b_len b_all d_common_divisor d_is_whole F_is_spot) B_is_spot, k_is_spot, PySem.W.mg_of X G a_is_spot⟩
  have d_spot_at : D l.prog w K mg base "spot_at" 2 (sp_low K) := ⟨_, rOf (ok_spot_at d_common_divisor F_spot_at) B_spot_at, k_spot_at, PySem.W.mg_of X G a_spot_at⟩
  have d_precedes : D l.prog w K mg base "precedes" 1 (sp_prec K) := ⟨_, rOf (ok_precedes F_precedes) B_precedes, k_precedes, PySem.W.mg_of X G a_precedes⟩
  have d_parting_scale : D l.prog w K mg base "parting_scale" 1 (sp_psc K) := ⟨_, rOf (ok_parting_scale b_max F_parting_scale) B_parting_scale, k_parting_scale, PySem.W.mg_of X G a_parting_scale⟩
  have d_scaled : D l.prog w K mg base "scaled" 1 (sp_scl K) := ⟨_, rOf (ok_scaled F_scaled) B_scaled, k_scaled, PySem.W.mg_of X G a_scaled⟩
  have d_ascending : D l.prog w K mg base "ascending" 5 (sp_ascS K [(PP_ascending, qAs), (PP_ascending_pairs, qAp)]) := ⟨_, rOf (ok_ascending b_sorted d_parting_scale d_scaled (.head _) (hu2 ne_ascending_ascending_pairs).1 (TB (cc_ascending, PP_ascending) (by simp)) l_ascending c_ascending) B_ascending, k_ascending, PySem.W.mg_of X G a_ascending⟩
  have d_ascending_pairs : D l.prog w K mg base "ascending_pairs" 5 (sp_ascP K [(PP_ascending, qAs), (PP_ascending_pairs, qAp)]) := ⟨_, rOf (ok_ascending_pairs b_sorted d_parting_scale d_scaled (.tail _ (.head _)) (hu2 ne_ascending_ascending_pairs).2 (TB (cc_ascending_pairs, PP_ascending_pairs) (by simp)) l_ascending_pairs c_ascending_pairs) B_ascending_pairs, k_ascending_pairs, PySem.W.mg_of X G a_ascending_pairs⟩
  have d_line_form : D l.prog w K mg base "line_form" 2 (sp_line K) := ⟨_, rOf (ok_line_form d_common_divisor F_line_form) B_line_form, k_line_form, PySem.W.mg_of X G a_line_form⟩
  have d_line_through : D l.prog w K mg base "line_through" 3 (sp_lthru K) := ⟨_, rOf (ok_line_through d_line_form F_line_through) B_line_through, k_line_through, PySem.W.mg_of X G a_line_through⟩
  have d_is_on_line : D l.prog w K mg base "is_on_line" 1 (sp_on K) := ⟨_, rOf (ok_is_on_line F_is_on_line) B_is_on_line, k_is_on_line, PySem.W.mg_of X G a_is_on_line⟩
  have d_are_parallel : D l.prog w K mg base "are_parallel" 1 (sp_par K) := ⟨_, rOf (ok_are_parallel F_are_parallel) B_are_parallel, k_are_parallel, PySem.W.mg_of X G a_are_parallel⟩
  have d_crossing : D l.prog w K mg base "crossing" 3 (sp_cross K) := ⟨_, rOf (ok_crossing d_spot_at F_crossing) B_crossing, k_crossing, PySem.W.mg_of X G a_crossing⟩
  have d_parts_of : D l.prog w K mg base "parts_of" 1 (sp_parts K) := ⟨_, rOf (ok_parts_of b_list b_zip F_parts_of) B_parts_of, k_parts_of, PySem.W.mg_of X G a_parts_of⟩
  have d_is_stroke : D l.prog w K mg base "is_stroke" 3 (sp_isst K) := ⟨_, rOf (ok_is_stroke b_isinstance b_tuple b_len b_all m_MOST_SPOTS d_is_spot d_parts_of F_is_stroke) B_is_stroke, k_is_stroke, PySem.W.mg_of X G a_is_stroke⟩
  have d_check_strokes : D l.prog w K mg base "check_strokes" 4 (sp_chk K) := ⟨_, rOf (ok_check_strokes b_enumerate b_len m_MOST_STROKES d_is_stroke F_check_strokes) B_check_strokes, k_check_strokes, PySem.W.mg_of X G a_check_strokes⟩
  have d_in_order : D l.prog w K mg base "in_order" 2 (sp_inord K) := ⟨_, rOf (ok_in_order d_precedes F_in_order) B_in_order, k_in_order, PySem.W.mg_of X G a_in_order⟩
  have d_dots_of : D l.prog w K mg base "dots_of" 1 (sp_dots K) := ⟨_, rOf (ok_dots_of b_len F_dots_of) B_dots_of, k_dots_of, PySem.W.mg_of X G a_dots_of⟩
  have d_stretches_of : D l.prog w K mg base "stretches_of" 3 (sp_strs K) := ⟨_, rOf (ok_stretches_of d_in_order d_parts_of F_stretches_of) B_stretches_of, k_stretches_of, PySem.W.mg_of X G a_stretches_of⟩
  have d_joined : D l.prog w K mg base "joined" 2 (sp_joined K) := ⟨_, rOf (ok_joined d_precedes F_joined) B_joined, k_joined, PySem.W.mg_of X G a_joined⟩
  have d_longest : D l.prog w K mg base "longest" 6 (sp_longest K [(PP_ascending, qAs), (PP_ascending_pairs, qAp)]) := ⟨_, rOf (ok_longest d_ascending_pairs d_line_through d_joined F_longest) B_longest, k_longest, PySem.W.mg_of X G a_longest⟩
  have d_is_between : D l.prog w K mg base "is_between" 2 (sp_btw K) := ⟨_, rOf (ok_is_between d_precedes F_is_between) B_is_between, k_is_between, PySem.W.mg_of X G a_is_between⟩
  have d_is_on_any : D l.prog w K mg base "is_on_any" 4 (sp_onany K) := ⟨_, rOf (ok_is_on_any d_is_between d_line_through d_is_on_line F_is_on_any) B_is_on_any, k_is_on_any, PySem.W.mg_of X G a_is_on_any⟩
  have d_is_covered : D l.prog w K mg base "is_covered" 5 (sp_cvd K) := ⟨_, rOf (ok_is_covered d_is_on_any F_is_covered) B_is_covered, k_is_covered, PySem.W.mg_of X G a_is_covered⟩
  have d_ink_from : D l.prog w K mg base "ink_from" 7 (sp_inkfrom K [(PP_ascending, qAs), (PP_ascending_pairs, qAp)]) := ⟨_, rOf (ok_ink_from b_list b_tuple d_longest d_is_on_any d_ascending d_ascending_pairs F_ink_from) B_ink_from, k_ink_from, PySem.W.mg_of X G a_ink_from⟩
  have d_ink_of : D l.prog w K mg base "ink_of" 8 (sp_inkof K [(PP_ascending, qAs), (PP_ascending_pairs, qAp)]) := ⟨_, rOf (ok_ink_of d_ink_from d_dots_of d_stretches_of F_ink_of) B_ink_of, k_ink_of, PySem.W.mg_of X G a_ink_of⟩
  have d_overlap : D l.prog w K mg base "overlap" 4 (sp_olap K) := ⟨_, rOf (ok_overlap d_line_through d_in_order d_precedes d_are_parallel d_crossing d_is_between F_overlap) B_overlap, k_overlap, PySem.W.mg_of X G a_overlap⟩
  have d_check_spot : D l.prog w K mg base "check_spot" 3 (sp_check K) := ⟨_, rOf (ok_check_spot d_is_spot F_check_spot) B_check_spot, k_check_spot, PySem.W.mg_of X G a_check_spot⟩
  have TW : DrawI l.prog w K mg base CW f_Drawing___init__ := ⟨TXW, MKCW, ok_winit TXW d_check_strokes F_Drawing___init__, mgCW⟩
  have m_wadd : MWa l.prog w K mg base CW := ⟨sfCW, ⟨_, rOf (ok_wadd TW F_Drawing___add__) B_Drawing___add__, a_Drawing___add__, i_Drawing___add__⟩⟩
  have m_wink : MWk l.prog w K mg base CW [(PP_ascending, qAs), (PP_ascending_pairs, qAp)] := ⟨clCW, _, _, ok_wink TXW d_ink_of F_Drawing_ink, B_Drawing_ink, ⟨a_Drawing_ink, i_Drawing_ink, k_Drawing_ink⟩⟩
  have m_wcov : MWv l.prog w K mg base CW := ⟨clCW, _, _, ok_wcov TXW d_check_spot d_dots_of d_stretches_of d_is_covered F_Drawing_covers, B_Drawing_covers, ⟨a_Drawing_covers, i_Drawing_covers, k_Drawing_covers⟩⟩
  have d_touches : D l.prog w K mg base "touches" 5 (sp_touch K) := ⟨_, rOf (ok_touches b_any d_overlap F_touches) B_touches, k_touches, PySem.W.mg_of X G a_touches⟩
  have d_with_line : D l.prog w K mg base "with_line" 6 (sp_wline K) := ⟨_, rOf (ok_with_line d_touches F_with_line) B_with_line, k_with_line, PySem.W.mg_of X G a_with_line⟩
  have d_line_groups : D l.prog w K mg base "line_groups" 7 (sp_lgroups K) := ⟨_, rOf (ok_line_groups d_with_line F_line_groups) B_line_groups, k_line_groups, PySem.W.mg_of X G a_line_groups⟩
  have d_pieces : D l.prog w K mg base "pieces" 10 (sp_pieces K CW [(PP_ascending, qAs), (PP_ascending_pairs, qAp)]) := ⟨_, rOf (ok_pieces b_len m_wink d_line_groups F_pieces) B_pieces, k_pieces, PySem.W.mg_of X G a_pieces⟩
  have d_law_random : D l.prog w K mg base "_law_random" 1 (sp_random K) := ⟨_, rOf (ok_law_random b_abs F_law_random) B_law_random, k_law_random, PySem.W.mg_of X G a_law_random⟩
  have d_law_below : D l.prog w K mg base "_law_below" 1 sp_below := ⟨_, rOf (ok_law_below b_len F_law_below) B_law_below, k_law_below, PySem.W.mg_of X G a_law_below⟩
  have d_law_step : D l.prog w K mg base "_law_step" 2 (sp_step K) := ⟨_, rOf (ok_law_step d_law_below F_law_step) B_law_step, k_law_step, PySem.W.mg_of X G a_law_step⟩
  have d_law_common : D l.prog w K mg base "_law_common" 1 sp_gcd := ⟨_, rOf (ok_law_common b_abs F_law_common) B_law_common, k_law_common, PySem.W.mg_of X G a_law_common⟩
  have d_law_lowest : D l.prog w K mg base "_law_lowest" 2 (sp_low K) := ⟨_, rOf (ok_law_lowest d_law_common F_law_lowest) B_law_lowest, k_law_lowest, PySem.W.mg_of X G a_law_lowest⟩
  have d_law_spot : D l.prog w K mg base "_law_spot" 3 (sp_draw fun H r => ∃ t, IsT K H r t ∧ SpotIn t) := ⟨_, rOf (ok_law_spot d_law_below d_law_lowest F_law_spot) B_law_spot, k_law_spot, PySem.W.mg_of X G a_law_spot⟩
  have d_law_stroke : D l.prog w K mg base "_law_stroke" 4 (sp_lstroke K) := ⟨_, rOf (ok_law_stroke b_range d_law_below d_law_step d_law_spot F_law_stroke) B_law_stroke, k_law_stroke, PySem.W.mg_of X G a_law_stroke⟩
  have d_law_strokes : D l.prog w K mg base "_law_strokes" 5 (sp_lstrokes K) := ⟨_, rOf (ok_law_strokes b_range b_tuple d_law_below d_law_stroke F_law_strokes) B_law_strokes, k_law_strokes, PySem.W.mg_of X G a_law_strokes⟩
  have d_law_drawing : D l.prog w K mg base "_law_drawing" 8 (sp_ldrawing K CW) := ⟨_, rOf (ok_law_drawing TW m_wadd F_law_drawing) B_law_drawing, k_law_drawing, PySem.W.mg_of X G a_law_drawing⟩
  have d_law_plus : D l.prog w K mg base "_law_plus" 3 (sp_two K plus) := ⟨_, rOf (ok_law_plus d_law_lowest F_law_plus) B_law_plus, k_law_plus, PySem.W.mg_of X G a_law_plus⟩
  have d_law_minus : D l.prog w K mg base "_law_minus" 4 (sp_two K minus) := ⟨_, rOf (ok_law_minus d_law_plus F_law_minus) B_law_minus, k_law_minus, PySem.W.mg_of X G a_law_minus⟩
  have d_law_equal_0 : D l.prog w K mg base "_law_equal" 0 (sp_equal K 0) := ⟨_, fun A outer s H us vs Q E hr e0 r h => absurd h (by rintro ⟨_, _, _, _, _, _, z, _⟩; exact z), k_law_equal, PySem.W.mg_of X G a_law_equal⟩
  have d_law_equal_1 : D l.prog w K mg base "_law_equal" 1 (sp_equal K 1) := ⟨_, rOf (ok_law_equal b_isinstance b_int b_bool b_str b_tuple b_list b_len b_all b_range d_law_equal_0 F_law_equal) B_law_equal, k_law_equal, PySem.W.mg_of X G a_law_equal⟩
  have d_law_equal := d_law_equal_1
  have d_law_times : D l.prog w K mg base "_law_times" 3 (sp_two K times) := ⟨_, rOf (ok_law_times d_law_lowest F_law_times) B_law_times, k_law_times, PySem.W.mg_of X G a_law_times⟩
  have d_law_ratio : D l.prog w K mg base "_law_ratio" 3 (sp_ratio K) := ⟨_, rOf (ok_law_ratio d_law_lowest F_law_ratio) B_law_ratio, k_law_ratio, PySem.W.mg_of X G a_law_ratio⟩
  have d_law_over : D l.prog w K mg base "_law_over" 1 (sp_one K over) := ⟨_, rOf (ok_law_over F_law_over) B_law_over, k_law_over, PySem.W.mg_of X G a_law_over⟩
  have d_law_cross : D l.prog w K mg base "_law_cross" 5 (sp_lcross K) := ⟨_, rOf (ok_law_cross d_law_minus d_law_times d_law_over d_law_plus d_law_ratio F_law_cross) B_law_cross, k_law_cross, PySem.W.mg_of X G a_law_cross⟩
  exact ok_law TW m_wadd m_wink m_wcov b_range b_len b_list b_min b_set b_sorted b_int d_law_random d_law_step d_law_strokes d_law_drawing d_law_cross d_law_equal d_pieces F_law
end My
open PySem PySem.W PyProof.Rows in
set_option maxRecDepth 100000 in
set_option maxHeartbeats 0 in
theorem PySem.Challenge.cw_copyarms_k26_pieces_that_hang_together_holds : PySem.Challenge.rw_copyarms_k26_pieces_that_hang_together.Holds := by
  w_on; o_law
  refine HandSHeadRun.head_any (r := My.R) (q := My.qv) (H := PySem.W.kHook My.fragHere.heap_1 My.addrs My.addrs_eq) (ob := My.ob) (M := 20000) (loose := My.loose) (d := HandSHeadRun.topDef My.R.prog 62) (kwd := []) My.ob_eq ?e ?f My.run ?hdef ?hp ?hk ?hwr ?k1 ?ok ?hb ?hw ?hc
  case e => kernel_rfl
  case f => intro s; kernel_rfl
  case hdef => kernel_rfl
  case hp => kernel_rfl
  case hk => kernel_rfl
  case hwr => rfl
  case k1 => first | assumption | decide +kernel
  case ok => decide +kernel
  case hb => exact ⟨rfl, rfl, rfl, rfl, rfl, by decide +kernel⟩
  case hw => w_witness2
  case hc =>
    k_fill
    refine My.walk_blank (lw := PySem.Challenge.rw_copyarms_k26_pieces_that_hang_together) (most := 63) (lev := 15) (par := "_law_script") (CQ := fun _ => L2.CX0) ["ascending", "ascending_pairs"] rfl (by decide) rfl ⟨rfl, by decide, by decide⟩ ?R (fun w h Y => by first | exact PySem.W.km_in_of Y | exact PySem.W.kIn_of Y) ?F (fun _ _ _ _ _ z => z)
    case R => first | rfl | decide +kernel
    case F =>
      intro w mg fa h Y KX G hmg bl
      refine' My.all_mk KX G hmg bl ?z_abs ?z_len ?z_isinstance ?z_int ?z_bool ?z_str ?z_tuple ?z_list ?z_all ?z_any ?z_range ?z_enumerate ?z_zip ?z_max ?z_min ?z_set ?z_sorted ?mi_MOST_SPOTS ?mi_MOST_STROKES ?a_common_divisor ?l_common_divisor ?c_common_divisor ?k_common_divisor ?a_is_whole ?l_is_whole ?c_is_whole ?k_is_whole ?a_is_spot ?l_is_spot ?c_is_spot ?k_is_spot ?a_spot_at ?l_spot_at ?c_spot_at ?k_spot_at ?a_precedes ?l_precedes ?c_precedes ?k_precedes ?a_parting_scale ?l_parting_scale ?c_parting_scale ?k_parting_scale ?a_scaled ?l_scaled ?c_scaled ?k_scaled ?ne_ascending_ascending_pairs ?a_ascending ?l_ascending ?c_ascending ?k_ascending ?q_ascending ?v_ascending ?n_ascending ?h_ascending ?a_ascending_pairs ?l_ascending_pairs ?c_ascending_pairs ?k_ascending_pairs ?q_ascending_pairs ?v_ascending_pairs ?n_ascending_pairs ?h_ascending_pairs ?a_line_form ?l_line_form ?c_line_form ?k_line_form ?a_line_through ?l_line_through ?c_line_through ?k_line_through ?a_is_on_line ?l_is_on_line ?c_is_on_line ?k_is_on_line ?a_are_parallel ?l_are_parallel ?c_are_parallel ?k_are_parallel ?a_crossing ?l_crossing ?c_crossing ?k_crossing ?a_parts_of ?l_parts_of ?c_parts_of ?k_parts_of ?a_is_stroke ?l_is_stroke ?c_is_stroke ?k_is_stroke ?a_check_strokes ?l_check_strokes ?c_check_strokes ?k_check_strokes ?a_in_order ?l_in_order ?c_in_order ?k_in_order ?a_dots_of ?l_dots_of ?c_dots_of ?k_dots_of ?a_stretches_of ?l_stretches_of ?c_stretches_of ?k_stretches_of ?a_joined ?l_joined ?c_joined ?k_joined ?a_longest ?l_longest ?c_longest ?k_longest ?a_is_between ?l_is_between ?c_is_between ?k_is_between ?a_is_on_any ?l_is_on_any ?c_is_on_any ?k_is_on_any ?a_is_covered ?l_is_covered ?c_is_covered ?k_is_covered ?a_ink_from ?l_ink_from ?c_ink_from ?k_ink_from ?a_ink_of ?l_ink_of ?c_ink_of ?k_ink_of ?a_overlap ?l_overlap ?c_overlap ?k_overlap ?a_check_spot ?l_check_spot ?c_check_spot ?k_check_spot ?aCW ?inCW ?l_Drawing___init__ ?c_Drawing___init__ ?k_Drawing___init__ ?pgCW ?hdCW ?poCW ?saCW ?mkCW ?kcCW ?isCW ?nCW_held ?sfCW ?a_Drawing___add__ ?i_Drawing___add__ ?l_Drawing___add__ ?c_Drawing___add__ ?k_Drawing___add__ ?a_Drawing_ink ?i_Drawing_ink ?l_Drawing_ink ?c_Drawing_ink ?k_Drawing_ink ?a_Drawing_covers ?i_Drawing_covers ?l_Drawing_covers ?c_Drawing_covers ?k_Drawing_covers ?a_touches ?l_touches ?c_touches ?k_touches ?a_with_line ?l_with_line ?c_with_line ?k_with_line ?a_line_groups ?l_line_groups ?c_line_groups ?k_line_groups ?a_pieces ?l_pieces ?c_pieces ?k_pieces ?a_law_random ?l_law_random ?c_law_random ?k_law_random ?a_law_below ?l_law_below ?c_law_below ?k_law_below ?a_law_step ?l_law_step ?c_law_step ?k_law_step ?a_law_common ?l_law_common ?c_law_common ?k_law_common ?a_law_lowest ?l_law_lowest ?c_law_lowest ?k_law_lowest ?a_law_spot ?l_law_spot ?c_law_spot ?k_law_spot ?a_law_stroke ?l_law_stroke ?c_law_stroke ?k_law_stroke ?a_law_strokes ?l_law_strokes ?c_law_strokes ?k_law_strokes ?a_law_drawing ?l_law_drawing ?c_law_drawing ?k_law_drawing ?a_law_plus ?l_law_plus ?c_law_plus ?k_law_plus ?a_law_minus ?l_law_minus ?c_law_minus ?k_law_minus ?a_law_equal ?l_law_equal ?c_law_equal ?k_law_equal ?a_law_times ?l_law_times ?c_law_times ?k_law_times ?a_law_ratio ?l_law_ratio ?c_law_ratio ?k_law_ratio ?a_law_over ?l_law_over ?c_law_over ?k_law_over ?a_law_cross ?l_law_cross ?c_law_cross ?k_law_cross ?a_law ?l_law ?c_law ?k_law
      (case z_abs => k_is)
      (case z_len => k_is)
      (case z_isinstance => k_is)
      (case z_int => k_is)
      (case z_bool => k_is)
      (case z_str => k_is)
      (case z_tuple => k_is)
      (case z_list => k_is)
      (case z_all => k_is)
      (case z_any => k_is)
      (case z_range => k_is)
      (case z_enumerate => k_is)
      (case z_zip => k_is)
      (case z_max => k_is)
      (case z_min => k_is)
      (case z_set => k_is)
      (case z_sorted => k_is)
      (case mi_MOST_SPOTS => k_is)
      (case mi_MOST_STROKES => k_is)
      (case a_common_divisor => k_is)
      (case l_common_divisor => k_is)
      (case c_common_divisor => k_is)
      (case k_common_divisor => k_is)
      (case a_is_whole => k_is)
      (case l_is_whole => k_is)
      (case c_is_whole => k_is)
      (case k_is_whole => k_is)
      (case a_is_spot => k_is)
      (case l_is_spot => k_is)
      (case c_is_spot => k_is)
      (case k_is_spot => k_is)
      (case a_spot_at => k_is)
      (case l_spot_at => k_is)
      (case c_spot_at => k_is)
      (case k_spot_at => k_is)
      (case a_precedes => k_is)
      (case l_precedes => k_is)
      (case c_precedes => k_is)
      (case k_precedes => k_is)
      (case a_parting_scale => k_is)
      (case l_parting_scale => k_is)
      (case c_parting_scale => k_is)
      (case k_parting_scale => k_is)
      (case a_scaled => k_is)
      (case l_scaled => k_is)
      (case c_scaled => k_is)
      (case k_scaled => k_is)
      (case ne_ascending_ascending_pairs => first | rfl | decide | kernel_rfl)
      (case a_ascending => k_is)
      (case l_ascending => k_is)
      (case c_ascending => k_is)
      (case k_ascending => k_is)
      (case q_ascending => k_is)
      (case v_ascending => first | exact rfl | (with_unfolding_all exact rfl) | (simp; rfl))
      (case n_ascending => first | k_is | kernel_rfl | rfl)
      (case h_ascending => first | kernel_rfl | rfl | decide +kernel)
      (case a_ascending_pairs => k_is)
      (case l_ascending_pairs => k_is)
      (case c_ascending_pairs => k_is)
      (case k_ascending_pairs => k_is)
      (case q_ascending_pairs => k_is)
      (case v_ascending_pairs => first | exact rfl | (with_unfolding_all exact rfl) | (simp; rfl))
      (case n_ascending_pairs => first | k_is | kernel_rfl | rfl)
      (case h_ascending_pairs => first | kernel_rfl | rfl | decide +kernel)
      (case a_line_form => k_is)
      (case l_line_form => k_is)
      (case c_line_form => k_is)
      (case k_line_form => k_is)
      (case a_line_through => k_is)
      (case l_line_through => k_is)
      (case c_line_through => k_is)
      (case k_line_through => k_is)
      (case a_is_on_line => k_is)
      (case l_is_on_line => k_is)
      (case c_is_on_line => k_is)
      (case k_is_on_line => k_is)
      (case a_are_parallel => k_is)
      (case l_are_parallel => k_is)
      (case c_are_parallel => k_is)
      (case k_are_parallel => k_is)
      (case a_crossing => k_is)
      (case l_crossing => k_is)
      (case c_crossing => k_is)
      (case k_crossing => k_is)
      (case a_parts_of => k_is)
      (case l_parts_of => k_is)
      (case c_parts_of => k_is)
      (case k_parts_of => k_is)
      (case a_is_stroke => k_is)
      (case l_is_stroke => k_is)
      (case c_is_stroke => k_is)
      (case k_is_stroke => k_is)
      (case a_check_strokes => k_is)
      (case l_check_strokes => k_is)
      (case c_check_strokes => k_is)
      (case k_check_strokes => k_is)
      (case a_in_order => k_is)
      (case l_in_order => k_is)
      (case c_in_order => k_is)
      (case k_in_order => k_is)
      (case a_dots_of => k_is)
      (case l_dots_of => k_is)
      (case c_dots_of => k_is)
      (case k_dots_of => k_is)
      (case a_stretches_of => k_is)
      (case l_stretches_of => k_is)
      (case c_stretches_of => k_is)
      (case k_stretches_of => k_is)
      (case a_joined => k_is)
      (case l_joined => k_is)
      (case c_joined => k_is)
      (case k_joined => k_is)
      (case a_longest => k_is)
      (case l_longest => k_is)
      (case c_longest => k_is)
      (case k_longest => k_is)
      (case a_is_between => k_is)
      (case l_is_between => k_is)
      (case c_is_between => k_is)
      (case k_is_between => k_is)
      (case a_is_on_any => k_is)
      (case l_is_on_any => k_is)
      (case c_is_on_any => k_is)
      (case k_is_on_any => k_is)
      (case a_is_covered => k_is)
      (case l_is_covered => k_is)
      (case c_is_covered => k_is)
      (case k_is_covered => k_is)
      (case a_ink_from => k_is)
      (case l_ink_from => k_is)
      (case c_ink_from => k_is)
      (case k_ink_from => k_is)
      (case a_ink_of => k_is)
      (case l_ink_of => k_is)
      (case c_ink_of => k_is)
      (case k_ink_of => k_is)
      (case a_overlap => k_is)
      (case l_overlap => k_is)
      (case c_overlap => k_is)
      (case k_overlap => k_is)
      (case a_check_spot => k_is)
      (case l_check_spot => k_is)
      (case c_check_spot => k_is)
      (case k_check_spot => k_is)
      (case aCW => k_is)
      (case inCW => k_is)
      (case l_Drawing___init__ => k_is)
      (case c_Drawing___init__ => k_is)
      (case k_Drawing___init__ => k_is)
      (case pgCW => k_is)
      (case hdCW => k_is)
      (case poCW => k_is)
      (case saCW => k_is)
      (case mkCW => k_is)
      (case kcCW => k_is)
      (case isCW => k_is)
      (case nCW_held => k_is)
      (case sfCW => k_is)
      (case a_Drawing___add__ => k_is)
      (case i_Drawing___add__ => k_is)
      (case l_Drawing___add__ => k_is)
      (case c_Drawing___add__ => k_is)
      (case k_Drawing___add__ => k_is)
      (case a_Drawing_ink => k_is)
      (case i_Drawing_ink => k_is)
      (case l_Drawing_ink => k_is)
      (case c_Drawing_ink => k_is)
      (case k_Drawing_ink => k_is)
      (case a_Drawing_covers => k_is)
      (case i_Drawing_covers => k_is)
      (case l_Drawing_covers => k_is)
      (case c_Drawing_covers => k_is)
      (case k_Drawing_covers => k_is)
      (case a_touches => k_is)
      (case l_touches => k_is)
      (case c_touches => k_is)
      (case k_touches => k_is)
      (case a_with_line => k_is)
      (case l_with_line => k_is)
      (case c_with_line => k_is)
      (case k_with_line => k_is)
      (case a_line_groups => k_is)
      (case l_line_groups => k_is)
      (case c_line_groups => k_is)
      (case k_line_groups => k_is)
      (case a_pieces => k_is)
      (case l_pieces => k_is)
      (case c_pieces => k_is)
      (case k_pieces => k_is)
      (case a_law_random => k_is)
      (case l_law_random => k_is)
      (case c_law_random => k_is)
      (case k_law_random => k_is)
      (case a_law_below => k_is)
      (case l_law_below => k_is)
      (case c_law_below => k_is)
      (case k_law_below => k_is)
      (case a_law_step => k_is)
      (case l_law_step => k_is)
      (case c_law_step => k_is)
      (case k_law_step => k_is)
      (case a_law_common => k_is)
      (case l_law_common => k_is)
      (case c_law_common => k_is)
      (case k_law_common => k_is)
      (case a_law_lowest => k_is)
      (case l_law_lowest => k_is)
      (case c_law_lowest => k_is)
      (case k_law_lowest => k_is)
      (case a_law_spot => k_is)
      (case l_law_spot => k_is)
      (case c_law_spot => k_is)
      (case k_law_spot => k_is)
      (case a_law_stroke => k_is)
      (case l_law_stroke => k_is)
      (case c_law_stroke => k_is)
      (case k_law_stroke => k_is)
      (case a_law_strokes => k_is)
      (case l_law_strokes => k_is)
      (case c_law_strokes => k_is)
      (case k_law_strokes => k_is)
      (case a_law_drawing => k_is)
      (case l_law_drawing => k_is)
      (case c_law_drawing => k_is)
      (case k_law_drawing => k_is)
      (case a_law_plus => k_is)
      (case l_law_plus => k_is)
      (case c_law_plus => k_is)
      (case k_law_plus => k_is)
      (case a_law_minus => k_is)
      (case l_law_minus => k_is)
      (case c_law_minus => k_is)
      (case k_law_minus => k_is)
      (case a_law_equal => k_is)
      (case l_law_equal => k_is)
      (case c_law_equal => k_is)
      (case k_law_equal => k_is)
      (case a_law_times => k_is)
      (case l_law_times => k_is)
      (case c_law_times => k_is)
      (case k_law_times => k_is)
      (case a_law_ratio => k_is)
      (case l_law_ratio => k_is)
      (case c_law_ratio => k_is)
      (case k_law_ratio => k_is)
      (case a_law_over => k_is)
      (case l_law_over => k_is)
      (case c_law_over => k_is)
      (case k_law_over => k_is)
      (case a_law_cross => k_is)
      (case l_law_cross => k_is)
      (case c_law_cross => k_is)
      (case k_law_cross => k_is)
      (case a_law => k_is)
      (case l_law => k_is)
      (case c_law => k_is)
      (case k_law => k_is)
#print axioms PySem.Challenge.cw_copyarms_k26_pieces_that_hang_together_holds
