import PyProof.Rows.All
import Wide.All
import OpenK.AllK
import Wide.FinOn
import HandS.ForMost
import HandS.ForExc
import HandS.Flow
import HandS.Style
import HandS.Wide
import HandS.Property
import HandS.Star
import HandS.MakeKw
import HandS.MakeKwOnly
import HandS.OwnEq
import HandS.IsInst
import HandS.Defaults
import HandS.TryOnly
import HandS.NoneIn
import HandS.Lambda
import HandS.EndTab
import HandS.EndOwn
import HandS.ExcOwn
import HandS.ExcIs
import HandS.TupSets
import HandS.Deep
import KE.KDictZip
import HandS.Zip
import HandS.Conv
import HandS.ExcInit
import HandS.ExcField
import KE.KRevSl
import HandS.TupAny
import KE.SortKeyHeap
import KE.GoesMore
import OpenK.KOps
import OpenK.KMeth
import KE.KDflt
import KE.KDictWalk
import HandS.Dict
import HandS.Iter
import HandS.DictComp
import HandS.TupLe
import KE.KeyNested
import HandS.Comp
import HandS.Exc
import HandS.Text
import HandS.StrMore
import KE.IntTextLaws
import KE.KStateDown
import Lean
import HandS.Head0
import HandS.Head1
import HandS.Head2
import PySem.Challenge.RW_copyarms_k33_texts_of_drawings
set_option Elab.async false
set_option linter.all false
set_option maxRecDepth 100000
set_option maxHeartbeats 4000000
set_option exponentiation.threshold 100000
namespace My
def loose0 : List PySem.Str := [("_wall" : PySem.Str), ("CopyError" : PySem.Str), ("InvalidSpot" : PySem.Str), ("InvalidTurn" : PySem.Str), ("InvalidTimes" : PySem.Str), ("TooFew" : PySem.Str), ("InvalidStroke" : PySem.Str), ("OpenStroke" : PySem.Str), ("InvalidReach" : PySem.Str), ("OutOfReach" : PySem.Str), ("TooMany" : PySem.Str), ("InvalidSize" : PySem.Str), ("InvalidBox" : PySem.Str), ("Contradiction" : PySem.Str), ("BadText" : PySem.Str), ("BadRow" : PySem.Str), ("UnknownName" : PySem.Str), ("InvalidName" : PySem.Str), ("InvalidCode" : PySem.Str), ("UnknownArm" : PySem.Str)]
def loose1 : List PySem.Str := [("NotFree" : PySem.Str), ("InvalidOperation" : PySem.Str), ("is_whole" : PySem.Str), ("common_divisor" : PySem.Str), ("is_spot" : PySem.Str), ("MOST_SPOTS" : PySem.Str), ("MOST_STROKES" : PySem.Str), ("Drawing" : PySem.Str), ("parts_of" : PySem.Str), ("is_stroke" : PySem.Str), ("check_strokes" : PySem.Str), ("DIGITS" : PySem.Str), ("MOST_DIGITS" : PySem.Str), ("BLOCK" : PySem.Str), ("BLOCK_DIGITS" : PySem.Str), ("format_drawing" : PySem.Str), ("parse_drawing" : PySem.Str), ("word_of" : PySem.Str), ("numeral" : PySem.Str), ("is_numeral" : PySem.Str)]
def loose2 : List PySem.Str := [("number_from" : PySem.Str), ("spot_from" : PySem.Str), ("first_wrong_word" : PySem.Str), ("strokes_from" : PySem.Str), ("_law_random" : PySem.Str), ("_law_below" : PySem.Str), ("_law_step" : PySem.Str), ("_law_common" : PySem.Str), ("_law_lowest" : PySem.Str), ("_law_spot" : PySem.Str), ("_law_stroke" : PySem.Str), ("_law_strokes" : PySem.Str), ("_law_drawing" : PySem.Str), ("_law_word" : PySem.Str), ("_law_text" : PySem.Str), ("_law_equal" : PySem.Str), ("_law_strokes_words" : PySem.Str), ("_law_bad_word" : PySem.Str), ("_law_is_digits" : PySem.Str), ("_law_is_spot" : PySem.Str)]
def loose3 : List PySem.Str := [("_law_error_of" : PySem.Str), ("_law_read" : PySem.Str), ("_law_read_strokes" : PySem.Str)]
def loose : List PySem.Str := loose0 ++ loose1 ++ loose2 ++ loose3
abbrev R : PySem.W.OpenRow := PySem.W.OpenLaw.row PySem.Challenge.rw_copyarms_k33_texts_of_drawings
abbrev qv : PySem.Program := PySem.W.view R.prog [68]
end My
namespace My
section
local macro_rules | `(tactic| o_head $_) => `(tactic| assumption)
theorem fragHere (h : R.Holds) : R.Holds := by
  k_head
end
noncomputable abbrev KF : PySem.Params → PySem.W.Frag := fragHere.heap_1
noncomputable def addrs : List Nat := (KF { strHash := fun _ => 0, shareClass := fun _ => 0, mergeTok := fun t => t, idOf := fun _ => 0, idOfShared := fun _ _ => 0, followText := fun _ => false, idOfImm := fun _ => 0 }).map (·.1)
theorem addrs_eq (P : PySem.Params) : addrs = (KF P).map (·.1) := by kernel_rfl
noncomputable def ob (s : PySem.W.SharedT) : (PySem.W.kHook KF addrs addrs_eq).α := addrs.map (HandSHeadRun.getT s)
theorem ob_eq (s : PySem.W.SharedT) : ob s = (PySem.W.kHook KF addrs addrs_eq).obs s.abs := List.map_congr_left fun a _ => HandSHeadRun.getT_eq s a
theorem run (w : PySem.World) : HandSHeadRun.RunEq R qv (PySem.W.kHook KF addrs addrs_eq) ob 20000 loose w := by
  intro os
  kernel_rfl
end My
namespace Mth
/-! ### numbers of two parts, in lowest terms -/
abbrev T3 := Int × Int × Int
def g3 (x y d : Int) : Int := ((Int.gcd ((Int.gcd x y : Nat) : Int) d : Nat) : Int)
def sg (x y d : Int) : Int := if d < 0 then -(g3 x y d) else g3 x y d
def low (x y d : Int) : T3 := (x.fdiv (sg x y d), y.fdiv (sg x y d), d.fdiv (sg x y d))
def Ok (s : T3) : Prop := 0 < s.2.2 ∧ g3 s.1 s.2.1 s.2.2 = 1
def re (s : T3) : Rat := (s.1 : Rat) / (s.2.2 : Rat)
def im (s : T3) : Rat := (s.2.1 : Rat) / (s.2.2 : Rat)
theorem g3_pos {x y d : Int} (hd : d ≠ 0) : 0 < g3 x y d := by
  unfold g3
  have : 0 < Int.gcd ((Int.gcd x y : Nat) : Int) d := Int.gcd_pos_of_ne_zero_right _ hd
  omega
theorem g3_dx {x y d : Int} : g3 x y d ∣ x := Int.dvd_trans (Int.gcd_dvd_left _ _) (Int.gcd_dvd_left _ _)
theorem g3_dy {x y d : Int} : g3 x y d ∣ y := Int.dvd_trans (Int.gcd_dvd_left _ _) (Int.gcd_dvd_right _ _)
theorem g3_dd {x y d : Int} : g3 x y d ∣ d := Int.gcd_dvd_right _ _
theorem g3_great {x y d c : Int} (h1 : c ∣ x) (h2 : c ∣ y) (h3 : c ∣ d) : c ∣ g3 x y d := Int.dvd_coe_gcd (Int.dvd_coe_gcd h1 h2) h3
theorem sg_ne {x y d : Int} (hd : d ≠ 0) : sg x y d ≠ 0 := by
  have := g3_pos (x := x) (y := y) hd
  unfold sg; split <;> omega
theorem sg_of {x y d : Int} : sg x y d = g3 x y d ∨ sg x y d = -g3 x y d := by unfold sg; split <;> simp
theorem sg_dx {x y d : Int} : sg x y d ∣ x := by rcases @sg_of x y d with h | h <;> rw [h]; exact g3_dx; exact Int.neg_dvd.mpr g3_dx
theorem sg_dy {x y d : Int} : sg x y d ∣ y := by rcases @sg_of x y d with h | h <;> rw [h]; exact g3_dy; exact Int.neg_dvd.mpr g3_dy
theorem sg_dd {x y d : Int} : sg x y d ∣ d := by rcases @sg_of x y d with h | h <;> rw [h]; exact g3_dd; exact Int.neg_dvd.mpr g3_dd
/-- the three parts, times the divisor -/
theorem low_mul (x y d : Int) : x = sg x y d * (low x y d).1 ∧ y = sg x y d * (low x y d).2.1 ∧ d = sg x y d * (low x y d).2.2 := by
  unfold low
  refine ⟨?_, ?_, ?_⟩ <;> dsimp only
  · rw [Int.fdiv_eq_ediv_of_dvd sg_dx]; exact (Int.mul_ediv_cancel' sg_dx).symm
  · rw [Int.fdiv_eq_ediv_of_dvd sg_dy]; exact (Int.mul_ediv_cancel' sg_dy).symm
  · rw [Int.fdiv_eq_ediv_of_dvd sg_dd]; exact (Int.mul_ediv_cancel' sg_dd).symm
theorem low_pos {x y d : Int} (hd : d ≠ 0) : 0 < (low x y d).2.2 := by
  have h := (low_mul x y d).2.2
  have hg := g3_pos (x := x) (y := y) hd
  generalize (low x y d).2.2 = z at h ⊢
  unfold sg at h
  rcases Int.lt_trichotomy z 0 with hz | hz | hz
  · exfalso
    split at h
    · have : 0 < (g3 x y d) * (-z) := Int.mul_pos hg (by omega)
      have e : g3 x y d * -z = - g3 x y d * z := by grind
      omega
    · have : 0 < (g3 x y d) * (-z) := Int.mul_pos hg (by omega)
      have e : g3 x y d * -z = - (g3 x y d * z) := by grind
      omega
  · subst hz; simp at h; exact absurd h hd
  · exact hz
theorem low_ok {x y d : Int} (hd : d ≠ 0) : Ok (low x y d) := by
  refine ⟨low_pos hd, ?_⟩
  obtain ⟨h1, h2, h3⟩ := low_mul x y d
  have hs := sg_ne (x := x) (y := y) hd
  have hp := low_pos (x := x) (y := y) hd
  generalize (low x y d).1 = a at *
  generalize (low x y d).2.1 = b at *
  generalize (low x y d).2.2 = c at *
  have hg := g3_pos (x := a) (y := b) (d := c) (by omega)
  have k1 : sg x y d * g3 a b c ∣ x := by
    obtain ⟨u, hu⟩ := @g3_dx a b c
    exact ⟨u, by rw [Int.mul_assoc, ← hu, ← h1]⟩
  have k2 : sg x y d * g3 a b c ∣ y := by
    obtain ⟨u, hu⟩ := @g3_dy a b c
    exact ⟨u, by rw [Int.mul_assoc, ← hu, ← h2]⟩
  have k3 : sg x y d * g3 a b c ∣ d := by
    obtain ⟨u, hu⟩ := @g3_dd a b c
    exact ⟨u, by rw [Int.mul_assoc, ← hu, ← h3]⟩
  have k := g3_great k1 k2 k3
  have k' : sg x y d * g3 a b c ∣ sg x y d := by
    rcases @sg_of x y d with h | h
    · rw [h] at k ⊢; exact k
    · rw [h]; rw [h] at k; exact (Int.dvd_neg).mpr k
  obtain ⟨u, hu⟩ := k'
  have e : g3 a b c * u = 1 := by
    have : sg x y d * (g3 a b c * u) = sg x y d * 1 := by rw [← Int.mul_assoc, ← hu, Int.mul_one]
    exact Int.eq_of_mul_eq_mul_left hs this
  exact Int.eq_one_of_dvd_one (by omega) ⟨u, e.symm⟩
theorem cast_ne {d : Int} (h : d ≠ 0) : (d : Rat) ≠ 0 := by simpa using h
theorem low_re {x y d : Int} (hd : d ≠ 0) : re (low x y d) = (x : Rat) / (d : Rat) := by
  obtain ⟨h1, h2, h3⟩ := low_mul x y d
  have hs := cast_ne (sg_ne (x := x) (y := y) hd)
  have hp := cast_ne (show (low x y d).2.2 ≠ 0 by have := low_pos (x := x) (y := y) hd; omega)
  unfold re
  have e1 : (x : Rat) = (sg x y d : Rat) * ((low x y d).1 : Rat) := by rw [← Rat.intCast_mul, ← h1]
  have e3 : (d : Rat) = (sg x y d : Rat) * ((low x y d).2.2 : Rat) := by rw [← Rat.intCast_mul, ← h3]
  generalize (sg x y d : Rat) = s at *
  generalize ((low x y d).1 : Rat) = a at *
  generalize ((low x y d).2.2 : Rat) = c at *
  grind
theorem low_im {x y d : Int} (hd : d ≠ 0) : im (low x y d) = (y : Rat) / (d : Rat) := by
  obtain ⟨h1, h2, h3⟩ := low_mul x y d
  have hs := cast_ne (sg_ne (x := x) (y := y) hd)
  have hp := cast_ne (show (low x y d).2.2 ≠ 0 by have := low_pos (x := x) (y := y) hd; omega)
  unfold im
  have e1 : (y : Rat) = (sg x y d : Rat) * ((low x y d).2.1 : Rat) := by rw [← Rat.intCast_mul, ← h2]
  have e3 : (d : Rat) = (sg x y d : Rat) * ((low x y d).2.2 : Rat) := by rw [← Rat.intCast_mul, ← h3]
  generalize (sg x y d : Rat) = s at *
  generalize ((low x y d).2.1 : Rat) = a at *
  generalize ((low x y d).2.2 : Rat) = c at *
  grind
theorem div_eq {a b c d : Int} (hb : b ≠ 0) (hd : d ≠ 0) (h : (a : Rat) / (b : Rat) = (c : Rat) / (d : Rat)) : a * d = c * b := by
  have h1 := cast_ne hb
  have h2 := cast_ne hd
  have : (a : Rat) * (d : Rat) = (c : Rat) * (b : Rat) := by grind
  rw [← Rat.intCast_mul, ← Rat.intCast_mul] at this
  exact Rat.intCast_inj.mp this
theorem dvd_of {s t : T3} (hs : Ok s) (ht : Ok t) (h1 : s.1 * t.2.2 = t.1 * s.2.2) (h2 : s.2.1 * t.2.2 = t.2.1 * s.2.2) : s.2.2 ∣ t.2.2 := by
  have a : s.2.2 ∣ s.1 * t.2.2 := ⟨t.1, by rw [h1, Int.mul_comm]⟩
  have b : s.2.2 ∣ s.2.1 * t.2.2 := ⟨t.2.1, by rw [h2, Int.mul_comm]⟩
  have c := Int.dvd_coe_gcd a b
  rw [Int.gcd_mul_right] at c
  have d : s.2.2 ∣ s.2.2 * ((t.2.2.natAbs : Nat) : Int) := ⟨_, rfl⟩
  have c' : s.2.2 ∣ ((Int.gcd s.1 s.2.1 : Nat) : Int) * ((t.2.2.natAbs : Nat) : Int) := by rw [← Int.natCast_mul]; exact c
  have e := Int.dvd_coe_gcd c' d
  rw [Int.gcd_mul_right] at e
  have g := hs.2
  unfold g3 at g
  have g' : Int.gcd ((Int.gcd s.1 s.2.1 : Nat) : Int) s.2.2 = 1 := by omega
  rw [g'] at e
  have ht2 := ht.1
  have e2 : (((1 * ((t.2.2.natAbs : Nat) : Int).natAbs : Nat)) : Int) = t.2.2 := by omega
  rw [e2] at e
  exact e
theorem ext {s t : T3} (hs : Ok s) (ht : Ok t) (h1 : re s = re t) (h2 : im s = im t) : s = t := by
  have ps := hs.1
  have pt := ht.1
  have e1 := div_eq (by omega) (by omega) h1
  have e2 := div_eq (by omega) (by omega) h2
  have d1 := dvd_of hs ht e1 e2
  have d2 := dvd_of ht hs e1.symm e2.symm
  have e3 : s.2.2 = t.2.2 := Int.le_antisymm (Int.le_of_dvd pt d1) (Int.le_of_dvd ps d2)
  obtain ⟨a, b, c⟩ := s
  obtain ⟨u, v, w⟩ := t
  dsimp only at *
  subst e3
  have q1 := Int.eq_of_mul_eq_mul_right (by omega) e1
  have q2 := Int.eq_of_mul_eq_mul_right (by omega) e2
  rw [q1, q2]
/-! ### reckoning -/
def plus (a b : T3) : T3 := low (a.1 * b.2.2 + b.1 * a.2.2) (a.2.1 * b.2.2 + b.2.1 * a.2.2) (a.2.2 * b.2.2)
def times (a b : T3) : T3 := low (a.1 * b.1 - a.2.1 * b.2.1) (a.1 * b.2.1 + a.2.1 * b.1) (a.2.2 * b.2.2)
def over (a : T3) : T3 := (a.1, -a.2.1, a.2.2)
def neg (a : T3) : T3 := (-a.1, -a.2.1, a.2.2)
def inv (a : T3) : T3 := low (a.1 * a.2.2) (-a.2.1 * a.2.2) (a.1 * a.1 + a.2.1 * a.2.1)
def face (a : T3) (m : Bool) : T3 := if m = true then over a else a
def car (t s : T3) (m : Bool) (z : T3) : T3 := plus (times t (face z m)) s
theorem Ok.ne {a : T3} (h : Ok a) : a.2.2 ≠ 0 := by have := h.1; omega
theorem mul_ne {a b : Int} (ha : a ≠ 0) (hb : b ≠ 0) : a * b ≠ 0 := fun h => (Int.mul_eq_zero.mp h).elim ha hb
theorem plus_ok {a b : T3} (ha : Ok a) (hb : Ok b) : Ok (plus a b) := low_ok (mul_ne ha.ne hb.ne)
theorem times_ok {a b : T3} (ha : Ok a) (hb : Ok b) : Ok (times a b) := low_ok (mul_ne ha.ne hb.ne)
theorem over_ok {a : T3} (ha : Ok a) : Ok (over a) := by
  refine ⟨ha.1, ?_⟩
  have h := ha.2
  unfold g3 over at *
  dsimp only at *
  rw [Int.gcd_neg]; exact h
theorem neg_ok {a : T3} (ha : Ok a) : Ok (neg a) := by
  refine ⟨ha.1, ?_⟩
  have h := ha.2
  unfold g3 neg at *
  dsimp only at *
  rw [Int.gcd_neg, Int.neg_gcd]; exact h
theorem face_ok {a : T3} (ha : Ok a) (m : Bool) : Ok (face a m) := by
  unfold face; split
  · exact over_ok ha
  · exact ha
theorem car_ok {t s z : T3} {m : Bool} (ht : Ok t) (hs : Ok s) (hz : Ok z) : Ok (car t s m z) := plus_ok (times_ok ht (face_ok hz m)) hs
def Nz (a : T3) : Prop := a.1 ≠ 0 ∨ a.2.1 ≠ 0
theorem sq_ne {a : T3} (h : Nz a) : a.1 * a.1 + a.2.1 * a.2.1 ≠ 0 := by
  have h1 : 0 ≤ a.1 * a.1 := by rcases Int.le_total 0 a.1 with h | h; exact Int.mul_nonneg h h; exact Int.mul_nonneg_of_nonpos_of_nonpos h h
  have h2 : 0 ≤ a.2.1 * a.2.1 := by rcases Int.le_total 0 a.2.1 with h | h; exact Int.mul_nonneg h h; exact Int.mul_nonneg_of_nonpos_of_nonpos h h
  rcases h with h | h
  · have := mul_ne h h; omega
  · have := mul_ne h h; omega
theorem inv_ok {a : T3} (h : Nz a) : Ok (inv a) := low_ok (sq_ne h)
theorem re_plus {a b : T3} (ha : Ok a) (hb : Ok b) : re (plus a b) = re a + re b := by
  unfold plus
  rw [low_re (mul_ne ha.ne hb.ne)]
  have h1 := cast_ne ha.ne
  have h2 := cast_ne hb.ne
  unfold re
  simp only [Rat.intCast_add, Rat.intCast_mul]
  grind
theorem im_plus {a b : T3} (ha : Ok a) (hb : Ok b) : im (plus a b) = im a + im b := by
  unfold plus
  rw [low_im (mul_ne ha.ne hb.ne)]
  have h1 := cast_ne ha.ne
  have h2 := cast_ne hb.ne
  unfold im
  simp only [Rat.intCast_add, Rat.intCast_mul]
  grind
theorem re_times {a b : T3} (ha : Ok a) (hb : Ok b) : re (times a b) = re a * re b - im a * im b := by
  unfold times
  rw [low_re (mul_ne ha.ne hb.ne)]
  have h1 := cast_ne ha.ne
  have h2 := cast_ne hb.ne
  unfold re im
  simp only [Rat.intCast_sub, Rat.intCast_mul]
  grind
theorem im_times {a b : T3} (ha : Ok a) (hb : Ok b) : im (times a b) = re a * im b + im a * re b := by
  unfold times
  rw [low_im (mul_ne ha.ne hb.ne)]
  have h1 := cast_ne ha.ne
  have h2 := cast_ne hb.ne
  unfold re im
  simp only [Rat.intCast_add, Rat.intCast_mul]
  grind
theorem re_over (a : T3) : re (over a) = re a := rfl
theorem im_over (a : T3) : im (over a) = - im a := by
  unfold im over
  simp only [Rat.intCast_neg]
  grind
theorem re_neg (a : T3) : re (neg a) = - re a := by
  unfold re neg
  simp only [Rat.intCast_neg]
  grind
theorem im_neg (a : T3) : im (neg a) = - im a := by
  unfold im neg
  simp only [Rat.intCast_neg]
  grind
theorem re_face (a : T3) (m : Bool) : re (face a m) = re a := by
  unfold face; split <;> first | exact re_over a | rfl
theorem im_face (a : T3) (m : Bool) : im (face a m) = (if m = true then -1 else 1) * im a := by
  unfold face; split
  · rw [im_over]; grind
  · grind
/-- the square of the size -/
def nn (a : T3) : Rat := re a * re a + im a * im a
theorem nn_eq {a : T3} (ha : Ok a) : nn a * ((a.2.2 : Rat) * (a.2.2 : Rat)) = ((a.1 * a.1 + a.2.1 * a.2.1 : Int) : Rat) := by
  have h1 := cast_ne ha.ne
  unfold nn re im
  simp only [Rat.intCast_add, Rat.intCast_mul]
  grind
theorem nn_ne {a : T3} (ha : Ok a) (h : Nz a) : nn a ≠ 0 := by
  intro e
  have q := nn_eq ha
  rw [e] at q
  have : ((a.1 * a.1 + a.2.1 * a.2.1 : Int) : Rat) = 0 := by rw [← q]; grind
  exact cast_ne (sq_ne h) this
theorem re_inv {a : T3} (ha : Ok a) (h : Nz a) : re (inv a) = re a / nn a := by
  have q := nn_eq ha
  have n := nn_ne ha h
  have h1 := cast_ne ha.ne
  have h2 := cast_ne (sq_ne h)
  unfold inv
  rw [low_re (sq_ne h), ← q]
  unfold re
  simp only [Rat.intCast_mul]
  rw [← q] at h2
  generalize nn a = k at *
  grind
theorem im_inv {a : T3} (ha : Ok a) (h : Nz a) : im (inv a) = - im a / nn a := by
  have q := nn_eq ha
  have n := nn_ne ha h
  have h1 := cast_ne ha.ne
  have h2 := cast_ne (sq_ne h)
  unfold inv
  rw [low_im (sq_ne h), ← q]
  unfold im
  simp only [Rat.intCast_mul, Rat.intCast_neg]
  rw [← q] at h2
  generalize nn a = k at *
  grind
theorem nz_iff {a : T3} (ha : Ok a) : Nz a ↔ nn a ≠ 0 := by
  refine ⟨nn_ne ha, fun h => ?_⟩
  by_cases h1 : a.1 = 0
  · by_cases h2 : a.2.1 = 0
    · exfalso; apply h; unfold nn re im; rw [h1, h2]; grind
    · exact .inr h2
  · exact .inl h1
theorem nn_times {a b : T3} (ha : Ok a) (hb : Ok b) : nn (times a b) = nn a * nn b := by
  unfold nn; rw [re_times ha hb, im_times ha hb]; grind
theorem nn_face (a : T3) (m : Bool) : nn (face a m) = nn a := by
  unfold nn; rw [re_face, im_face]; split <;> grind
theorem nn_inv {a : T3} (ha : Ok a) (h : Nz a) : nn (inv a) = 1 / nn a := by
  have n := nn_ne ha h
  have e : nn (inv a) = (re a / nn a) * (re a / nn a) + (- im a / nn a) * (- im a / nn a) := by
    rw [← re_inv ha h, ← im_inv ha h]; rfl
  rw [e]
  have q : nn a = re a * re a + im a * im a := rfl
  generalize nn a = k at *
  grind
theorem times_nz {a b : T3} (ha : Ok a) (hb : Ok b) (na : Nz a) (nb : Nz b) : Nz (times a b) := (nz_iff (times_ok ha hb)).mpr (by
  rw [nn_times ha hb]
  have := nn_ne ha na
  have := nn_ne hb nb
  grind)
theorem face_nz {a : T3} (ha : Ok a) (na : Nz a) (m : Bool) : Nz (face a m) := (nz_iff (face_ok ha m)).mpr (by rw [nn_face]; exact nn_ne ha na)
theorem inv_nz {a : T3} (ha : Ok a) (na : Nz a) : Nz (inv a) := (nz_iff (inv_ok na)).mpr (by
  rw [nn_inv ha na]
  have := nn_ne ha na
  grind)
/-! ### copies -/
structure Cp where
  t : T3
  s : T3
  m : Bool
  deriving DecidableEq
structure CpOk (c : Cp) : Prop where
  t : Ok c.t
  n : Nz c.t
  s : Ok c.s
def ap (c : Cp) (z : T3) : T3 := car c.t c.s c.m z
def jn (a b : Cp) : Cp := ⟨times b.t (face a.t b.m), car b.t b.s b.m a.s, a.m != b.m⟩
def bk (c : Cp) : Cp := ⟨face (inv c.t) c.m, face (neg (times (inv c.t) c.s)) c.m, c.m⟩
def still : Cp := ⟨(1, 0, 1), (0, 0, 1), false⟩
theorem still_ok : CpOk still := ⟨⟨by decide, by decide⟩, .inl (by decide), ⟨by decide, by decide⟩⟩
theorem jn_ok {a b : Cp} (ha : CpOk a) (hb : CpOk b) : CpOk (jn a b) :=
  ⟨times_ok hb.t (face_ok ha.t _), times_nz hb.t (face_ok ha.t _) hb.n (face_nz ha.t ha.n _), car_ok hb.t hb.s ha.s⟩
theorem bk_ok {c : Cp} (h : CpOk c) : CpOk (bk c) :=
  ⟨face_ok (inv_ok h.n) _, face_nz (inv_ok h.n) (inv_nz h.t h.n) _, face_ok (neg_ok (times_ok (inv_ok h.n) h.s)) _⟩
theorem re_car {t s z : T3} {m : Bool} (ht : Ok t) (hs : Ok s) (hz : Ok z) : re (car t s m z) = re t * re z - im t * ((if m = true then -1 else 1) * im z) + re s := by
  unfold car
  rw [re_plus (times_ok ht (face_ok hz m)) hs, re_times ht (face_ok hz m), re_face, im_face]
theorem im_car {t s z : T3} {m : Bool} (ht : Ok t) (hs : Ok s) (hz : Ok z) : im (car t s m z) = re t * ((if m = true then -1 else 1) * im z) + im t * re z + im s := by
  unfold car
  rw [im_plus (times_ok ht (face_ok hz m)) hs, im_times ht (face_ok hz m), re_face, im_face]
theorem ap_ok {c : Cp} {z : T3} (h : CpOk c) (hz : Ok z) : Ok (ap c z) := car_ok h.t h.s hz
theorem jn_ap {a b : Cp} (ha : CpOk a) (hb : CpOk b) {z : T3} (hz : Ok z) : ap (jn a b) z = ap b (ap a z) := by
  have hj := jn_ok ha hb
  refine ext (ap_ok hj hz) (ap_ok hb (ap_ok ha hz)) ?_ ?_
  · unfold ap
    rw [re_car hj.t hj.s hz, re_car hb.t hb.s (car_ok ha.t ha.s hz), re_car ha.t ha.s hz, im_car ha.t ha.s hz]
    show re (times b.t (face a.t b.m)) * re z - im (times b.t (face a.t b.m)) * ((if (a.m != b.m) = true then -1 else 1) * im z) + re (car b.t b.s b.m a.s) = _
    rw [re_times hb.t (face_ok ha.t _), im_times hb.t (face_ok ha.t _), re_face, im_face, re_car hb.t hb.s ha.s]
    cases a.m <;> cases b.m <;> simp <;> grind
  · unfold ap
    rw [im_car hj.t hj.s hz, im_car hb.t hb.s (car_ok ha.t ha.s hz), re_car ha.t ha.s hz, im_car ha.t ha.s hz]
    show re (times b.t (face a.t b.m)) * ((if (a.m != b.m) = true then -1 else 1) * im z) + im (times b.t (face a.t b.m)) * re z + im (car b.t b.s b.m a.s) = _
    rw [re_times hb.t (face_ok ha.t _), im_times hb.t (face_ok ha.t _), re_face, im_face, im_car hb.t hb.s ha.s]
    cases a.m <;> cases b.m <;> simp <;> grind
theorem cp_ext {a b : Cp} (ha : CpOk a) (hb : CpOk b) (h1 : re a.t = re b.t) (h2 : im a.t = im b.t) (h3 : re a.s = re b.s) (h4 : im a.s = im b.s) (h5 : a.m = b.m) : a = b := by
  have e1 := ext ha.t hb.t h1 h2
  have e2 := ext ha.s hb.s h3 h4
  cases a; cases b
  dsimp only at e1 e2 h5
  rw [e1, e2, h5]
theorem re_jt {a b : Cp} (ha : CpOk a) (hb : CpOk b) : re (jn a b).t = re b.t * re a.t - im b.t * ((if b.m = true then -1 else 1) * im a.t) := by
  show re (times b.t (face a.t b.m)) = _
  rw [re_times hb.t (face_ok ha.t _), re_face, im_face]
theorem im_jt {a b : Cp} (ha : CpOk a) (hb : CpOk b) : im (jn a b).t = re b.t * ((if b.m = true then -1 else 1) * im a.t) + im b.t * re a.t := by
  show im (times b.t (face a.t b.m)) = _
  rw [im_times hb.t (face_ok ha.t _), re_face, im_face]
theorem re_js {a b : Cp} (ha : CpOk a) (hb : CpOk b) : re (jn a b).s = re b.t * re a.s - im b.t * ((if b.m = true then -1 else 1) * im a.s) + re b.s := re_car hb.t hb.s ha.s
theorem im_js {a b : Cp} (ha : CpOk a) (hb : CpOk b) : im (jn a b).s = re b.t * ((if b.m = true then -1 else 1) * im a.s) + im b.t * re a.s + im b.s := im_car hb.t hb.s ha.s
theorem jn_m (a b : Cp) : (jn a b).m = (a.m != b.m) := rfl
theorem jn_assoc {a b c : Cp} (ha : CpOk a) (hb : CpOk b) (hc : CpOk c) : jn (jn a b) c = jn a (jn b c) := by
  have h1 := jn_ok ha hb
  have h2 := jn_ok hb hc
  refine cp_ext (jn_ok h1 hc) (jn_ok ha h2) ?_ ?_ ?_ ?_ ?_
  · rw [re_jt h1 hc, re_jt ha h2, re_jt ha hb, im_jt ha hb, re_jt hb hc, im_jt hb hc, jn_m]
    cases b.m <;> cases c.m <;> simp <;> grind
  · rw [im_jt h1 hc, im_jt ha h2, re_jt ha hb, im_jt ha hb, re_jt hb hc, im_jt hb hc, jn_m]
    cases b.m <;> cases c.m <;> simp <;> grind
  · rw [re_js h1 hc, re_js ha h2, re_js ha hb, im_js ha hb, re_js hb hc, re_jt hb hc, im_jt hb hc, jn_m]
    cases b.m <;> cases c.m <;> simp <;> grind
  · rw [im_js h1 hc, im_js ha h2, re_js ha hb, im_js ha hb, im_js hb hc, re_jt hb hc, im_jt hb hc, jn_m]
    cases b.m <;> cases c.m <;> simp <;> grind
  · show ((a.m != b.m) != c.m) = (a.m != (b.m != c.m))
    cases a.m <;> cases b.m <;> cases c.m <;> rfl
theorem re_1 : re (1, 0, 1) = 1 := by unfold re; decide +kernel
theorem im_1 : im (1, 0, 1) = 0 := by unfold im; decide +kernel
theorem re_0 : re (0, 0, 1) = 0 := by unfold re; decide +kernel
theorem im_0 : im (0, 0, 1) = 0 := by unfold im; decide +kernel
theorem jn_still {a : Cp} (ha : CpOk a) : jn a still = a := by
  refine cp_ext (jn_ok ha still_ok) ha ?_ ?_ ?_ ?_ ?_
  · rw [re_jt ha still_ok]; simp only [still, re_1, im_1]; grind
  · rw [im_jt ha still_ok]; simp only [still, re_1, im_1]; grind
  · rw [re_js ha still_ok]; simp only [still, re_1, im_1, re_0, im_0]; grind
  · rw [im_js ha still_ok]; simp only [still, re_1, im_1, re_0, im_0]; grind
  · rw [jn_m]; simp [still]
theorem still_jn {a : Cp} (ha : CpOk a) : jn still a = a := by
  refine cp_ext (jn_ok still_ok ha) ha ?_ ?_ ?_ ?_ ?_
  · rw [re_jt still_ok ha]; simp only [still, re_1, im_1]; grind
  · rw [im_jt still_ok ha]; simp only [still, re_1, im_1]; grind
  · rw [re_js still_ok ha]; simp only [still, re_1, im_1, re_0, im_0]; grind
  · rw [im_js still_ok ha]; simp only [still, re_1, im_1, re_0, im_0]; grind
  · rw [jn_m]; simp [still]
theorem re_bt {a : Cp} (ha : CpOk a) : re (bk a).t = re a.t / nn a.t := by
  show re (face (inv a.t) a.m) = _
  rw [re_face, re_inv ha.t ha.n]
theorem im_bt {a : Cp} (ha : CpOk a) : im (bk a).t = (if a.m = true then -1 else 1) * (- im a.t / nn a.t) := by
  show im (face (inv a.t) a.m) = _
  rw [im_face, im_inv ha.t ha.n]
theorem re_bs {a : Cp} (ha : CpOk a) : re (bk a).s = -((re a.t / nn a.t) * re a.s - (- im a.t / nn a.t) * im a.s) := by
  show re (face (neg (times (inv a.t) a.s)) a.m) = _
  rw [re_face, re_neg, re_times (inv_ok ha.n) ha.s, re_inv ha.t ha.n, im_inv ha.t ha.n]
theorem im_bs {a : Cp} (ha : CpOk a) : im (bk a).s = (if a.m = true then -1 else 1) * -((re a.t / nn a.t) * im a.s + (- im a.t / nn a.t) * re a.s) := by
  show im (face (neg (times (inv a.t) a.s)) a.m) = _
  rw [im_face, im_neg, im_times (inv_ok ha.n) ha.s, re_inv ha.t ha.n, im_inv ha.t ha.n]
theorem jn_bk {a : Cp} (ha : CpOk a) : jn a (bk a) = still := by
  have hb := bk_ok ha
  have n := nn_ne ha.t ha.n
  have q : nn a.t = re a.t * re a.t + im a.t * im a.t := rfl
  have em : (bk a).m = a.m := rfl
  refine cp_ext (jn_ok ha hb) still_ok ?_ ?_ ?_ ?_ ?_
  · rw [re_jt ha hb, re_bt ha, im_bt ha, em]; simp only [still, re_1, im_1]
    generalize nn a.t = k at *
    cases a.m <;> simp <;> grind
  · rw [im_jt ha hb, re_bt ha, im_bt ha, em]; simp only [still, re_1, im_1]
    generalize nn a.t = k at *
    cases a.m <;> simp <;> grind
  · rw [re_js ha hb, re_bt ha, im_bt ha, re_bs ha, em]; simp only [still, re_0, im_0]
    generalize nn a.t = k at *
    cases a.m <;> simp <;> grind
  · rw [im_js ha hb, re_bt ha, im_bt ha, im_bs ha, em]; simp only [still, re_0, im_0]
    generalize nn a.t = k at *
    cases a.m <;> simp <;> grind
  · show (a.m != a.m) = false
    simp
theorem bk_jn {a : Cp} (ha : CpOk a) : jn (bk a) a = still := by
  have hb := bk_ok ha
  have n := nn_ne ha.t ha.n
  have q : nn a.t = re a.t * re a.t + im a.t * im a.t := rfl
  have em : (bk a).m = a.m := rfl
  refine cp_ext (jn_ok hb ha) still_ok ?_ ?_ ?_ ?_ ?_
  · rw [re_jt hb ha, re_bt ha, im_bt ha]; simp only [still, re_1, im_1]
    generalize nn a.t = k at *
    cases a.m <;> simp <;> grind
  · rw [im_jt hb ha, re_bt ha, im_bt ha]; simp only [still, re_1, im_1]
    generalize nn a.t = k at *
    cases a.m <;> simp <;> grind
  · rw [re_js hb ha, re_bs ha, im_bs ha]; simp only [still, re_0, im_0]
    generalize nn a.t = k at *
    cases a.m <;> simp <;> grind
  · rw [im_js hb ha, re_bs ha, im_bs ha]; simp only [still, re_0, im_0]
    generalize nn a.t = k at *
    cases a.m <;> simp <;> grind
  · show (a.m != a.m) = false
    simp
/-- what brings back is one -/
theorem bk_uniq {a b : Cp} (ha : CpOk a) (hb : CpOk b) (h : jn a b = still) : b = bk a := by
  have e : jn (jn (bk a) a) b = jn (bk a) (jn a b) := jn_assoc (bk_ok ha) ha hb
  rw [bk_jn ha, h, still_jn hb, jn_still (bk_ok ha)] at e
  exact e
theorem bk_bk {a : Cp} (ha : CpOk a) : bk (bk a) = a := (bk_uniq (bk_ok ha) ha (bk_jn ha)).symm
theorem bk_jn_eq {a b : Cp} (ha : CpOk a) (hb : CpOk b) : bk (jn a b) = jn (bk b) (bk a) := by
  refine (bk_uniq (jn_ok ha hb) (jn_ok (bk_ok hb) (bk_ok ha)) ?_).symm
  rw [jn_assoc ha hb (jn_ok (bk_ok hb) (bk_ok ha)), ← jn_assoc hb (bk_ok hb) (bk_ok ha), jn_bk hb, still_jn (bk_ok ha), jn_bk ha]
theorem bk_still : bk still = still := (bk_uniq still_ok still_ok (jn_still still_ok)).symm
theorem ap_still {z : T3} (hz : Ok z) : ap still z = z := by
  refine ext (ap_ok still_ok hz) hz ?_ ?_
  · unfold ap; rw [re_car still_ok.t still_ok.s hz]; simp only [still, re_1, im_1, re_0]; grind
  · unfold ap; rw [im_car still_ok.t still_ok.s hz]; simp only [still, re_1, im_1, im_0]; grind
theorem bk_ap {a : Cp} (ha : CpOk a) {z : T3} (hz : Ok z) : ap (bk a) (ap a z) = z := by
  rw [← jn_ap ha (bk_ok ha) hz, jn_bk ha, ap_still hz]
theorem ap_bk {a : Cp} (ha : CpOk a) {z : T3} (hz : Ok z) : ap a (ap (bk a) z) = z := by
  rw [← jn_ap (bk_ok ha) ha hz, bk_jn ha, ap_still hz]
/-! ### growth: the square of the size, a fraction -/
def fr (p q : Int) : Int × Int := ((low p 0 q).1, (low p 0 q).2.2)
def gr (t : T3) : Int × Int := fr (t.1 * t.1 + t.2.1 * t.2.1) (t.2.2 * t.2.2)
def gr3 (t : T3) : T3 := low (t.1 * t.1 + t.2.1 * t.2.1) 0 (t.2.2 * t.2.2)
theorem low_0 (p q : Int) : (low p 0 q).2.1 = 0 := by
  unfold low; dsimp only; exact Int.zero_fdiv _
theorem low_fr (p q : Int) : low p 0 q = ((fr p q).1, 0, (fr p q).2) := by
  have e := low_0 p q
  unfold fr
  generalize low p 0 q = z at *
  obtain ⟨a, b, c⟩ := z
  dsimp only at *
  rw [e]
theorem gr3_eq (t : T3) : gr3 t = ((gr t).1, 0, (gr t).2) := low_fr _ _
theorem gr3_ok {t : T3} (h : Ok t) : Ok (gr3 t) := low_ok (mul_ne h.ne h.ne)
theorem re_gr3 {t : T3} (h : Ok t) : re (gr3 t) = nn t := by
  have h1 := cast_ne h.ne
  have q := nn_eq h
  unfold gr3
  rw [low_re (mul_ne h.ne h.ne), ← q]
  simp only [Rat.intCast_mul]
  generalize nn t = k at *
  grind
theorem im_gr3 {t : T3} (h : Ok t) : im (gr3 t) = 0 := by
  unfold im gr3; rw [low_0]; grind
theorem gr_jn {a b : Cp} (ha : CpOk a) (hb : CpOk b) : times (gr3 a.t) (gr3 b.t) = gr3 (jn a b).t := by
  refine ext (times_ok (gr3_ok ha.t) (gr3_ok hb.t)) (gr3_ok (jn_ok ha hb).t) ?_ ?_
  · rw [re_times (gr3_ok ha.t) (gr3_ok hb.t), re_gr3 (jn_ok ha hb).t, re_gr3 ha.t, re_gr3 hb.t, im_gr3 ha.t]
    show _ = nn (times b.t (face a.t b.m))
    rw [nn_times hb.t (face_ok ha.t _), nn_face]
    grind
  · rw [im_times (gr3_ok ha.t) (gr3_ok hb.t), im_gr3 (jn_ok ha hb).t, im_gr3 ha.t, im_gr3 hb.t]
    grind
theorem gr_pos {t : T3} (h : Ok t) (n : Nz t) : 0 < (gr t).1 ∧ 0 < (gr t).2 := by
  have k := low_pos (x := t.1 * t.1 + t.2.1 * t.2.1) (y := 0) (d := t.2.2 * t.2.2) (mul_ne h.ne h.ne)
  refine ⟨?_, k⟩
  obtain ⟨h1, h2, h3⟩ := low_mul (t.1 * t.1 + t.2.1 * t.2.1) 0 (t.2.2 * t.2.2)
  have hsq := sq_ne n
  have q1 : 0 ≤ t.1 * t.1 := by rcases Int.le_total 0 t.1 with h | h; exact Int.mul_nonneg h h; exact Int.mul_nonneg_of_nonpos_of_nonpos h h
  have q2 : 0 ≤ t.2.1 * t.2.1 := by rcases Int.le_total 0 t.2.1 with h | h; exact Int.mul_nonneg h h; exact Int.mul_nonneg_of_nonpos_of_nonpos h h
  have q3 : 0 < t.2.2 * t.2.2 := Int.mul_pos h.1 h.1
  show 0 < (low (t.1 * t.1 + t.2.1 * t.2.1) 0 (t.2.2 * t.2.2)).1
  generalize (low (t.1 * t.1 + t.2.1 * t.2.1) 0 (t.2.2 * t.2.2)).1 = a at *
  generalize (low (t.1 * t.1 + t.2.1 * t.2.1) 0 (t.2.2 * t.2.2)).2.2 = c at *
  generalize hS : sg (t.1 * t.1 + t.2.1 * t.2.1) 0 (t.2.2 * t.2.2) = g at *
  have gp : 0 < g := by
    rcases Int.lt_trichotomy g 0 with z | z | z
    · have : g * c < 0 := Int.mul_neg_of_neg_of_pos z k
      omega
    · subst z; simp at h3; omega
    · exact z
  rcases Int.lt_trichotomy a 0 with z | z | z
  · have : g * a < 0 := Int.mul_neg_of_pos_of_neg gp z
    omega
  · subst z; simp at h1; omega
  · exact z
theorem gr_bk {a : Cp} (ha : CpOk a) : gr (bk a).t = ((gr a.t).2, (gr a.t).1) := by
  obtain ⟨p1, p2⟩ := gr_pos ha.t ha.n
  have o := gr3_ok ha.t
  rw [gr3_eq] at o
  have o2 : Ok ((gr a.t).2, 0, (gr a.t).1) := by
    refine ⟨p1, ?_⟩
    have z := o.2
    unfold g3 at z ⊢
    dsimp only at z ⊢
    rw [Int.gcd_zero_right] at z ⊢
    have e1 : (((gr a.t).1.natAbs : Nat) : Int) = (gr a.t).1 := by omega
    have e2 : (((gr a.t).2.natAbs : Nat) : Int) = (gr a.t).2 := by omega
    rw [e1] at z
    rw [e2, Int.gcd_comm]
    exact z
  have e : gr3 (bk a).t = ((gr a.t).2, 0, (gr a.t).1) := by
    have n := nn_ne ha.t ha.n
    refine ext (gr3_ok (bk_ok ha).t) o2 ?_ ?_
    · rw [re_gr3 (bk_ok ha).t]
      show nn (face (inv a.t) a.m) = _
      rw [nn_face, nn_inv ha.t ha.n, ← re_gr3 ha.t, gr3_eq]
      unfold re
      dsimp only
      have c1 := cast_ne (show (gr a.t).1 ≠ 0 by omega)
      have c2 := cast_ne (show (gr a.t).2 ≠ 0 by omega)
      grind
    · rw [im_gr3 (bk_ok ha).t]; unfold im; dsimp only; grind
  rw [gr3_eq] at e
  have x1 := congrArg (fun z : T3 => z.1) e
  have x2 := congrArg (fun z : T3 => z.2.2) e
  dsimp only at x1 x2
  exact Prod.ext x1 x2
/-! ### sizes -/
def B (n : Nat) (s : T3) : Prop := s.1.natAbs < 2 ^ n ∧ s.2.1.natAbs < 2 ^ n ∧ s.2.2.natAbs < 2 ^ n
theorem pw {n m : Nat} (h : n ≤ m) : 2 ^ n ≤ 2 ^ m := Nat.pow_le_pow_right (by decide) h
theorem B.mono {n m : Nat} {s : T3} (b : B n s) (h : n ≤ m) : B m s := ⟨Nat.lt_of_lt_of_le b.1 (pw h), Nat.lt_of_lt_of_le b.2.1 (pw h), Nat.lt_of_lt_of_le b.2.2 (pw h)⟩
theorem abs_le {g a : Int} (h : g ≠ 0) : a.natAbs ≤ (g * a).natAbs := by
  rw [Int.natAbs_mul]
  have : 1 ≤ g.natAbs := by omega
  calc a.natAbs = 1 * a.natAbs := by omega
    _ ≤ g.natAbs * a.natAbs := Nat.mul_le_mul_right _ this
theorem low_B {x y d : Int} {n : Nat} (hd : d ≠ 0) (h1 : x.natAbs < 2 ^ n) (h2 : y.natAbs < 2 ^ n) (h3 : d.natAbs < 2 ^ n) : B n (low x y d) := by
  obtain ⟨e1, e2, e3⟩ := low_mul x y d
  have hs := sg_ne (x := x) (y := y) hd
  refine ⟨?_, ?_, ?_⟩
  · have := abs_le (a := (low x y d).1) hs; rw [← e1] at this; omega
  · have := abs_le (a := (low x y d).2.1) hs; rw [← e2] at this; omega
  · have := abs_le (a := (low x y d).2.2) hs; rw [← e3] at this; omega
theorem mul_lt {a b : Int} {n m : Nat} (ha : a.natAbs < 2 ^ n) (hb : b.natAbs < 2 ^ m) : (a * b).natAbs < 2 ^ (n + m) := by
  rw [Int.natAbs_mul, Nat.pow_add]
  exact Nat.mul_lt_mul'' ha hb
theorem add_lt {a b : Int} {n : Nat} (ha : a.natAbs < 2 ^ n) (hb : b.natAbs < 2 ^ n) : (a + b).natAbs < 2 ^ (n + 1) := by
  rw [Nat.pow_succ]; omega
theorem sub_lt {a b : Int} {n : Nat} (ha : a.natAbs < 2 ^ n) (hb : b.natAbs < 2 ^ n) : (a - b).natAbs < 2 ^ (n + 1) := by
  rw [Nat.pow_succ]; omega
theorem up_lt {a : Int} {n m : Nat} (h : n ≤ m) (ha : a.natAbs < 2 ^ n) : a.natAbs < 2 ^ m := Nat.lt_of_lt_of_le ha (pw h)
theorem plus_B {a b : T3} {n m : Nat} (oa : Ok a) (ob : Ok b) (ha : B n a) (hb : B m b) : B (n + m + 1) (plus a b) := by
  refine low_B (mul_ne oa.ne ob.ne) (add_lt (mul_lt ha.1 hb.2.2) ?_) (add_lt (mul_lt ha.2.1 hb.2.2) ?_) (up_lt (Nat.le_succ _) (mul_lt ha.2.2 hb.2.2))
  · rw [Nat.add_comm]; exact mul_lt hb.1 ha.2.2
  · rw [Nat.add_comm]; exact mul_lt hb.2.1 ha.2.2
theorem times_B {a b : T3} {n m : Nat} (oa : Ok a) (ob : Ok b) (ha : B n a) (hb : B m b) : B (n + m + 1) (times a b) :=
  low_B (mul_ne oa.ne ob.ne) (sub_lt (mul_lt ha.1 hb.1) (mul_lt ha.2.1 hb.2.1)) (add_lt (mul_lt ha.1 hb.2.1) (mul_lt ha.2.1 hb.1)) (up_lt (Nat.le_succ _) (mul_lt ha.2.2 hb.2.2))
theorem over_B {a : T3} {n : Nat} (h : B n a) : B n (over a) := ⟨h.1, by show (-a.2.1).natAbs < _; rw [Int.natAbs_neg]; exact h.2.1, h.2.2⟩
theorem neg_B {a : T3} {n : Nat} (h : B n a) : B n (neg a) := ⟨by show (-a.1).natAbs < _; rw [Int.natAbs_neg]; exact h.1, by show (-a.2.1).natAbs < _; rw [Int.natAbs_neg]; exact h.2.1, h.2.2⟩
theorem face_B {a : T3} {n : Nat} (h : B n a) (m : Bool) : B n (face a m) := by unfold face; split; exact over_B h; exact h
theorem neg_lt {a : Int} {n : Nat} (h : a.natAbs < 2 ^ n) : (-a).natAbs < 2 ^ n := by rw [Int.natAbs_neg]; exact h
theorem inv_B {a : T3} {n : Nat} (z : Nz a) (h : B n a) : B (n + n + 1) (inv a) :=
  low_B (sq_ne z) (up_lt (Nat.le_succ _) (mul_lt h.1 h.2.2)) (up_lt (Nat.le_succ _) (mul_lt (neg_lt h.2.1) h.2.2)) (add_lt (mul_lt h.1 h.1) (mul_lt h.2.1 h.2.1))
theorem car_B {t s z : T3} {m : Bool} {i j k : Nat} (ot : Ok t) (os : Ok s) (oz : Ok z) (ht : B i t) (hs : B j s) (hz : B k z) : B (i + k + 1 + j + 1) (car t s m z) :=
  plus_B (times_ok ot (face_ok oz m)) os (times_B ot (face_ok oz m) ht (face_B hz m)) hs
/-! ### the divisor by remainders -/
theorem gcd_fmod (a b : Int) : Int.gcd b (a.fmod b) = Int.gcd a b := by
  rw [Int.fmod_def, Int.gcd_sub_mul_left_right, Int.gcd_comm]
theorem fmod_small {a b : Int} (h : b ≠ 0) : (a.fmod b).natAbs < b.natAbs := by
  rw [Int.fmod_eq_emod]
  have h1 := Int.emod_nonneg a h
  have h2 : a % b < (b.natAbs : Int) := Int.emod_lt a h
  split
  · omega
  · have h3 : a % b ≠ 0 := fun e => by
      have := Int.dvd_of_emod_eq_zero e
      simp_all
    omega
theorem gcd_0 (a : Int) : ((Int.gcd a 0 : Nat) : Int) = if a < 0 then -a else a := by
  rw [Int.gcd_zero_right]; split <;> omega
end Mth
namespace Mth
/-! ### copies done several times -/
def ag (c : Cp) : Nat → Cp
  | 0 => still
  | n + 1 => jn (ag c n) c
theorem ag_ok {c : Cp} (h : CpOk c) : ∀ n, CpOk (ag c n)
  | 0 => still_ok
  | n + 1 => jn_ok (ag_ok h n) h
theorem ag_add {c : Cp} (h : CpOk c) (n : Nat) : ∀ m, ag c (n + m) = jn (ag c n) (ag c m)
  | 0 => (jn_still (ag_ok h n)).symm
  | m + 1 => by
    show jn (ag c (n + m)) c = jn (ag c n) (jn (ag c m) c)
    rw [ag_add h n m, jn_assoc (ag_ok h n) (ag_ok h m) h]
theorem ag_one {c : Cp} (h : CpOk c) : ag c 1 = c := still_jn h
theorem ag_comm {c : Cp} (h : CpOk c) (n : Nat) : jn c (ag c n) = jn (ag c n) c := by
  have e1 := ag_add h 1 n
  rw [ag_one h, Nat.add_comm] at e1
  exact e1.symm
theorem ag_mul {c : Cp} (h : CpOk c) (n : Nat) : ∀ m, ag c (n * m) = ag (ag c n) m
  | 0 => rfl
  | m + 1 => by
    show ag c (n * m + n) = jn (ag (ag c n) m) (ag c n)
    rw [ag_add h, ag_mul h n m]
theorem bk_ag {c : Cp} (h : CpOk c) : ∀ n, bk (ag c n) = ag (bk c) n
  | 0 => bk_still
  | n + 1 => by
    show bk (jn (ag c n) c) = jn (ag (bk c) n) (bk c)
    rw [bk_jn_eq (ag_ok h n) h, bk_ag h n, ag_comm (bk_ok h)]
theorem jn_l {a b c : Cp} (ha : CpOk a) (hb : CpOk b) (hc : CpOk c) (e : jn a b = jn a c) : b = c := by
  have q := congrArg (jn (bk a)) e
  rw [← jn_assoc (bk_ok ha) ha hb, ← jn_assoc (bk_ok ha) ha hc, bk_jn ha, still_jn hb, still_jn hc] at q
  exact q
theorem bk_still_iff {a : Cp} (ha : CpOk a) : bk a = still ↔ a = still := ⟨fun e => by have q := congrArg bk e; rw [bk_bk ha, bk_still] at q; exact q, fun e => by rw [e, bk_still]⟩
/-- seen from elsewhere -/
def cj (o c : Cp) : Cp := jn (jn (bk o) c) o
theorem cj_ok {o c : Cp} (ho : CpOk o) (hc : CpOk c) : CpOk (cj o c) := jn_ok (jn_ok (bk_ok ho) hc) ho
theorem cj_jn {o a b : Cp} (ho : CpOk o) (ha : CpOk a) (hb : CpOk b) : jn (cj o a) (cj o b) = cj o (jn a b) := by
  have hbo := bk_ok ho
  unfold cj
  rw [jn_assoc (jn_ok hbo ha) ho (jn_ok (jn_ok hbo hb) ho), jn_assoc hbo hb ho, ← jn_assoc ho hbo (jn_ok hb ho), jn_bk ho, still_jn (jn_ok hb ho),
    jn_assoc hbo ha (jn_ok hb ho), ← jn_assoc ha hb ho, jn_assoc hbo (jn_ok ha hb) ho]
theorem cj_still {o : Cp} (ho : CpOk o) : cj o still = still := by
  unfold cj; rw [jn_still (bk_ok ho), bk_jn ho]
theorem cj_ag {o c : Cp} (ho : CpOk o) (hc : CpOk c) : ∀ n, ag (cj o c) n = cj o (ag c n)
  | 0 => (cj_still ho).symm
  | n + 1 => by
    show jn (ag (cj o c) n) (cj o c) = cj o (jn (ag c n) c)
    rw [cj_ag ho hc n, cj_jn ho (ag_ok hc n) hc]
theorem cj_iff {o c : Cp} (ho : CpOk o) (hc : CpOk c) : cj o c = still ↔ c = still := by
  refine ⟨fun e => ?_, fun e => by rw [e, cj_still ho]⟩
  have q := congrArg (fun z => jn (jn o z) (bk o)) e
  unfold cj at q
  have hbo := bk_ok ho
  rw [jn_assoc hbo hc ho, ← jn_assoc ho hbo (jn_ok hc ho), jn_bk ho, still_jn (jn_ok hc ho), jn_assoc hc ho hbo, jn_bk ho, jn_still hc, jn_still ho, jn_bk ho] at q
  exact q
/-- the times as the program has them -/
def stp (c : Cp) (n : Int) : Cp := if 0 ≤ n then c else bk c
def agz (c : Cp) (n : Int) : Cp := ag (stp c n) n.natAbs
theorem stp_ok {c : Cp} (h : CpOk c) (n : Int) : CpOk (stp c n) := by unfold stp; split; exact h; exact bk_ok h
theorem agz_ok {c : Cp} (h : CpOk c) (n : Int) : CpOk (agz c n) := ag_ok (stp_ok h n) _
/-! ### the first time at which all is as it was -/
def At (c : Cp) (n : Nat) : Prop := ag c n = still
/-- the turns alone -/
def tn (t : T3) (m : Bool) : Nat → T3
  | 0 => (1, 0, 1)
  | n + 1 => times t (face (tn t m n) m)
theorem ag_t (c : Cp) : ∀ n, (ag c n).t = tn c.t c.m n
  | 0 => rfl
  | n + 1 => by
    show times c.t (face (ag c n).t c.m) = times c.t (face (tn c.t c.m n) c.m)
    rw [ag_t c n]
theorem ag_m (c : Cp) : ∀ n, (ag c n).m = (c.m && (n % 2 == 1))
  | 0 => by show false = _; simp
  | n + 1 => by
    show ((ag c n).m != c.m) = _
    rw [ag_m c n]
    rcases Nat.mod_two_eq_zero_or_one n with h | h
    · have h' : (n + 1) % 2 = 1 := by omega
      rw [h, h']; cases c.m <;> rfl
    · have h' : (n + 1) % 2 = 0 := by omega
      rw [h, h']; cases c.m <;> rfl
/-- only a shift: k times it is still none but if the shift is none -/
theorem shift_only {c : Cp} (h : CpOk c) (ht : c.t = (1, 0, 1)) (hm : c.m = false) : ∀ n : Nat, re (ag c n).s = (n : Rat) * re c.s ∧ im (ag c n).s = (n : Rat) * im c.s
  | 0 => by
    refine ⟨?_, ?_⟩
    · show re (0, 0, 1) = _; rw [re_0]; simp
    · show im (0, 0, 1) = _; rw [im_0]; simp
  | n + 1 => by
    obtain ⟨h1, h2⟩ := shift_only h ht hm n
    have e1 : re (ag c (n + 1)).s = _ := re_js (ag_ok h n) h
    have e2 : im (ag c (n + 1)).s = _ := im_js (ag_ok h n) h
    rw [ht, hm, re_1, im_1, h1] at e1
    rw [ht, hm, re_1, im_1, h2] at e2
    have ec : ((n + 1 : Nat) : Rat) = (n : Rat) + 1 := by simp
    rw [e1, e2, ec]
    refine ⟨?_, ?_⟩
    · simp; grind
    · simp; grind
theorem shift_still {c : Cp} (h : CpOk c) (ht : c.t = (1, 0, 1)) (hm : c.m = false) {n : Nat} (hn : 0 < n) (e : ag c n = still) : c = still := by
  obtain ⟨h1, h2⟩ := shift_only h ht hm n
  rw [e] at h1 h2
  have n0 : (n : Rat) ≠ 0 := by
    have : ((n : Int) : Rat) ≠ 0 := cast_ne (by omega)
    simpa using this
  have z1 : re c.s = 0 := by
    have : re still.s = 0 := re_0
    rw [this] at h1
    grind
  have z2 : im c.s = 0 := by
    have : im still.s = 0 := im_0
    rw [this] at h2
    grind
  refine cp_ext h still_ok ?_ ?_ ?_ ?_ hm
  · rw [ht]; rfl
  · rw [ht]; rfl
  · rw [z1]; exact re_0.symm
  · rw [z2]; exact im_0.symm
theorem at_half {c : Cp} (h : CpOk c) (ht : c.t = (-1, 0, 1)) (hm : c.m = false) : ag c 2 = still := by
  have e : ag c 2 = jn c c := by
    show jn (jn still c) c = _
    rw [still_jn h]
  have r : re (-1, 0, 1) = -1 := by unfold re; decide +kernel
  have i : im (-1, 0, 1) = 0 := by unfold im; decide +kernel
  rw [e]
  refine cp_ext (jn_ok h h) still_ok ?_ ?_ ?_ ?_ ?_
  · rw [re_jt h h, ht, hm, r, i]; show _ = re (1, 0, 1); rw [re_1]; simp; grind
  · rw [im_jt h h, ht, hm, r, i]; show _ = im (1, 0, 1); rw [im_1]; simp; grind
  · rw [re_js h h, ht, hm, r, i]; show _ = re (0, 0, 1); rw [re_0]; simp; grind
  · rw [im_js h h, ht, hm, r, i]; show _ = im (0, 0, 1); rw [im_0]; simp; grind
  · rw [jn_m, hm]; rfl
def turns13 : List T3 := [(1, 0, 1), (-1, 0, 1), (0, 1, 1), (0, -1, 1), (2, 0, 1), (1, 0, 2), (1, 1, 1), (3, 4, 5), (0, 2, 1), (-1, 0, 3), (1, -1, 2), (2, 1, 1), (-4, 3, 5)]
theorem turns_cases : ∀ t ∈ turns13, ∀ m ∈ [false, true], (t = (1, 0, 1) ∧ m = false) ∨ (t = (-1, 0, 1) ∧ m = false) ∨ (tn t m 2 = (-1, 0, 1) ∧ m = false ∧ ∀ n ∈ [1, 2, 3], tn t m n ≠ (1, 0, 1)) ∨ (tn t m 2 = (1, 0, 1) ∧ m = true) ∨
    (∀ n ∈ [1, 2, 3, 4, 5, 6, 7, 8, 9, 10, 11, 12], tn t m n ≠ (1, 0, 1) ∨ (m = true ∧ n % 2 = 1)) := by decide +kernel
theorem first_of {c : Cp} (h : CpOk c) (ht : c.t ∈ turns13) {n : Nat} (n1 : 1 ≤ n) (n12 : n ≤ 12) (e : ag c n = still) : ag c 1 = still ∨ (2 ≤ n ∧ ag c 2 = still) ∨ (4 ≤ n ∧ ag c 4 = still) := by
  have et : tn c.t c.m n = (1, 0, 1) := by rw [← ag_t, e]; rfl
  have em : (c.m && (n % 2 == 1)) = false := by rw [← ag_m, e]; rfl
  rcases turns_cases c.t ht c.m (by cases c.m <;> simp) with ⟨h1, h2⟩ | ⟨h1, h2⟩ | ⟨h1, h2, h3⟩ | ⟨h1, h2⟩ | h1
  · left
    rw [ag_one h]
    exact shift_still h h1 h2 n1 e
  · right; left
    refine ⟨?_, at_half h h1 h2⟩
    rcases Nat.lt_or_ge n 2 with z | z
    · have : n = 1 := by omega
      subst this
      rw [ag_one h] at e
      rw [e] at h1
      exact absurd h1 (by decide)
    · exact z
  · right; right
    refine ⟨?_, ?_⟩
    · rcases Nat.lt_or_ge n 4 with z | z
      · exact absurd et (h3 n (by simp; omega))
      · exact z
    · show ag c (2 * 2) = still
      rw [ag_mul h]
      exact at_half (ag_ok h 2) (by rw [ag_t]; exact h1) (by rw [ag_m, h2]; rfl)
  · right; left
    rw [h2] at em
    have ev : n % 2 = 0 := by
      rcases Nat.mod_two_eq_zero_or_one n with z | z
      · exact z
      · rw [z] at em; simp at em
    refine ⟨by omega, ?_⟩
    obtain ⟨k, rfl⟩ : ∃ k, n = 2 * k := ⟨n / 2, by omega⟩
    rw [ag_mul h] at e
    refine shift_still (ag_ok h 2) (by rw [ag_t]; exact h1) (by rw [ag_m]; simp) (by omega) e
  · exfalso
    rcases h1 n (by simp; omega) with z | ⟨z1, z2⟩
    · exact z et
    · rw [z1, z2] at em; simp at em
/-! ### the order as the program finds it -/
def ord (c : Cp) : Option Nat := if ag c 1 = still then some 1 else if ag c 2 = still then some 2 else if ag c 4 = still then some 4 else none
theorem ord_congr {a b : Cp} (h : ∀ n, ag a n = still ↔ ag b n = still) : ord a = ord b := by
  unfold ord
  simp only [h]
theorem ord_bk {c : Cp} (h : CpOk c) : ord (bk c) = ord c := ord_congr fun n => by rw [← bk_ag h, bk_still_iff (ag_ok h n)]
theorem ord_cj {o c : Cp} (ho : CpOk o) (h : CpOk c) : ord (cj o c) = ord c := ord_congr fun n => by rw [cj_ag ho h, cj_iff ho (ag_ok h n)]
/-- the first one of 1 .. i -/
def due (c : Cp) : Nat → Option Nat
  | 0 => none
  | n + 1 => if due c n = none ∧ ag c (n + 1) = still then some (n + 1) else due c n
theorem due_eq {c : Cp} (h : CpOk c) (ht : c.t ∈ turns13) : due c 12 = ord c := by
  have P := fun n n1 n12 e => first_of (n := n) h ht n1 n12 e
  have s1 : due c 1 = if ag c 1 = still then some 1 else none := by simp [due]
  by_cases h1 : ag c 1 = still
  · have k : ∀ n, due c (n + 1) = some 1 := fun n => by
      induction n with
      | zero => rw [s1, if_pos h1]
      | succ n ih => simp [due] at ih ⊢; simp [ih]
    rw [k 11]
    unfold ord
    rw [if_pos h1]
  · have d1 : due c 1 = none := by rw [s1, if_neg h1]
    by_cases h2 : ag c 2 = still
    · have k : ∀ n, due c (n + 2) = some 2 := fun n => by
        induction n with
        | zero => show (if due c 1 = none ∧ ag c 2 = still then some 2 else due c 1) = _; rw [if_pos ⟨d1, h2⟩]
        | succ n ih => show (if due c (n + 2) = none ∧ ag c (n + 3) = still then some (n + 3) else due c (n + 2)) = _; rw [ih]; simp
      rw [k 10]
      unfold ord
      rw [if_neg h1, if_pos h2]
    · have d2 : due c 2 = none := by show (if due c 1 = none ∧ ag c 2 = still then some 2 else due c 1) = _; rw [if_neg (fun z => h2 z.2), d1]
      have n3 : ag c 3 ≠ still := fun e => by
        rcases P 3 (by decide) (by decide) e with z | ⟨_, z⟩ | ⟨z, _⟩
        · exact h1 z
        · exact h2 z
        · omega
      have d3 : due c 3 = none := by show (if due c 2 = none ∧ ag c 3 = still then some 3 else due c 2) = _; rw [if_neg (fun z => n3 z.2), d2]
      by_cases h4 : ag c 4 = still
      · have k : ∀ n, due c (n + 4) = some 4 := fun n => by
          induction n with
          | zero => show (if due c 3 = none ∧ ag c 4 = still then some 4 else due c 3) = _; rw [if_pos ⟨d3, h4⟩]
          | succ n ih => show (if due c (n + 4) = none ∧ ag c (n + 5) = still then some (n + 5) else due c (n + 4)) = _; rw [ih]; simp
        rw [k 8]
        unfold ord
        rw [if_neg h1, if_neg h2, if_pos h4]
      · have k : ∀ n, n ≤ 12 → due c n = none := fun n => by
          induction n with
          | zero => intro _; rfl
          | succ n ih =>
            intro hn
            have nn : ag c (n + 1) ≠ still := fun e => by
              rcases P (n + 1) (by omega) hn e with z | ⟨_, z⟩ | ⟨_, z⟩
              · exact h1 z
              · exact h2 z
              · exact h4 z
            show (if due c n = none ∧ ag c (n + 1) = still then some (n + 1) else due c n) = _
            rw [if_neg (fun z => nn z.2)]
            exact ih (by omega)
        rw [k 12 (by decide)]
        unfold ord
        rw [if_neg h1, if_neg h2, if_neg h4]
end Mth
namespace Mth
/-! ### lines a * x + b * y = c, and what satisfies rows of them -/
def sgl (a b c : Int) : Int := if a < 0 ∨ (a = 0 ∧ b < 0) then -(g3 a b c) else g3 a b c
def lf (r : T3) : T3 := (r.1.fdiv (sgl r.1 r.2.1 r.2.2), r.2.1.fdiv (sgl r.1 r.2.1 r.2.2), r.2.2.fdiv (sgl r.1 r.2.1 r.2.2))
def on (l z : T3) : Prop := l.1 * z.1 + l.2.1 * z.2.1 = l.2.2 * z.2.2
instance (l z : T3) : Decidable (on l z) := inferInstanceAs (Decidable (_ = _))
theorem g3_pos' {a b c : Int} (h : a ≠ 0 ∨ b ≠ 0) : 0 < g3 a b c := by
  unfold g3
  have h1 : 0 < Int.gcd a b := by
    rcases h with h | h
    · exact Int.gcd_pos_of_ne_zero_left _ h
    · exact Int.gcd_pos_of_ne_zero_right _ h
  have h2 : 0 < Int.gcd ((Int.gcd a b : Nat) : Int) c := Int.gcd_pos_of_ne_zero_left _ (by omega)
  omega
theorem sgl_of {a b c : Int} : sgl a b c = g3 a b c ∨ sgl a b c = -g3 a b c := by unfold sgl; split <;> simp
theorem sgl_ne {a b c : Int} (h : a ≠ 0 ∨ b ≠ 0) : sgl a b c ≠ 0 := by
  have := g3_pos' (c := c) h
  rcases @sgl_of a b c with e | e <;> omega
theorem sgl_d1 {a b c : Int} : sgl a b c ∣ a := by rcases @sgl_of a b c with h | h <;> rw [h]; exact g3_dx; exact Int.neg_dvd.mpr g3_dx
theorem sgl_d2 {a b c : Int} : sgl a b c ∣ b := by rcases @sgl_of a b c with h | h <;> rw [h]; exact g3_dy; exact Int.neg_dvd.mpr g3_dy
theorem sgl_d3 {a b c : Int} : sgl a b c ∣ c := by rcases @sgl_of a b c with h | h <;> rw [h]; exact g3_dd; exact Int.neg_dvd.mpr g3_dd
theorem lf_mul (r : T3) : r.1 = sgl r.1 r.2.1 r.2.2 * (lf r).1 ∧ r.2.1 = sgl r.1 r.2.1 r.2.2 * (lf r).2.1 ∧ r.2.2 = sgl r.1 r.2.1 r.2.2 * (lf r).2.2 := by
  unfold lf
  refine ⟨?_, ?_, ?_⟩ <;> dsimp only
  · rw [Int.fdiv_eq_ediv_of_dvd sgl_d1]; exact (Int.mul_ediv_cancel' sgl_d1).symm
  · rw [Int.fdiv_eq_ediv_of_dvd sgl_d2]; exact (Int.mul_ediv_cancel' sgl_d2).symm
  · rw [Int.fdiv_eq_ediv_of_dvd sgl_d3]; exact (Int.mul_ediv_cancel' sgl_d3).symm
/-- a line in its only form -/
structure Ln (l : T3) : Prop where
  g : g3 l.1 l.2.1 l.2.2 = 1
  s : 0 < l.1 ∨ (l.1 = 0 ∧ 0 < l.2.1)
theorem lf_ln {r : T3} (h : r.1 ≠ 0 ∨ r.2.1 ≠ 0) : Ln (lf r) := by
  obtain ⟨h1, h2, h3⟩ := lf_mul r
  have hs := sgl_ne (c := r.2.2) h
  have hg := g3_pos' (c := r.2.2) h
  have sdef : sgl r.1 r.2.1 r.2.2 = if r.1 < 0 ∨ (r.1 = 0 ∧ r.2.1 < 0) then -(g3 r.1 r.2.1 r.2.2) else g3 r.1 r.2.1 r.2.2 := rfl
  have so := @sgl_of r.1 r.2.1 r.2.2
  generalize hx : (lf r).1 = x at *
  generalize hy : (lf r).2.1 = y at *
  generalize hz : (lf r).2.2 = z at *
  generalize sgl r.1 r.2.1 r.2.2 = g at *
  generalize hG : g3 r.1 r.2.1 r.2.2 = G at *
  have sgn : ∀ u v : Int, u = g * v → 0 < G → (g = G → (0 < u → 0 < v) ∧ (u = 0 → v = 0)) ∧ (g = -G → (u < 0 → 0 < v) ∧ (u = 0 → v = 0)) := by
    intro u v e hG
    refine ⟨fun eg => ⟨fun hu => ?_, fun hu => ?_⟩, fun eg => ⟨fun hu => ?_, fun hu => ?_⟩⟩
    · rcases Int.lt_trichotomy v 0 with z | z | z
      · have : g * v < 0 := Int.mul_neg_of_pos_of_neg (by omega) z
        omega
      · subst z; simp at e; omega
      · exact z
    · rw [hu] at e; exact (Int.mul_eq_zero.mp e.symm).resolve_left hs
    · rcases Int.lt_trichotomy v 0 with z | z | z
      · have : 0 < g * v := Int.mul_pos_of_neg_of_neg (by omega) z
        omega
      · subst z; simp at e; omega
      · exact z
    · rw [hu] at e; exact (Int.mul_eq_zero.mp e.symm).resolve_left hs
  refine ⟨?_, ?_⟩
  · rw [hx, hy, hz]
    have k1 : g * g3 x y z ∣ r.1 := by
      obtain ⟨u, hu⟩ := @g3_dx x y z
      exact ⟨u, by rw [Int.mul_assoc, ← hu, ← h1]⟩
    have k2 : g * g3 x y z ∣ r.2.1 := by
      obtain ⟨u, hu⟩ := @g3_dy x y z
      exact ⟨u, by rw [Int.mul_assoc, ← hu, ← h2]⟩
    have k3 : g * g3 x y z ∣ r.2.2 := by
      obtain ⟨u, hu⟩ := @g3_dd x y z
      exact ⟨u, by rw [Int.mul_assoc, ← hu, ← h3]⟩
    have k := g3_great k1 k2 k3
    rw [hG] at k
    have k' : g * g3 x y z ∣ g := by
      rcases so with e | e
      · rw [e] at k ⊢; exact k
      · rw [e]; rw [e] at k; exact (Int.dvd_neg).mpr k
    obtain ⟨u, hu⟩ := k'
    have e : g3 x y z * u = 1 := by
      have : g * (g3 x y z * u) = g * 1 := by rw [← Int.mul_assoc, ← hu, Int.mul_one]
      exact Int.eq_of_mul_eq_mul_left hs this
    have nn : 0 ≤ g3 x y z := by unfold g3; omega
    exact Int.eq_one_of_dvd_one nn ⟨u, e.symm⟩
  · rw [hx, hy]
    by_cases c : r.1 < 0 ∨ (r.1 = 0 ∧ r.2.1 < 0)
    · rw [if_pos c] at sdef
      have a1 := (sgn r.1 x h1 hg).2 sdef
      have a2 := (sgn r.2.1 y h2 hg).2 sdef
      rcases c with c | ⟨c1, c2⟩
      · exact .inl (a1.1 c)
      · exact .inr ⟨a1.2 c1, a2.1 c2⟩
    · rw [if_neg c] at sdef
      have a1 := (sgn r.1 x h1 hg).1 sdef
      have a2 := (sgn r.2.1 y h2 hg).1 sdef
      rcases Int.lt_trichotomy r.1 0 with z1 | z1 | z1
      · exact absurd (.inl z1) c
      · rcases Int.lt_trichotomy r.2.1 0 with z2 | z2 | z2
        · exact absurd (.inr ⟨z1, z2⟩) c
        · omega
        · exact .inr ⟨a1.2 z1, a2.1 z2⟩
      · exact .inl (a1.1 z1)
theorem lf_on {r : T3} (h : r.1 ≠ 0 ∨ r.2.1 ≠ 0) (z : T3) : on (lf r) z ↔ on r z := by
  obtain ⟨h1, h2, h3⟩ := lf_mul r
  have hs := sgl_ne (c := r.2.2) h
  unfold on
  generalize sgl r.1 r.2.1 r.2.2 = g at *
  refine ⟨fun e => ?_, fun e => ?_⟩
  · rw [h1, h2, h3]
    have : g * ((lf r).1 * z.1 + (lf r).2.1 * z.2.1) = g * ((lf r).2.2 * z.2.2) := by rw [e]
    grind
  · have : g * ((lf r).1 * z.1 + (lf r).2.1 * z.2.1) = g * ((lf r).2.2 * z.2.2) := by
      rw [h1, h2, h3] at e
      grind
    exact Int.eq_of_mul_eq_mul_left hs this
theorem on_iff {l z : T3} (hz : Ok z) : on l z ↔ (l.1 : Rat) * re z + (l.2.1 : Rat) * im z = (l.2.2 : Rat) := by
  have d := cast_ne hz.ne
  unfold on re im
  rw [← Rat.intCast_inj]
  simp only [Rat.intCast_add, Rat.intCast_mul]
  refine ⟨fun e => ?_, fun e => ?_⟩ <;> grind
theorem dvd3 {k m x y z : Int} (h1 : k ∣ x * m) (h2 : k ∣ y * m) (h3 : k ∣ z * m) (g : g3 x y z = 1) : k ∣ m := by
  have c := Int.dvd_coe_gcd h1 h2
  rw [Int.gcd_mul_right] at c
  have c' : k ∣ ((Int.gcd x y : Nat) : Int) * ((m.natAbs : Nat) : Int) := by rw [← Int.natCast_mul]; exact c
  have d : k ∣ z * ((m.natAbs : Nat) : Int) := by
    rcases Int.natAbs_eq m with e | e
    · rw [← e]; exact h3
    · have : ((m.natAbs : Nat) : Int) = -m := by omega
      rw [this, Int.mul_neg]; exact (Int.dvd_neg).mpr h3
  have e := Int.dvd_coe_gcd c' d
  rw [Int.gcd_mul_right] at e
  unfold g3 at g
  have g' : Int.gcd ((Int.gcd x y : Nat) : Int) z = 1 := by omega
  rw [g', Nat.one_mul, Int.natAbs_natCast] at e
  exact Int.dvd_natAbs.mp e
theorem ln_same {l m z : T3} (hl : Ln l) (hm : Ln m) (hz : Ok z) (p : l.1 * m.2.1 = m.1 * l.2.1) (h1 : on l z) (h2 : on m z) : l = m := by
  have dz := hz.ne
  unfold on at h1 h2
  obtain ⟨a, b, c⟩ := l
  obtain ⟨u, v, w⟩ := m
  obtain ⟨x, y, d⟩ := z
  have sl := hl.s
  have sm := hm.s
  have gl := hl.g
  have gm := hm.g
  dsimp only at *
  have e1 : a * w = u * c := by
    have : d * (a * w) = d * (u * c) := by grind
    exact Int.eq_of_mul_eq_mul_left dz this
  have e2 : b * w = v * c := by
    have : d * (b * w) = d * (v * c) := by grind
    exact Int.eq_of_mul_eq_mul_left dz this
  by_cases a0 : a = 0
  · subst a0
    have b0 : 0 < b := by omega
    have u0 : u = 0 := by
      have : u * b = 0 := by rw [← p]; simp
      exact (Int.mul_eq_zero.mp this).resolve_right (by omega)
    subst u0
    have v0 : 0 < v := by omega
    have d1 : b ∣ v := dvd3 (x := 0) (y := b) (z := c) (by simp) ⟨v, rfl⟩ ⟨w, by grind⟩ gl
    have d2 : v ∣ b := dvd3 (x := 0) (y := v) (z := w) (by simp) ⟨b, rfl⟩ ⟨c, by grind⟩ gm
    have eb : b = v := Int.le_antisymm (Int.le_of_dvd v0 d1) (Int.le_of_dvd b0 d2)
    subst eb
    have : w = c := Int.eq_of_mul_eq_mul_left (by omega) e2
    rw [this]
  · have a1 : 0 < a := by omega
    have u1 : 0 < u := by
      rcases sm with h | ⟨h, _⟩
      · exact h
      · exfalso
        subst h
        have : a * v = 0 := by rw [p]; simp
        have v0 := (Int.mul_eq_zero.mp this).resolve_left a0
        omega
    have d1 : a ∣ u := dvd3 (x := a) (y := b) (z := c) ⟨u, rfl⟩ ⟨v, by grind⟩ ⟨w, by grind⟩ gl
    have d2 : u ∣ a := dvd3 (x := u) (y := v) (z := w) ⟨a, rfl⟩ ⟨b, by grind⟩ ⟨c, by grind⟩ gm
    have ea : a = u := Int.le_antisymm (Int.le_of_dvd u1 d1) (Int.le_of_dvd a1 d2)
    subst ea
    have : v = b := Int.eq_of_mul_eq_mul_left a0 (by grind)
    have : w = c := Int.eq_of_mul_eq_mul_left a0 (by grind)
    simp_all
def cross (l m : T3) : T3 := low (l.2.2 * m.2.1 - m.2.2 * l.2.1) (l.1 * m.2.2 - m.1 * l.2.2) (l.1 * m.2.1 - m.1 * l.2.1)
theorem cross_iff {l m z : T3} (hz : Ok z) (d : l.1 * m.2.1 ≠ m.1 * l.2.1) : (on l z ∧ on m z) ↔ z = cross l m := by
  have dn : l.1 * m.2.1 - m.1 * l.2.1 ≠ 0 := by omega
  have oc : Ok (cross l m) := low_ok dn
  have r : re (cross l m) = ((l.2.2 * m.2.1 - m.2.2 * l.2.1 : Int) : Rat) / ((l.1 * m.2.1 - m.1 * l.2.1 : Int) : Rat) := low_re dn
  have i : im (cross l m) = ((l.1 * m.2.2 - m.1 * l.2.2 : Int) : Rat) / ((l.1 * m.2.1 - m.1 * l.2.1 : Int) : Rat) := low_im dn
  have dq := cast_ne dn
  simp only [Rat.intCast_sub, Rat.intCast_mul] at r i dq
  refine ⟨fun ⟨h1, h2⟩ => ?_, fun e => ?_⟩
  · rw [on_iff hz] at h1 h2
    refine ext hz oc ?_ ?_
    · rw [r]; grind
    · rw [i]; grind
  · rw [e, on_iff oc, on_iff oc, r, i]
    refine ⟨?_, ?_⟩ <;> grind
/-! ### what satisfies all rows -/
inductive KS where
  | all | none | spot (s : T3) | line (l : T3)
def Mem : KS → T3 → Prop
  | .all, _ => True
  | .none, _ => False
  | .spot s, z => z = s
  | .line l, z => on l z
def bad (r : T3) : Bool := decide (r.1 = 0) && (decide (r.2.1 = 0) && !decide (r.2.2 = 0))
def nz2 (r : T3) : Bool := !decide (r.1 = 0) || !decide (r.2.1 = 0)
def solL : List T3 → KS
  | [] => .all
  | f :: ls => match (f :: ls).filter (fun l => !decide (l = f)) with
    | [] => .line f
    | o :: _ => if f.1 * o.2.1 = o.1 * f.2.1 then .none else if (f :: ls).all (fun l => decide (on l (cross f o))) = true then .spot (cross f o) else .none
def sol (rows : List T3) : KS := if rows.any bad = true then .none else solL ((rows.filter nz2).map lf)
theorem sol_mem (rows : List T3) {z : T3} (hz : Ok z) : Mem (sol rows) z ↔ ∀ r ∈ rows, on r z := by
  unfold sol
  by_cases hb : rows.any bad = true
  · rw [if_pos hb]
    refine ⟨fun h => h.elim, fun h => ?_⟩
    obtain ⟨r, hr, b⟩ := List.any_eq_true.mp hb
    have o := h r hr
    unfold bad at b
    simp at b
    unfold on at o
    rw [b.1, b.2.1] at o
    have o' : r.2.2 * z.2.2 = 0 := by rw [← o]; simp
    rcases Int.mul_eq_zero.mp o' with o | o
    · exact absurd o b.2.2
    · exact absurd o hz.ne
  · rw [if_neg hb]
    have key : (∀ r ∈ rows, on r z) ↔ ∀ l ∈ (rows.filter nz2).map lf, on l z := by
      refine ⟨fun h l hl => ?_, fun h r hr => ?_⟩
      · obtain ⟨r, hr, rfl⟩ := List.mem_map.mp hl
        obtain ⟨hr1, hr2⟩ := List.mem_filter.mp hr
        have n : r.1 ≠ 0 ∨ r.2.1 ≠ 0 := by unfold nz2 at hr2; simpa using hr2
        exact (lf_on n z).mpr (h r hr1)
      · by_cases n : nz2 r = true
        · have n' : r.1 ≠ 0 ∨ r.2.1 ≠ 0 := by unfold nz2 at n; simpa using n
          exact (lf_on n' z).mp (h _ (List.mem_map.mpr ⟨r, List.mem_filter.mpr ⟨hr, n⟩, rfl⟩))
        · unfold nz2 at n
          simp at n
          have nb : bad r = false := by
            cases e : bad r with
            | false => rfl
            | true => exact absurd (List.any_eq_true.mpr ⟨r, hr, e⟩) hb
          unfold bad at nb
          simp [n.1, n.2] at nb
          unfold on
          rw [n.1, n.2, nb]
          simp
    have lns : ∀ l ∈ (rows.filter nz2).map lf, Ln l := fun l hl => by
      obtain ⟨r, hr, rfl⟩ := List.mem_map.mp hl
      obtain ⟨hr1, hr2⟩ := List.mem_filter.mp hr
      exact lf_ln (by unfold nz2 at hr2; simpa using hr2)
    rw [key]
    generalize (rows.filter nz2).map lf = ls at *
    cases ls with
    | nil => simp [solL, Mem]
    | cons f ls =>
      unfold solL
      dsimp only
      cases ho : (f :: ls).filter (fun l => !decide (l = f)) with
      | nil =>
        dsimp only
        show on f z ↔ _
        refine ⟨fun h l hl => ?_, fun h => h f (List.mem_cons_self ..)⟩
        have := List.filter_eq_nil_iff.mp ho l hl
        simp at this
        rw [this]; exact h
      | cons o os =>
        dsimp only
        have om : o ∈ (f :: ls).filter (fun l => !decide (l = f)) := by rw [ho]; exact List.mem_cons_self ..
        obtain ⟨om1, om2⟩ := List.mem_filter.mp om
        have one : o ≠ f := by simpa using om2
        have fm : f ∈ f :: ls := List.mem_cons_self ..
        by_cases p : f.1 * o.2.1 = o.1 * f.2.1
        · rw [if_pos p]
          refine ⟨fun h => h.elim, fun h => ?_⟩
          exact one (ln_same (lns f fm) (lns o om1) hz p (h f fm) (h o om1)).symm
        · rw [if_neg p]
          have ci := cross_iff hz p
          by_cases q : (f :: ls).all (fun l => decide (on l (cross f o))) = true
          · rw [if_pos q]
            show z = _ ↔ _
            refine ⟨fun e l hl => ?_, fun h => ci.mp ⟨h f fm, h o om1⟩⟩
            rw [e]
            exact of_decide_eq_true (List.all_eq_true.mp q l hl)
          · rw [if_neg q]
            refine ⟨fun h => h.elim, fun h => ?_⟩
            have e := ci.mp ⟨h f fm, h o om1⟩
            refine q (List.all_eq_true.mpr fun l hl => ?_)
            rw [← e]
            exact decide_eq_true (h l hl)
/-- the form of what is told -/
def KOk : KS → Prop
  | .spot s => Ok s
  | .line l => Ln l
  | _ => True
theorem sol_ok (rows : List T3) : KOk (sol rows) := by
  unfold sol
  split
  · trivial
  · have lns : ∀ l ∈ (rows.filter nz2).map lf, Ln l := fun l hl => by
      obtain ⟨r, hr, rfl⟩ := List.mem_map.mp hl
      obtain ⟨hr1, hr2⟩ := List.mem_filter.mp hr
      exact lf_ln (by unfold nz2 at hr2; simpa using hr2)
    generalize (rows.filter nz2).map lf = ls at *
    cases ls with
    | nil => trivial
    | cons f ls =>
      unfold solL
      dsimp only
      cases (f :: ls).filter (fun l => !decide (l = f)) with
      | nil => exact lns f (List.mem_cons_self ..)
      | cons o os =>
        dsimp only
        split
        · trivial
        · rename_i p
          split
          · exact low_ok (by omega)
          · trivial
/-! ### where two copies meet -/
def minus (a b : T3) : T3 := plus a (neg b)
def gap (a b : Cp) (z : T3) : T3 := minus (ap a z) (ap b z)
def eqs (R U G : T3) : List T3 := [(R.1 * U.2.2 * G.2.2, U.1 * R.2.2 * G.2.2, G.1 * R.2.2 * U.2.2), (R.2.1 * U.2.2 * G.2.2, U.2.1 * R.2.2 * G.2.2, G.2.1 * R.2.2 * U.2.2)]
def meet (a b : Cp) : KS := sol (eqs (minus (gap a b (1, 0, 1)) (gap a b (0, 0, 1))) (minus (gap a b (0, 1, 1)) (gap a b (0, 0, 1))) (neg (gap a b (0, 0, 1))))
theorem minus_ok {a b : T3} (ha : Ok a) (hb : Ok b) : Ok (minus a b) := plus_ok ha (neg_ok hb)
theorem re_minus {a b : T3} (ha : Ok a) (hb : Ok b) : re (minus a b) = re a - re b := by unfold minus; rw [re_plus ha (neg_ok hb), re_neg]; grind
theorem im_minus {a b : T3} (ha : Ok a) (hb : Ok b) : im (minus a b) = im a - im b := by unfold minus; rw [im_plus ha (neg_ok hb), im_neg]; grind
theorem eqs_iff {R U G z : T3} (hR : Ok R) (hU : Ok U) (hG : Ok G) (hz : Ok z) : (∀ r ∈ eqs R U G, on r z) ↔ (re R * re z + re U * im z = re G ∧ im R * re z + im U * im z = im G) := by
  have r0 := cast_ne hR.ne
  have u0 := cast_ne hU.ne
  have g0 := cast_ne hG.ne
  have h : ∀ r1 u1 g1 : Int, on (r1 * U.2.2 * G.2.2, u1 * R.2.2 * G.2.2, g1 * R.2.2 * U.2.2) z ↔ (r1 : Rat) / (R.2.2 : Rat) * re z + (u1 : Rat) / (U.2.2 : Rat) * im z = (g1 : Rat) / (G.2.2 : Rat) := fun r1 u1 g1 => by
    rw [on_iff hz]
    simp only [Rat.intCast_mul]
    refine ⟨fun e => ?_, fun e => ?_⟩ <;> grind
  have e : (∀ r ∈ eqs R U G, on r z) ↔ (on (R.1 * U.2.2 * G.2.2, U.1 * R.2.2 * G.2.2, G.1 * R.2.2 * U.2.2) z ∧ on (R.2.1 * U.2.2 * G.2.2, U.2.1 * R.2.2 * G.2.2, G.2.1 * R.2.2 * U.2.2) z) := by
    unfold eqs; simp
  rw [e, h, h]
  rfl
theorem ok_0 : Ok (0, 0, 1) := ⟨by decide, by decide⟩
theorem ok_1 : Ok (1, 0, 1) := ⟨by decide, by decide⟩
theorem ok_i : Ok (0, 1, 1) := ⟨by decide, by decide⟩
theorem re_i : re (0, 1, 1) = 0 := by unfold re; decide +kernel
theorem im_i : im (0, 1, 1) = 1 := by unfold im; decide +kernel
theorem gap_ok {a b : Cp} {z : T3} (ha : CpOk a) (hb : CpOk b) (hz : Ok z) : Ok (gap a b z) := minus_ok (ap_ok ha hz) (ap_ok hb hz)
theorem re_gap {a b : Cp} {z : T3} (ha : CpOk a) (hb : CpOk b) (hz : Ok z) : re (gap a b z) = re (ap a z) - re (ap b z) := re_minus (ap_ok ha hz) (ap_ok hb hz)
theorem im_gap {a b : Cp} {z : T3} (ha : CpOk a) (hb : CpOk b) (hz : Ok z) : im (gap a b z) = im (ap a z) - im (ap b z) := im_minus (ap_ok ha hz) (ap_ok hb hz)
theorem meet_mem {a b : Cp} {z : T3} (ha : CpOk a) (hb : CpOk b) (hz : Ok z) : Mem (meet a b) z ↔ ap a z = ap b z := by
  unfold meet
  have g0 := gap_ok ha hb ok_0
  have g1 := gap_ok ha hb ok_1
  have gi := gap_ok ha hb ok_i
  rw [sol_mem _ hz, eqs_iff (minus_ok g1 g0) (minus_ok gi g0) (neg_ok g0) hz, re_minus g1 g0, re_minus gi g0, im_minus g1 g0, im_minus gi g0, re_neg, im_neg]
  simp only [re_gap ha hb ok_0, re_gap ha hb ok_1, re_gap ha hb ok_i, im_gap ha hb ok_0, im_gap ha hb ok_1, im_gap ha hb ok_i]
  unfold ap
  simp only [re_car ha.t ha.s ok_0, re_car ha.t ha.s ok_1, re_car ha.t ha.s ok_i, re_car hb.t hb.s ok_0, re_car hb.t hb.s ok_1, re_car hb.t hb.s ok_i, im_car ha.t ha.s ok_0, im_car ha.t ha.s ok_1, im_car ha.t ha.s ok_i, im_car hb.t hb.s ok_0, im_car hb.t hb.s ok_1, im_car hb.t hb.s ok_i, re_0, im_0, re_1, im_1, re_i, im_i]
  have k : car a.t a.s a.m z = car b.t b.s b.m z ↔ (re (car a.t a.s a.m z) = re (car b.t b.s b.m z) ∧ im (car a.t a.s a.m z) = im (car b.t b.s b.m z)) :=
    ⟨fun e => by rw [e]; exact ⟨rfl, rfl⟩, fun ⟨e1, e2⟩ => ext (car_ok ha.t ha.s hz) (car_ok hb.t hb.s hz) e1 e2⟩
  rw [k, re_car ha.t ha.s hz, re_car hb.t hb.s hz, im_car ha.t ha.s hz, im_car hb.t hb.s hz]
  generalize (if a.m = true then (-1 : Rat) else 1) = sa
  generalize (if b.m = true then (-1 : Rat) else 1) = sb
  refine ⟨fun ⟨e1, e2⟩ => ⟨?_, ?_⟩, fun ⟨e1, e2⟩ => ⟨?_, ?_⟩⟩ <;> grind
theorem meet_ok (a b : Cp) : KOk (meet a b) := sol_ok _
theorem all_iff {a b : Cp} (ha : CpOk a) (hb : CpOk b) : meet a b = .all ↔ a = b := by
  refine ⟨fun e => ?_, fun e => ?_⟩
  · have h : ∀ z, Ok z → ap a z = ap b z := fun z hz => (meet_mem ha hb hz).mp (by rw [e]; trivial)
    have e0 := h _ ok_0
    have e1 := h _ ok_1
    have ei := h _ ok_i
    have r0 := congrArg re e0
    have i0 := congrArg im e0
    have r1 := congrArg re e1
    have i1 := congrArg im e1
    have ri := congrArg re ei
    have ii := congrArg im ei
    unfold ap at r0 i0 r1 i1 ri ii
    simp only [re_car ha.t ha.s ok_0, re_car ha.t ha.s ok_1, re_car ha.t ha.s ok_i, re_car hb.t hb.s ok_0, re_car hb.t hb.s ok_1, re_car hb.t hb.s ok_i, im_car ha.t ha.s ok_0, im_car ha.t ha.s ok_1, im_car ha.t ha.s ok_i, im_car hb.t hb.s ok_0, im_car hb.t hb.s ok_1, im_car hb.t hb.s ok_i, re_0, im_0, re_1, im_1, re_i, im_i] at r0 i0 r1 i1 ri ii
    have n := nn_ne ha.t ha.n
    have q : nn a.t = re a.t * re a.t + im a.t * im a.t := rfl
    have tr : re a.t = re b.t := by grind
    have ti : im a.t = im b.t := by grind
    refine cp_ext ha hb tr ti (by grind) (by grind) ?_
    have no : a.m ≠ b.m → False := fun hne => by
      apply n
      rw [q]
      have z : re a.t = 0 ∧ im a.t = 0 := by
        cases hm : a.m <;> cases hm' : b.m
        · exact absurd (hm.trans hm'.symm) hne
        · rw [hm, hm'] at ri ii
          simp at ri ii
          exact ⟨by grind, by grind⟩
        · rw [hm, hm'] at ri ii
          simp at ri ii
          exact ⟨by grind, by grind⟩
        · exact absurd (hm.trans hm'.symm) hne
      rw [z.1, z.2]
      grind
    exact Decidable.byContradiction no
  · have h : ∀ z, Ok z → Mem (meet a b) z := fun z hz => (meet_mem ha hb hz).mpr (by rw [e])
    have ok := meet_ok a b
    generalize meet a b = k at *
    have h0 := h _ ok_0
    have h1 := h _ ok_1
    have hi := h _ ok_i
    cases k with
    | all => rfl
    | none => exact h0.elim
    | spot s =>
      have z0 : ((0, 0, 1) : T3) = s := h0
      have z1 : ((1, 0, 1) : T3) = s := h1
      rw [← z0] at z1
      exact absurd z1 (by decide)
    | line l =>
      exfalso
      have ok : Ln l := ok
      have z0 : on l (0, 0, 1) := h0
      have z1 : on l (1, 0, 1) := h1
      have zi : on l (0, 1, 1) := hi
      unfold on at z0 z1 zi
      simp at z0 z1 zi
      have := ok.s
      omega
/-! ### sizes of what is told -/
def KB (n m : Nat) : KS → Prop
  | .spot s => B n s
  | .line l => B m l
  | _ => True
theorem lf_B {r : T3} {n : Nat} (h : r.1 ≠ 0 ∨ r.2.1 ≠ 0) (b : B n r) : B n (lf r) := by
  obtain ⟨e1, e2, e3⟩ := lf_mul r
  have hs := sgl_ne (c := r.2.2) h
  obtain ⟨b1, b2, b3⟩ := b
  refine ⟨?_, ?_, ?_⟩
  · have := abs_le (a := (lf r).1) hs; rw [← e1] at this; omega
  · have := abs_le (a := (lf r).2.1) hs; rw [← e2] at this; omega
  · have := abs_le (a := (lf r).2.2) hs; rw [← e3] at this; omega
theorem sol_KB {rows : List T3} {n : Nat} (h : ∀ r ∈ rows, B n r) : KB (n + n + 1) n (sol rows) := by
  unfold sol
  split
  · trivial
  · have lns : ∀ l ∈ (rows.filter nz2).map lf, B n l := fun l hl => by
      obtain ⟨r, hr, rfl⟩ := List.mem_map.mp hl
      obtain ⟨hr1, hr2⟩ := List.mem_filter.mp hr
      exact lf_B (by unfold nz2 at hr2; simpa using hr2) (h r hr1)
    generalize (rows.filter nz2).map lf = ls at *
    cases ls with
    | nil => trivial
    | cons f ls =>
      unfold solL
      dsimp only
      have hf := lns f (List.mem_cons_self ..)
      cases ho : (f :: ls).filter (fun l => !decide (l = f)) with
      | nil => exact hf
      | cons o os =>
        dsimp only
        have om : o ∈ (f :: ls).filter (fun l => !decide (l = f)) := by rw [ho]; exact List.mem_cons_self ..
        have hO := lns o (List.mem_filter.mp om).1
        split
        · trivial
        · rename_i p
          split
          · exact low_B (fun z => p (Int.sub_eq_zero.mp z)) (sub_lt (mul_lt hf.2.2 hO.2.1) (mul_lt hO.2.2 hf.2.1)) (sub_lt (mul_lt hf.1 hO.2.2) (mul_lt hO.1 hf.2.2)) (sub_lt (mul_lt hf.1 hO.2.1) (mul_lt hO.1 hf.2.1))
          · trivial
theorem eqs_B {R U G : T3} {n : Nat} (hR : B n R) (hU : B n U) (hG : B n G) : ∀ r ∈ eqs R U G, B (n + n + n) r := by
  intro r hr
  unfold eqs at hr
  simp only [List.mem_cons, List.mem_nil_iff, or_false] at hr
  rcases hr with rfl | rfl
  · exact ⟨mul_lt (mul_lt hR.1 hU.2.2) hG.2.2, mul_lt (mul_lt hU.1 hR.2.2) hG.2.2, mul_lt (mul_lt hG.1 hR.2.2) hU.2.2⟩
  · exact ⟨mul_lt (mul_lt hR.2.1 hU.2.2) hG.2.2, mul_lt (mul_lt hU.2.1 hR.2.2) hG.2.2, mul_lt (mul_lt hG.2.1 hR.2.2) hU.2.2⟩
theorem minus_B {a b : T3} {n m : Nat} (oa : Ok a) (ob : Ok b) (ha : B n a) (hb : B m b) : B (n + m + 1) (minus a b) := plus_B oa (neg_ok ob) ha (neg_B hb)
theorem gap_Bn {a b : Cp} {z : T3} {n m : Nat} (ha : CpOk a) (hb : CpOk b) (hz : Ok z) (ta : B n a.t) (sa : B n a.s) (tb : B m b.t) (sb : B m b.s) (bz : B 1 z) : B (2 * n + 3 + (2 * m + 3) + 1) (gap a b z) :=
  minus_B (ap_ok ha hz) (ap_ok hb hz) ((car_B ha.t ha.s hz ta sa bz).mono (by omega)) ((car_B hb.t hb.s hz tb sb bz).mono (by omega))
instance (n : Nat) (t : T3) : Decidable (B n t) := inferInstanceAs (Decidable (_ ∧ _ ∧ _))
theorem meet_KB {a b : Cp} {n m : Nat} (ha : CpOk a) (hb : CpOk b) (ta : B n a.t) (sa : B n a.s) (tb : B m b.t) (sb : B m b.s) : KB (24 * n + 24 * m + 91) (12 * n + 12 * m + 45) (meet a b) := by
  have z0 : B 1 (0, 0, 1) := by decide
  have z1 : B 1 (1, 0, 1) := by decide
  have zi : B 1 (0, 1, 1) := by decide
  have b0 := gap_Bn ha hb ok_0 ta sa tb sb z0
  have b1 := gap_Bn ha hb ok_1 ta sa tb sb z1
  have bi := gap_Bn ha hb ok_i ta sa tb sb zi
  have g0 := gap_ok ha hb ok_0
  have g1 := gap_ok ha hb ok_1
  have gi := gap_ok ha hb ok_i
  have bR := minus_B g1 g0 b1 b0
  have bU := minus_B gi g0 bi b0
  have bG := (neg_B b0).mono (show 2 * n + 3 + (2 * m + 3) + 1 ≤ 2 * n + 3 + (2 * m + 3) + 1 + (2 * n + 3 + (2 * m + 3) + 1) + 1 by omega)
  have e1 : 24 * n + 24 * m + 91 = (12 * n + 12 * m + 45) + (12 * n + 12 * m + 45) + 1 := by omega
  rw [e1]
  exact sol_KB fun r hr => (eqs_B bR bU bG r hr).mono (by omega)
/-! ### a spot of a line, and others along it -/
def along (l : T3) (k : Int) : T3 := low (l.1 * l.2.2 + k * l.2.1) (l.2.1 * l.2.2 - k * l.1) (l.1 * l.1 + l.2.1 * l.2.1)
theorem ln_sq {l : T3} (h : Ln l) : l.1 * l.1 + l.2.1 * l.2.1 ≠ 0 := sq_ne (a := l) (by have := h.s; unfold Nz; omega)
theorem along_ok {l : T3} (h : Ln l) (k : Int) : Ok (along l k) := low_ok (ln_sq h)
theorem along_on {l : T3} (h : Ln l) (k : Int) : on l (along l k) := by
  rw [on_iff (along_ok h k)]
  have n := cast_ne (ln_sq h)
  unfold along
  rw [low_re (ln_sq h), low_im (ln_sq h)]
  simp only [Rat.intCast_add, Rat.intCast_sub, Rat.intCast_mul] at n ⊢
  grind
theorem along_re {l : T3} (h : Ln l) (k : Int) : re (along l k) = ((l.1 * l.2.2 + k * l.2.1 : Int) : Rat) / ((l.1 * l.1 + l.2.1 * l.2.1 : Int) : Rat) := low_re (ln_sq h)
theorem along_im {l : T3} (h : Ln l) (k : Int) : im (along l k) = ((l.2.1 * l.2.2 - k * l.1 : Int) : Rat) / ((l.1 * l.1 + l.2.1 * l.2.1 : Int) : Rat) := low_im (ln_sq h)
theorem two_on {l m : T3} (hl : Ln l) (hm : Ln m) (h0 : on m (along l 0)) (h1 : on m (along l 1)) : l = m := by
  refine ln_same hl hm (along_ok hl 0) ?_ (along_on hl 0) h0
  rw [on_iff (along_ok hl _), along_re hl, along_im hl] at h0 h1
  have n := cast_ne (ln_sq hl)
  simp only [Rat.intCast_add, Rat.intCast_sub, Rat.intCast_mul] at n h0 h1
  have e : (l.1 : Rat) * (m.2.1 : Rat) = (m.1 : Rat) * (l.2.1 : Rat) := by
    simp at h0 h1
    grind
  rw [← Rat.intCast_mul, ← Rat.intCast_mul] at e
  exact Rat.intCast_inj.mp e
theorem along_ne {l : T3} (h : Ln l) : along l 0 ≠ along l 1 := fun e => by
  have r := congrArg re e
  have i := congrArg im e
  rw [along_re h, along_re h] at r
  rw [along_im h, along_im h] at i
  have n := cast_ne (ln_sq h)
  simp only [Rat.intCast_add, Rat.intCast_sub, Rat.intCast_mul] at n r i
  have e1 : (l.2.1 : Rat) = 0 := by simp at r; grind
  have e2 : (l.1 : Rat) = 0 := by simp at i; grind
  have z1 : l.2.1 = 0 := by
    have : ((l.2.1 : Int) : Rat) = ((0 : Int) : Rat) := by rw [e1]; simp
    exact Rat.intCast_inj.mp this
  have z2 : l.1 = 0 := by
    have : ((l.1 : Int) : Rat) = ((0 : Int) : Rat) := by rw [e2]; simp
    exact Rat.intCast_inj.mp this
  have := h.s
  omega
theorem no_line {l : T3} (h : Ln l) (a : ∀ z, Ok z → on l z) : False := by
  have z0 := a _ ok_0
  have z1 := a _ ok_1
  have zi := a _ ok_i
  unfold on at z0 z1 zi
  simp at z0 z1 zi
  have := h.s
  omega
theorem no_spot {s : T3} (a : ∀ z, Ok z → z = s) : False := by
  have e := (a _ ok_0).trans (a _ ok_1).symm
  exact absurd e (by decide)
theorem ks_ext {k m : KS} (hk : KOk k) (hm : KOk m) (h : ∀ z, Ok z → (Mem k z ↔ Mem m z)) : k = m := by
  cases k with
  | all =>
    cases m with
    | all => rfl
    | none => exact ((h _ ok_0).mp trivial).elim
    | spot s => exact (no_spot fun z hz => (h z hz).mp trivial).elim
    | line l => exact (no_line hm fun z hz => (h z hz).mp trivial).elim
  | none =>
    cases m with
    | all => exact ((h _ ok_0).mpr trivial).elim
    | none => rfl
    | spot s => exact ((h s hm).mpr rfl).elim
    | line l => exact ((h _ (along_ok hm 0)).mpr (along_on hm 0)).elim
  | spot s =>
    cases m with
    | all => exact (no_spot fun z hz => (h z hz).mpr trivial).elim
    | none => exact ((h s hk).mp rfl).elim
    | spot t => exact congrArg KS.spot ((h s hk).mp rfl)
    | line l =>
      have a : along l 0 = s := (h _ (along_ok hm 0)).mpr (along_on hm 0)
      have b : along l 1 = s := (h _ (along_ok hm 1)).mpr (along_on hm 1)
      exact absurd (a.trans b.symm) (along_ne hm)
  | line l =>
    cases m with
    | all => exact (no_line hk fun z hz => (h z hz).mpr trivial).elim
    | none => exact ((h _ (along_ok hk 0)).mp (along_on hk 0)).elim
    | spot s =>
      have a : along l 0 = s := (h _ (along_ok hk 0)).mp (along_on hk 0)
      have b : along l 1 = s := (h _ (along_ok hk 1)).mp (along_on hk 1)
      exact absurd (a.trans b.symm) (along_ne hk)
    | line l' => exact congrArg KS.line (two_on hk hm ((h _ (along_ok hk 0)).mp (along_on hk 0)) ((h _ (along_ok hk 1)).mp (along_on hk 1)))
theorem meet_comm {a b : Cp} (ha : CpOk a) (hb : CpOk b) : meet b a = meet a b := ks_ext (meet_ok b a) (meet_ok a b) fun z hz => by
  rw [meet_mem hb ha hz, meet_mem ha hb hz]; exact ⟨Eq.symm, Eq.symm⟩
end Mth
namespace Mth
/-! ### times of any sign -/
theorem agz_zero (c : Cp) : agz c 0 = still := rfl
theorem agz_one {c : Cp} (h : CpOk c) : agz c 1 = c := ag_one h
theorem agz_neg1 {c : Cp} (h : CpOk c) : agz c (-1) = bk c := ag_one (bk_ok h)
theorem agz_pos (c : Cp) (n : Nat) : agz c (n : Int) = ag c n := by
  unfold agz stp
  rw [if_pos (by omega), Int.natAbs_natCast]
theorem agz_neg (c : Cp) (n : Nat) : agz c (-(n : Int)) = ag (bk c) n := by
  by_cases h0 : n = 0
  · subst h0; rfl
  · unfold agz stp
    rw [if_neg (by omega), Int.natAbs_neg, Int.natAbs_natCast]
theorem agz_succ {c : Cp} (h : CpOk c) (n : Int) : agz c (n + 1) = jn (agz c n) c := by
  by_cases h0 : 0 ≤ n
  · obtain ⟨k, rfl⟩ : ∃ k : Nat, n = (k : Int) := ⟨n.toNat, by omega⟩
    have e : ((k : Int) + 1) = ((k + 1 : Nat) : Int) := by omega
    rw [e, agz_pos, agz_pos]
    rfl
  · obtain ⟨k, rfl⟩ : ∃ k : Nat, n = -((k + 1 : Nat) : Int) := ⟨(-n).toNat - 1, by omega⟩
    have e : (-((k + 1 : Nat) : Int) + 1) = -(k : Int) := by omega
    rw [e, agz_neg, agz_neg]
    show ag (bk c) k = jn (jn (ag (bk c) k) (bk c)) c
    rw [jn_assoc (ag_ok (bk_ok h) k) (bk_ok h) h, bk_jn h, jn_still (ag_ok (bk_ok h) k)]
theorem agz_pred {c : Cp} (h : CpOk c) (n : Int) : agz c (n - 1) = jn (agz c n) (bk c) := by
  have e := agz_succ h (n - 1)
  rw [show n - 1 + 1 = n by omega] at e
  rw [e, jn_assoc (agz_ok h _) h (bk_ok h), jn_bk h, jn_still (agz_ok h _)]
theorem agz_addn {c : Cp} (h : CpOk c) (m : Int) : ∀ k : Nat, agz c (m + (k : Int)) = jn (agz c m) (ag c k)
  | 0 => by
    show agz c (m + 0) = jn (agz c m) still
    rw [Int.add_zero, jn_still (agz_ok h m)]
  | k + 1 => by
    have e : m + ((k + 1 : Nat) : Int) = m + (k : Int) + 1 := by omega
    rw [e, agz_succ h, agz_addn h m k]
    show jn (jn (agz c m) (ag c k)) c = jn (agz c m) (jn (ag c k) c)
    rw [jn_assoc (agz_ok h m) (ag_ok h k) h]
theorem agz_subn {c : Cp} (h : CpOk c) (m : Int) : ∀ k : Nat, agz c (m - (k : Int)) = jn (agz c m) (ag (bk c) k)
  | 0 => by
    show agz c (m - 0) = jn (agz c m) still
    rw [Int.sub_zero, jn_still (agz_ok h m)]
  | k + 1 => by
    have e : m - ((k + 1 : Nat) : Int) = m - (k : Int) - 1 := by omega
    rw [e, agz_pred h, agz_subn h m k]
    show jn (jn (agz c m) (ag (bk c) k)) (bk c) = jn (agz c m) (jn (ag (bk c) k) (bk c))
    rw [jn_assoc (agz_ok h m) (ag_ok (bk_ok h) k) (bk_ok h)]
theorem agz_add {c : Cp} (h : CpOk c) (m n : Int) : agz c (m + n) = jn (agz c m) (agz c n) := by
  by_cases h0 : 0 ≤ n
  · obtain ⟨k, rfl⟩ : ∃ k : Nat, n = (k : Int) := ⟨n.toNat, by omega⟩
    rw [agz_addn h, agz_pos]
  · obtain ⟨k, rfl⟩ : ∃ k : Nat, n = -(k : Int) := ⟨(-n).toNat, by omega⟩
    rw [show m + -(k : Int) = m - (k : Int) by omega, agz_subn h, agz_neg]
theorem agz_two {c : Cp} (h : CpOk c) (n : Int) : agz (agz c n) 2 = agz c (2 * n) := by
  rw [show 2 * n = n + n by omega, agz_add h]
  show jn (jn still (agz c n)) (agz c n) = _
  rw [still_jn (agz_ok h n)]
/-! ### step by step -/
def itn (c : Cp) (z : T3) : Nat → T3
  | 0 => z
  | n + 1 => ap c (itn c z n)
theorem itn_ok {c : Cp} (h : CpOk c) {z : T3} (hz : Ok z) : ∀ n, Ok (itn c z n)
  | 0 => hz
  | n + 1 => ap_ok h (itn_ok h hz n)
theorem ap_ag {c : Cp} (h : CpOk c) {z : T3} (hz : Ok z) : ∀ n, ap (ag c n) z = itn c z n
  | 0 => ap_still hz
  | n + 1 => by
    show ap (jn (ag c n) c) z = ap c (itn c z n)
    rw [jn_ap (ag_ok h n) h hz, ap_ag h hz n]
/-! ### a quarter -/
theorem ag_still : ∀ n, ag still n = still
  | 0 => rfl
  | n + 1 => by
    show jn (ag still n) still = still
    rw [ag_still n, jn_still still_ok]
theorem quarter4 {c : Cp} (h : CpOk c) (ht : c.t = (0, 1, 1)) (hm : c.m = false) : ag c 4 = still := by
  have e : ag c 4 = ag (ag c 2) 2 := ag_mul h 2 2
  rw [e]
  refine at_half (ag_ok h 2) ?_ ?_
  · rw [ag_t, ht, hm]; decide
  · rw [ag_m, hm]; rfl
theorem period4 {c : Cp} (h : CpOk c) (e4 : ag c 4 = still) (k : Nat) : ag c k = ag c (k % 4) := by
  have e : ag c (4 * (k / 4) + k % 4) = jn (ag c (4 * (k / 4))) (ag c (k % 4)) := ag_add h _ _
  rw [Nat.div_add_mod, ag_mul h, e4, ag_still, still_jn (ag_ok h _)] at e
  exact e
theorem quarter100 {c : Cp} (h : CpOk c) (e4 : ag c 4 = still) : agz c 100 = still := by
  show ag c 100 = still
  rw [period4 h e4]
  rfl
theorem quarter99 {c : Cp} (h : CpOk c) (e4 : ag c 4 = still) : agz c (-99) = c := by
  show ag (bk c) 99 = c
  rw [← bk_ag h]
  refine (bk_uniq (ag_ok h 99) h ?_).symm
  show ag c 100 = still
  rw [period4 h e4]
  rfl
theorem back4 {c : Cp} (h : CpOk c) (e4 : ag c 4 = still) : ag (bk c) 4 = still := by
  rw [← bk_ag h, e4, bk_still]
end Mth
namespace Mth
/-! ### arms -/
structure Am where
  pole : T3
  t : T3
  near : Int
  far : Int
  m : Bool
  deriving DecidableEq
structure AmOk (a : Am) : Prop where
  p : Ok a.pole
  t : Ok a.t
  n : Nz a.t
  lo : 0 ≤ a.near
  mi : a.near ≤ a.far
  hi : a.far ≤ 1000
def about (a : Am) : Cp := ⟨a.t, minus a.pole (times a.t (face a.pole a.m)), a.m⟩
theorem about_ok {a : Am} (h : AmOk a) : CpOk (about a) := ⟨h.t, h.n, minus_ok h.p (times_ok h.t (face_ok h.p _))⟩
theorem re_sh {p t : T3} (hp : Ok p) (ht : Ok t) (m : Bool) : re (minus p (times t (face p m))) = re p - (re t * re p - im t * ((if m = true then -1 else 1) * im p)) := by
  rw [re_minus hp (times_ok ht (face_ok hp m)), re_times ht (face_ok hp m), re_face, im_face]
theorem im_sh {p t : T3} (hp : Ok p) (ht : Ok t) (m : Bool) : im (minus p (times t (face p m))) = im p - (re t * ((if m = true then -1 else 1) * im p) + im t * re p) := by
  rw [im_minus hp (times_ok ht (face_ok hp m)), im_times ht (face_ok hp m), re_face, im_face]
theorem about_fix {a : Am} (h : AmOk a) : ap (about a) a.pole = a.pole := by
  have o := minus_ok h.p (times_ok h.t (face_ok h.p a.m))
  refine ext (ap_ok (about_ok h) h.p) h.p ?_ ?_
  · show re (car a.t (minus a.pole (times a.t (face a.pole a.m))) a.m a.pole) = _
    rw [re_car h.t o h.p, re_sh h.p h.t]; grind
  · show im (car a.t (minus a.pole (times a.t (face a.pole a.m))) a.m a.pole) = _
    rw [im_car h.t o h.p, im_sh h.p h.t]; grind
theorem about_of {c : Cp} {z : T3} {n f : Int} (hc : CpOk c) (hz : Ok z) (h : ap c z = z) : about ⟨z, c.t, n, f, c.m⟩ = c := by
  have o := minus_ok hz (times_ok hc.t (face_ok hz c.m))
  have h1 := congrArg re h
  have h2 := congrArg im h
  unfold ap at h1 h2
  rw [re_car hc.t hc.s hz] at h1
  rw [im_car hc.t hc.s hz] at h2
  refine cp_ext (a := about ⟨z, c.t, n, f, c.m⟩) ⟨hc.t, hc.n, o⟩ hc rfl rfl ?_ ?_ rfl
  · show re (minus z (times c.t (face z c.m))) = _
    rw [re_sh hz hc.t]; grind
  · show im (minus z (times c.t (face z c.m))) = _
    rw [im_sh hz hc.t]; grind
/-! ### chains -/
def jall (as : List Am) : Cp := as.foldl (fun c a => jn c (about a)) still
theorem foldl_ok {as : List Am} : ∀ {c : Cp}, CpOk c → (∀ a ∈ as, AmOk a) → CpOk (as.foldl (fun c a => jn c (about a)) c) := by
  induction as with
  | nil => intro c hc _; exact hc
  | cons a as ih => intro c hc h; exact ih (jn_ok hc (about_ok (h a (List.mem_cons_self ..)))) fun b hb => h b (List.mem_cons_of_mem _ hb)
theorem jall_ok {as : List Am} (h : ∀ a ∈ as, AmOk a) : CpOk (jall as) := foldl_ok still_ok h
theorem jall_snoc (as : List Am) (a : Am) : jall (as ++ [a]) = jn (jall as) (about a) := by
  unfold jall; rw [List.foldl_append]; rfl
theorem jall_take {as : List Am} {i : Nat} {a : Am} (h : as[i]? = some a) : jall (as.take (i + 1)) = jn (jall (as.take i)) (about a) := by
  rw [List.take_succ, h]; exact jall_snoc _ _
theorem jall_one {a : Am} (h : AmOk a) : jall [a] = about a := still_jn (about_ok h)
/-! ### the spot nearest to the middle -/
def near0 : KS → Option T3
  | .none => none
  | .all => some (0, 0, 1)
  | .spot s => some s
  | .line l => some (along l 0)
theorem along0 (l : T3) : along l 0 = low (l.1 * l.2.2) (l.2.1 * l.2.2) (l.1 * l.1 + l.2.1 * l.2.1) := by
  unfold along; rw [Int.zero_mul, Int.zero_mul, Int.add_zero, Int.sub_zero]
theorem near0_mem {k : KS} (hk : KOk k) {z : T3} (h : near0 k = some z) : Ok z ∧ Mem k z := by
  cases k with
  | none => cases h
  | all => cases h; exact ⟨ok_0, trivial⟩
  | spot s => cases h; exact ⟨hk, rfl⟩
  | line l => cases h; exact ⟨along_ok hk 0, along_on hk 0⟩
theorem along_perp {l : T3} (h : Ln l) : l.1 * (along l 0).2.1 = l.2.1 * (along l 0).1 := by
  have o := along_ok h 0
  have n := cast_ne (ln_sq h)
  have d := cast_ne o.ne
  have e1 := along_re h 0
  have e2 := along_im h 0
  unfold re at e1
  unfold im at e2
  generalize along l 0 = z at *
  simp only [Rat.intCast_add, Rat.intCast_sub, Rat.intCast_mul] at e1 e2 n
  have : ((l.1 * z.2.1 : Int) : Rat) = ((l.2.1 * z.1 : Int) : Rat) := by
    simp only [Rat.intCast_mul]
    grind
  exact_mod_cast this
def sng (c : Cp) : Option Am := (near0 (meet c still)).map fun z => ⟨z, c.t, 0, 1000, c.m⟩
theorem sng_ok {c : Cp} {a : Am} (hc : CpOk c) (h : sng c = some a) : AmOk a ∧ about a = c ∧ near0 (meet c still) = some a.pole ∧ a.near = 0 ∧ a.far = 1000 ∧ a.t = c.t ∧ a.m = c.m := by
  unfold sng at h
  cases e : near0 (meet c still) with
  | none => rw [e] at h; cases h
  | some z =>
    rw [e] at h
    cases h
    obtain ⟨oz, mz⟩ := near0_mem (meet_ok c still) e
    have fz : ap c z = z := by rw [(meet_mem hc still_ok oz).mp mz, ap_still oz]
    exact ⟨⟨oz, hc.t, hc.n, by show (0 : Int) ≤ 0; decide, by show (0 : Int) ≤ 1000; decide, by show (1000 : Int) ≤ 1000; decide⟩, about_of hc oz fz, rfl, rfl, rfl, rfl, rfl⟩
theorem sng_none {c : Cp} : sng c = none ↔ meet c still = .none := by
  unfold sng
  cases e : meet c still with
  | none => exact ⟨fun _ => rfl, fun _ => rfl⟩
  | all => exact ⟨(fun h => by cases h), (fun h => by cases h)⟩
  | spot s => exact ⟨(fun h => by cases h), (fun h => by cases h)⟩
  | line l => exact ⟨(fun h => by cases h), (fun h => by cases h)⟩
theorem near0_B {k : KS} {n m : Nat} (hk : KOk k) (kb : KB n m k) (hn : n ≤ 2600) (hm : m + m + 1 ≤ 2600) {z : T3} (e : near0 k = some z) : B 2600 z := by
  cases k with
  | none => cases e
  | all => cases e; exact B.mono (n := 3) (by decide) (by decide)
  | spot s => cases e; exact B.mono kb hn
  | line l =>
    cases e
    have kb : B m l := kb
    rw [along0]
    exact (low_B (ln_sq hk) (up_lt (by omega) (mul_lt kb.1 kb.2.2)) (up_lt (by omega) (mul_lt kb.2.1 kb.2.2)) (add_lt (mul_lt kb.1 kb.1) (mul_lt kb.2.1 kb.2.1))).mono hm
/-- a single arm is its own -/
theorem sng_single {c : Cp} {a : Am} (hc : CpOk c) (h : sng c = some a) : sng (jall [a]) = some a := by
  obtain ⟨o, e, _⟩ := sng_ok hc h
  rw [jall_one o, e]; exact h
/-- the level line of a spot -/
def lev (s : T3) : Am := ⟨s, (1, 0, 1), 0, 9, true⟩
theorem lev_ok {s : T3} (h : Ok s) : AmOk (lev s) := ⟨h, ok_1, .inl (show (1 : Int) ≠ 0 by decide), (by show (0 : Int) ≤ 0; decide), (by show (0 : Int) ≤ 9; decide), (by show (9 : Int) ≤ 1000; decide)⟩
theorem lev_meet {s : T3} (h : Ok s) : meet (jall [lev s]) still = .line (lf (0, s.2.2, s.2.1)) := by
  have oa := lev_ok h
  have oc := about_ok oa
  have hn : (0, s.2.2, s.2.1).1 ≠ (0 : Int) ∨ (0, s.2.2, s.2.1).2.1 ≠ (0 : Int) := .inr h.ne
  rw [jall_one oa]
  refine ks_ext (meet_ok _ _) (lf_ln hn) fun z hz => ?_
  rw [meet_mem oc still_ok hz, ap_still hz]
  show _ ↔ on (lf (0, s.2.2, s.2.1)) z
  rw [lf_on hn z, on_iff hz]
  have n := cast_ne h.ne
  have ei : im s = (s.2.1 : Rat) / (s.2.2 : Rat) := rfl
  have e1 : re (ap (about (lev s)) z) = re z := by
    unfold ap; rw [re_car oc.t oc.s hz]; unfold about lev; dsimp only; rw [re_sh h ok_1, re_1, im_1]; grind
  have e2 : im (ap (about (lev s)) z) = 2 * im s - im z := by
    unfold ap; rw [im_car oc.t oc.s hz]; unfold about lev; dsimp only; rw [im_sh h ok_1, re_1, im_1]; grind
  have z0 : (((0 : Int)) : Rat) = 0 := rfl
  dsimp only
  rw [z0]
  constructor
  · intro e
    have := congrArg im e
    rw [e2] at this
    grind
  · intro e
    refine ext (ap_ok oc hz) hz e1 ?_
    rw [e2]
    grind
theorem lev_pole {s : T3} (h : Ok s) {a : Am} (e : sng (jall [lev s]) = some a) : a.pole = low 0 s.2.1 s.2.2 := by
  obtain ⟨_, _, h3, _⟩ := sng_ok (jall_ok fun b hb => by rw [List.mem_singleton.mp hb]; exact lev_ok h) e
  rw [lev_meet h] at h3
  have h3 := Option.some.inj h3
  rw [← h3]
  have hn : (0, s.2.2, s.2.1).1 ≠ (0 : Int) ∨ (0, s.2.2, s.2.1).2.1 ≠ (0 : Int) := .inr h.ne
  have hl := lf_ln hn
  have hm := lf_mul (0, s.2.2, s.2.1)
  have sn := sgl_ne (c := s.2.1) hn
  dsimp only at hm sn
  have l1 : (lf (0, s.2.2, s.2.1)).1 = 0 := by
    rcases Int.mul_eq_zero.mp hm.1.symm with z | z
    · exact absurd z sn
    · exact z
  have on1 := along_on hl 0
  rw [lf_on hn, on_iff (along_ok hl 0)] at on1
  have n := cast_ne h.ne
  refine ext (along_ok hl 0) (low_ok h.ne) ?_ ?_
  · rw [along_re hl, low_re h.ne, l1]
    simp only [Int.zero_mul, Int.add_zero, Rat.intCast_zero, Rat.div_def, Rat.zero_mul]
  · rw [low_im h.ne]
    have z0 : (((0 : Int)) : Rat) = 0 := rfl
    dsimp only at on1
    rw [z0] at on1
    grind
theorem lev_some {s : T3} (h : Ok s) : ∃ a, sng (jall [lev s]) = some a := by
  unfold sng
  rw [lev_meet h]
  exact ⟨_, rfl⟩
end Mth
namespace Mth
/-! ### fractions -/
def val (a : Int × Int) : Rat := (a.1 : Rat) / (a.2 : Rat)
def lessF (a b : Int × Int) : Bool := decide (a.1 * b.2 < b.1 * a.2)
theorem div_lt {a b c d : Rat} (hb : 0 < b) (hd : 0 < d) : a / b < c / d ↔ a * d < c * b := by
  have e1 : a / b * (b * d) = a * d := by grind
  have e2 : c / d * (b * d) = c * b := by grind
  have p : 0 < b * d := Rat.mul_pos hb hd
  rw [← e1, ← e2]
  exact (Rat.mul_lt_mul_right p).symm
theorem cast_pos {a : Int} (h : 0 < a) : (0 : Rat) < (a : Rat) := by exact_mod_cast h
theorem lessF_iff {a b : Int × Int} (ha : 0 < a.2) (hb : 0 < b.2) : lessF a b = decide (val a < val b) := by
  unfold lessF val
  have h := div_lt (a := (a.1 : Rat)) (c := (b.1 : Rat)) (cast_pos ha) (cast_pos hb)
  have e : (a.1 : Rat) * (b.2 : Rat) < (b.1 : Rat) * (a.2 : Rat) ↔ a.1 * b.2 < b.1 * a.2 := by
    rw [← Rat.intCast_mul, ← Rat.intCast_mul]
    exact Rat.intCast_lt_intCast
  rw [decide_eq_decide]
  exact (h.trans e).symm
theorem fr_pos {p q : Int} (hq : q ≠ 0) : 0 < (fr p q).2 := low_pos hq
theorem fr_val {p q : Int} (hq : q ≠ 0) : val (fr p q) = (p : Rat) / (q : Rat) := low_re (y := 0) hq
theorem gr_val {t : T3} (h : Ok t) : val (gr t) = nn t := by
  have := re_gr3 h
  rw [gr3_eq] at this
  exact this
theorem gr_p2 {t : T3} (h : Ok t) : 0 < (gr t).2 := low_pos (mul_ne h.ne h.ne)
theorem gr_congr {s t : T3} (hs : Ok s) (ht : Ok t) (h : nn s = nn t) : gr s = gr t := by
  have e : gr3 s = gr3 t := ext (gr3_ok hs) (gr3_ok ht) (by rw [re_gr3 hs, re_gr3 ht, h]) (by rw [im_gr3 hs, im_gr3 ht])
  rw [gr3_eq, gr3_eq] at e
  have x1 := congrArg (fun z : T3 => z.1) e
  have x2 := congrArg (fun z : T3 => z.2.2) e
  dsimp only at x1 x2
  exact Prod.ext x1 x2
/-! ### zones -/
theorem nn_ap {c : Cp} {z u : T3} (hc : CpOk c) (hz : Ok z) (hu : Ok u) : nn (minus (ap c z) (ap c u)) = nn c.t * nn (minus z u) := by
  unfold nn
  rw [re_minus (ap_ok hc hz) (ap_ok hc hu), im_minus (ap_ok hc hz) (ap_ok hc hu), re_minus hz hu, im_minus hz hu]
  unfold ap
  rw [re_car hc.t hc.s hz, re_car hc.t hc.s hu, im_car hc.t hc.s hz, im_car hc.t hc.s hu]
  cases c.m <;> simp only [if_true, if_false, Bool.false_eq_true] <;> grind
def zfr (c : Cp) (n : Int) : Int × Int := fr (n * n * (gr c.t).2) (gr c.t).1
theorem nn_pos {t : T3} (h : Ok t) (n : Nz t) : 0 < nn t := by
  rw [← gr_val h]
  obtain ⟨p1, p2⟩ := gr_pos h n
  unfold val
  have h := (div_lt (a := 0) (b := 1) (c := ((gr t).1 : Rat)) (by decide) (cast_pos p2)).mpr (by rw [Rat.zero_mul, Rat.mul_one]; exact cast_pos p1)
  have e : (0 : Rat) / 1 = 0 := by grind
  rw [e] at h
  exact h
theorem zfr_p2 {c : Cp} (hc : CpOk c) (n : Int) : 0 < (zfr c n).2 := fr_pos (by have := (gr_pos hc.t hc.n).1; omega)
theorem zfr_val {c : Cp} (hc : CpOk c) (n : Int) : val (zfr c n) * nn c.t = (n : Rat) * (n : Rat) := by
  obtain ⟨p1, p2⟩ := gr_pos hc.t hc.n
  unfold zfr
  rw [fr_val (by omega), ← gr_val hc.t]
  unfold val
  have c1 := cast_ne (show (gr c.t).1 ≠ 0 by omega)
  have c2 := cast_ne (show (gr c.t).2 ≠ 0 by omega)
  simp only [Rat.intCast_mul]
  grind
theorem val1 (n : Int) : val (n, 1) = (n : Rat) := by unfold val; dsimp only; simp only [Rat.intCast_one]; grind
theorem lt_mul {x y g : Rat} (hg : 0 < g) : x < y ↔ g * x < y * g := by
  rw [Rat.mul_comm g x]; exact (Rat.mul_lt_mul_right hg).symm
theorem lt_mul' {x y g : Rat} (hg : 0 < g) : x < y ↔ x * g < g * y := by
  rw [Rat.mul_comm g y]; exact (Rat.mul_lt_mul_right hg).symm
theorem zone1 {c : Cp} {z p : T3} (hc : CpOk c) (hz : Ok z) (hp : Ok p) (n : Int) : lessF (gr (minus z (ap (bk c) p))) (zfr c n) = lessF (gr (minus (ap c z) p)) (n * n, 1) := by
  have hu := ap_ok (bk_ok hc) hp
  have e := nn_ap hc hz hu
  rw [ap_bk hc hp] at e
  have o1 := minus_ok hz hu
  have o2 := minus_ok (ap_ok hc hz) hp
  rw [lessF_iff (gr_p2 o1) (zfr_p2 hc n), lessF_iff (gr_p2 o2) (show (0 : Int) < 1 by decide), gr_val o1, gr_val o2, val1, e]
  rw [decide_eq_decide, lt_mul (nn_pos hc.t hc.n), zfr_val hc, ← Rat.intCast_mul]
theorem zone2 {c : Cp} {z p : T3} (hc : CpOk c) (hz : Ok z) (hp : Ok p) (n : Int) : lessF (zfr c n) (gr (minus z (ap (bk c) p))) = lessF (n * n, 1) (gr (minus (ap c z) p)) := by
  have hu := ap_ok (bk_ok hc) hp
  have e := nn_ap hc hz hu
  rw [ap_bk hc hp] at e
  have o1 := minus_ok hz hu
  have o2 := minus_ok (ap_ok hc hz) hp
  rw [lessF_iff (zfr_p2 hc n) (gr_p2 o1), lessF_iff (show (0 : Int) < 1 by decide) (gr_p2 o2), gr_val o1, gr_val o2, val1, e]
  rw [decide_eq_decide, lt_mul' (nn_pos hc.t hc.n), zfr_val hc, ← Rat.intCast_mul]
def inF (d lo hi : Int × Int) : Bool := !lessF d lo && !lessF hi d
def rch (a : Am) (z : T3) : Bool := inF (gr (minus z a.pole)) (a.near * a.near, 1) (a.far * a.far, 1)
/-- the zone of an arm behind a copy -/
def zctr (c : Cp) (a : Am) : T3 := ap (bk c) a.pole
theorem zone_in {c : Cp} {a : Am} {z : T3} (hc : CpOk c) (ha : AmOk a) (hz : Ok z) : inF (gr (minus z (zctr c a))) (zfr c a.near) (zfr c a.far) = rch a (ap c z) := by
  unfold inF rch zctr inF
  rw [zone1 hc hz ha.p, zone2 hc hz ha.p]
structure Zn where
  ctr : T3
  lo : Int × Int
  hi : Int × Int
def zn (c : Cp) (a : Am) : Zn := ⟨zctr c a, zfr c a.near, zfr c a.far⟩
def zl : Cp → List Am → List Zn
  | _, [] => []
  | c, a :: as => zn c a :: zl (jn c (about a)) as
theorem zl_len : ∀ (c : Cp) (as : List Am), (zl c as).length = as.length
  | _, [] => rfl
  | c, a :: as => by unfold zl; rw [List.length_cons, List.length_cons, zl_len]
theorem zl_at : ∀ {as : List Am} {c : Cp} {i : Nat} {a : Am}, as[i]? = some a → (zl c as)[i]? = some (zn ((as.take i).foldl (fun c a => jn c (about a)) c) a)
  | [], c, i, a, h => by simp at h
  | b :: as, c, 0, a, h => by simp at h; subst h; rfl
  | b :: as, c, i + 1, a, h => by
    have h' : as[i]? = some a := by simpa using h
    have z := zl_at (c := jn c (about b)) h'
    unfold zl
    simpa using z
def zns (as : List Am) : List Zn := zl still as
theorem zns_at {as : List Am} {i : Nat} {a : Am} (h : as[i]? = some a) : (zns as)[i]? = some (zn (jall (as.take i)) a) := zl_at h
theorem zns_len (as : List Am) : (zns as).length = as.length := zl_len _ _
def FB (n : Nat) (f : Int × Int) : Prop := f.1.natAbs < 2 ^ n ∧ f.2.natAbs < 2 ^ n
theorem FB.mono {n m : Nat} {f : Int × Int} (h : FB n f) (e : n ≤ m) : FB m f := ⟨up_lt e h.1, up_lt e h.2⟩
theorem fr_FB {p q : Int} {n : Nat} (hq : q ≠ 0) (h1 : p.natAbs < 2 ^ n) (h2 : q.natAbs < 2 ^ n) : FB n (fr p q) := by
  have b := low_B (y := 0) hq h1 (by show 0 < 2 ^ n; exact Nat.pos_of_ne_zero (by simp)) h2
  exact ⟨b.1, b.2.2⟩
theorem gr_FB {t : T3} {n : Nat} (h : Ok t) (b : B n t) : FB (n + n + 1) (gr t) := fr_FB (mul_ne h.ne h.ne) (add_lt (mul_lt b.1 b.1) (mul_lt b.2.1 b.2.1)) (up_lt (by omega) (mul_lt b.2.2 b.2.2))
theorem nn_jt {c : Cp} {a : Am} (hc : CpOk c) (ha : AmOk a) : nn (jn c (about a)).t = nn c.t * nn a.t := by
  show nn (times a.t (face c.t a.m)) = _
  rw [nn_times ha.t (face_ok hc.t _), nn_face]; grind
end Mth
namespace Mth
/-! ### copies that carry pairs of spots -/
abbrev Pr := T3 × T3
def crC (s g : T3) (o : Pr) (m : Bool) : Cp := ⟨times (minus o.2 g) (inv (face (minus o.1 s) m)), minus g (times (times (minus o.2 g) (inv (face (minus o.1 s) m))) (face s m)), m⟩
def crb (prs : List Pr) (h o : Pr) (m : Bool) : List Cp := if (crC h.1 h.2 o m).t = (0, 0, 1) then [] else if prs.any (fun p => !decide (ap (crC h.1 h.2 o m) p.1 = p.2)) = true then [] else [crC h.1 h.2 o m]
def oth (prs : List Pr) (h : Pr) : List Pr := prs.filter fun p => !decide (p.1 = h.1)
def crs (prs : List Pr) (h o : Pr) : List Cp := crb prs h o false ++ crb prs h o true
structure PrOk (p : Pr) : Prop where
  a : Ok p.1
  b : Ok p.2
theorem sq_nonneg (x : Rat) : 0 ≤ x * x := by
  rcases Rat.le_total (a := 0) (b := x) with c | c
  · exact Rat.mul_nonneg c c
  · have d : 0 ≤ -x := by grind
    have := Rat.mul_nonneg d d
    grind
theorem sq_zero {x y : Rat} (e : x * x + y * y = 0) : x = 0 ∧ y = 0 := by
  have p := sq_nonneg x
  have q := sq_nonneg y
  have ex : x * x = 0 := by grind
  have ey : y * y = 0 := by grind
  constructor
  · rcases Rat.mul_eq_zero.mp ex with c | c <;> exact c
  · rcases Rat.mul_eq_zero.mp ey with c | c <;> exact c
/-- two ways to carry -/
theorem two_ways {a b a' b' u v x y : Rat} (e1 : a * u - b * v = a' * u + b' * v) (e2 : a * v + b * u = b' * u - a' * v) (e3 : a * x - b * y = a' * x + b' * y) (e4 : a * y + b * x = b' * x - a' * y) (k : a * a + b * b ≠ 0) (w : u * u + v * v ≠ 0) : x * v = y * u := by
  have f1 : a' * (u * u + v * v) = (a * u - b * v) * u - (a * v + b * u) * v := by rw [e1, e2]; grind
  have f2 : b' * (u * u + v * v) = (a * u - b * v) * v + (a * v + b * u) * u := by rw [e1, e2]; grind
  have g1 : (a * x - b * y) * (u * u + v * v) = a' * (u * u + v * v) * x + b' * (u * u + v * v) * y := by rw [e3]; grind
  have g2 : (a * y + b * x) * (u * u + v * v) = b' * (u * u + v * v) * x - a' * (u * u + v * v) * y := by rw [e4]; grind
  rw [f1, f2] at g1 g2
  have h1 : (a * v + b * u) * (x * v - y * u) = 0 := by grind
  have h2 : (b * v - a * u) * (x * v - y * u) = 0 := by grind
  have h3 : ((a * a + b * b) * (u * u + v * v)) * (x * v - y * u) = 0 := by
    have : ((a * a + b * b) * (u * u + v * v)) * (x * v - y * u) = (a * v + b * u) * ((a * v + b * u) * (x * v - y * u)) + (b * v - a * u) * ((b * v - a * u) * (x * v - y * u)) := by grind
    rw [this, h1, h2]; grind
  rcases Rat.mul_eq_zero.mp h3 with c | c
  · rcases Rat.mul_eq_zero.mp c with c | c
    · exact absurd c k
    · exact absurd c w
  · grind
theorem minus_ne {a b : T3} (ha : Ok a) (hb : Ok b) (h : a ≠ b) : Nz (minus a b) := (nz_iff (minus_ok ha hb)).mpr fun e => by
  unfold nn at e
  rw [re_minus ha hb, im_minus ha hb] at e
  obtain ⟨h1, h2⟩ := sq_zero e
  exact h (ext ha hb (by grind) (by grind))
theorem zero_of {t : T3} (h : Ok t) (z : ¬ Nz t) : t = (0, 0, 1) := by
  unfold Nz at z
  refine ext h ok_0 ?_ ?_
  · rw [re_0]; unfold re; rw [show t.1 = 0 by omega]; simp only [Rat.intCast_zero, Rat.div_def, Rat.zero_mul]
  · rw [im_0]; unfold im; rw [show t.2.1 = 0 by omega]; simp only [Rat.intCast_zero, Rat.div_def, Rat.zero_mul]
section
variable {h o : Pr} {m : Bool} (ph : PrOk h) (po : PrOk o) (hn : o.1 ≠ h.1)
include ph po hn
theorem st_nz : Nz (face (minus o.1 h.1) m) := face_nz (minus_ok po.a ph.a) (minus_ne po.a ph.a hn) m
theorem crC_t : Ok (crC h.1 h.2 o m).t := times_ok (minus_ok po.b ph.b) (inv_ok (st_nz ph po hn))
theorem crC_s : Ok (crC h.1 h.2 o m).s := minus_ok ph.b (times_ok (crC_t ph po hn) (face_ok ph.a m))
theorem crC_ok (z : (crC h.1 h.2 o m).t ≠ (0, 0, 1)) : CpOk (crC h.1 h.2 o m) := ⟨crC_t ph po hn, Classical.byContradiction fun c => z (zero_of (crC_t ph po hn) c), crC_s ph po hn⟩
/-- the only one -/
theorem crC_uniq {c : Cp} (hc : CpOk c) (hm : c.m = m) (e1 : ap c h.1 = h.2) (e2 : ap c o.1 = o.2) : crC h.1 h.2 o m = c := by
  have n1 := st_nz (m := m) ph po hn
  have os := face_ok (minus_ok po.a ph.a) m
  have nn0 := nn_ne os n1
  have a1 := congrArg re e1
  have a2 := congrArg im e1
  have b1 := congrArg re e2
  have b2 := congrArg im e2
  unfold ap at a1 a2 b1 b2
  rw [re_car hc.t hc.s ph.a] at a1
  rw [im_car hc.t hc.s ph.a] at a2
  rw [re_car hc.t hc.s po.a] at b1
  rw [im_car hc.t hc.s po.a] at b2
  have ot : Ok (times (minus o.2 h.2) (inv (face (minus o.1 h.1) m))) := times_ok (minus_ok po.b ph.b) (inv_ok n1)
  have t1 : times (minus o.2 h.2) (inv (face (minus o.1 h.1) m)) = c.t := by
    have en : nn (face (minus o.1 h.1) m) = (re o.1 - re h.1) * (re o.1 - re h.1) + (im o.1 - im h.1) * (im o.1 - im h.1) := by
      rw [nn_face]; unfold nn; rw [re_minus po.a ph.a, im_minus po.a ph.a]
    refine ext ot hc.t ?_ ?_
    · rw [re_times (minus_ok po.b ph.b) (inv_ok n1), re_inv os n1, im_inv os n1, re_minus po.b ph.b, im_minus po.b ph.b, re_face, im_face, re_minus po.a ph.a, im_minus po.a ph.a]
      rw [en] at nn0 ⊢
      rw [hm] at a1 a2 b1 b2
      cases m <;> simp only [if_true, if_false, Bool.false_eq_true] at * <;> grind
    · rw [im_times (minus_ok po.b ph.b) (inv_ok n1), re_inv os n1, im_inv os n1, re_minus po.b ph.b, im_minus po.b ph.b, re_face, im_face, re_minus po.a ph.a, im_minus po.a ph.a]
      rw [en] at nn0 ⊢
      rw [hm] at a1 a2 b1 b2
      cases m <;> simp only [if_true, if_false, Bool.false_eq_true] at * <;> grind
  have e : crC h.1 h.2 o m = ⟨c.t, minus h.2 (times c.t (face h.1 m)), m⟩ := by unfold crC; rw [t1]
  rw [e]
  refine cp_ext (a := ⟨c.t, minus h.2 (times c.t (face h.1 m)), m⟩) ⟨hc.t, hc.n, minus_ok ph.b (times_ok hc.t (face_ok ph.a m))⟩ hc rfl rfl ?_ ?_ hm.symm
  · show re (minus h.2 (times c.t (face h.1 m))) = _
    rw [re_minus ph.b (times_ok hc.t (face_ok ph.a m)), re_times hc.t (face_ok ph.a m), re_face, im_face]
    rw [hm] at a1; grind
  · show im (minus h.2 (times c.t (face h.1 m))) = _
    rw [im_minus ph.b (times_ok hc.t (face_ok ph.a m)), im_times hc.t (face_ok ph.a m), re_face, im_face]
    rw [hm] at a2; grind
theorem crb_mem {prs : List Pr} (hh : h ∈ prs) (ho : o ∈ prs) {c : Cp} : c ∈ crb prs h o m ↔ (CpOk c ∧ c.m = m ∧ ∀ p ∈ prs, ap c p.1 = p.2) := by
  unfold crb
  constructor
  · intro hc
    split at hc
    · cases hc
    · rename_i z
      split at hc
      · cases hc
      · rename_i a
        rw [List.mem_singleton.mp hc]
        refine ⟨crC_ok ph po hn z, rfl, fun p hp => ?_⟩
        have a' : prs.any (fun p => !decide (ap (crC h.1 h.2 o m) p.1 = p.2)) = false := by simpa using a
        have := List.any_eq_false.mp a' p hp
        simpa using this
  · rintro ⟨hc, hm, hp⟩
    have e := crC_uniq ph po hn hc hm (hp h hh) (hp o ho)
    rw [e]
    rw [if_neg (fun z => by have := hc.n; rw [z] at this; rcases this with n | n <;> exact n rfl)]
    rw [if_neg (by
      intro a
      obtain ⟨p, h1, h2⟩ := List.any_eq_true.mp a
      simp [hp p h1] at h2)]
    exact List.mem_singleton.mpr rfl
theorem crb_len {prs : List Pr} : (crb prs h o m).length ≤ 1 := by
  unfold crb
  split
  · simp
  · split <;> simp
end
/-- all in one line -/
def flatP (h o p : Pr) : Prop := (minus p.1 h.1).1 * (minus o.1 h.1).2.1 = (minus p.1 h.1).2.1 * (minus o.1 h.1).1
theorem flat_iff {h o p : Pr} (ph : PrOk h) (po : PrOk o) (pp : PrOk p) : flatP h o p ↔ (re p.1 - re h.1) * (im o.1 - im h.1) = (im p.1 - im h.1) * (re o.1 - re h.1) := by
  have o1 := minus_ok pp.a ph.a
  have o2 := minus_ok po.a ph.a
  rw [← re_minus pp.a ph.a, ← im_minus pp.a ph.a, ← re_minus po.a ph.a, ← im_minus po.a ph.a]
  unfold flatP
  generalize minus p.1 h.1 = a at *
  generalize minus o.1 h.1 = b at *
  have na := cast_ne o1.ne
  have nb := cast_ne o2.ne
  unfold re im
  constructor
  · intro e
    have e' : ((a.1 * b.2.1 : Int) : Rat) = ((a.2.1 * b.1 : Int) : Rat) := by rw [e]
    simp only [Rat.intCast_mul] at e'
    grind
  · intro e
    have e' : ((a.1 * b.2.1 : Int) : Rat) = ((a.2.1 * b.1 : Int) : Rat) := by
      simp only [Rat.intCast_mul]
      grind
    exact_mod_cast e'
section
variable {h o : Pr} (ph : PrOk h) (po : PrOk o) (hn : o.1 ≠ h.1)
include ph po hn
theorem wn : (re o.1 - re h.1) * (re o.1 - re h.1) + (im o.1 - im h.1) * (im o.1 - im h.1) ≠ 0 := by
  have := nn_ne (minus_ok po.a ph.a) (minus_ne po.a ph.a hn)
  unfold nn at this
  rwa [re_minus po.a ph.a, im_minus po.a ph.a] at this
/-- carried the other way round, where all is in one line -/
theorem flat_both {prs : List Pr} (hh : h ∈ prs) (ho : o ∈ prs) (ok : ∀ p ∈ prs, PrOk p) (fl : ∀ p ∈ prs, flatP h o p) (m : Bool) {c : Cp} (hc : c ∈ crb prs h o m) : crb prs h o (!m) ≠ [] := by
  obtain ⟨oc, cm, cp⟩ := (crb_mem ph po hn hh ho).mp hc
  intro em
  have w := wn ph po hn
  have ot := crC_t (m := !m) ph po hn
  have n1 := st_nz (m := !m) ph po hn
  have os := face_ok (minus_ok po.a ph.a) (!m)
  have nn0 := nn_ne os n1
  have en : nn (face (minus o.1 h.1) (!m)) = (re o.1 - re h.1) * (re o.1 - re h.1) + (im o.1 - im h.1) * (im o.1 - im h.1) := by
    rw [nn_face]; unfold nn; rw [re_minus po.a ph.a, im_minus po.a ph.a]
  have a1 := congrArg re (cp h hh)
  have a2 := congrArg im (cp h hh)
  have b1 := congrArg re (cp o ho)
  have b2 := congrArg im (cp o ho)
  unfold ap at a1 a2 b1 b2
  rw [re_car oc.t oc.s ph.a, cm] at a1
  rw [im_car oc.t oc.s ph.a, cm] at a2
  rw [re_car oc.t oc.s po.a, cm] at b1
  rw [im_car oc.t oc.s po.a, cm] at b2
  have rt : re (crC h.1 h.2 o (!m)).t = ((re o.2 - re h.2) * (re o.1 - re h.1) + (im o.2 - im h.2) * ((if (!m) = true then -1 else 1) * (im o.1 - im h.1))) / ((re o.1 - re h.1) * (re o.1 - re h.1) + (im o.1 - im h.1) * (im o.1 - im h.1)) := by
    show re (times _ _) = _
    rw [re_times (minus_ok po.b ph.b) (inv_ok n1), re_inv os n1, im_inv os n1, en, re_minus po.b ph.b, im_minus po.b ph.b, re_face, im_face, re_minus po.a ph.a, im_minus po.a ph.a]
    grind
  have it : im (crC h.1 h.2 o (!m)).t = ((im o.2 - im h.2) * (re o.1 - re h.1) - (re o.2 - re h.2) * ((if (!m) = true then -1 else 1) * (im o.1 - im h.1))) / ((re o.1 - re h.1) * (re o.1 - re h.1) + (im o.1 - im h.1) * (im o.1 - im h.1)) := by
    show im (times _ _) = _
    rw [im_times (minus_ok po.b ph.b) (inv_ok n1), re_inv os n1, im_inv os n1, en, re_minus po.b ph.b, im_minus po.b ph.b, re_face, im_face, re_minus po.a ph.a, im_minus po.a ph.a]
    grind
  have nt : (crC h.1 h.2 o (!m)).t ≠ (0, 0, 1) := fun z => by
    have z1 := congrArg re z
    have z2 := congrArg im z
    rw [re_0] at z1
    rw [im_0] at z2
    have k := nn_ne oc.t oc.n
    unfold nn at k
    rw [rt] at z1
    rw [it] at z2
    cases m <;> simp only [Bool.not_true, Bool.not_false, if_true, if_false, Bool.false_eq_true] at * <;> grind
  have oc' := crC_ok ph po hn nt
  have key : crC h.1 h.2 o (!m) ∈ crb prs h o (!m) := (crb_mem ph po hn hh ho).mpr ⟨oc', rfl, fun p hp => by
    have pp := ok p hp
    have f := (flat_iff ph po pp).mp (fl p hp)
    have c1 := congrArg re (cp p hp)
    have c2 := congrArg im (cp p hp)
    unfold ap at c1 c2
    rw [re_car oc.t oc.s pp.a, cm] at c1
    rw [im_car oc.t oc.s pp.a, cm] at c2
    have sre : re (crC h.1 h.2 o (!m)).s = re h.2 - (re (crC h.1 h.2 o (!m)).t * re h.1 - im (crC h.1 h.2 o (!m)).t * ((if (!m) = true then -1 else 1) * im h.1)) := by
      show re (minus h.2 (times (crC h.1 h.2 o (!m)).t (face h.1 (!m)))) = _
      rw [re_minus ph.b (times_ok ot (face_ok ph.a _)), re_times ot (face_ok ph.a _), re_face, im_face]
    have sim : im (crC h.1 h.2 o (!m)).s = im h.2 - (re (crC h.1 h.2 o (!m)).t * ((if (!m) = true then -1 else 1) * im h.1) + im (crC h.1 h.2 o (!m)).t * re h.1) := by
      show im (minus h.2 (times (crC h.1 h.2 o (!m)).t (face h.1 (!m)))) = _
      rw [im_minus ph.b (times_ok ot (face_ok ph.a _)), im_times ot (face_ok ph.a _), re_face, im_face]
    refine ext (ap_ok oc' pp.a) pp.b ?_ ?_
    · unfold ap
      rw [re_car oc'.t oc'.s pp.a, sre, rt, it]
      show _ - _ * ((if (!m) = true then -1 else 1) * _) + _ = _
      cases m <;> simp only [Bool.not_true, Bool.not_false, if_true, if_false, Bool.false_eq_true] at * <;> grind
    · unfold ap
      rw [im_car oc'.t oc'.s pp.a, sim, rt, it]
      show _ * ((if (!m) = true then -1 else 1) * _) + _ + _ = _
      cases m <;> simp only [Bool.not_true, Bool.not_false, if_true, if_false, Bool.false_eq_true] at * <;> grind⟩
  rw [em] at key
  cases key
/-- not both, where not all is in one line -/
theorem not_both {prs : List Pr} (hh : h ∈ prs) (ho : o ∈ prs) (ok : ∀ p ∈ prs, PrOk p) {c e : Cp} (hc : c ∈ crb prs h o false) (he : e ∈ crb prs h o true) : ∀ p ∈ prs, flatP h o p := by
  obtain ⟨oc, cm, cp⟩ := (crb_mem ph po hn hh ho).mp hc
  obtain ⟨oe, em, ep⟩ := (crb_mem ph po hn hh ho).mp he
  intro p hp
  have pp := ok p hp
  rw [flat_iff ph po pp]
  have rows : ∀ q : Pr, q ∈ prs → PrOk q → re c.t * re q.1 - im c.t * im q.1 + re c.s = re q.2 ∧ re c.t * im q.1 + im c.t * re q.1 + im c.s = im q.2 ∧ re e.t * re q.1 + im e.t * im q.1 + re e.s = re q.2 ∧ im e.t * re q.1 - re e.t * im q.1 + im e.s = im q.2 := fun q hq pq => by
    have c1 := congrArg re (cp q hq)
    have c2 := congrArg im (cp q hq)
    have e1 := congrArg re (ep q hq)
    have e2 := congrArg im (ep q hq)
    unfold ap at c1 c2 e1 e2
    rw [re_car oc.t oc.s pq.a, cm] at c1
    rw [im_car oc.t oc.s pq.a, cm] at c2
    rw [re_car oe.t oe.s pq.a, em] at e1
    rw [im_car oe.t oe.s pq.a, em] at e2
    simp only [if_true, if_false, Bool.false_eq_true] at c1 c2 e1 e2
    exact ⟨by grind, by grind, by grind, by grind⟩
  obtain ⟨h1, h2, h3, h4⟩ := rows h hh ph
  obtain ⟨o1, o2, o3, o4⟩ := rows o ho po
  obtain ⟨p1, p2, p3, p4⟩ := rows p hp pp
  have k := nn_ne oc.t oc.n
  unfold nn at k
  have w := wn ph po hn
  exact two_ways (a := re c.t) (b := im c.t) (a' := re e.t) (b' := im e.t) (u := re o.1 - re h.1) (v := im o.1 - im h.1) (x := re p.1 - re h.1) (y := im p.1 - im h.1) (by grind) (by grind) (by grind) (by grind) k w
/-- nothing is carried to one spot -/
theorem crb_one {prs : List Pr} (e : o.2 = h.2) (m : Bool) : crb prs h o m = [] := by
  unfold crb
  rw [if_pos]
  refine ext (crC_t ph po hn) ok_0 ?_ ?_
  · show re (times (minus o.2 h.2) (inv (face (minus o.1 h.1) m))) = _
    rw [re_times (minus_ok po.b ph.b) (inv_ok (st_nz ph po hn)), re_minus po.b ph.b, im_minus po.b ph.b, e, re_0]; grind
  · show im (times (minus o.2 h.2) (inv (face (minus o.1 h.1) m))) = _
    rw [im_times (minus_ok po.b ph.b) (inv_ok (st_nz ph po hn)), re_minus po.b ph.b, im_minus po.b ph.b, e, im_0]; grind
/-- one of them alone where all is in one line, both where not, is not so -/
theorem crs_flat {prs : List Pr} (hh : h ∈ prs) (ho : o ∈ prs) (ok : ∀ p ∈ prs, PrOk p) (fl : ∀ p ∈ prs, flatP h o p) : (crs prs h o).length ≠ 1 := by
  unfold crs
  rw [List.length_append]
  have l1 := crb_len (m := false) ph po hn (prs := prs)
  have l2 := crb_len (m := true) ph po hn (prs := prs)
  have b1 := fun c hc => flat_both ph po hn hh ho ok fl false (c := c) hc
  have b2 := fun c hc => flat_both ph po hn hh ho ok fl true (c := c) hc
  cases e1 : crb prs h o false with
  | nil =>
    cases e2 : crb prs h o true with
    | nil => simp
    | cons c r => exact absurd e1 (b2 c (by rw [e2]; exact List.mem_cons_self ..))
  | cons c r =>
    cases e2 : crb prs h o true with
    | nil => exact absurd e2 (b1 c (by rw [e1]; exact List.mem_cons_self ..))
    | cons d t =>
      simp only [List.length_cons]
      omega
theorem crs_two {prs : List Pr} (hh : h ∈ prs) (ho : o ∈ prs) (ok : ∀ p ∈ prs, PrOk p) (nf : ¬ ∀ p ∈ prs, flatP h o p) : (crs prs h o).length ≠ 2 := by
  unfold crs
  rw [List.length_append]
  have l1 := crb_len (m := false) ph po hn (prs := prs)
  have l2 := crb_len (m := true) ph po hn (prs := prs)
  cases e1 : crb prs h o false with
  | nil => rw [List.length_nil]; omega
  | cons c r =>
    cases e2 : crb prs h o true with
    | nil => rw [e1] at l1; rw [List.length_nil]; omega
    | cons d t => exact absurd (not_both ph po hn hh ho ok (c := c) (e := d) (by rw [e1]; exact List.mem_cons_self ..) (by rw [e2]; exact List.mem_cons_self ..)) nf
theorem crs_mem {prs : List Pr} (hh : h ∈ prs) (ho : o ∈ prs) {c : Cp} : c ∈ crs prs h o ↔ (CpOk c ∧ ∀ p ∈ prs, ap c p.1 = p.2) := by
  unfold crs
  rw [List.mem_append, crb_mem ph po hn hh ho, crb_mem ph po hn hh ho]
  constructor
  · rintro (⟨a, _, b⟩ | ⟨a, _, b⟩) <;> exact ⟨a, b⟩
  · rintro ⟨a, b⟩
    cases e : c.m with
    | false => exact .inl ⟨a, rfl, b⟩
    | true => exact .inr ⟨a, rfl, b⟩
theorem crs_flags {prs : List Pr} (hh : h ∈ prs) (ho : o ∈ prs) : (crs prs h o).map (·.m) ∈ [[], [false], [true], [false, true]] := by
  unfold crs
  have l1 := crb_len (m := false) ph po hn (prs := prs)
  have l2 := crb_len (m := true) ph po hn (prs := prs)
  have f1 := fun c (hc : c ∈ crb prs h o false) => ((crb_mem ph po hn hh ho).mp hc).2.1
  have f2 := fun c (hc : c ∈ crb prs h o true) => ((crb_mem ph po hn hh ho).mp hc).2.1
  match e1 : crb prs h o false, e2 : crb prs h o true with
  | [], [] => decide
  | [c], [] => rw [List.map_append]; simp only [List.map_cons, List.map_nil]; rw [f1 c (by rw [e1]; exact List.mem_cons_self ..)]; decide
  | [], [d] => rw [List.map_append]; simp only [List.map_cons, List.map_nil]; rw [f2 d (by rw [e2]; exact List.mem_cons_self ..)]; decide
  | [c], [d] => rw [List.map_append]; simp only [List.map_cons, List.map_nil]; rw [f1 c (by rw [e1]; exact List.mem_cons_self ..), f2 d (by rw [e2]; exact List.mem_cons_self ..)]; decide
  | _ :: _ :: _, _ => rw [e1] at l1; simp at l1
  | _, _ :: _ :: _ => rw [e2] at l2; simp at l2
end
end Mth
namespace Mth
/-! ### copies seen from elsewhere -/
theorem ap_cj {o c : Cp} (ho : CpOk o) (hc : CpOk c) {z : T3} (hz : Ok z) : ap (cj o c) (ap o z) = ap o (ap c z) := by
  unfold cj
  rw [jn_ap (jn_ok (bk_ok ho) hc) ho (ap_ok ho hz), jn_ap (bk_ok ho) hc (ap_ok ho hz), bk_ap ho hz]
theorem ap_inj {o : Cp} (ho : CpOk o) {y z : T3} (hy : Ok y) (hz : Ok z) (e : ap o y = ap o z) : y = z := by
  rw [← bk_ap ho hy, ← bk_ap ho hz, e]
theorem meet_cj {o c d : Cp} (ho : CpOk o) (hc : CpOk c) (hd : CpOk d) {z : T3} (hz : Ok z) : Mem (meet (cj o c) (cj o d)) (ap o z) ↔ Mem (meet c d) z := by
  rw [meet_mem (cj_ok ho hc) (cj_ok ho hd) (ap_ok ho hz), meet_mem hc hd hz, ap_cj ho hc hz, ap_cj ho hd hz]
  exact ⟨fun e => ap_inj ho (ap_ok hc hz) (ap_ok hd hz) e, fun e => by rw [e]⟩
theorem kept_cj {o c : Cp} (ho : CpOk o) (hc : CpOk c) {z : T3} (hz : Ok z) : Mem (meet (cj o c) still) (ap o z) ↔ Mem (meet c still) z := by
  have := meet_cj ho hc still_ok hz
  rw [cj_still ho] at this
  exact this
/-- what is told of spots, and of the same spots elsewhere -/
structure Moved (o : Cp) (k k' : KS) : Prop where
  al : k = .all → k' = .all
  no : k = .none → k' = .none
  sp : ∀ s, k = .spot s → k' = .spot (ap o s)
  ln : ∀ l, k = .line l → ∃ l', k' = .line l' ∧ ∀ z, Ok z → on l z → on l' (ap o z)
theorem moved {o : Cp} (ho : CpOk o) {k k' : KS} (hk : KOk k) (hk' : KOk k') (h : ∀ z, Ok z → (Mem k' (ap o z) ↔ Mem k z)) : Moved o k k' := by
  have h' : ∀ w, Ok w → (Mem k' w ↔ Mem k (ap (bk o) w)) := fun w hw => by
    have := h (ap (bk o) w) (ap_ok (bk_ok ho) hw)
    rw [ap_bk ho hw] at this
    exact this
  refine ⟨fun e => ?_, fun e => ?_, fun s e => ?_, fun l e => ?_⟩
  · subst e
    exact ks_ext hk' hk fun w hw => by rw [h' w hw]; exact ⟨fun _ => trivial, fun _ => trivial⟩
  · subst e
    exact ks_ext hk' hk fun w hw => by rw [h' w hw]; exact ⟨fun x => x, fun x => x⟩
  · subst e
    have os : Ok s := hk
    refine ks_ext hk' (show KOk (.spot (ap o s)) from ap_ok ho os) fun w hw => ?_
    rw [h' w hw]
    show ap (bk o) w = s ↔ w = ap o s
    exact ⟨fun e => by rw [← e, ap_bk ho hw], fun e => by rw [e, bk_ap ho os]⟩
  · subst e
    cases k' with
    | line l' => exact ⟨l', rfl, fun z hz hl => (h z hz).mpr hl⟩
    | all =>
      exfalso
      have : KS.line l = .all := ks_ext hk trivial fun z hz => by rw [← h z hz]; exact ⟨fun _ => trivial, fun _ => trivial⟩
      cases this
    | none =>
      exfalso
      have : KS.line l = .none := ks_ext hk trivial fun z hz => by rw [← h z hz]; exact ⟨fun x => x, fun x => x⟩
      cases this
    | spot s' =>
      exfalso
      have os : Ok s' := hk'
      have : KS.line l = .spot (ap (bk o) s') := ks_ext hk (show KOk (.spot (ap (bk o) s')) from ap_ok (bk_ok ho) os) fun z hz => by
        rw [← h z hz]
        show ap o z = s' ↔ z = ap (bk o) s'
        exact ⟨fun e => by rw [← e, bk_ap ho hz], fun e => by rw [e, ap_bk ho os]⟩
      cases this
theorem nn_jn {a b : Cp} (ha : CpOk a) (hb : CpOk b) : nn (jn a b).t = nn a.t * nn b.t := by
  have e := congrArg re (gr_jn ha hb)
  rw [re_gr3 (jn_ok ha hb).t, re_times (gr3_ok ha.t) (gr3_ok hb.t), re_gr3 ha.t, re_gr3 hb.t, im_gr3 ha.t, im_gr3 hb.t] at e
  grind
theorem nn_still : nn still.t = 1 := by
  unfold nn still
  dsimp only
  rw [re_1, im_1]
  grind
theorem gr_cj {o c : Cp} (ho : CpOk o) (hc : CpOk c) : gr (cj o c).t = gr c.t := by
  refine gr_congr (cj_ok ho hc).t hc.t ?_
  unfold cj
  have e : nn (bk o).t * nn o.t = 1 := by rw [← nn_jn (bk_ok ho) ho, bk_jn ho, nn_still]
  rw [nn_jn (jn_ok (bk_ok ho) hc) ho, nn_jn (bk_ok ho) hc]
  grind
theorem cj_m (o c : Cp) : (cj o c).m = c.m := by
  show ((o.m != c.m) != o.m) = c.m
  cases o.m <;> cases c.m <;> rfl
theorem bk_m (c : Cp) : (bk c).m = c.m := rfl
theorem one_map {α : Type} {f : α → α} {l l' : List α} (h : l.length ≤ 1) (h' : l'.length ≤ 1) (a : ∀ x ∈ l, f x ∈ l') (b : ∀ y ∈ l', ∃ x, x ∈ l) : l.map f = l' := by
  match l, l', h, h', a, b with
  | [], [], _, _, _, _ => rfl
  | [x], [y], _, _, a, _ => 
    have := a x (List.mem_singleton.mpr rfl)
    show [f x] = [y]
    rw [List.mem_singleton.mp this]
  | [], y :: _, _, _, _, b => obtain ⟨x, hx⟩ := b y (List.mem_cons_self ..); cases hx
  | x :: _, [], _, _, a, _ => have := a x (List.mem_cons_self ..); cases this
/-- pairs, carried elsewhere -/
def prm (e : Cp) (p : Pr) : Pr := (ap e p.1, ap e p.2)
def prw (p : Pr) : Pr := (p.2, p.1)
theorem prm_ok {e : Cp} (he : CpOk e) {p : Pr} (h : PrOk p) : PrOk (prm e p) := ⟨ap_ok he h.a, ap_ok he h.b⟩
theorem prw_ok {p : Pr} (h : PrOk p) : PrOk (prw p) := ⟨h.b, h.a⟩
section
variable {prs : List Pr} {h o : Pr} (ph : PrOk h) (po : PrOk o) (hn : o.1 ≠ h.1) (hh : h ∈ prs) (ho : o ∈ prs) (ok : ∀ p ∈ prs, PrOk p)
include ph po hn hh ho ok
theorem crs_cj {e : Cp} (he : CpOk e) : (crs prs h o).map (cj e) = crs (prs.map (prm e)) (prm e h) (prm e o) := by
  have hn' : (prm e o).1 ≠ (prm e h).1 := fun z => hn (ap_inj he po.a ph.a z)
  have one : ∀ m, (crb prs h o m).map (cj e) = crb (prs.map (prm e)) (prm e h) (prm e o) m := fun m => by
    refine one_map (crb_len ph po hn) (crb_len (prm_ok he ph) (prm_ok he po) hn') (fun c hc => ?_) (fun c hc => ?_)
    · rw [crb_mem ph po hn hh ho] at hc
      rw [crb_mem (prm_ok he ph) (prm_ok he po) hn' (List.mem_map.mpr ⟨h, hh, rfl⟩) (List.mem_map.mpr ⟨o, ho, rfl⟩)]
      refine ⟨cj_ok he hc.1, by rw [cj_m]; exact hc.2.1, fun p hp => ?_⟩
      obtain ⟨q, hq, rfl⟩ := List.mem_map.mp hp
      show ap (cj e c) (ap e q.1) = ap e q.2
      rw [ap_cj he hc.1 (ok q hq).a, hc.2.2 q hq]
    · rw [crb_mem (prm_ok he ph) (prm_ok he po) hn' (List.mem_map.mpr ⟨h, hh, rfl⟩) (List.mem_map.mpr ⟨o, ho, rfl⟩)] at hc
      refine ⟨cj (bk e) c, ?_⟩
      rw [crb_mem ph po hn hh ho]
      refine ⟨cj_ok (bk_ok he) hc.1, by rw [cj_m]; exact hc.2.1, fun p hp => ?_⟩
      have k := hc.2.2 _ (List.mem_map.mpr ⟨p, hp, rfl⟩)
      have k : ap c (ap e p.1) = ap e p.2 := k
      have op := ok p hp
      have := ap_cj (bk_ok he) hc.1 (ap_ok he op.a)
      rw [bk_ap he op.a, k, bk_ap he op.b] at this
      exact this
  unfold crs
  rw [List.map_append, one, one]
theorem crs_bk (hn2 : o.2 ≠ h.2) : (crs prs h o).map bk = crs (prs.map prw) (prw h) (prw o) := by
  have one : ∀ m, (crb prs h o m).map bk = crb (prs.map prw) (prw h) (prw o) m := fun m => by
    refine one_map (crb_len ph po hn) (crb_len (prw_ok ph) (prw_ok po) hn2) (fun c hc => ?_) (fun c hc => ?_)
    · rw [crb_mem ph po hn hh ho] at hc
      rw [crb_mem (prw_ok ph) (prw_ok po) hn2 (List.mem_map.mpr ⟨h, hh, rfl⟩) (List.mem_map.mpr ⟨o, ho, rfl⟩)]
      refine ⟨bk_ok hc.1, hc.2.1, fun p hp => ?_⟩
      obtain ⟨q, hq, rfl⟩ := List.mem_map.mp hp
      have r := bk_ap hc.1 (ok q hq).a
      rw [hc.2.2 q hq] at r
      exact r
    · rw [crb_mem (prw_ok ph) (prw_ok po) hn2 (List.mem_map.mpr ⟨h, hh, rfl⟩) (List.mem_map.mpr ⟨o, ho, rfl⟩)] at hc
      refine ⟨bk c, ?_⟩
      rw [crb_mem ph po hn hh ho]
      refine ⟨bk_ok hc.1, hc.2.1, fun p hp => ?_⟩
      have k := hc.2.2 (prw p) (List.mem_map.mpr ⟨p, hp, rfl⟩)
      change ap c p.2 = p.1 at k
      have r := bk_ap hc.1 (ok p hp).b
      rw [k] at r
      exact r
  unfold crs
  rw [List.map_append, one, one]
end
theorem oth_map {prs : List Pr} {h o : Pr} {os : List Pr} {f : Pr → Pr} (i : ∀ p ∈ prs, ((f p).1 = (f h).1 ↔ p.1 = h.1)) (e : oth prs h = o :: os) : oth (prs.map f) (f h) = f o :: os.map f := by
  have : oth (prs.map f) (f h) = (oth prs h).map f := by
    unfold oth
    rw [List.filter_map]
    congr 1
    refine List.filter_congr fun p hp => ?_
    show (!decide ((f p).1 = (f h).1)) = !decide (p.1 = h.1)
    rw [decide_eq_decide.mpr (i p hp)]
  rw [this, e]
  rfl
end Mth
namespace My
open PySem L2 Mth
/-! ### a def of the module and its promise -/
structure D (P : Program) (w : World) (K : PySem.W.Frag) (mg : Str → Option Value) (base : Heap) (x : Str) (k : Nat) (sp : Sp) : Prop where
  ex : ∃ f, FnR P w K mg base CX0 k f sp ∧ PySem.W.keepIn K (.ref f) = true ∧ mg x = some (.ref f)
theorem rOf {P : Program} {w : World} {K : PySem.W.Frag} {mg : Str → Option Value} {base : Heap} {CX : CXT} {k : Nat} {f : Addr} {fd : FuncData} {ps : List Str} {sp : Sp} (F : FnOk P w K mg base CX k f fd ps sp) (b : Binds K fd ps []) : FnR P w K mg base CX k f sp := by
  intro A outer s H us vs Q E hr e0 r h
  have KX : K.In s.heap := e0.mod.kin.keeps fun b o e => (e0.bs b o e).1
  have hl : us.length = ps.length := by rw [← r.length]; exact F.len _ _ _ _ h
  have z := b s us KX (by rw [List.append_nil]; exact hl)
  rw [List.append_nil] at z
  exact F.run A outer s H ⟨us, []⟩ us vs Q E hr e0 z r h
def tCl (sp : Sp) (t : TA) : TE := fun σ H Q => t σ H fun vs H1 => sp vs H1 Q E0
section
variable {X : Cx} {k : Nat} {f : Addr} {sp : Sp} {x : Str} {e : Expr} {es : List Expr} {t : TA} {p pos : Pos}
theorem pcR (F : FnR X.prog X.w X.K X.mg X.base CX0 k f sp) (hr : Room k X.A) (hk : PySem.W.keepIn X.K (.ref f) = true) (hm : X.mg x = some (.ref f)) (ha : PA X (e :: es) t) (hg : Gl X x := by rfl) (hd : (x == ("__debug__" : Str)) = false := by decide)
    (he : starEach (e :: es) X.env = (false, eval e X.env) :: starEach es X.env := by rfl) (hpl : (backTo pos (starEach es X.env)).any (·.1) = false := by rfl) :
    PE X (.Call (.Name x p) (e :: es) [] pos) (tCl sp t) := by
  refine ⟨fun pins s σ H Q I h => ?_⟩
  refine wpAny_Call_Name_kw (ld_glob I hg hm ?_ hd)
  refine PySem.W.callWith_K (h₀ := X.base) I.ok.mod.kin hk (thn (ha.run pos pins s σ H _ I h) fun us s1 ⟨vs, H1, I1, r, q⟩ => ⟨I1.kIn, ?_⟩) he hpl
  exact wpAny_call (run_fnR F hr pass0 I1 r q)
/-- f(e, ..) by the promise of f -/
theorem pc (d : D X.prog X.w X.K X.mg X.base x k sp) (hr : Room k X.A) (ha : PA X (e :: es) t) (hg : Gl X x := by rfl) (hd : (x == ("__debug__" : Str)) = false := by decide)
    (he : starEach (e :: es) X.env = (false, eval e X.env) :: starEach es X.env := by rfl) (hpl : (backTo pos (starEach es X.env)).any (·.1) = false := by rfl) :
    PE X (.Call (.Name x p) (e :: es) [] pos) (tCl sp t) := by
  obtain ⟨f, F, hk, hm⟩ := d.ex
  exact pcR F hr hk hm ha hg hd he hpl
end
section
variable {X : Cx} {k : Nat} {sp : Sp} {x : Str} {p pos : Pos}
/-- f() by the promise of f -/
theorem pc0 (d : D X.prog X.w X.K X.mg X.base x k sp) (hr : Room k X.A) (hg : Gl X x := by rfl) (hd : (x == ("__debug__" : Str)) = false := by decide) : PE X (.Call (.Name x p) [] [] pos) (tCl sp tNil) := by
  obtain ⟨f, F, hk, hm⟩ := d.ex
  refine ⟨fun pins s σ H Q I h => ?_⟩
  refine wpAny_Call_Name_kw (ld_glob I hg hm ?_ hd)
  exact PySem.W.callWith_K0 I.kIn hk (wpAny_call (run_fnR (us := []) (vs := []) F hr pass0 I .nil h))
end
/-! ### operators of own classes -/
def rOwn2 (C : Addr) (sp : Sp) : R2 := fun x y H Q => ∃ a b dx fs dy gs, x = .ref a ∧ y = .ref b ∧ H a = some (.ins C dx fs) ∧ H b = some (.ins C dy gs) ∧ sp [x, y] H Q E0
def rOwn1 (C : Addr) (sp : Sp) : V → Hp → VK → Prop := fun x H Q => ∃ a dx fs, x = .ref a ∧ H a = some (.ins C dx fs) ∧ sp [x] H Q E0
section
variable {X : Cx} {k : Nat} {f C : Addr} {sp : Sp}
theorem back_of {pins : List (Addr × Obj)} {σ : L2.St} {Q : VK} {v : Value} {s' : Shared} (h : EP X pins σ Q v s') : PySem.W.CmpBack (EP X pins σ Q) v s' := by
  have h0 := h
  obtain ⟨z, H', I', rz, q⟩ := h
  cases v <;> first | exact h0 | (exfalso; cases z <;> first | (obtain ⟨t, e⟩ := rz; cases e) | cases rz)
theorem op_own {op : Operator} (F : FnR X.prog X.w X.K X.mg X.base CX0 k f sp) (hr : Room k X.A) (hc : PySem.W.selfFirst X.K C = true)
    (hs : PySem.W.findIn X.K (.ref C) (PySem.dunder op.info.2) = some (some (.ref f))) (hf : PySem.W.isFn X.K (.ref f) = true) : OpR X (binaryOp op) (rOwn2 C sp) := by
  intro pins s σ H x y v u Q I rx ry hq
  obtain ⟨a, b, dx, fs, dy, gs, rfl, rfl, ha, hb', q⟩ := hq
  cases rx
  cases ry
  obtain ⟨mA, J, _⟩ := ins_get I.hok ha
  obtain ⟨mB, J', _⟩ := ins_get I.hok hb'
  obtain ⟨od, J, _⟩ := J.look
  obtain ⟨od', J', _⟩ := J'.look
  obtain ⟨m, hF⟩ := I.fr
  refine PySem.W.binop_K hF I.ok.mod.kin J J'.type hc hs hf ?_
  exact wpAny_mono (wpAny_call (run_fnR (us := [.ref a, .ref b]) (vs := [V.ref a, V.ref b]) F hr pass0 I (.cons rfl (.cons rfl .nil)) q)) (fun v s' h => back_of h) fun _ _ z => z
theorem un_own (F : FnR X.prog X.w X.K X.mg X.base CX0 k f sp) (hr : Room k X.A)
    (hs : PySem.W.findIn X.K (.ref C) "__invert__" = some (some (.ref f))) (hf : PySem.W.isFn X.K (.ref f) = true) : UnR X (unaryOp .Invert) (rOwn1 C sp) := by
  intro pins s σ H x v Q I rx hq
  obtain ⟨a, dx, fs, rfl, ha, q⟩ := hq
  cases rx
  obtain ⟨mA, J, _⟩ := ins_get I.hok ha
  obtain ⟨od, J, _⟩ := J.look
  obtain ⟨m, hF⟩ := I.fr
  refine PySem.W.ksp_inv hF I.ok.mod.kin J hs hf ?_
  exact wpAny_call (run_fnR (us := [.ref a]) (vs := [V.ref a]) F hr pass0 I (.cons rfl .nil) q)
theorem eq_own (F : FnR X.prog X.w X.K X.mg X.base CX0 k f sp) (hr : Room k X.A)
    (hs : PySem.W.findIn X.K (.ref C) "__eq__" = some (some (.ref f))) (hf : PySem.W.isFn X.K (.ref f) = true) : OpR X (compareOp .Eq) (rOwn2 C sp) := by
  intro pins s σ H x y v u Q I rx ry hq
  obtain ⟨a, b, dx, fs, dy, gs, rfl, rfl, ha, hb', q⟩ := hq
  cases rx
  cases ry
  obtain ⟨mA, J, _⟩ := ins_get I.hok ha
  obtain ⟨mB, J', _⟩ := ins_get I.hok hb'
  obtain ⟨od, J, _⟩ := J.look
  obtain ⟨od', J', _⟩ := J'.look
  obtain ⟨m, hF⟩ := I.fr
  show wpAny (model X.prog X.w) X.A (richCompare .Eq (.ref a) (.ref b)) (EP X pins σ Q) X.xe s
  refine PySem.W.cmp_K (op := .Eq) (tb := .ref C) hr.units0 hF I.ok.mod.kin J J'.type (by simp [PySem.W.notFirst]) hs hf ?_
  exact wpAny_mono (wpAny_call (run_fnR (us := [.ref a, .ref b]) (vs := [V.ref a, V.ref b]) F hr pass0 I (.cons rfl (.cons rfl .nil)) q)) (fun v s' h => back_of h) fun _ _ z => z
end
/-! ### // by a number of any sign -/
def CDivX (_ j : Int) : Prop := j ≠ 0 ∧ j.natAbs.log2 < 9000
theorem op_fdivX {X : Cx} : OpR X (binaryOp .FloorDiv) (rI CDivX fun i j => .int (i.fdiv j)) := opI fun i j _ _ _ _ _ hc q =>
  PyProof.Rows.floordiv_int hc.1 q (.inl (PyProof.noPylong_of_log2 hc.2))
theorem divX {i j : Int} {b : Nat} (h : j ≠ 0) (hb : j.natAbs < 2 ^ b) (h0 : 0 < b) (h9 : b ≤ 9000) : CDivX i j := ⟨h, Nat.lt_of_lt_of_le (PySem.Flt.log2_lt_of h0 hb) h9⟩
/-! ### tuples of three ints -/
def v3 (s : T3) : List V := [.int s.1, .int s.2.1, .int s.2.2]
def IsT (K : PySem.W.Frag) (H : Hp) (v : V) (s : T3) : Prop := ∃ p, v = .ref p ∧ SqT K H p (v3 s)
theorem same_T {K : PySem.W.Frag} {H H' : Hp} {a : Addr} {xs : List V} (e : Same H H') (h : SqT K H a xs) : SqT K H' a xs := SqT.ext h e
theorem IsT.same {K : PySem.W.Frag} {H H' : Hp} {v : V} {s : T3} (h : IsT K H v s) (e : Same H H') : IsT K H' v s := by
  obtain ⟨p, rfl, q⟩ := h
  exact ⟨p, rfl, same_T e q⟩
theorem same_new {H : Hp} {p : Addr} (h : H p = none) (o : HO) : Same H (upd H p o) := fun b u q => by rw [upd_ne (ne_of_none q h)]; exact q
theorem IsT.new {K : PySem.W.Frag} {H : Hp} {p : Addr} {a b c : Int} : IsT K (upd H p (.tup [.int a, .int b, .int c])) (.ref p) (a, b, c) := ⟨p, rfl, .inl (.inl upd_same)⟩
theorem yes_of {σ : St} {H : Hp} {A B : Hp → Prop} (h : A H) : tYes σ H (fun b H3 => if b = true then A H3 else B H3) := by
  show if true = true then A H else B H
  rw [if_pos rfl]
  exact h
/-! ### displays of tuples of three written ints -/
def tT3 (K : PySem.W.Frag) (t : T3) : TE := fun _ H Q => ∀ H' p, Same H H' → SqT K H' p (v3 t) → Q (.ref p) H'
def tTups (K : PySem.W.Frag) (ts : List T3) : TA := fun _ H Q => ∀ H' (ps : List Addr), Same H H' → Paired (fun p t => SqT K H' p (v3 t)) ps ts → Q (ps.map V.ref) H'
theorem paT0 {X : Cx} : PA X [] (tTups X.K []) := ⟨fun pos pins s σ H Q I h => (pa_nil (X := X)).run pos pins s σ H Q I (h H [] (Same.refl _) .nil)⟩
theorem paT {X : Cx} {e : Expr} {es : List Expr} {te : TE} {t : T3} {ts : List T3} (he : PE X e te) (hi : ∀ σ H Q, tT3 X.K t σ H Q → te σ H Q) (hr : PA X es (tTups X.K ts))
    (hs : starEach (e :: es) X.env = (false, eval e X.env) :: starEach es X.env := by rfl) : PA X (e :: es) (tTups X.K (t :: ts)) :=
  ⟨fun pos pins s σ H Q I h => (pa_cons he hr hs).run pos pins s σ H Q I (hi σ H _ fun H1 p s1 h1 => fun H2 ps s2 h2 => h H2 (p :: ps) (s1.trans s2) (.cons (same_T s2 h1) h2))⟩
/-! ### all is kept but one list -/
def Keep (d : Addr) (H H' : Hp) : Prop := ∀ b o, b ≠ d → H b = some o → H' b = some o
theorem Keep.of {d : Addr} {H H' : Hp} (s : Same H H') : Keep d H H' := fun b o _ e => s b o e
theorem Keep.trans {d : Addr} {H H1 H2 : Hp} (a : Keep d H H1) (b : Keep d H1 H2) : Keep d H H2 := fun c o n e => b c o n (a c o n e)
theorem keep_upd {d : Addr} {H : Hp} {o : HO} : Keep d H (upd H d o) := fun b u n e => by rw [upd_ne n]; exact e
theorem keep_T {K : PySem.W.Frag} {H H' : Hp} {d p : Addr} {xs ys : List V} (h : SqT K H p xs) (hd : H d = some (.lst ys)) (k : Keep d H H') : SqT K H' p xs := by
  rcases h with (h | ⟨o, h⟩) | h
  · exact .inl (.inl (k _ _ (ne_of h hd (by intro z; cases z)) h))
  · exact .inl (.inr ⟨o, k _ _ (ne_of h hd (by intro z; cases z)) h⟩)
  · exact .inr h
theorem IsT.keep {K : PySem.W.Frag} {H H' : Hp} {v : V} {s : T3} {d : Addr} {ys : List V} (h : IsT K H v s) (hd : H d = some (.lst ys)) (k : Keep d H H') : IsT K H' v s := by
  obtain ⟨p, rfl, q⟩ := h
  exact ⟨p, rfl, keep_T q hd k⟩
/-! ### two ways that meet -/
theorem seq_join {t u : TS} {D : Ends} {σ : St} {H : Hp} (W : St → Hp → Prop) (k : ∀ σ' H', W σ' H' → u D σ' H') (h : ∀ D' : Ends, D'.rt = D.rt → (∀ σ' H', W σ' H' → D'.nx σ' H') → t D' σ H) : tSeq t u D σ H := h { D with nx := u D } rfl k
theorem exp_join {t : TT} {ta tb : TE} {σ : St} {H : Hp} {Q : VK} (W : V → Hp → Prop) (k : ∀ v H', W v H' → Q v H') (h : ∀ Q' : VK, (∀ v H', W v H' → Q' v H') → tIf t ta tb σ H Q') : tIf t ta tb σ H Q := h Q k
theorem small {n : Nat} (h : n ≤ 1000) : n ≤ sizeLine := Nat.le_of_lt (small1000 h)
end My
namespace My
open PySem L2 Mth LamX
/-! ### list.count of flat items -/
section
variable {X : Cx}
def rCount (K : PySem.W.Frag) : V → List V → Hp → VK → Prop := fun x xs H Q => ∃ (a : Addr) (ys : List V) (y : V), x = V.ref a ∧ xs = [y] ∧ SqL K H a ys ∧ flatV y = true ∧ ys.all flatV = true ∧ Q (.int ((ys.countP fun z => eqV z y) : Nat)) H
theorem count_eqU {y : V} : ∀ {ys : List V} {us : List Value}, Vals ys us → ys.all flatV = true → us.countP (eqU y) = ys.countP fun z => eqV z y
  | _, _, .nil, _ => rfl
  | z :: ys, u :: us, .cons r rs, f => by
    rw [List.all_cons, Bool.and_eq_true] at f
    rw [List.countP_cons, List.countP_cons, count_eqU rs f.2, eqU_of r f.1]
theorem mt_count : MtR X "list.count" (rCount X.K) := by
  intro pins s σ H x xs v us Q I rx rxs h
  obtain ⟨a, ys, y, rfl, rfl, hs, fy, fys, q⟩ := h
  cases rx
  cases rxs with
  | cons ry rt =>
    rename_i uy ut
    cases rt
    obtain ⟨its, rv, ⟨⟨cls, dd, data, sl⟩, n, ho, hc, hdn, hd⟩, hlen⟩ := I.list hs
    simp only at hc hd
    subst hc hd
    refine call_meets PySem.F.slot_list_count ⟨_, ho, rfl⟩ PySem.F.entry_list_count (PySem.F.args_list_count_2 _ _)
      (SeqAt.list_countAt a its.toArray n dd sl uy (eqU y)) ⟨ho, fun u' hu' => mem_eqAt ry fy rv fys u' (by simpa using hu'), ?_⟩
    have ec : its.toArray.toList.countP (eqU y) = ys.countP fun z => eqV z y := count_eqU rv fys
    refine ⟨.int ((ys.countP fun z => eqV z y) : Nat), H, I.tok _, ⟨s.toks, ?_⟩, q⟩
    show Value.int ((its.toArray.toList.countP (eqU y) : Nat) : Int) s.toks = _
    rw [ec]
end
/-! ### what is never asked -/
def tNev : TE := fun _ _ _ => False
theorem pe_nev {X : Cx} {e : Expr} : PE X e tNev := ⟨fun _ _ _ _ _ _ h => h.elim⟩
/-! ### the kinds of a caught error -/
def tIs (a : Addr) (i : Nat) (bs : List Bool) : TA := fun σ H Q => σ[i]? = some (some (.ref a)) ∧ Q (bs.map V.bl) H
section
variable {X : Cx} {a D : Addr} {oe : Obj} {pn : List (Addr × Obj)} {i : Nat}
theorem paIs0 : PA (X.suite a ((a, oe) :: pn)) [] (tIs a i []) := ⟨fun pos pins s σ H Q I h => (pa_nil (X := X.suite a ((a, oe) :: pn))).run pos pins s σ H Q I h.2⟩
theorem paIs {x n : Str} {p p1 p2 pos : Pos} {C : Addr} {b : Bool} {bs : List Bool} {es : List Expr} (EC : ExcC X.K D) (hz : Zc (.ref D) none oe) (hf : ∃ vs, oe.data = .fields vs) (hk : PySem.W.kitOne X.K (.ref D) (.ref C) = some b)
    (hm : X.mg x = some (.ref C)) (bi : X.mg "isinstance" = none) (hg : Gl X x) (hgi : Gl X "isinstance") (hd : (x == ("__debug__" : Str)) = false) (hN : X.N[i]? = some n) (hv : Vis X.env.scope n) (hnd : (n == ("__debug__" : Str)) = false) (hnc : (n == ("__classdict__" : Str)) = false)
    (hr : PA (X.suite a ((a, oe) :: pn)) es (tIs a i bs))
    (hs : starEach ((.Call (.Name "isinstance" p) [.Name n p1, .Name x p2] [] pos) :: es) X.env = (false, eval (.Call (.Name "isinstance" p) [.Name n p1, .Name x p2] [] pos) X.env) :: starEach es X.env := by rfl)
    (he : starEach (.Name n p1 :: [.Name x p2]) X.env = (false, eval (.Name n p1) X.env) :: starEach [.Name x p2] X.env := by rfl) :
    PA (X.suite a ((a, oe) :: pn)) ((.Call (.Name "isinstance" p) [.Name n p1, .Name x p2] [] pos) :: es) (tIs a i (b :: bs)) := by
  have h1 : PE (X.suite a ((a, oe) :: pn)) (.Call (.Name "isinstance" p) [.Name n p1, .Name x p2] [] pos) (tCB (rIsE X.K D a) (tCons (tVar i) (tCons (tC (.ref C)) tNil))) :=
    pe_callB (call_isE EC hz hf) hgi bi (by decide +kernel) (pa_cons (pe_var hN hv hnd hnc) (pa_cons (pe_glob (v := .ref C) hg hm rfl hd) pa_nil rfl) he) (by decide) (by decide) rfl rfl
  refine ⟨fun pos' pins s σ H Q I h => (pa_cons h1 hr hs).run pos' pins s σ H Q I ?_⟩
  exact ⟨_, h.1, .ref C, .ref C, b, rfl, fun u r => r, hk, h.1, h.2⟩
end
end My
namespace My
open PySem L2 Mth PyProof.Rows
/-! ### a op b op c op d as a test -/
def tChain3 (r r' r'' : R2) (ta tb tc td : TE) : TE := fun σ H Q => ta σ H fun x H1 => tb σ H1 fun y H2 => r x y H2 fun z H3 => ∃ k, z = .bl k ∧
  (if k = true then tc σ H3 fun w' H4 => r' y w' H4 fun z' H5 => ∃ k', z' = .bl k' ∧ (if k' = true then td σ H5 fun u' H6 => r'' w' u' H6 Q else Q (.bl false) H5) else Q (.bl false) H3)
theorem pt_chain3 {X : Cx} {a b c d : Expr} {ta tb tc td : TE} {pos : Pos} {op op' op'' : CmpOp} {r r' r'' : R2} (ho : OpR X (compareOp op) r) (ho' : OpR X (compareOp op') r') (ho'' : OpR X (compareOp op'') r'') (ha : PE X a ta) (hb : PE X b tb) (hc : PE X c tc) (hd : PE X d td)
    (hm : lastMarks [op, op', op''] [b, c, d] = false := by with_unfolding_all rfl) : PT X (.Compare a [op, op', op''] [b, c, d] pos) (tTest (tChain3 r r' r'' ta tb tc td)) := by
  refine ⟨fun pins s σ H Q I h => ?_⟩
  refine isTrue_chain (thn (ha.run pins s σ H _ I h) fun v s1 ⟨x, H1, I1, r1, q1⟩ => test_link (thn (hb.run pins s1 σ H1 _ I1 q1) fun u s2 ⟨y, H2, I2, r2, q2⟩ =>
    thn (ho pins s2 σ H2 x y v u _ I2 r1 r2 q2) fun e s3 ⟨z, H3, I3, r3, k, ek, q3⟩ => ?_)) hm
  subst ek
  cases r3
  refine wpAny_truthy_bool ?_
  cases k with
  | false =>
    obtain ⟨k', e', q'⟩ := q3
    cases e'
    exact ite_ff ⟨H3, I3, q'⟩
  | true =>
    refine ite_tt (test_link (thn (hc.run pins s3 σ H3 _ I3 q3) fun w' s4 ⟨z', H4, I4, r4, q4⟩ => thn (ho' pins s4 σ H4 y z' u w' _ I4 r2 r4 q4) fun d' s5 ⟨z2, H5, I5, r5, k2, e2, q5⟩ => ?_))
    subst e2
    cases r5
    refine wpAny_truthy_bool ?_
    cases k2 with
    | false =>
      obtain ⟨k', e', q'⟩ := q5
      cases e'
      exact ite_ff ⟨H5, I5, q'⟩
    | true =>
      refine ite_tt (test_last (thn (hd.run pins s5 σ H5 _ I5 q5) fun w2 s6 ⟨z3, H6, I6, r6, q6⟩ => thn (ho'' pins s6 σ H6 z' z3 w' w2 _ I6 r4 r6 q6) fun d3 s7 ⟨z4, H7, I7, r7, k3, e3, q7⟩ => ?_))
      subst e3
      cases r7
      exact wpAny_truthy_bool ⟨H7, I7, q7⟩
/-! ### instances made with no argument, with a starred one -/
section
variable {X : Cx} {k : Nat} {f C : Addr} {sp : Sp} {x : Str} {p pos sp_ : Pos} {e : Expr} {te : TE}
theorem pe_makeR0 (M : Mk X.K C f) (F : FnR X.prog X.w X.K X.mg X.base CX0 k f sp) (hr : Room (k + 1) X.A) (hg : Gl X x) (hm : X.mg x = some (.ref C)) (hdb : (x == ("__debug__" : Str)) = false := by decide) : PE X (.Call (.Name x p) [] [] pos) (StX.tMakeR C sp E0 tNil) := by
  refine ⟨fun pins s σ H Q I h => ?_⟩
  refine wpAny_Call_Name_kw (ld_glob I hg hm ?_ hdb)
  exact PySem.W.callWith_K0 I.kIn M.kp (StX.run_makeR (us := []) M F hr pass0 I .nil h)
def tMakeS (K : PySem.W.Frag) (C : Addr) (sp : Sp) (te : TE) : TE := fun σ H Q => te σ H fun y H1 => ∃ a xs, y = V.ref a ∧ (SqT K H1 a xs ∨ SqL K H1 a xs) ∧ ∀ x dx, H1 x = Option.none → H1 dx = Option.none → dx ≠ x →
  sp (V.ref x :: xs) (upd (upd H1 dx (.own x)) x (.ins C dx [])) (fun v H2 => v = .non ∧ Q (.ref x) H2) E0
theorem pe_makeS (M : Mk X.K C f) (F : FnR X.prog X.w X.K X.mg X.base CX0 k f sp) (hr : Room (k + 1) X.A) (hg : Gl X x) (hm : X.mg x = some (.ref C)) (he : PE X e te) (hdb : (x == ("__debug__" : Str)) = false := by decide)
    (hst : starEach [.Starred e sp_] X.env = [(true, eval e X.env)] := by rfl) : PE X (.Call (.Name x p) [.Starred e sp_] [] pos) (tMakeS X.K C sp te) := by
  refine ⟨fun pins s σ H Q I h => ?_⟩
  refine wpAny_Call_Name_kw (ld_glob I hg hm ?_ hdb)
  refine PySem.W.callWith_S (h₀ := X.base) I.ok.mod.kin M.kp (thn (he.run pins s σ H _ I h) fun v s1 ⟨y, H1, I1, ry, a, xs, ey, hxs, q⟩ => ?_) hst
  subst ey
  obtain rfl : v = Value.ref a := ry
  exact StX.star_any I1 hxs fun us s2 I2 rv => ⟨I2.kIn, StX.run_makeR M F hr pass0 I2 rv q⟩
end
/-! ### properties that tell a field -/
structure MPf (P : Program) (w : World) (K : PySem.W.Frag) (mg : Str → Option Value) (base : Heap) (C : Addr) (x f : Str) : Prop where
  cl : Cls K C
  ex : ∃ g fd p, FnOk P w K mg base CX0 1 g fd ["self"] (getSp C f) ∧ Binds K fd ["self"] [] ∧ PropOf K C x p g
theorem pe_pf {X : Cx} {C : Addr} {x f : Str} {e : Expr} {te : TE} {pos : Pos} (M : MPf X.prog X.w X.K X.mg X.base C x f) (hr : Room 2 X.A) (he : PE X e te) (hab : attributeBase e x X.env (eval e X.env) = eval e X.env := by rfl) : PE X (.Attribute e x pos) (tProp C (getSp C f) [] E0 te) := by
  obtain ⟨g, fd, p, F, b, hp⟩ := M.ex
  exact pe_prop he M.cl hp F hr b .nil pass0 hab
theorem pf_of {C p dx : Addr} {H : Hp} {Q : VK} {fs : List (Str × V)} {f : Str} {z : V} (h : H p = some (.ins C dx fs)) (l : fs.lookup f = some z) (q : Q z H) : ∃ a dx fs, V.ref p = .ref a ∧ H a = some (.ins C dx fs) ∧ getSp C f (.ref a :: []) H Q E0 :=
  ⟨p, dx, fs, rfl, h, p, dx, fs, z, rfl, h, l, q⟩
/-! ### fields -/
theorem putF_len (x : Str) (v : V) : ∀ fs : List (Str × V), (putF x v fs).length ≤ fs.length + 1
  | [] => Nat.le_refl _
  | (y, u) :: fs => by
    unfold putF
    split
    · simp
    · have := putF_len x v fs
      simp only [List.length_cons]
      omega
/-- all is kept but an instance that is being made -/
theorem keepI_T {K : PySem.W.Frag} {H H' : Hp} {d p C dx : Addr} {fs : List (Str × V)} {xs : List V} (h : SqT K H p xs) (hd : H d = some (.ins C dx fs)) (k : Keep d H H') : SqT K H' p xs := by
  rcases h with (h | ⟨o, h⟩) | h
  · exact .inl (.inl (k _ _ (ne_of h hd (by intro z; cases z)) h))
  · exact .inl (.inr ⟨o, k _ _ (ne_of h hd (by intro z; cases z)) h⟩)
  · exact .inr h
/-! ### a def with a star parameter behind its others -/
theorem fun_star {P : Program} {w : World} {K : PySem.W.Frag} {mg : Str → Option Value} {base : Heap} {x qual : Str} {st : Stmt} {f : Addr} {fd : FuncData} {N ps : List Str} {pv : Str} {k : Nat} {sp : Sp} (F : Fun K x qual st f fd) (S : FnScope N (ps ++ [pv]) (defScope st))
    (hb : ∀ (kV doc pm : Value) (an : Option Addr) (cdv ct : Value) (us rest : List Value), us.length = ps.length → bindArgs (PySem.W.fnOf x qual (defArgs st) (defBody st) (defScope st) .none kV doc pm an cdv ct) ⟨us ++ rest, []⟩ = (newTuple rest >>= fun t => pure (ps.zip us ++ [(pv, t)])))
    (hbody : ∀ (cdv : Value) (A : Around) (outer : List Env) (s : Shared) (H : Hp) (vs : List V) (Q : VK) (E : XK), Room k (A.deeper (envOfC qual (defScope st) s.heap.objs.size f cdv)) → sp vs H Q E →
      ∃ t, PSs (cxOf CX0 P w K mg base N qual (defScope st) f cdv A outer s H E).nox (defBody st) t ∧ t { nx := fun _ H' => Q .non H', rt := Q } (start N vs) H) :
    FnR P w K mg base CX0 (k + 1) f (fun vs H Q E => ∃ ws rest, vs = ws ++ rest ∧ ws.length = ps.length ∧ rest.length ≤ sizeLine ∧ ∀ p, H p = Option.none → sp (ws ++ [V.ref p]) (upd H p (.tup rest)) Q E) := by
  obtain ⟨oc, od, kV, doc, pm, an, cdv, ct, osl, rfl, lk, hcd⟩ := F.ex
  refine StX.fn_star lk hcd S StX.cxUp_none (hb kV doc pm an cdv ct) fun A outer s H vs Q E hr hsp => ?_
  obtain ⟨t, h, q⟩ := hbody cdv A outer s H vs Q E hr hsp
  exact ⟨t, h.nox, q⟩
end My
namespace My
open PySem PySem.Spec PyProof.Rows L2 TS
/-! ### sorted(a set of tuples of ints of any sign): how many there are -/
/-- ints of any sign, ranked -/
def rkS (B : Int) (ns : List Int) : Int := code (2 * B) (ns.map (· + B))
def SdS (B : Int) (ns : List Int) : Prop := ∀ m ∈ ns, -B ≤ m ∧ m < B
theorem SdS.up {B : Int} {ns : List Int} (h : SdS B ns) : Bd (2 * B) (ns.map (· + B)) := fun m hm => by
  obtain ⟨k, hk, rfl⟩ := List.mem_map.mp hm
  have := h k hk
  constructor <;> omega
theorem SdS.tl {B k : Int} {ns : List Int} (h : SdS B (k :: ns)) : SdS B ns := fun m hm => h m (List.mem_cons_of_mem _ hm)
theorem rkS_lt {B k l : Int} {ns ms : List Int} (e : ns.length = ms.length) (h1 : SdS B ns) (h2 : SdS B ms) (h : k < l) : rkS B (k :: ns) < rkS B (l :: ms) :=
  code_lt (by rw [List.length_map, List.length_map]; exact e) h1.up h2.up (show k + B < l + B by omega)
theorem rkS_eq {B k : Int} {ns ms : List Int} (e : ns.length = ms.length) : rkS B (k :: ns) < rkS B (k :: ms) ↔ rkS B ns < rkS B ms := code_same (by rw [List.length_map, List.length_map]; exact e)
section
variable {prog : Program} {w : World} {A : Around} {E : Value → Shared → Prop} {s : Shared}
theorem lexS {Q : Bool → Shared → Prop} {B : Int} {c : Bool} {us : List Value} {ns : List Int} (hu : IntsAre us ns) : ∀ {ws : List Value} {ms : List Int} (j : Nat), IntsAre ws ms → ns.length = ms.length → SdS B ns → SdS B ms → Q (decide (rkS B ns < rkS B ms)) s → PySem.W.KatLex prog w A c false Q (us.zip ws) j s := by
  induction hu with
  | nil =>
    intro ws ms j hw hl _ _ q
    cases hw with
    | nil =>
      rw [decide_eq_false (Int.lt_irrefl _)] at q
      exact PySem.W.kat_nil q
    | cons _ _ _ => cases hl
  | @cons k tk us ns hu ih =>
    intro ws ms j hw hl b1 b2 q
    cases hw with
    | nil => cases hl
    | @cons l tl ws ms hw =>
      have el : ns.length = ms.length := Nat.succ.inj hl
      show PySem.W.KatLex prog w A c false Q ((.int k tk, .int l tl) :: us.zip ws) j s
      refine PySem.W.kat_cons (wpAny_eqBool_int ?_)
      by_cases same : k = l
      · subst same
        rw [decide_eq_decide.mpr (rkS_eq el)] at q
        rw [beq_self_eq_true]
        exact PySem.W.kat_yes (ih (j + 1) hw el b1.tl b2.tl q)
      · have er : decide (rkS B (k :: ns) < rkS B (l :: ms)) = decide (k < l) := decide_eq_decide.mpr ⟨fun y => by
            rcases Int.lt_or_gt_of_ne same with z | z
            · exact z
            · have := rkS_lt el.symm b2.tl b1.tl z
              omega, rkS_lt el b1.tl b2.tl⟩
        rw [er] at q
        rw [beq_eq_false_iff_ne.mpr same]
        exact PySem.W.kat_no (oneLt_ints _ q)
/-- tuples of d ints each -/
def TupsS (h : Heap) (d : Nat) (B : Int) (us : List Value) : Prop := ∀ u ∈ us, ∃ ns, TupInts h u ns ∧ ns.length = d + 1 ∧ SdS B ns
theorem headsS {h : Heap} {d : Nat} {B : Int} : ∀ us : List Value, TupsS h d B us → ∃ fs, PySem.W.KatTups h us fs ∧ fs.length = us.length ∧ ∀ y ∈ fs, ∃ k t, y = Value.int k t
  | [], _ => ⟨[], .nil, rfl, fun y hy => nomatch hy⟩
  | u :: us, T => by
    obtain ⟨fs, k1, k2, k3⟩ := headsS us fun z hz => T z (List.mem_cons_of_mem _ hz)
    obtain ⟨ns, ⟨a, arr, rfl, ⟨ob, g1, g2, m, g3⟩, ia⟩, ln, _⟩ := T u List.mem_cons_self
    cases ea : arr.toList with
    | nil =>
      rw [ea] at ia
      have := ia.length
      rw [ln] at this
      cases this
    | cons z zs =>
      obtain ⟨k, t, ez⟩ := ia.all z (by rw [ea]; exact List.mem_cons_self)
      have e0 : arr[0]? = some z := by
        rw [← Array.getElem?_toList, ea]; rfl
      refine ⟨z :: fs, .cons g1 g2 g3 e0 k1, congrArg Nat.succ k2, fun y hy => ?_⟩
      cases hy with
      | head => exact ⟨k, t, ez⟩
      | tail _ hy => exact k3 y hy
theorem TupsS.up {h h' : Heap} {d : Nat} {B : Int} {us : List Value} (T : TupsS h d B us) (k : ∀ b o, h.get? b = some o → o.cls = .type "tuple" → h'.get? b = some o) : TupsS h' d B us := fun u hu => by
  obtain ⟨ns, t, r⟩ := T u hu
  exact ⟨ns, t.keeps k, r⟩
theorem kindS {d : Nat} {B : Int} {us : List Value} {Q : SortKind → Shared → Prop} (two : 2 ≤ us.length) (T : TupsS s.heap d B us) (q : ∀ κ, Cmp prog w A s κ (pairsOf us) (fun u => rkS B (intsOf s.heap u)) → Q κ s) : wpAny (model prog w) A (keyKind' us.toArray) Q E s := by
  obtain ⟨fs, k1, k2, k3⟩ := headsS us T
  refine PySem.W.kat_kind (T := Value.type "int") k1 (by omega) (fun y hy => ?_) rfl (q _ fun x y hx hy Q2 E2 q2 => ?_)
  · obtain ⟨k, t, rfl⟩ := k3 y hy
    exact .of_pure rfl
  rw [pairsOf_toList] at hx hy
  obtain ⟨ns, tx, lx, bx⟩ := T _ (mem_zip_self hx).2
  obtain ⟨ms, ty, ly, by_⟩ := T _ (mem_zip_self hy).2
  have q2 : Q2 (decide (rkS B (intsOf s.heap x.1) < rkS B (intsOf s.heap y.1))) s := q2
  rw [tx.ints, ty.ints] at q2
  obtain ⟨a1, r1, f1, ⟨o1, u1, u2, m1, u3⟩, j1⟩ := tx
  obtain ⟨a2, r2, f2, ⟨o2, v1, v2, m2, v3⟩, j2⟩ := ty
  have sz : decide (r1.size < r2.size) = false := decide_eq_false (by have n1 := j1.length; have n2 := j2.length; rw [Array.length_toList] at n1 n2; omega)
  rw [f1, f2]
  refine PySem.W.kat_lt u1 u3 v1 v3 ?_
  rw [sz]
  exact lexS j1 0 j2 (by omega) bx by_ q2
theorem sortS {l : Addr} {us : List Value} {n d : Nat} {B : Int} {Q : Value → Shared → Prop} (ho : s.heap.get? l = some (seqObj "list" us.toArray n)) (few : us.length < 64) (T : TupsS s.heap d B us)
    (q : ∀ out : Array Value, out.toList.Perm us → Q .none { s with heap := sortedHeap s.heap l us out }) : wpAny (model prog w) A (call (.builtin "list.sort") [.ref l]) Q E s := by
  have nl : ∀ b o, s.heap.get? b = some o → o.cls = .type "tuple" → b ≠ l := fun b o e hc z => by
    rw [z, ho] at e
    rw [← Option.some.inj e] at hc
    have hc : Value.type "list" = Value.type "tuple" := hc
    injection hc with hc
    exact absurd hc (by decide)
  refine wpAny_call_entry slot_list_sort ⟨_, ho, rfl⟩ entry_list_sort (SK.plain_sort (r := fun u => rkS B (intsOf (midHeap s.heap l us) u)) ho few (fun two Q2 q2 => ?_) fun ps out e1 e2 _ => ⟨_, rfl, q out ?_⟩) (args_list_sort _)
  · exact kindS (s := { s with heap := midHeap s.heap l us }) two (T.up fun b o e hc => midHeap_old (nl b o e hc) e) q2
  · rw [e1]
    have := e2.map Prod.snd
    rwa [List.map_snd_zip (Nat.le_refl _)] at this
end
theorem u65 {k : Nat} {A : Around} (r : Room k A) : A.units + 65 < cLine := by have := r.un; omega
/-! ### shapes of data -/
theorem canAll : ∀ {xs : List PyData}, (∀ x ∈ xs, x.canLay0 = true) → PyData.canLayAll0 xs = true
  | [], _ => rfl
  | x :: xs, h => by
    unfold PyData.canLayAll0
    rw [h x List.mem_cons_self, canAll fun y hy => h y (List.mem_cons_of_mem _ hy)]
    rfl
theorem depAll {n : Nat} : ∀ {xs : List PyData}, (∀ x ∈ xs, x.depth ≤ n) → PyData.depthAll xs ≤ n
  | [], _ => Nat.zero_le _
  | x :: xs, h => by
    unfold PyData.depthAll
    have h1 := h x List.mem_cons_self
    have h2 := depAll fun y hy => h y (List.mem_cons_of_mem _ hy)
    omega
theorem shapedL {xs : List PyData} (h : ∀ x ∈ xs, x.canLay0 = true ∧ x.depth ≤ 60) : SeqAt.shaped (.list xs) = true := by
  show (PyData.canLayAll0 xs && decide (PyData.depthAll xs + 1 ≤ 64)) = true
  rw [canAll fun x hx => (h x hx).1, decide_eq_true (by have := depAll (n := 60) fun x hx => (h x hx).2; omega)]
  rfl
theorem eqvL : ∀ (xs : List PyData), PyData.eqv (.list xs) (.list []) = xs.isEmpty
  | [] => rfl
  | _ :: _ => rfl
theorem paired_perm {α β : Type} {R : α → β → Prop} {us ws : List α} (p : ws.Perm us) : ∀ {ps : List β}, Paired R us ps → ∃ qs : List β, qs.Perm ps ∧ Paired R ws qs := by
  induction p with
  | nil => intro ps h; cases h; exact ⟨[], .nil, .nil⟩
  | cons x _ ih =>
    intro ps h
    cases h with
    | cons r t =>
      obtain ⟨qs, a, b⟩ := ih t
      exact ⟨_ :: qs, a.cons _, .cons r b⟩
  | swap x y l =>
    intro ps h
    cases h with
    | cons r t =>
      cases t with
      | cons r2 t2 => exact ⟨_ :: _ :: _, .swap _ _ _, .cons r2 (.cons r t2)⟩
  | trans _ _ ih1 ih2 =>
    intro ps h
    obtain ⟨qs, a, b⟩ := ih2 h
    obtain ⟨rs, c, d⟩ := ih1 b
    exact ⟨rs, c.trans a, d⟩
section
variable {X : Cx}
def rSortedN (K : PySem.W.Frag) (P : Program) (w : World) : List V → Hp → VK → Prop := fun vs H Q => ∃ (a : Addr) (L : List (Addr × List Int)) (d : Nat) (B : Int), vs = [V.ref a] ∧ H a = some (SetTO P w a L) ∧ (∀ p ∈ L, SqT K H p.1 (p.2.map V.int) ∧ p.2.length = d + 1 ∧ SdS B p.2) ∧
  ((L.map (·.2)).Nodup → L.length < 64 → ∀ zs p, zs.length = L.length → H p = none → Q (.ref p) (upd H p (.lst zs)))
theorem cr_sortedN (hc : X.calm = true) : CallR X (.builtin "sorted") (rSortedN X.K X.prog X.w) := by
  intro pins s σ H vs us Q I r h
  obtain ⟨a, L, d, B, rfl, ha, hL, q⟩ := h
  obtain ⟨es, ep, t, R⟩ := ((I.hok a _ ha).1 : SetT0 X.prog X.w s.heap a L).full fun p hp => I.isT (hL p hp).1
  have few := R.few
  rw [Vals.ref1 r]
  refine Calls.call_function_entry kind_sorted plain_sorted entry_sorted (args_sorted1 _) ?_
  unfold Builtin.«sorted»
  refine wpAny_bind (m := checkCount "sorted" 1 1 _) (wpAny_pure ?_)
  obtain ⟨ob, g1, g2, g3⟩ := R.ob
  have hes : es.toList.map (·.2) = L.map fun q => Value.ref q.1 := by
    rw [R.rows, rowsOf, List.map_map]; rfl
  refine wpAny_bind (collect_set (A := X.A.in1) (I.ok.hd hc) ⟨ob, g1, g2.1, g3⟩ R.fits (by rw [R.size]; exact Nat.lt_of_lt_of_le few (by decide)) R.tab.ris R.led fun s1 out k1 k2 k3 k4 pm => ?_)
  rw [hes] at pm
  have lo : out.length = L.length := by rw [pm.length_eq, List.length_map]
  refine wpAny_bind (wpAny_newList ?_ (by rw [sizeLine_eq]; omega))
  have hl : (s1.heap.push (seqObj "list" out.toArray 0)).get? s1.heap.objs.size = some (seqObj "list" out.toArray 0) := Heap.get?_push_size _ rfl
  have up : ∀ b o, s.heap.get? b = some o → (s1.heap.push (seqObj "list" out.toArray 0)).get? b = some o := fun b o e => Heap.get?_push_of_some _ (k1 b o e)
  refine wpAny_bind (wpAny_holding (sortS (s := { s1 with heap := s1.heap.push (seqObj "list" out.toArray 0) }) (d := d) (B := B) hl (by omega) (fun u hu => ?_) fun arr pa => ?_))
  · obtain ⟨p, hp, rfl⟩ := List.mem_map.mp (pm.mem_iff.mp hu)
    exact ⟨p.2, tupInts_of (P := X.prog) (w := X.w) (isT_keep (R.tup p hp) up), (hL p hp).2⟩
  obtain ⟨c, hc'⟩ := sortedHeap_at (vs := out) (out := arr) hl
  have la : arr.toList.length = L.length := by rw [pa.length_eq, lo]
  have refs : ∀ u ∈ arr.toList, ∃ b, u = Value.ref b := fun u hu => by
    obtain ⟨p, _, rfl⟩ := List.mem_map.mp (pm.mem_iff.mp (pa.mem_iff.mp hu))
    exact ⟨_, rfl⟩
  have hn : H s1.heap.objs.size = none := I.hok.fresh k2
  have kall : ∀ b o, s.heap.get? b = some o → (sortedHeap (s1.heap.push (seqObj "list" out.toArray 0)) s1.heap.objs.size out arr).get? b = some o := fun b o e => by
    have lt := Heap.lt_size (k1 b o e)
    rw [sortedHeap_old (Nat.ne_of_lt lt) (by rw [size_push']; exact Nat.lt_succ_of_lt lt)]
    exact up b o e
  have hzl : (arr.toList.map backV).length ≤ sizeLine := by rw [List.length_map, sizeLine_eq]; omega
  have J : Inv X pins σ (upd H s1.heap.objs.size (.lst (arr.toList.map backV))) { s with heap := sortedHeap (s1.heap.push (seqObj "list" out.toArray 0)) s1.heap.objs.size out arr, gens := s1.gens, drawn := s1.drawn, toks := s1.toks } :=
    I.call (ch := []) (Un.laid kall k2 hn) (I.hok.laid kall k2 ⟨hzl, arr.toList, c, vals_back refs, hc'⟩) (by rw [k3]; exact I.bare) (fun _ z => nomatch z)
  have es1 : ({ s1 with heap := sortedHeap (s1.heap.push (seqObj "list" out.toArray 0)) s1.heap.objs.size out arr } : Shared) = { s with heap := sortedHeap (s1.heap.push (seqObj "list" out.toArray 0)) s1.heap.objs.size out arr, gens := s1.gens, drawn := s1.drawn, toks := s1.toks } := by
    cases s1
    cases s
    cases k4
    rfl
  refine wpAny_pure ⟨_, rfl, ?_⟩
  show EP X pins σ Q (.ref s1.heap.objs.size) ({ s1 with heap := sortedHeap (s1.heap.push (seqObj "list" out.toArray 0)) s1.heap.objs.size out arr } : Shared)
  rw [es1]
  exact ⟨.ref s1.heap.objs.size, _, J, rfl, q R.nd few _ _ (by rw [List.length_map]; exact la) hn⟩
end
end My
namespace My
open PySem PySem.Spec PyProof.Rows L2 RZ
/-! ### list(zip(a, b)) of two tuples -/
section
variable {prog : Program} {w : World} {A : Around} {E : Value → Shared → Prop} {s : Shared}
theorem zipT_item_held {z TI TO T i1 i2 l1 l2 : Addr} {f : Bool} {oT : Obj} {k1 k2 : Nat} {xs ys : Array Value} {x y : Value} {Q : Value → Shared → Prop} (D : ZipApart z TI TO i1 i2 l1 l2)
    (hz : IsZipHeld s.heap z TI TO T f) (hT : s.heap.get? T = some oT) (hTI : IsPair s.heap TI (.ref i1) (.ref i2))
    (h1 : s.heap.IsTupleIter i1 l1 k1) (h2 : s.heap.IsTupleIter i2 l2 k2) (hl1 : s.heap.IsTuple l1 xs) (hl2 : s.heap.IsTuple l2 ys) (hx : xs[k1]? = some x) (hy : ys[k2]? = some y)
    (hQ : ∀ h', IsZipHeld h' z TI TO T true → h'.IsTupleIter i1 l1 (k1 + 1) → h'.IsTupleIter i2 l2 (k2 + 1) → IsPair h' s.heap.objs.size x y → h'.objs.size = s.heap.objs.size + 1 →
      (∀ c o, c ≠ z → c ≠ i1 → c ≠ i2 → s.heap.get? c = some o → h'.get? c = some o) → Q (.ref s.heap.objs.size) { s with heap := h' }) :
    wpAny (model prog w) A (Builtin.«zip.__next__» ⟨[.ref z], []⟩) (fun fin s' => ∃ v, fin = .done (.ret v) ∧ Q v s') E s := by
  show wpAny _ _ (field (.ref z) 2 >>= _) _ _ _
  refine wpAny_bind (wpAny_field hz rfl (x := .bool false) rfl ?_)
  show wpAny _ _ (field (.ref z) 3 >>= _) _ _ _
  refine wpAny_bind (wpAny_field hz rfl (x := .ref TI) rfl ?_)
  refine wpAny_bind (wpAny_seqItems hTI rfl ?_)
  show wpAny _ _ (Builtin.SmallTypes.ownedTupleIsFree (.ref z) >>= _) _ _ _
  refine wpAny_bind (wpAny_tupleHeld_zip hz hT fun h₁ hz₁ hs₁ => ?_)
  simp only [Bool.false_eq_true, if_false]
  refine wpAny_bind ?_
  rw [← Array.forIn_toList]
  simp only [List.forIn_cons, List.forIn_nil]
  refine wpAny_bind (wpAny_bind (wpAny_holding ?_))
  show wpAny _ _ (Builtin.SmallTypes.nextOf (.ref i1) >>= _) _ _ _
  refine wpAny_bind (nextOf_tuple_item (s := { s with heap := h₁ }) (h1.extBut hs₁.extBut D.i1z) (hl1.extBut hs₁.extBut D.l1z) hx fun h₂ h1₂ hs₂ => wpAny_pure ?_)
  refine wpAny_pure ?_
  refine wpAny_bind (wpAny_bind (wpAny_holding ?_))
  show wpAny _ _ (Builtin.SmallTypes.nextOf (.ref i2) >>= _) _ _ _
  refine wpAny_bind (nextOf_tuple_item (s := { s with heap := h₂ }) ((h2.extBut hs₁.extBut D.i2z).extBut hs₂.extBut D.i12.symm) ((hl2.extBut hs₁.extBut D.l2z).extBut hs₂.extBut D.l2i1) hy fun h₃ h2₃ hs₃ => wpAny_pure ?_)
  refine wpAny_pure (wpAny_pure ?_)
  show wpAny _ _ (newTuple [x, y] >>= _) _ _ _
  refine wpAny_bind (wpAny_newTuple ?_)
  have hsz : h₃.objs.size = s.heap.objs.size := by rw [hs₃.1, hs₂.1, hs₁.1]
  have hz₃ : IsZipHeld h₃ z TI TO T true := hs₃.extBut _ _ D.i2z.symm (hs₂.extBut _ _ D.i1z.symm hz₁)
  have hk : ∀ c o, c ≠ z → c ≠ i1 → c ≠ i2 → s.heap.get? c = some o → h₃.get? c = some o := fun c o c1 c2 c3 e => hs₃.extBut _ _ c3 (hs₂.extBut _ _ c2 (hs₁.extBut _ _ c1 e))
  have h1₃ : h₃.IsTupleIter i1 l1 (k1 + 1) := h1₂.extBut hs₃.extBut D.i12
  refine wpAny_pure ⟨_, rfl, ?_⟩
  show Q (.ref h₃.objs.size) _
  have hp : IsPair (h₃.push { cls := .type "tuple", data := .seq #[x, y] }) h₃.objs.size x y := Heap.get?_push_size _ rfl
  have hz4 : (h₃.push { cls := .type "tuple", data := .seq #[x, y] }).objs.size = h₃.objs.size + 1 := Heap.size_push ..
  rw [hsz] at hp hz4 ⊢
  exact hQ _ (Heap.get?_push_of_some _ hz₃) (h1₃.at fun o e => Heap.get?_push_of_some _ e) (h2₃.at fun o e => Heap.get?_push_of_some _ e) hp hz4 fun c o c1 c2 c3 e => Heap.get?_push_of_some _ (hk c o c1 c2 c3 e)
theorem zipT_end_held {z TI TO T i1 i2 l1 l2 : Addr} {f : Bool} {oT : Obj} {k1 k2 : Nat} {xs ys : Array Value} {Q : PySem.Fin → Shared → Prop} (hh : A.handled = none) (D : ZipApart z TI TO i1 i2 l1 l2)
    (hz : IsZipHeld s.heap z TI TO T f) (hT : s.heap.get? T = some oT) (hTI : IsPair s.heap TI (.ref i1) (.ref i2))
    (h1 : s.heap.IsTupleIter i1 l1 k1) (h2 : s.heap.IsTupleIter i2 l2 k2) (hl1 : s.heap.IsTuple l1 xs) (hl2 : s.heap.IsTuple l2 ys) (hend : xs[k1]? = none ∨ ys[k2]? = none)
    (hE : ∀ h' e, (∀ c o, c ≠ z → c ≠ i1 → c ≠ i2 → s.heap.get? c = some o → h'.get? c = some o) → (∃ o, h'.get? e = some o ∧ o.cls = .type "StopIteration") → E (.ref e) { s with heap := h' }) :
    wpAny (model prog w) A (Builtin.«zip.__next__» ⟨[.ref z], []⟩) Q E s := by
  show wpAny _ _ (field (.ref z) 2 >>= _) _ _ _
  refine wpAny_bind (wpAny_field hz rfl (x := .bool false) rfl ?_)
  show wpAny _ _ (field (.ref z) 3 >>= _) _ _ _
  refine wpAny_bind (wpAny_field hz rfl (x := .ref TI) rfl ?_)
  refine wpAny_bind (wpAny_seqItems hTI rfl ?_)
  show wpAny _ _ (Builtin.SmallTypes.ownedTupleIsFree (.ref z) >>= _) _ _ _
  refine wpAny_bind (wpAny_tupleHeld_zip hz hT fun h₁ hz₁ hs₁ => ?_)
  simp only [Bool.false_eq_true, if_false]
  refine wpAny_bind ?_
  rw [← Array.forIn_toList]
  simp only [List.forIn_cons, List.forIn_nil]
  refine wpAny_bind (wpAny_bind (wpAny_holding ?_))
  show wpAny _ _ (Builtin.SmallTypes.nextOf (.ref i1) >>= _) _ _ _
  cases hx : xs[k1]? with
  | none =>
    refine wpAny_bind (nextOf_tuple_end (s := { s with heap := h₁ }) hh (h1.extBut hs₁.extBut D.i1z) (hl1.extBut hs₁.extBut D.l1z) hx fun h₂ e hs₂ he => ?_)
    exact hE h₂ e (fun c o c1 c2 _ x => hs₂ _ _ c2 (hs₁.extBut _ _ c1 x)) he
  | some x =>
    have hy : ys[k2]? = none := by rcases hend with h | h; rw [hx] at h; cases h; exact h
    refine wpAny_bind (nextOf_tuple_item (s := { s with heap := h₁ }) (h1.extBut hs₁.extBut D.i1z) (hl1.extBut hs₁.extBut D.l1z) hx fun h₂ h1₂ hs₂ => wpAny_pure ?_)
    refine wpAny_pure ?_
    refine wpAny_bind (wpAny_bind (wpAny_holding ?_))
    show wpAny _ _ (Builtin.SmallTypes.nextOf (.ref i2) >>= _) _ _ _
    refine wpAny_bind (nextOf_tuple_end (s := { s with heap := h₂ }) hh ((h2.extBut hs₁.extBut D.i2z).extBut hs₂.extBut D.i12.symm) ((hl2.extBut hs₁.extBut D.l2z).extBut hs₂.extBut D.l2i1) hy fun h₃ e hs₃ he => ?_)
    exact hE h₃ e (fun c o c1 c2 c3 x => hs₃ _ _ c3 (hs₂.extBut _ _ c2 (hs₁.extBut _ _ c1 x))) he
theorem nextT_item_held {z TI TO T i1 i2 l1 l2 : Addr} {f : Bool} {oT : Obj} {k1 k2 : Nat} {xs ys : Array Value} {x y : Value} {Q : Option Value → Shared → Prop} (D : ZipApart z TI TO i1 i2 l1 l2)
    (hz : IsZipHeld s.heap z TI TO T f) (hT : s.heap.get? T = some oT) (hTI : IsPair s.heap TI (.ref i1) (.ref i2))
    (h1 : s.heap.IsTupleIter i1 l1 k1) (h2 : s.heap.IsTupleIter i2 l2 k2) (hl1 : s.heap.IsTuple l1 xs) (hl2 : s.heap.IsTuple l2 ys) (hx : xs[k1]? = some x) (hy : ys[k2]? = some y)
    (hQ : ∀ h', IsZipHeld h' z TI TO T true → h'.IsTupleIter i1 l1 (k1 + 1) → h'.IsTupleIter i2 l2 (k2 + 1) → IsPair h' s.heap.objs.size x y → h'.objs.size = s.heap.objs.size + 1 →
      (∀ c o, c ≠ z → c ≠ i1 → c ≠ i2 → s.heap.get? c = some o → h'.get? c = some o) → Q (some (.ref s.heap.objs.size)) { s with heap := h' }) :
    wpAny (model prog w) A (pyNext (.ref z)) Q E s := by
  have hTy : s.TypeIs (.ref z) "zip" := ⟨_, hz, rfl⟩
  unfold pyNext
  exact wpAny_bind (wpAny_attempt (wpAny_callSpecial?_slot (name := Str.ofString "__next__") hTy F.slot_zip_next
    (wpAny_call_entry F.slot_zip_next hTy F.entry_zip_next
      (zipT_item_held D hz hT hTI h1 h2 hl1 hl2 hx hy fun h' a1 a3 a4 a5 a6 a7 => wpAny_pure (hQ h' a1 a3 a4 a5 a6 a7)) (F.args_zip_next_1 _))))
theorem nextT_end_held {z TI TO T i1 i2 l1 l2 : Addr} {f : Bool} {oT : Obj} {k1 k2 : Nat} {xs ys : Array Value} {Q : Option Value → Shared → Prop} (hh : A.handled = none) (D : ZipApart z TI TO i1 i2 l1 l2)
    (hz : IsZipHeld s.heap z TI TO T f) (hT : s.heap.get? T = some oT) (hTI : IsPair s.heap TI (.ref i1) (.ref i2))
    (h1 : s.heap.IsTupleIter i1 l1 k1) (h2 : s.heap.IsTupleIter i2 l2 k2) (hl1 : s.heap.IsTuple l1 xs) (hl2 : s.heap.IsTuple l2 ys) (hend : xs[k1]? = none ∨ ys[k2]? = none)
    (hQ : ∀ h', (∀ c o, c ≠ z → c ≠ i1 → c ≠ i2 → s.heap.get? c = some o → h'.get? c = some o) → Q none { s with heap := h' }) : wpAny (model prog w) A (pyNext (.ref z)) Q E s := by
  have hTy : s.TypeIs (.ref z) "zip" := ⟨_, hz, rfl⟩
  unfold pyNext
  refine wpAny_bind (wpAny_attempt (wpAny_callSpecial?_slot (name := Str.ofString "__next__") hTy F.slot_zip_next
    (wpAny_call_entry F.slot_zip_next hTy F.entry_zip_next (zipT_end_held hh D hz hT hTI h1 h2 hl1 hl2 hend fun h' e hk he => ?_) (F.args_zip_next_1 _))))
  obtain ⟨o, ho, hc⟩ := he
  refine wpAny_bind (wpAny_isInstance (T := "StopIteration") (b := true) ⟨o, ho, hc⟩ isSubtype_stop ?_)
  exact wpAny_pure (hQ _ hk)
/-- the zip behind i turns, its first pair (at base) still held -/
structure ZSt (z TI TO i1 i2 l1 l2 base : Addr) (xs ys : Array Value) (i : Nat) (h : Heap) : Prop where
  ti : IsPair h TI (.ref i1) (.ref i2)
  a1 : h.IsTupleIter i1 l1 i
  a2 : h.IsTupleIter i2 l2 i
  t1 : h.IsTuple l1 xs
  t2 : h.IsTuple l2 ys
  zz : (i = 0 ∧ IsZip h z TI TO .none ∧ ∃ a b, IsPair h TO a b) ∨ (0 < i ∧ ∃ f, IsZipHeld h z TI TO base f)
theorem zip_no_len : typeLookup (.type "zip") "__len__" = pure none := by rw [typeLookup_type, builtinLookup_eq_fast]; kernel_rfl
theorem zip_no_hint : typeLookup (.type "zip") "__length_hint__" = pure none := by rw [typeLookup_type, builtinLookup_eq_fast]; kernel_rfl

abbrev rfs (base n : Nat) : Array Value := ((List.range n).map fun j => Value.ref (base + j)).toArray
theorem rfs_push (base i : Nat) : (rfs base i).push (.ref (base + i)) = rfs base (i + 1) := by
  show (((List.range i).map fun j => Value.ref (base + j)).toArray).push _ = ((List.range (i + 1)).map fun j => Value.ref (base + j)).toArray
  rw [List.range_succ, List.map_append, List.push_toArray]
  rfl
theorem rfs_size (base i : Nat) : (rfs base i).size = i := by
  show (((List.range i).map fun j => Value.ref (base + j)).toArray).size = i
  rw [List.size_toArray, List.length_map, List.length_range]
theorem zloop {z TI TO i1 i2 l1 l2 base S : Addr} {xs ys : Array Value} {n : Nat} {R : Result → Shared → Prop} (hh : A.handled = none) (D : ZipApart z TI TO i1 i2 l1 l2) (hn : n ≤ sizeLine) (hx : n ≤ xs.size) (hy : n ≤ ys.size) (he : xs.size ≤ n ∨ ys.size ≤ n)
    (Sz : S ≠ z) (STO : S ≠ TO) (STI : S ≠ TI) (Si1 : S ≠ i1) (Si2 : S ≠ i2) (Sl1 : S ≠ l1) (Sl2 : S ≠ l2) (bS : S < base) (bz : z < base) (bTO : TO < base) (bi1 : i1 < base) (bi2 : i2 < base) (res : Value) :
    ∀ (k i : Nat) (s : Shared) (c : Nat), n - i = k → i ≤ n → s.heap.objs.size = base + i → ZSt z TI TO i1 i2 l1 l2 base xs ys i s.heap → s.heap.get? S = some { cls := .type "list", dict := none, data := .seq (rfs base i) c, slots := #[] } →
    (∀ j x y, j < i → xs[j]? = some x → ys[j]? = some y → IsPair s.heap (base + j) x y) →
    (∀ h' c', (∀ b o, b ≠ z → b ≠ TO → b ≠ i1 → b ≠ i2 → b ≠ S → s.heap.get? b = some o → h'.get? b = some o) → h'.get? S = some { cls := .type "list", dict := none, data := .seq (rfs base n) c', slots := #[] } →
      (∀ j x y, j < n → xs[j]? = some x → ys[j]? = some y → IsPair h' (base + j) x y) → R (.ok (.ret res)) { s with heap := h' }) →
    codeAny (model prog w) A (.builtin "list.extend.loop" ⟨[.ref S, .ref z, res], []⟩) R s := by
  have hh1 : A.in1.handled = none := hh
  have nz : ∀ j, base + j ≠ z := fun j => Nat.ne_of_gt (Nat.lt_of_lt_of_le bz (Nat.le_add_right _ _))
  have nTO : ∀ j, base + j ≠ TO := fun j => Nat.ne_of_gt (Nat.lt_of_lt_of_le bTO (Nat.le_add_right _ _))
  have ni1 : ∀ j, base + j ≠ i1 := fun j => Nat.ne_of_gt (Nat.lt_of_lt_of_le bi1 (Nat.le_add_right _ _))
  have ni2 : ∀ j, base + j ≠ i2 := fun j => Nat.ne_of_gt (Nat.lt_of_lt_of_le bi2 (Nat.le_add_right _ _))
  have nS : ∀ j, base + j ≠ S := fun j => Nat.ne_of_gt (Nat.lt_of_lt_of_le bS (Nat.le_add_right _ _))
  intro k
  induction k with
  | zero =>
    intro i s c hk hi hsz st hS hp hR
    have hin : i = n := by omega
    subst hin
    refine codeAny_builtin F.entry_extend_loop ?_
    rw [Around.under_plainId F.plain_extend_loop _]
    show wpAny _ A.in1 (pyNext (.ref z) >>= _) _ _ s
    have hend : xs[i]? = none ∨ ys[i]? = none := by
      rcases he with h | h
      · exact .inl (by simp; omega)
      · exact .inr (by simp; omega)
    refine wpAny_bind ?_
    have fin : ∀ h', (∀ b o, b ≠ z → b ≠ TO → b ≠ i1 → b ≠ i2 → s.heap.get? b = some o → h'.get? b = some o) → R (.ok (.ret res)) { s with heap := h' } := fun h' hk' =>
      hR h' c (fun b o c1 c2 c3 c4 _ e => hk' b o c1 c2 c3 c4 e) (hk' S _ Sz STO Si1 Si2 hS) fun j x y hj ex ey => hk' _ _ (nz j) (nTO j) (ni1 j) (ni2 j) (hp j x y hj ex ey)
    rcases st.zz with ⟨_, hz, a, b, hTO⟩ | ⟨hp0, f, hz⟩
    · exact pyNext_zipT_end hh1 D hz st.ti hTO st.a1 st.a2 st.t1 st.t2 hend fun h' hk' => wpAny_pure (fin h' hk')
    · have x0 : ∃ x, xs[0]? = some x := ⟨xs[0]'(by omega), by simp⟩
      have y0 : ∃ y, ys[0]? = some y := ⟨ys[0]'(by omega), by simp⟩
      obtain ⟨x, ex⟩ := x0
      obtain ⟨y, ey⟩ := y0
      exact nextT_end_held hh1 D hz (hp 0 x y hp0 ex ey) st.ti st.a1 st.a2 st.t1 st.t2 hend fun h' hk' => wpAny_pure (fin h' fun b o c1 _ c3 c4 e => hk' b o c1 c3 c4 e)
  | succ k ih =>
    intro i s c hk hi hsz st hS hp hR
    have hlt : i < n := by omega
    obtain ⟨x, ex⟩ : ∃ x, xs[i]? = some x := ⟨xs[i]'(by omega), by simp⟩
    obtain ⟨y, ey⟩ : ∃ y, ys[i]? = some y := ⟨ys[i]'(by omega), by simp⟩
    refine codeAny_builtin F.entry_extend_loop ?_
    rw [Around.under_plainId F.plain_extend_loop _]
    show wpAny _ A.in1 (pyNext (.ref z) >>= _) _ _ s
    refine wpAny_bind ?_
    have go : ∀ h', (∃ f, IsZipHeld h' z TI TO base f) → h'.IsTupleIter i1 l1 (i + 1) → h'.IsTupleIter i2 l2 (i + 1) → IsPair h' s.heap.objs.size x y → h'.objs.size = s.heap.objs.size + 1 →
        (∀ c o, c ≠ z → c ≠ TO → c ≠ i1 → c ≠ i2 → s.heap.get? c = some o → h'.get? c = some o) →
        wpAny (model prog w) A.in1 (updateSeq S (·.push (.ref s.heap.objs.size)) >>= fun _ => again (.builtin "list.extend.loop" ⟨[.ref S, .ref z, res], []⟩))
          (fun fin s' => match fin with | .done f => R (.ok f) s' | .again c' => c'.quiet = true ∧ codeAny (model prog w) A c' R s') (fun e s' => R (.error e) s') { s with heap := h' } := by
      rintro h' ⟨f, hz'⟩ b1 b2 hT hs' hk'
      have hS' := hk' S _ Sz STO Si1 Si2 hS
      refine wpAny_bind ?_
      have sb : Heap.SameBut S h' (h'.update S (Obj.mapSeq (·.push (.ref s.heap.objs.size)))) := Heap.SameBut.update ..
      have up : ∀ b o, b ≠ S → h'.get? b = some o → (h'.update S (Obj.mapSeq (·.push (.ref s.heap.objs.size)))).get? b = some o := fun b o hb e => sb.extBut _ _ hb e
      obtain ⟨c2, qS⟩ : ∃ c2, (h'.update S (Obj.mapSeq (·.push (Value.ref s.heap.objs.size)))).get? S = some { cls := .type "list", dict := none, data := .seq (rfs base (i + 1)) c2, slots := #[] } := by
        have q := Heap.get?_update_self (Obj.mapSeq (·.push (Value.ref s.heap.objs.size))) hS' rfl
        have e1 : (rfs base i).push (Value.ref s.heap.objs.size) = rfs base (i + 1) := by rw [hsz]; exact rfs_push base i
        rw [← e1]
        exact ⟨_, q⟩
      refine wpAny_updateSeq hS' rfl (wpAny_pure ⟨plainId_quiet F.plain_extend_loop _, ih (i + 1) _ c2 (by omega) hlt ?_ ?_ qS ?_ ?_⟩) (by rw [rfs_size]; omega) (by show ((rfs base i).push _).size ≤ sizeLine + 1; rw [Array.size_push, rfs_size]; omega)
      · show (h'.update S _).objs.size = _
        rw [Heap.size_update, hs', hsz]
        rfl
      · refine ⟨up _ _ STI.symm (hk' _ _ D.TIz D.TITO D.TIi1 D.TIi2 st.ti), b1.at fun o e => up _ _ Si1.symm e, b2.at fun o e => up _ _ Si2.symm e, ?_, ?_, .inr ⟨by omega, f, up _ _ Sz.symm hz'⟩⟩
        · obtain ⟨o, ho, r⟩ := st.t1
          exact ⟨o, up _ _ Sl1.symm (hk' _ _ D.l1z D.l1TO D.l1i1 D.l1i2 ho), r⟩
        · obtain ⟨o, ho, r⟩ := st.t2
          exact ⟨o, up _ _ Sl2.symm (hk' _ _ D.l2z D.l2TO D.l2i1 D.l2i2 ho), r⟩
      · intro j x' y' hj ex' ey'
        by_cases hji : j = i
        · subst hji
          rw [ex] at ex'
          rw [ey] at ey'
          cases ex'
          cases ey'
          rw [hsz] at hT
          exact up _ _ (nS j) hT
        · exact up _ _ (nS j) (hk' _ _ (nz j) (nTO j) (ni1 j) (ni2 j) (hp j x' y' (by omega) ex' ey'))
      · intro h'' c' hk'' hS'' hp''
        exact hR h'' c' (fun b o c1 c2 c3 c4 c5 e => hk'' b o c1 c2 c3 c4 c5 (up _ _ c5 (hk' b o c1 c2 c3 c4 e))) hS'' hp''
    rcases st.zz with ⟨hi0, hz, a, b, hTO⟩ | ⟨hp0, f, hz⟩
    · refine pyNext_zipT_item D hz st.ti hTO st.a1 st.a2 st.t1 st.t2 ex ey fun h' z' TO' h1' h2' hT hs' hk' => go h' ⟨false, ?_⟩ h1' h2' hT hs' hk'
      have e0 : s.heap.objs.size = base := by rw [hsz, hi0]; rfl
      rw [e0] at z'
      exact z'
    · have x0 : ∃ x, xs[0]? = some x := ⟨xs[0]'(by omega), by simp⟩
      have y0 : ∃ y, ys[0]? = some y := ⟨ys[0]'(by omega), by simp⟩
      obtain ⟨x', ex'⟩ := x0
      obtain ⟨y', ey'⟩ := y0
      exact nextT_item_held D hz (hp 0 x' y' hp0 ex' ey') st.ti st.a1 st.a2 st.t1 st.t2 ex ey fun h' z' h1' h2' hT hs' hk' => go h' ⟨true, z'⟩ h1' h2' hT hs' fun c o c1 _ c3 c4 e => hk' c o c1 c3 c4 e

theorem call_list_zipT {z TI TO i1 i2 l1 l2 : Addr} {xs ys : Array Value} {n : Nat} {Q : Value → Shared → Prop} (hh : A.handled = none) (D : ZipApart z TI TO i1 i2 l1 l2) (hn : n ≤ sizeLine) (hx : n ≤ xs.size) (hy : n ≤ ys.size) (he : xs.size ≤ n ∨ ys.size ≤ n)
    (hz : IsZip s.heap z TI TO .none) (hTI : IsPair s.heap TI (.ref i1) (.ref i2)) {a b : Value} (hTO : IsPair s.heap TO a b) (h1 : s.heap.IsTupleIter i1 l1 0) (h2 : s.heap.IsTupleIter i2 l2 0) (hl1 : s.heap.IsTuple l1 xs) (hl2 : s.heap.IsTuple l2 ys)
    (hQ : ∀ h' c', (∀ b o, b ≠ z → b ≠ TO → b ≠ i1 → b ≠ i2 → s.heap.get? b = some o → h'.get? b = some o) → h'.get? s.heap.objs.size = some { cls := .type "list", dict := none, data := .seq (rfs (s.heap.objs.size + 1) n) c', slots := #[] } →
      (∀ j x y, j < n → xs[j]? = some x → ys[j]? = some y → IsPair h' (s.heap.objs.size + 1 + j) x y) → Q (.ref s.heap.objs.size) { s with heap := h' }) :
    wpAny (model prog w) A (call (.type "list") [.ref z]) Q E s := by
  have zl : z < s.heap.objs.size := Heap.lt_size hz
  have TIl : TI < s.heap.objs.size := Heap.lt_size hTI
  have TOl : TO < s.heap.objs.size := Heap.lt_size hTO
  have i1l : i1 < s.heap.objs.size := by obtain ⟨_, e, _⟩ := h1; exact Heap.lt_size e
  have i2l : i2 < s.heap.objs.size := by obtain ⟨_, e, _⟩ := h2; exact Heap.lt_size e
  have l1l : l1 < s.heap.objs.size := by obtain ⟨_, e, _⟩ := hl1; exact Heap.lt_size e
  have l2l : l2 < s.heap.objs.size := by obtain ⟨_, e, _⟩ := hl2; exact Heap.lt_size e
  have hSz : s.heap.objs.size ≠ z := Nat.ne_of_gt zl
  refine callType_codes (Q₁ := fun obj s₁ => obj = .ref s.heap.objs.size ∧ s₁ = { s with heap := s.heap.push { cls := .type "list", data := .seq #[] } }) F.called_list (F.typeCall_list_1 _) F.entry_list_init
    (code_list_new _ ⟨rfl, rfl⟩) fun obj s₁ h₁ => ?_
  obtain ⟨rfl, rfl⟩ := h₁
  have hS : (s.heap.push { cls := .type "list", data := .seq #[] }).get? s.heap.objs.size = some { cls := .type "list", data := .seq #[] } := Heap.get?_push_size _ rfl
  refine ⟨⟨_, hS, rfl⟩, F.args_list_init_2 _ _, ?_⟩
  show wpAny _ A.in1.in1 (do let old ← Builtin.List.listItems (.ref s.heap.objs.size); Builtin.List.listUpdate (.ref s.heap.objs.size) (fun _ => #[]); letGo old.toList.reverse; Builtin.List.listExtendWith (.ref s.heap.objs.size) (.ref z) .none) _ _ _
  refine wpAny_bind ?_
  unfold Builtin.List.listItems
  refine wpAny_bind (wpAny_seqItems hS rfl (wpAny_pure ?_))
  show wpAny _ A.in1.in1 (updateSeq s.heap.objs.size (fun _ => #[]) >>= fun _ => letGo (#[] : Array Value).toList.reverse >>= fun _ => Builtin.List.listExtendWith (.ref s.heap.objs.size) (.ref z) .none) _ _ _
  refine wpAny_bind (wpAny_updateSeq hS rfl ?_)
  have hS2 := Heap.get?_update_self (Obj.mapSeq (fun _ => (#[] : Array Value))) hS rfl
  refine wpAny_bind (wpAny_letGo ?_)
  unfold Builtin.List.listExtendWith
  have up : ∀ (h : Heap) (f : Obj → Obj), (∀ b o, s.heap.get? b = some o → h.get? b = some o) → ∀ b o, s.heap.get? b = some o → (h.update s.heap.objs.size f).get? b = some o := fun h f q b o e =>
    (Heap.get?_update_other _ _ (Ne.symm (Nat.ne_of_lt (Heap.lt_size e)))).trans (q b o e)
  have k1 : ∀ b o, s.heap.get? b = some o → (s.heap.push { cls := .type "list", data := .seq #[] }).get? b = some o := fun b o e => Heap.get?_push_of_some _ e
  have k2 := up _ (Obj.mapSeq (fun _ => (#[] : Array Value))) k1
  refine wpAny_bind (wpAny_typeOf (T := "zip") ⟨_, k2 _ _ hz, rfl⟩ ?_)
  have h1' : Builtin.List.listSameRef (.ref s.heap.objs.size) (.ref z) = false := by simp [Builtin.List.listSameRef, hSz]
  have h2' : (Value.type "zip" == Value.type "list") = false := by decide
  have h3' : (Value.type "zip" == Value.type "tuple") = false := by decide
  simp only [h1', h2', h3', Bool.or_false, Bool.false_eq_true, if_false]
  refine wpAny_bind (wpAny_pyIter_zip (k2 _ _ hz) ?_)
  refine wpAny_bind (wpAny_holding ?_)
  unfold Builtin.List.listLengthHint
  refine wpAny_bind (wpAny_specialOf (T := "zip") ⟨_, k2 _ _ hz, rfl⟩ zip_no_len ?_)
  show wpAny _ A.in1.in1 (specialOf (Value.ref z) (Str.ofString "__length_hint__") >>= _) _ _ _
  refine wpAny_bind (wpAny_specialOf (T := "zip") ⟨_, k2 _ _ hz, rfl⟩ zip_no_hint ?_)
  refine wpAny_pure ?_
  show wpAny _ A.in1.in1 (rule "list.extend.makes-room" >>= fun _ => Builtin.List.listTouch (.ref s.heap.objs.size) >>= fun _ =>
    again (.builtin "list.extend.loop" ⟨[.ref s.heap.objs.size, .ref z, .none], []⟩)) _ _ _
  refine wpAny_bind (wpAny_rule ?_)
  refine wpAny_bind ?_
  show wpAny _ A.in1.in1 (updateSeq s.heap.objs.size (·.push .none) >>= fun _ => updateSeq s.heap.objs.size (·.pop)) _ _ _
  refine wpAny_bind (wpAny_updateSeq hS2 rfl ?_)
  have hS3 := Heap.get?_update_self (Obj.mapSeq (·.push Value.none)) hS2 rfl
  refine wpAny_updateSeq (hz := by seq_fits) hS3 rfl ?_
  have hS4 := Heap.get?_update_self (Obj.mapSeq (·.pop)) hS3 rfl
  have k4 := up _ (Obj.mapSeq (·.pop)) (up _ (Obj.mapSeq (·.push Value.none)) k2)
  refine wpAny_pure ⟨plainId_quiet F.plain_extend_loop _, ?_⟩
  refine zloop (A := A.in1) (base := s.heap.objs.size + 1) hh D hn hx hy he hSz (Nat.ne_of_gt TOl) (Nat.ne_of_gt TIl) (Nat.ne_of_gt i1l) (Nat.ne_of_gt i2l) (Nat.ne_of_gt l1l) (Nat.ne_of_gt l2l) (Nat.lt_succ_self _) (Nat.lt_succ_of_lt zl) (Nat.lt_succ_of_lt TOl) (Nat.lt_succ_of_lt i1l) (Nat.lt_succ_of_lt i2l) .none n 0 _ _ rfl (Nat.zero_le _) ?_ ?_ hS4 (fun j x y hj => absurd hj (Nat.not_lt_zero _)) fun h' c' hk' hS' hp' => ?_
  · show (((((s.heap.push _).update _ _).update _ _).update _ _)).objs.size = _
    rw [Heap.size_update, Heap.size_update, Heap.size_update, Heap.size_push]
  · exact ⟨k4 _ _ hTI, h1.at fun o e => k4 _ _ e, h2.at fun o e => k4 _ _ e, let ⟨o, ho, r⟩ := hl1; ⟨o, k4 _ _ ho, r⟩, let ⟨o, ho, r⟩ := hl2; ⟨o, k4 _ _ ho, r⟩, .inl ⟨rfl, k4 _ _ hz, a, b, k4 _ _ hTO⟩⟩
  · exact ⟨rfl, hQ h' c' (fun b o c1 c2 c3 c4 e => hk' b o c1 c2 c3 c4 (Nat.ne_of_lt (Heap.lt_size e)) (k4 _ _ e)) hS' hp'⟩
end
/-! #### over the layer -/
section
variable {X : Cx} {pins : List (Addr × Obj)} {σ : L2.St} {H : Hp} {s : Shared}
def layZ (H : Hp) (S base n : Addr) (o : HO) (f : Nat → HO) : Hp := fun b => if b = S then some o else if base ≤ b ∧ b < base + n then some (f (b - base)) else H b
theorem layZ_S {S base n : Addr} {o : HO} {f : Nat → HO} : layZ H S base n o f S = some o := if_pos rfl
theorem layZ_T {S base n j : Addr} {o : HO} {f : Nat → HO} (hS : S < base) (hj : j < n) : layZ H S base n o f (base + j) = some (f j) := by
  unfold layZ
  rw [if_neg (Nat.ne_of_gt (Nat.lt_of_lt_of_le hS (Nat.le_add_right _ _))), if_pos ⟨Nat.le_add_right _ _, Nat.add_lt_add_left hj _⟩, Nat.add_sub_cancel_left]
theorem layZ_old {S base n b : Addr} {o : HO} {f : Nat → HO} (h1 : b < S) (h2 : b < base) : layZ H S base n o f b = H b := by
  unfold layZ
  rw [if_neg (Nat.ne_of_lt h1), if_neg (fun z => absurd h2 (Nat.not_lt.mpr z.1))]
theorem inv_layZ {h' : Heap} {t' : Nat} {S base n : Addr} {o : HO} {f : Nat → HO} (I : Inv X pins σ H s) (k : ∀ b u, s.heap.get? b = some u → h'.get? b = some u) (hS : s.heap.objs.size ≤ S) (hB : S < base)
    (oS : ObjOk X.prog X.w (layZ H S base n o f) h' S o) (oT : ∀ j, j < n → ObjOk X.prog X.w (layZ H S base n o f) h' (base + j) (f j)) : Inv X pins σ (layZ H S base n o f) { s with heap := h', toks := t' } := by
  have old : ∀ b u, H b = some u → layZ H S base n o f b = some u := fun b u e => by
    have hl : b < s.heap.objs.size := (I.hok b u e).lt
    rw [layZ_old (Nat.lt_of_lt_of_le hl hS) (Nat.lt_trans (Nat.lt_of_lt_of_le hl hS) hB)]
    exact e
  refine I.un ⟨fun b u e _ _ _ => k b u e, fun b u e _ _ _ => ⟨u.slots, k b u e⟩, fun b u e n _ => ?_, fun b u e _ => ⟨u, k b u e⟩, fun b xs e => old _ _ e, fun b u v e => old _ _ e, fun b ps e => ⟨#[], by rw [old _ _ e]; simp⟩⟩ fun b u e => ?_
  · have hl : b < s.heap.objs.size := Heap.lt_size e
    rw [layZ_old (Nat.lt_of_lt_of_le hl hS) (Nat.lt_trans (Nat.lt_of_lt_of_le hl hS) hB)]
    exact n
  · by_cases hb : b = S
    · subst hb
      rw [layZ_S] at e
      cases e
      exact oS
    · by_cases hr : base ≤ b ∧ b < base + n
      · have e' : layZ H S base n o f b = some (f (b - base)) := by unfold layZ; rw [if_neg hb, if_pos hr]
        rw [e'] at e
        cases e
        have hj := oT (b - base) (by have := hr.1; have := hr.2; exact Nat.sub_lt_left_of_lt_add hr.1 hr.2)
        rw [Nat.add_sub_cancel' hr.1] at hj
        exact hj
      · have e' : layZ H S base n o f b = H b := by unfold layZ; rw [if_neg hb, if_neg hr]
        rw [e'] at e
        exact (I.hok b u e).stay (fun c v _ q => k c v q) (fun c q => old _ _ q) fun c xs q => old _ _ q
/-- list(zip(x, y)): a new list of new pairs -/
def tLZ (K : PySem.W.Frag) (ta : TA) : TE := fun σ H Q => ta σ H fun vs H1 => ∃ a b xs ys, vs = [.ref a, .ref b] ∧ SqT K H1 a xs ∧ SqT K H1 b ys ∧
  ∀ H2 L ps, Same H1 H2 → H1 L = none → H2 L = some (.lst ps) → ps.length = min xs.length ys.length → (∀ (j : Nat) x y, xs[j]? = some x → ys[j]? = some y → ∃ T, ps[j]? = some (.ref T) ∧ H1 T = none ∧ H2 T = some (.tup [x, y])) → Q (.ref L) H2
theorem pe_listZip {e e2 : Expr} {ta : TA} {p p2 pos pos2 : Pos} (hc : X.calm = true) (hg : Gl X "list") (hm : X.mg "list" = none) (hg2 : Gl X "zip") (hm2 : X.mg "zip" = none) (ha : PA X [e, e2] ta)
    (na : starEach [.Call (.Name "zip" p2) [e, e2] [] pos2] X.env = (false, eval (.Call (.Name "zip" p2) [e, e2] [] pos2) X.env) :: starEach [] X.env := by rfl)
    (hs : starEach [e, e2] X.env = (false, eval e X.env) :: starEach [e2] X.env := by rfl) (hpl : (backTo pos2 (starEach [e2] X.env)).any (·.1) = false := by rfl) :
    PE X (.Call (.Name "list" p) [.Call (.Name "zip" p2) [e, e2] [] pos2] [] pos) (tLZ X.K ta) := by
  refine ⟨fun pins s σ H Q I h => ?_⟩
  have hz : wpAny (model X.prog X.w) X.A (eval (.Call (.Name "zip" p2) [e, e2] [] pos2) X.env) (fun v s2 => wpAny (model X.prog X.w) X.A (call (.type "list") [v]) (EP X pins σ Q) X.xe s2) X.xe s := by
    refine Call_ (ld_blt I hg2 hm2 PyProof.Rows.boot_zip (PyProof.Rows.callWith_type1 (thn (ha.run pos2 pins s σ H _ I h) fun us s1 ⟨vs, H1, I1, r1, q1⟩ => ?_) hs hpl))
    obtain ⟨a, b, xs, ys, ex, hqx, hqy, q⟩ := q1
    subst ex
    cases r1 with
    | cons r rr =>
      cases rr with
      | cons r' rr =>
        cases rr
        cases r
        cases r'
        obtain ⟨its, rv, p1, z1⟩ := I1.tuple hqx
        obtain ⟨its2, rv2, p2', z2⟩ := I1.tuple hqy
        have al : a < s1.heap.objs.size := p1.lt
        have bl : b < s1.heap.objs.size := p2'.lt
        refine call_zipT p1 p2' fun h' hz hTI hTO h1 h2 hsz hk => ?_
        have ls := rv.length
        have ls2 := rv2.length
        have ap : ZipApart (s1.heap.objs.size + 4) (s1.heap.objs.size + 2) (s1.heap.objs.size + 3) s1.heap.objs.size (s1.heap.objs.size + 1) a b := by
          have nn : ∀ {c : Addr}, c < s1.heap.objs.size → ∀ i, c ≠ s1.heap.objs.size + i := fun {c} hc i => Nat.ne_of_lt (Nat.lt_of_lt_of_le hc (Nat.le_add_right _ _))
          have nm : ∀ {i j : Nat}, i ≠ j → s1.heap.objs.size + i ≠ s1.heap.objs.size + j := fun {i j} hij z => hij (Nat.add_left_cancel z)
          exact ⟨nm (by decide), nm (by decide), nm (i := 0) (by decide), nm (by decide), nm (by decide), nm (j := 0) (by decide), nm (by decide), nm (j := 0) (by decide), nm (by decide), nm (i := 0) (by decide), nn al _, nn al _, nn al 0, nn al _, nn bl _, nn bl _, nn bl 0, nn bl _⟩
        have t1 : h'.IsTuple a its.toArray := let ⟨o, ho, r⟩ := p1; ⟨o, hk _ _ ho, r⟩
        have t2 : h'.IsTuple b its2.toArray := let ⟨o, ho, r⟩ := p2'; ⟨o, hk _ _ ho, r⟩
        refine call_list_zipT (n := min xs.length ys.length) (I1.ok.hd hc) ap (by omega) (by rw [List.size_toArray]; omega) (by rw [List.size_toArray]; omega) (by rw [List.size_toArray, List.size_toArray]; omega) hz hTI hTO h1 h2 t1 t2 fun h'' c' hk2 hS hp => ?_
        have hsz' : h'.objs.size = s1.heap.objs.size + 5 := hsz
        have gt : ∀ {c : Addr} {u : Obj}, s1.heap.get? c = some u → ∀ i, c ≠ s1.heap.objs.size + i := fun {c u} e i => Nat.ne_of_lt (Nat.lt_of_lt_of_le (Heap.lt_size e) (Nat.le_add_right _ _))
        have kk : ∀ c u, s1.heap.get? c = some u → h''.get? c = some u := fun c u e => hk2 c u (gt e 4) (gt e 3) (gt e 0) (gt e 1) (hk c u e)
        have nS : s1.heap.objs.size ≤ h'.objs.size := by rw [hsz']; exact Nat.le_add_right _ _
        have hS1 : H1 h'.objs.size = none := I1.hok.fresh nS
        have hT1 : ∀ j, H1 (h'.objs.size + 1 + j) = none := fun j => I1.hok.fresh (Nat.le_trans nS (by rw [Nat.add_assoc]; exact Nat.le_add_right _ _))
        let f : Nat → HO := fun j => .tup [xs.getD j .non, ys.getD j .non]
        let ps : List V := (List.range (min xs.length ys.length)).map fun j => V.ref (h'.objs.size + 1 + j)
        have hlen : ps.length = min xs.length ys.length := by show ((List.range _).map _).length = _; rw [List.length_map, List.length_range]
        have I2 : Inv X pins σ (layZ H1 h'.objs.size (h'.objs.size + 1) (min xs.length ys.length) (.lst ps) f) { s1 with heap := h'', toks := s1.toks } := by
          refine inv_layZ I1 kk nS (Nat.lt_succ_self _) ⟨by rw [hlen]; omega, (List.range (min xs.length ys.length)).map fun j => Value.ref (h'.objs.size + 1 + j), c', ?_, hS⟩ fun j hj => ?_
          · have key : ∀ l : List Nat, Vals (l.map fun j => V.ref (h'.objs.size + 1 + j)) (l.map fun j => Value.ref (h'.objs.size + 1 + j)) := fun l => by
              induction l with
              | nil => exact .nil
              | cons a l ih => exact .cons rfl ih
            exact key _
          · obtain ⟨x, ex⟩ : ∃ x, xs[j]? = some x := ⟨xs[j]'(Nat.lt_of_lt_of_le hj (Nat.min_le_left _ _)), by simp⟩
            obtain ⟨y, ey⟩ : ∃ y, ys[j]? = some y := ⟨ys[j]'(Nat.lt_of_lt_of_le hj (Nat.min_le_right _ _)), by simp⟩
            obtain ⟨u, hu, ru⟩ := rv.get ex
            obtain ⟨u2, hu2, ru2⟩ := rv2.get ey
            have hT := hp j u u2 hj (by simpa using hu) (by simpa using hu2)
            have ef : f j = .tup [x, y] := by show HO.tup [xs.getD j .non, ys.getD j .non] = _; rw [List.getD_eq_getElem?_getD, List.getD_eq_getElem?_getD, ex, ey]; rfl
            rw [ef]
            exact ⟨by show 2 ≤ sizeLine; decide, [u, u2], .cons ru (.cons ru2 .nil), ⟨_, hT, rfl, _, rfl⟩⟩
        have old : Same H1 (layZ H1 h'.objs.size (h'.objs.size + 1) (min xs.length ys.length) (.lst ps) f) := fun c o e => by
          have hl : c < s1.heap.objs.size := (I1.hok c o e).lt
          rw [layZ_old (Nat.lt_of_lt_of_le hl nS) (Nat.lt_succ_of_lt (Nat.lt_of_lt_of_le hl nS))]
          exact e
        refine ⟨.ref h'.objs.size, _, I2, rfl, q _ _ ps old hS1 layZ_S hlen fun j x y ex ey => ⟨h'.objs.size + 1 + j, ?_, hT1 j, ?_⟩⟩
        · have hj : j < min xs.length ys.length := by
            have := (List.getElem?_eq_some_iff.mp ex).1
            have := (List.getElem?_eq_some_iff.mp ey).1
            omega
          show ((List.range _).map _)[j]? = _
          rw [List.getElem?_map, List.getElem?_range hj]
          rfl
        · have hj : j < min xs.length ys.length := by
            have := (List.getElem?_eq_some_iff.mp ex).1
            have := (List.getElem?_eq_some_iff.mp ey).1
            omega
          rw [layZ_T (Nat.lt_succ_self _) hj]
          show some (HO.tup [xs.getD j .non, ys.getD j .non]) = _
          rw [List.getD_eq_getElem?_getD, List.getD_eq_getElem?_getD, ex, ey]
          rfl
  exact Call_ (ld_blt I hg hm boot_list (PyProof.Rows.callWith_type1 (args_cons (thn hz fun v s2 hv => args_nil hv) na) na))
end
end My
/-! isinstance of a caught error of an own class that has a dict of its own -/
namespace My
open PySem PySem.Spec PySem.W PySem.Calls PyProof.Rows
section
variable {prog : Program} {w : World} {A : Around} {E : Value → Shared → Prop} {s : Shared} {K : PySem.W.Frag} {x D : Addr} {ox : Obj} {od : Option Obj}
theorem findObj_dataO {C : Addr} {name : Str} {a g : Value} (hc : (clsIn K C).isSome = true) (ha : findIn K (.ref C) name = some (some a)) (hg : specialIn K a "__get__" = some (some g)) (ht : takesIn K a = some true) : findObj K C od name = some (.bind g a) := by
  obtain ⟨cd, hc⟩ := Option.isSome_iff_exists.mp hc
  unfold findObj
  rw [hc, Option.bind_some, ha, Option.bind_some]
  simp [hg, ht]
theorem kin_classO {Q : Option Value → Shared → Prop} (C : L2.ExcC K D) (X : K.In s.heap) (I : PySem.W.InstAt s.heap x ox D od) (h : Q (some (.ref D)) { s with toks := s.toks + 1 }) : wpAny (model prog w) A (getAttr? (.ref x) "__class__") Q E s := by
  have hf : findObj K D od "__class__" = some (.bind (.builtin "getset_descriptor.__get__") (.builtin "object.__class__")) := findObj_dataO (by obtain ⟨cd, hc, _⟩ := any_some C.hd; rw [hc]; rfl) C.ha C.hn C.ht
  obtain ⟨hp, g, d, t, os⟩ := s
  have tyL := I.type (M := model prog w)
  have gaL := looks_findIn (M := model prog w) X C.hg
  have gtL := looks_findIn (M := model prog w) X C.hk
  have fdL := looks_find (M := model prog w) X I hf
  have sub : Looks (model prog w) hp (isInstance (.ref x) (.type "BaseException")) true := tyL.andThen (looks_subIn X C.hs)
  have ne : (Value.builtin "BaseException.__getattribute__" == Value.builtin "object.__getattribute__") = false := by decide +kernel
  have ne1 : (onTheHeap (Value.ref D) && Value.builtin "BaseException.__getattribute__" == Value.builtin "object.__getattribute__") = false := by rw [ne]; rfl
  unfold getAttr? getAttrBy? getAttrBy
  refine wpAny_bind (wpAny_mkText (wpAny_bind (wpAny_attempt (wpAny_holding (wpAny_bind (tyL.at (wpAny_bind (gaL.at ?_))))))))
  show wpAny _ _ (if (onTheHeap (Value.ref D) && Value.builtin "BaseException.__getattribute__" == Value.builtin "object.__getattribute__") = true then _ else _) _ _ _
  rw [ne1, if_neg Bool.false_ne_true]
  unfold getAttrByItsOwn hookBefore
  refine wpAny_bind ?_
  rw [if_pos (show onTheHeap (Value.ref D) = true from rfl)]
  refine gtL.at (wpAny_bind (wpAny_attempt (wpAny_holding ?_)))
  unfold callGetattribute
  rw [show (false && onTheHeap (Value.builtin "BaseException.__getattribute__")) = false from rfl, if_neg Bool.false_ne_true]
  unfold boundAndCalled
  rw [PySem.F.excAttr_ValueError.ga.bind (.ref x)]
  refine wpAny_bind (wpAny_pure ?_)
  show wpAny _ _ (call (.builtin "BaseException.__getattribute__") [.ref x, .str "__class__" t]) _ _ _
  refine wpAny_call (codeAny_call_builtin PySem.F.excAttr_ValueError.ga.plain PySem.F.entry_bexc_ga ?_)
  refine @check_slot (model prog w) _ _ ⟨hp, g, d, t + 1, os⟩ "BaseException.__getattribute__" "BaseException" "__getattribute__" (.ref x) [.str "__class__" t] [] _ (by decide +kernel) (by decide +kernel) sub (PySem.F.args_bexc_ga (.ref x) (.str "__class__" t)) ?_
  unfold Builtin.«object.__getattribute__»
  refine wpAny_bind (wpAny_of_eq (a := ((Value.ref x : Value), [Value.str "__class__" t])) (by first | rfl | (simp only [slotArgs]; rfl)) ?_)
  refine wpAny_bind (wpAny_pure (wpAny_bind (tyL.at (wpAny_bind (fdL.at ?_)))))
  show wpAny _ _ (holding [Value.builtin "object.__class__"] (call (.builtin "getset_descriptor.__get__") [.builtin "object.__class__", .ref x, .ref D]) >>= ret) _ _ _
  refine wpAny_bind (wpAny_holding (wpAny_call (class_get (s := ⟨hp, g, d, t + 1, os⟩) (ox := ox) (od := od) X I C.hm ?_)))
  refine wpAny_pure ?_
  show wpAny _ _ (handedOut (.ref D)) _ _ _
  rw [handedOut_of (v := .ref D) rfl]
  first
    | exact wpAny_pure (wpAny_pure h)
    | exact wpAny_pure h
    | exact wpAny_pure (wpAny_bind (wpAny_pure (wpAny_pure h)))
theorem kitx_O (C : L2.ExcC K D) : KitX K (.ref x) (.ref D) (fun h => PySem.W.InstAt h x ox D od) where
  ty := fun _ _ _ I => I.type
  it := fun _ _ X _ => by
    obtain ⟨cdD, hcD, _⟩ := any_some C.hd
    unfold clsIn at hcD
    split at hcD
    · rename_i c' d' cd' sl' ho
      intro A' Q' E' s' k q
      unfold isType loadHead
      exact wpAny_bind (wpAny_loadPart (k _ _ (X _ _ ho)) (wpAny_pure q))
    · cases hcD
  ne := fun h tp dd its n sl X htp => by
    obtain ⟨cdD, hcD, _⟩ := any_some C.hd
    refine Bool.eq_false_iff.mpr fun q => ?_
    have e : D = tp := Value.ref.inj (beq_iff_eq.mp q)
    subst e
    unfold clsIn at hcD
    split at hcD
    · rename_i c' d' cd' sl' ho
      have z := (X _ _ ho).symm.trans htp
      cases z
    · cases hcD
  ca := fun X I k => kin_classO C X I k
end
open L2
/-- isinstance(e, c), e the exception that the suite holds, its dict at dd -/
def rIsV (K : PySem.W.Frag) (D a dd : Addr) : List V → Hp → VK → Prop := fun xs H Q => ∃ (c : V) (cv : Value) (b : Bool) (fs : List (Str × V)), xs = [.ref a, c] ∧ H dd = some (.xd fs) ∧ (∀ u, RelV c u → u = cv) ∧ PySem.W.kitOne K (.ref D) cv = some b ∧ Q (.bl b) H
theorem call_isV {X : Cx} {a D dd : Addr} {oe : Obj} {pn : List (Addr × Obj)} (C : ExcC X.K D) (hz : Zc (.ref D) (some dd) oe) (hf : ∃ vs, oe.data = .fields vs) : CallR (X.suite a ((a, oe) :: pn)) (.builtin "isinstance") (rIsV X.K D a dd) := by
  intro pins s σ H xs us Q I r h
  obtain ⟨c, cv, b, fs, rfl, hd, hcv, e, q⟩ := h
  cases r with
  | cons rx rr =>
    cases rr with
    | cons rt rr =>
      cases rr
      cases rx
      have ec := hcv _ rt
      subst ec
      obtain ⟨hget, _⟩ := I.pin (a, oe) (List.mem_append.mpr (.inl List.mem_cons_self))
      obtain ⟨vs, hv⟩ := hf
      have hx : ObjOk X.prog X.w H s.heap dd (.xd fs) := I.hok dd _ hd
      obtain ⟨mA, ⟨od, es, ep, ho, _⟩, _⟩ := hx
      have J : PySem.W.InstAt s.heap a oe D (some od) := by
        obtain ⟨oc, od', oda, osl⟩ := oe
        obtain ⟨h1, h2⟩ := hz
        dsimp only at h1 h2 hv
        subst h1 h2 hv
        exact ⟨hget, rfl, rfl, ho⟩
      exact PySem.W.kia_one (kitx_O C) I.kIn J e (fun z => nomatch z) fun tk => ⟨.bl b, H, I.kept (t' := tk) fun _ _ z => z, rfl, q⟩
def tIsV (a dd : Addr) (i : Nat) (bs : List Bool) : TA := fun σ H Q => σ[i]? = some (some (.ref a)) ∧ (∃ fs, H dd = some (.xd fs)) ∧ Q (bs.map V.bl) H
section
variable {X : Cx} {a D dd : Addr} {oe : Obj} {pn : List (Addr × Obj)} {i : Nat}
theorem paIsV0 : PA (X.suite a ((a, oe) :: pn)) [] (tIsV a dd i []) := ⟨fun pos pins s σ H Q I h => (pa_nil (X := X.suite a ((a, oe) :: pn))).run pos pins s σ H Q I h.2.2⟩
theorem paIsV {x n : Str} {p p1 p2 pos : Pos} {C : Addr} {b : Bool} {bs : List Bool} {es : List Expr} (EC : ExcC X.K D) (hz : Zc (.ref D) (some dd) oe) (hf : ∃ vs, oe.data = .fields vs) (hk : PySem.W.kitOne X.K (.ref D) (.ref C) = some b)
    (hm : X.mg x = some (.ref C)) (bi : X.mg "isinstance" = none) (hg : Gl X x) (hgi : Gl X "isinstance") (hd : (x == ("__debug__" : Str)) = false) (hN : X.N[i]? = some n) (hv : Vis X.env.scope n) (hnd : (n == ("__debug__" : Str)) = false) (hnc : (n == ("__classdict__" : Str)) = false)
    (hr : PA (X.suite a ((a, oe) :: pn)) es (tIsV a dd i bs))
    (hs : starEach ((.Call (.Name "isinstance" p) [.Name n p1, .Name x p2] [] pos) :: es) X.env = (false, eval (.Call (.Name "isinstance" p) [.Name n p1, .Name x p2] [] pos) X.env) :: starEach es X.env := by rfl)
    (he : starEach (.Name n p1 :: [.Name x p2]) X.env = (false, eval (.Name n p1) X.env) :: starEach [.Name x p2] X.env := by rfl) :
    PA (X.suite a ((a, oe) :: pn)) ((.Call (.Name "isinstance" p) [.Name n p1, .Name x p2] [] pos) :: es) (tIsV a dd i (b :: bs)) := by
  have h1 : PE (X.suite a ((a, oe) :: pn)) (.Call (.Name "isinstance" p) [.Name n p1, .Name x p2] [] pos) (tCB (rIsV X.K D a dd) (tCons (tVar i) (tCons (tC (.ref C)) tNil))) :=
    pe_callB (call_isV EC hz hf) hgi bi (by decide +kernel) (pa_cons (pe_var hN hv hnd hnc) (pa_cons (pe_glob (v := .ref C) hg hm rfl hd) pa_nil rfl) he) (by decide) (by decide) rfl rfl
  refine ⟨fun pos' pins s σ H Q I h => (pa_cons h1 hr hs).run pos' pins s σ H Q I ?_⟩
  obtain ⟨h2, ⟨fs, hx⟩, h3⟩ := h
  exact ⟨_, h2, .ref C, .ref C, b, fs, rfl, hx, fun u r => r, hk, h2, ⟨fs, hx⟩, h3⟩
end
end My
/-! t[::-1] of a tuple -/
namespace My
open PySem PySem.Spec PyProof.Rows L2
theorem adjust_rev (n : Nat) : Builtin.Slice.sliceAdjust none none (-1) (n : Int) = ((n : Int) - 1, -1) := by
  unfold Builtin.Slice.sliceAdjust
  simp
theorem places_rev (n : Nat) : Builtin.Slice.slicePlaces ((n : Int) - 1) (-1) (-1) = n := by
  unfold Builtin.Slice.slicePlaces
  simp
  try omega
theorem fm_congr {α β : Type} {f g : α → Option β} : ∀ {l : List α}, (∀ x ∈ l, f x = g x) → l.filterMap f = l.filterMap g
  | [], _ => rfl
  | a :: l, h => by
    rw [List.filterMap_cons, List.filterMap_cons, h a (List.mem_cons_self ..), fm_congr fun x hx => h x (List.mem_cons_of_mem _ hx)]
theorem pick_rev (xs : Array Value) : ((List.range xs.size).filterMap fun (m : Nat) => xs[(((xs.size : Int) - 1) + (m : Int) * (-1)).toNat]?).toArray = xs.toList.reverse.toArray := by
  have e : (List.range xs.size).filterMap (fun (m : Nat) => xs[(((xs.size : Int) - 1) + (m : Int) * (-1)).toNat]?) = ((List.range xs.size).map fun k => xs.size - 1 - k).filterMap (xs[·]?) := by
    rw [List.filterMap_map]
    refine fm_congr fun k hk => ?_
    have := List.mem_range.mp hk
    have ei : (((xs.size : Int) - 1) + (k : Int) * (-1)).toNat = xs.size - 1 - k := by omega
    rw [ei]
    rfl
  rw [e, PySem.W.krv_range, List.filterMap_reverse, PySem.W.krv_all]
section
variable {prog : Program} {w : World} {A : Around} {E : Value → Shared → Prop} {s : Shared}
theorem sliceApplied_rev {sl : Addr} {vk : Value} {n : Nat} {Q : Int × Int × Nat → Shared → Prop} (hs : s.heap.IsSliceOf sl .none .none vk) (pk : IsPart vk (some (-1)))
    (h : Q ((n : Int) - 1, -1, n) s) : wpAny (model prog w) A (Builtin.Slice.sliceApplied (.ref sl) (pure (n : Int))) Q E s := by
  obtain ⟨os, hos, hcs, hds⟩ := id hs
  unfold Builtin.Slice.sliceApplied Builtin.Slice.sliceFields
  refine wpAny_bind (wpAny_bind (wpAny_field hos hds (x := .none) rfl (wpAny_bind (wpAny_field hos hds (x := .none) rfl (wpAny_bind (wpAny_field hos hds (x := vk) rfl (wpAny_pure ?_)))))))
  refine wpAny_bind (HT.slicePart_ pk ?_)
  show wpAny _ _ (if ((-1 : Int) == 0) = true then _ else _) _ _ s
  rw [if_neg (by decide)]
  refine wpAny_bind (HT.slicePart_ .none (wpAny_bind (HT.slicePart_ .none (wpAny_bind (wpAny_pure ?_)))))
  show wpAny _ _ (match Builtin.Slice.sliceAdjust none none (-1) (n : Int) with | (lo, hi) => pure (lo, (-1 : Int), Builtin.Slice.slicePlaces lo hi (-1))) _ _ s
  rw [adjust_rev n]
  show wpAny _ _ (pure ((n : Int) - 1, (-1 : Int), Builtin.Slice.slicePlaces ((n : Int) - 1) (-1) (-1))) _ _ s
  rw [places_rev]
  exact wpAny_pure h
theorem getItem_tuple_rev {t sl : Addr} {items : Array Value} {vk : Value} {Q : Value → Shared → Prop} (ht : IsTup s.heap t items) (hs : s.heap.IsSliceOf sl .none .none vk) (pk : IsPart vk (some (-1)))
    (h : Q (.ref s.heap.objs.size) { s with heap := s.heap.push { cls := .type "tuple", data := .seq items.toList.reverse.toArray } }) (hsz : items.size ≤ sizeLine) : wpAny (model prog w) A (getItem (.ref t) (.ref sl)) Q E s := by
  have hfit : sizeOk (.seq items.toList.reverse.toArray) := by
    show items.toList.reverse.toArray.size ≤ sizeLine
    rw [List.size_toArray, List.length_reverse, Array.length_toList]
    exact hsz
  obtain ⟨os, hos, hcs, hds⟩ := id hs
  have hTs : s.TypeIs (.ref sl) "slice" := ⟨os, hos, hcs⟩
  unfold getItem
  try with_reducible refine wpAny_holding ?_
  first | refine wpAny_bind (wpAny_pure ?_) | skip
  refine wpAny_bind (wpAny_sequenceKey ht.typeIs (by decide) ?_)
  refine wpAny_bind (wpAny_callSpecial?_slot (name := Str.ofString "__getitem__") ht.typeIs PyProof.Rows.slot_tuple_getitem
    (wpAny_call_entry PyProof.Rows.slot_tuple_getitem ht.typeIs PyProof.Rows.entry_tuple_getitem ?_ (PyProof.Rows.args_tuple_getitem _ _)))
  show wpAny _ _ (Builtin.Tuple.tupleItemsOf (.ref t) >>= _) _ _ s
  refine wpAny_bind (PyProof.Rows.tupleItemsOf_ ht ?_)
  refine wpAny_bind (wpAny_typeOf hTs ?_)
  rw [if_pos (by decide)]
  refine wpAny_bind (sliceApplied_rev hs pk ?_)
  show wpAny _ _ (if (((items.size : Int) - 1) == 0 && (-1 : Int) == 1 && items.size == items.size) = true then _ else _) _ _ s
  rw [if_neg (by simp), pick_rev]
  first
    | exact wpAny_bind (m := Builtin.Tuple.tupleExact _) (wpAny_newObj_type (wpAny_pure ⟨_, rfl, wpAny_pure h⟩) hfit)
    | exact wpAny_bind (m := Builtin.Tuple.tupleExact _) (wpAny_newObj_type (wpAny_bind (wpAny_pure (wpAny_pure ⟨_, rfl, wpAny_pure h⟩))) hfit)
    | exact wpAny_bind (wpAny_bind (m := Builtin.Tuple.tupleExact _) (wpAny_newObj_type (wpAny_pure (wpAny_pure ⟨_, rfl, wpAny_pure h⟩)) hfit))
    | exact wpAny_bind (wpAny_bind (m := Builtin.Tuple.tupleExact _) (wpAny_newObj_type (wpAny_pure ⟨_, rfl, wpAny_pure h⟩) hfit))
end
section
variable {X : Cx} {e k : Expr} {te tk : TE} {p2 pos : Pos}
/-- t[::-1] -/
def tRevT (K : PySem.W.Frag) (te : TE) (tk : TO) : TE := fun σ H Q => te σ H fun x H1 => tk σ H1 fun u H2 => ∃ a xs, x = .ref a ∧ u = some (-1) ∧ SqT K H2 a xs ∧ ∀ p, H2 p = none → Q (.ref p) (upd H2 p (.tup xs.reverse))
theorem pe_revT {to : TO} (he : PE X e te) (hk : PO X (some k) to) : PE X (.Subscript e (.Slice none none (some k) p2) pos) (tRevT X.K te to) := by
  refine ⟨fun pins s σ H Q I h => ?_⟩
  refine Subscript_ (thn (he.run pins s σ H _ I h) fun v s1 ⟨x, H1, I1, r1, q1⟩ => ?_)
  refine wpAny_Slice ?_
  rw [evalPart_none]
  refine wpAny_pure (wpAny_pure ?_)
  refine thn (hk.run pins s1 σ H1 _ I1 q1) fun vk s3 ⟨u, H3, I3, pk, a, xs, ex, eu, hx, q⟩ => ?_
  subst ex
  subst eu
  cases r1
  have I4 : Inv X pins σ H3 { s3 with heap := s3.heap.push { cls := .type "slice", data := .fields #[.none, .none, vk] } } := I3.kept (t' := s3.toks) fun b ob q => Heap.get?_push_of_some _ q
  obtain ⟨its, r, ht, hz⟩ := I4.tuple hx
  show wpAny (model X.prog X.w) X.A (subscriptTail e (.Slice none none (some k) p2) (.ref a) (.ref s3.heap.objs.size)) (EP X pins σ Q) X.xe { s3 with heap := s3.heap.push { cls := .type "slice", data := .fields #[.none, .none, vk] } }
  refine tail_any (ops := [.ref a, .ref s3.heap.objs.size]) ht.typeIs PyProof.Rows.slot_tuple_getitem.lookup ?_ (by with_unfolding_all rfl)
  refine getItem_tuple_rev ht (Heap.IsSliceOf.new ..) pk ?_ (by rw [List.size_toArray, ← r.length]; exact hz)
  refine ⟨.ref _, _, I4.laid (t' := s3.toks) (o := .tup xs.reverse) (fun b ob q => Heap.get?_push_of_some _ q) (Nat.le_refl _) ?_, rfl, q _ (I4.hok.fresh (Nat.le_refl _))⟩
  have rr : ∀ {xs : List V} {us : List Value}, Vals xs us → Vals xs.reverse us.reverse := fun {xs us} r => by
    induction r with
    | nil => exact .nil
    | cons a t ih => rw [List.reverse_cons, List.reverse_cons]; exact ih.append (.cons a .nil)
  exact ⟨by rw [List.length_reverse]; exact hz, its.reverse, rr r, IsTup.new _ _⟩
end
end My
/-! rules under a comprehension's letters -/
namespace My
open PySem L2
theorem pe_conv {X : Cx} {e : Expr} {t t' : TE} (h : PE X e t) (q : t = t') : PE X e t' := q ▸ h
end My
/-! x not in l, items by their own == -/
namespace My
open PySem PySem.Spec L2 PyProof.Rows PySem.MeetsSeq
section
variable {X : Cx} {k : Nat} {f C : Addr} {sp : Sp}
theorem eqB_own {A : Around} {pins : List (Addr × Obj)} {σ : L2.St} {H : Hp} {s : Shared} {a b dx dy : Addr} {fs gs : List (Str × V)} {e : Bool} (F : FnR X.prog X.w X.K X.mg X.base CX0 k f sp) (sb : Sub X k A)
    (hs : PySem.W.findIn X.K (.ref C) "__eq__" = some (some (.ref f))) (hf : PySem.W.isFn X.K (.ref f) = true) (I : Inv X pins σ H s) (ha : H a = some (.ins C dx fs)) (hb : H b = some (.ins C dy gs)) (self : a = b → e = true)
    (h : sp [.ref a, .ref b] H (fun v H' => v = .bl e ∧ H' = H) E0) : wpAny (model X.prog X.w) A (eqBool (.ref a) (.ref b)) (fun r s' => r = e ∧ Inv X pins σ H s') X.xe s := by
  by_cases hab : a = b
  · subst hab
    exact SeqAt.EqAt.same (A := A) (s := s) (.ref a) X.prog X.w X.xe _ ⟨(self rfl).symm, I⟩
  obtain ⟨mA, J, _⟩ := ins_get I.hok ha
  obtain ⟨mB, J', _⟩ := ins_get I.hok hb
  obtain ⟨od, J, _⟩ := J.look
  obtain ⟨od', J', _⟩ := J'.look
  obtain ⟨m, hF⟩ := I.fr
  refine GQ.eqBool_refG hab ?_
  refine PySem.W.cmp_K (op := .Eq) (tb := .ref C) sb.room.units0 hF I.ok.mod.kin J J'.type (by simp [PySem.W.notFirst]) hs hf ?_
  have e0 : Env0 X.prog X.w X.K X.mg X.base A X.stack s H := by
    have e := I.env0
    exact ⟨by rw [sb.fr]; exact e.frames, e.mod, e.bs, e.bsz, e.funs, e.frf, e.hok, e.bare⟩
  refine wpAny_call (codeAny_mono (F A X.stack s H [.ref a, .ref b] [.ref a, .ref b] _ E0 sb.room e0 (.cons rfl (.cons rfl .nil)) h) fun r s' hq => ?_)
  cases r with
  | error e => exact (show False from hq).elim
  | ok fl =>
    cases fl with
    | ret w =>
      obtain ⟨z, H', I', rz, ez, eH⟩ := I.after hq
      subst ez eH
      cases rz
      exact ⟨e, rfl, rfl, I'⟩
    | next => exact False.elim hq
    | brk => exact False.elim hq
    | cont => exact False.elim hq
open PySem.SeqAt in
theorem has_loopO {A : Around} {pins : List (Addr × Obj)} {σ : L2.St} {H : Hp} {R : Result → Shared → Prop} {l a : Addr} {xs : List V} {es : List Bool} (hl : H l = some (.lst xs)) (hle : es.length = xs.length)
    (turn : ∀ (i : Nat) (x : V), xs[i]? = some x → ∃ (b : Addr) (e : Bool), x = .ref b ∧ es[i]? = some e ∧ ∀ s, Inv X pins σ H s → wpAny (model X.prog X.w) A.in1 (eqBool (.ref b) (.ref a)) (fun r s' => r = e ∧ Inv X pins σ H s') (fun e s' => R (.error e) s') s) (n : Nat) :
    ∀ (i : Nat), xs.length - i = n → i ≤ xs.length → (∀ s, Inv X pins σ H s → R (.ok (.ret (.bool ((es.drop i).any id)))) s) → ∀ s, Inv X pins σ H s →
      wpAny (model X.prog X.w) A.in1 (Builtin.«list.__contains__.loop» ⟨[.ref l, .ref a, rawInt i], []⟩) (GQ.FinOf X.prog X.w A R) (fun e s' => R (.error e) s') s := by
  induction n with
  | zero =>
    intro i hk hi hR s I
    obtain ⟨hz, its, ep, rv, hob⟩ := I.hok l _ hl
    have hR := hR s I
    have hsz : its.toArray.size = xs.length := by rw [List.size_toArray, rv.length]
    rw [List.drop_eq_nil_of_le (by omega)] at hR
    obtain ⟨hp, g, d, tk, os⟩ := s
    wp_walk using wpAny_loadPart' hob
    have hi1 : its.toArray[((i : Nat) : Int).toNat]? = none := by simp; rw [← rv.length]; omega
    rw [hi1]
    wp_walk
    exact hR
  | succ n ih =>
    intro i hk hi hR s I
    obtain ⟨hz, its, ep, rv, hob⟩ := I.hok l _ hl
    have hlt : i < xs.length := by omega
    obtain ⟨b, e, eb, ee, ht⟩ := turn i xs[i] (List.getElem?_eq_getElem hlt)
    have ht := ht s I
    have hsz : i < its.length := by rw [← rv.length]; exact hlt
    have hv : its[i]? = some (.ref b) := by
      obtain ⟨u, hu, ru⟩ := rv.get (List.getElem?_eq_getElem hlt)
      rw [eb] at ru
      cases ru
      exact hu
    have hd : es.drop i = e :: es.drop (i + 1) := by
      obtain ⟨h1, h2⟩ := List.getElem?_eq_some_iff.mp ee
      rw [List.drop_eq_getElem_cons h1, h2]
    obtain ⟨hp, g, d, tk, os⟩ := s
    wp_walk using wpAny_loadPart' hob
    have hi1 : its.toArray[((i : Nat) : Int).toNat]? = some (.ref b) := by simpa using hv
    have hc : ((i : Int) + 1) = ((i + 1 : Nat) : Int) := by omega
    rw [hi1]
    refine wpAny_bind (wpAny_mono ht (fun r s2 h2 => ?_) fun _ _ x => x)
    obtain ⟨hr, I2⟩ := h2
    rw [← hr] at hd
    cases he : r with
    | true =>
      have := hR s2 I2
      rw [hd, List.any_cons, he] at this
      obtain ⟨hp2, g2, d2, tk2, os2⟩ := s2
      wp_walk
      exact this
    | false =>
      have hrec := ih (i + 1) (by omega) (by omega) (fun s' I' => by have := hR s' I'; rw [hd, List.any_cons, he] at this; simpa using this) s2 I2
      obtain ⟨hp2, g2, d2, tk2, os2⟩ := s2
      wp_walk
      rw [hc]
      exact ⟨plainId_quiet plain_contains_loop _, codeAny_builtin entry_contains_loop (by
        rw [Around.under_plainId plain_contains_loop _]
        exact hrec)⟩
def rNotInO (C : Addr) (sp : Sp) : R2 := fun x y H Q => ∃ l xs a dx fs, ∃ es : List Bool, y = .ref l ∧ x = .ref a ∧ H l = some (.lst xs) ∧ H a = some (.ins C dx fs) ∧ es.length = xs.length ∧ (∀ (i : Nat) (z : V), xs[i]? = some z → ∃ (b dy : Addr) (gs : List (Str × V)) (e : Bool), z = .ref b ∧ es[i]? = some e ∧ H b = some (.ins C dy gs) ∧ (b = a → e = true) ∧ sp [.ref b, .ref a] H (fun v H' => v = .bl e ∧ H' = H) E0) ∧ Q (.bl (!es.any id)) H
theorem op_notInO (F0 : FnR X.prog X.w X.K X.mg X.base CX0 k f sp) (hr : Room (k + 1) X.A)
    (hs : PySem.W.findIn X.K (.ref C) "__eq__" = some (some (.ref f))) (hf : PySem.W.isFn X.K (.ref f) = true) : OpR X (compareOp .NotIn) (rNotInO C sp) := by
  intro pins s σ H x y v u Q I rx ry hq
  obtain ⟨l, xs, a, dx, fs, es, rfl, rfl, hl, ha, hle, turn, q⟩ := hq
  cases rx
  cases ry
  obtain ⟨hz, its, ep, rv, hob⟩ := I.hok l _ hl
  have key : ∀ (Qv : Value → Shared → Prop), (∀ s', Inv X pins σ H s' → Qv (.bool (es.any id)) s') → wpAny (model X.prog X.w) X.A (call (.builtin "list.__contains__") [.ref l, .ref a]) Qv X.xe s := by
    intro Qv hQ
    refine GQ.call_here F.slot_list_contains ⟨_, hob, rfl⟩ F.entry_list_contains (F.args_list_contains_2 _ _) ?_
    have hrec := has_loopO (A := X.A) (R := wants Qv X.xe) (es := es) (a := a) hl hle (fun i z hz => by
      obtain ⟨b, dy, gs, e, rfl, ee, hb, self, h⟩ := turn i z hz
      exact ⟨b, e, rfl, ee, fun s' I' => eqB_own F0 (Sub.in1 (n := k) ⟨hr, rfl⟩) hs hf I' hb ha self h⟩) _ 0 rfl (Nat.zero_le _) (fun s' I' => hQ s' I') s I
    obtain ⟨hp, g, d, tk, os⟩ := s
    wp_walk using wpAny_loadPart' hob
    exact ⟨plainId_quiet plain_contains_loop _, codeAny_builtin entry_contains_loop (by
      rw [Around.under_plainId plain_contains_loop _]
      exact hrec)⟩
  show wpAny _ X.A (do return Value.bool (!(← contains (.ref l) (.ref a)))) _ X.xe s
  exact wpAny_bind (wpAny_contains_slot ⟨_, hob, rfl⟩ F.slot_list_contains (key _ fun s' I' => wpAny_truthy_bool (wpAny_pure ⟨.bl _, H, I', rfl, q⟩)))
end
end My
/-! sorted(xs, key=lambda a: ..) -/
namespace My
open PySem PySem.Spec L2 LamX PyProof.Rows PySem.W PySem.Calls
/-- one parameter, no other name of its own: captured ones and globals -/
structure LamS1 (sc scope : Scope) (a : Str) : Prop where
  kind : scope.kind = .function
  co : scope.isCoroutine = false
  gen : scope.isGenerator = false
  par : scope.names.lookup a = some .local
  own : ∀ y ∈ scope.names, y.2 ≠ .cell ∧ (y.2 = .local → y.1 = a)
  free : ∀ y ∈ scope.names, y.2 = .free → sc.names.lookup y.1 = some .cell ∨ sc.names.lookup y.1 = some .free
def lamS1B (sc scope : Scope) (a : Str) : Bool :=
  decide (scope.kind = .function) && !scope.isCoroutine && !scope.isGenerator && decide (scope.names.lookup a = some .local) && scope.names.all fun y => !decide (y.2 = .cell) && (!decide (y.2 = .local) || decide (y.1 = a)) && (!decide (y.2 = .free) || decide (sc.names.lookup y.1 = some .cell) || decide (sc.names.lookup y.1 = some .free))
theorem lamS1_by {sc scope : Scope} {a : Str} (h : lamS1B sc scope a = true) : LamS1 sc scope a := by
  unfold lamS1B at h
  simp only [Bool.and_eq_true, Bool.or_eq_true, Bool.not_eq_true', decide_eq_true_eq, decide_eq_false_iff_not, List.all_eq_true] at h
  obtain ⟨⟨⟨⟨h1, h2⟩, h3⟩, h5⟩, h4⟩ := h
  refine ⟨h1, h2, h3, h5, fun y hy => ⟨(h4 y hy).1.1, fun e => ?_⟩, fun y hy e => ?_⟩
  · rcases (h4 y hy).1.2 with z | z
    · exact absurd e z
    · exact z
  · rcases (h4 y hy).2 with (z | z) | z
    · exact absurd e z
    · exact .inl z
    · exact .inr z
theorem LamS1.has {X : Cx} {scope : Scope} {a : Str} (L : LamS1 X.env.scope scope a) (ok : X.Ok) : ∀ y ∈ scope.names, y.2 = .free → ∃ c, X.env.cells.lookup y.1 = some c := fun y hy e => by
  rcases L.free y hy e with k | k
  · exact ok.has _ (.inl k)
  · exact ok.has _ (.inr k)
/-- the context of the lambda's body, entered at s from the frames outer -/
def lamCx1 (X : Cx) (A : Around) (outer : List Env) (s : Shared) (H : Hp) (E : XK) (scope : Scope) (f c' : Addr) (a : Str) : Cx where
  prog := X.prog
  w := X.w
  K := X.K
  mg := X.mg
  base := X.base
  A := A.deeper (lamEnv X scope s.heap.objs.size f c')
  N := X.N ++ [a]
  s_0 := s
  H_0 := H
  env := lamEnv X scope s.heap.objs.size f c'
  outer := outer
  stack := lamEnv X scope s.heap.objs.size f c' :: outer
  ex := []
  fn := fun _ => false
  calm := true
  pn := []
  xe := fun e s' => wpAny (model X.prog X.w) (A.deeper (lamEnv X scope s.heap.objs.size f c')) (leaving (lamEnv X scope s.heap.objs.size f c') e) (fun _ s'' => L2.CX X.prog X.w outer H s E e s'') (fun e' s'' => L2.CX X.prog X.w outer H s E e' s'') s'
section
variable {X : Cx} {pins : List (Addr × Obj)} {σ : L2.St} {H : Hp} {s : Shared}
theorem lam_start1 {A : Around} {outer : List Env} {E : XK} {scope : Scope} {f c' : Addr} {a : Str} {x : V} {v : Value} {h₁ : Heap} {tk : Nat} (I : Inv X pins σ H s) (L : LamS1 X.env.scope scope a) (hna : a ∉ X.N) (e0 : Env0 X.prog X.w X.K X.mg X.base A outer s H) (hd : A.handled = none) (rx : RelV x v)
    (hns : h₁.Ns s.heap.objs.size fun y => ([(a, v)] : List (Str × Value)).reverse.lookup y) (kp : ∀ b o, s.heap.get? b = some o → h₁.get? b = some o) :
    Inv (lamCx1 X A outer s H E scope f c' a) [] (σ ++ [some x]) H { s with heap := h₁, toks := tk } := by
  have hfree := L.has I.ok
  have cm : ∀ {y c}, (cloFrom X.env.cells scope.names []).lookup y = some c → X.env.cells.lookup y = some c := fun {y c} e => by
    rcases cloFrom_mem (PySem.mem_of_lookup e) with hm | ⟨h1, h2⟩
    · cases hm
    · obtain ⟨c1, hc⟩ := hfree _ h1 rfl
      have hc : X.env.cells.lookup y = some c1 := hc
      have e2 : c = c1 := by
        rw [h2, hc] <;> rfl
      rw [e2]
      exact hc
  have look : ∀ {y}, scope.names.lookup y = some .free → ∃ c, (cloFrom X.env.cells scope.names []).lookup y = some c := fun {y} hl => by
    have hy : (y, NameKind.free) ∈ scope.names := PySem.mem_of_lookup hl
    exact mem_lookup (cloFrom_has (cells := X.env.cells) (acc := []) hy)
  have cellK : ∀ {c : Addr} {v : Option Value}, s.heap.IsCell c v → h₁.IsCell c v := fun {c v} ⟨o, ho, hd⟩ => ⟨_, kp _ _ ho, hd⟩
  have noA : ∀ b : Addr, b ∉ (lamCx1 X A outer s H E scope f c' a).ex := fun b z => absurd (show b ∈ ([] : List Addr) from z) (by simp)
  refine ⟨⟨e0.mod, L.kind, rfl, rfl, Nat.le_refl _, fun y z c e1 e2 => I.ok.inj y z c (cm e1) (cm e2), fun y hy => ?_, fun y c z _ => ?_, fun _ => hd, Around.frames_deeper e0.frames, .inr ⟨rfl, rfl⟩, fun b z => absurd z (noA b), e0.bs, e0.bsz, fun b _ _ => noA b,
      fun b z => absurd z (noA b), e0.funs, e0.frf⟩,
    rfl, e0.bare, Un.kept kp, ⟨_, hns, fun i y v' e1 e2 e3 => ?_⟩, fun y c e => ?_, e0.hok.fresh (Nat.le_refl _), fun y c e => I.freeC y c (cm e), fun q hq => absurd (show q ∈ ([] : List (Addr × Obj)) ++ [] from hq) (by simp), e0.hok.kept kp, ?_⟩
  · have hy : scope.names.lookup y = some .cell ∨ scope.names.lookup y = some .free := hy
    rcases hy with hy | hy
    · exact absurd rfl (L.own _ (PySem.mem_of_lookup hy)).1
    · exact look hy
  · have z : false = true := z
    cases z
  · have e1 : (X.N ++ [a])[i]? = some y := e1
    have e3 : Vis scope y := e3
    by_cases hi : i < X.N.length
    · rw [List.getElem?_append_left hi] at e1
      rw [List.getElem?_append_left (by rw [I.len]; exact hi)] at e2
      have ny : y ≠ a := fun z => hna (by rw [← z]; exact List.mem_of_getElem? e1)
      rcases e3 with k | k | k
      · exact absurd ((L.own _ (PySem.mem_of_lookup k)).2 rfl) ny
      · exact absurd rfl (L.own _ (PySem.mem_of_lookup k)).1
      · obtain ⟨m, hn, hl⟩ := I.loc
        have hvis : Vis X.env.scope y := (L.free _ (PySem.mem_of_lookup k) rfl).elim (fun k => .inr (.inl k)) (fun k => .inr (.inr k))
        obtain ⟨w', r, q⟩ := hl i y v' e1 e2 hvis
        obtain ⟨c2, h2⟩ := look k
        refine ⟨w', r, .inr ⟨.inr k, c2, h2, ?_⟩⟩
        have c1 := cm h2
        rcases q with ⟨k', _⟩ | ⟨_, c3, e', z⟩
        · have k' : X.env.scope.names.lookup y = some .local := k'
          rcases L.free _ (PySem.mem_of_lookup k) rfl with k2 | k2 <;> rw [show X.env.scope.names.lookup y = _ from k2] at k' <;> cases k'
        · rw [c1] at e'
          cases e'
          exact cellK z
    · rw [List.getElem?_append_right (by omega)] at e1
      rw [List.getElem?_append_right (by rw [I.len]; omega)] at e2
      have hz : i - X.N.length = 0 := by
        have := (List.getElem?_eq_some_iff.mp e1).1
        rw [List.length_singleton] at this
        omega
      rw [hz] at e1
      rw [I.len, hz] at e2
      have ey : y = a := (Option.some.inj e1).symm
      have ev : v' = x := (Option.some.inj (Option.some.inj e2)).symm
      subst ey ev
      refine ⟨v, rx, .inl ⟨L.par, ?_⟩⟩
      simp [List.lookup]
  · obtain ⟨w', z⟩ := I.cell y c (cm e)
    exact ⟨w', cellK z⟩
  · show (σ ++ [some x]).length = (X.N ++ [a]).length
    rw [List.length_append, List.length_append, I.len]
    rfl
/-- the lambda is called -/
theorem lam_call1 {A : Around} {params : Arguments} {body : Expr} {scope : Scope} {f c' : Addr} {a : Str} {k : Nat} {x : V} {v pm ctv : Value} {tb : TE} {Q : VK} {E : Value → Shared → Prop} (I : Inv X pins σ H s) (L : LamS1 X.env.scope scope a) (hna : a ∉ X.N) (sb : Sub X (k + 1) A)
    (hf : s.heap.get? f = some (PySem.W.kla_obj "<lambda>" (X.env.qual ++ "<lambda>") params body scope (cloFrom X.env.cells scope.names []) pm c' ctv)) (hfn : H f = none) (hfr : f ∉ frs X.stack) (hc : H c' = some (CodeO c' (X.env.qual ++ "<lambda>")))
    (hbind : ∀ v, bindArgs (PySem.W.kla_fn "<lambda>" (X.env.qual ++ "<lambda>") params body scope (cloFrom X.env.cells scope.names []) pm (.ref c') ctv) ⟨[v], []⟩ = pure [(a, v)])
    (hbody : ∀ (A : Around) (outer : List Env) (s : Shared) (H : Hp), Room k (A.deeper (lamEnv X scope s.heap.objs.size f c')) → PE (lamCx1 X A outer s H C8.E0 scope f c' a) body tb) (rx : RelV x v) (ht : tb (σ ++ [some x]) H Q) :
    wpAny (model X.prog X.w) A (call (.ref f) [v]) (fun r s' => ∃ z H', Inv X pins σ H' s' ∧ RelV z r ∧ Q z H' ∧ H' f = none ∧ s'.heap.get? f = some (PySem.W.kla_obj "<lambda>" (X.env.qual ++ "<lambda>") params body scope (cloFrom X.env.cells scope.names []) pm c' ctv)) E s := by
  obtain ⟨⟨oc, vs, t, hoc, hdc, hvc⟩, _, _⟩ := I.hok c' _ hc
  have e0 : Env0 X.prog X.w X.K X.mg X.base A X.stack s H := by
    have e := I.env0
    exact ⟨by rw [sb.fr]; exact e.frames, e.mod, e.bs, e.bsz, e.funs, e.frf, e.hok, e.bare⟩
  have rc : codeAny (model X.prog X.w) A (.call (.ref f) ⟨[v], []⟩) (CR (L2.CX X.prog X.w) X.stack X.prog X.w H s Q C8.E0) s := by
    refine PySem.W.kla_callFunE sb.room.depth hf rfl L.co L.gen rfl ⟨c', oc, vs, t, rfl, hoc, hdc, hvc⟩ ?_
    rw [hbind v]
    refine wpAny_pure (wpAny_newFunctionEnv (fun y hy => (L.own y hy).1) (fun y hy => by
      rw [List.mem_singleton.mp hy]; exact L.par) (fun h₁ hns hsb => ⟨I.nolimit.fresh _ hsb, ?_⟩) L.kind)
    show codeAny _ _ (.expr body (lamEnv X scope s.heap.objs.size f c')) _ _
    have kp : ∀ b o, s.heap.get? b = some o → h₁.get? b = some o := fun b o e => hsb.extBut b o (Nat.ne_of_lt (Heap.lt_size e)) (Heap.get?_push_of_some _ e)
    have J : Inv (lamCx1 X A X.stack s H C8.E0 scope f c' a) [] (σ ++ [some x]) H { s with heap := h₁, toks := s.toks + ([(a, v)] : List (Str × Value)).length } :=
      lam_start1 I L hna e0 sb.room.hd rx hns kp
    refine PySem.W.kla_codeExpr (wpAny_mono ((hbody _ _ s H (sb.room.deeper _)).run [] _ _ H Q J ht) (fun v s' hq => ?_) fun e s' hq => hq)
    obtain ⟨w', H', J', rv, q⟩ := hq
    exact ⟨w', H', J'.os, J'.bare, J'.base, J'.hok, rv, q⟩
  refine wpAny_call (codeAny_mono rc fun r s' hq => ?_)
  cases r with
  | error e =>
    exfalso
    obtain ⟨_, _, _, _, _, _, _, _, _, _, _, _, _, _, _, _, z⟩ := hq
  | ok fl =>
    cases fl with
    | ret u =>
      have un : ∃ z H', s'.os = s.os ∧ AllBare s'.gens ∧ Un (frs X.stack) [] H H' s.heap s'.heap ∧ HOk X.prog X.w H' s'.heap ∧ RelV z u ∧ Q z H' := hq
      obtain ⟨z, H', os, bare, un, hok, rz, q⟩ := un
      exact ⟨z, H', I.call' (ch := []) os un hok bare (fun b z => absurd z (by simp)), rz, q, un.free f _ hf hfn (by simp), un.keep f _ hf hfn hfr (by simp)⟩
    | next => exact False.elim hq
    | brk => exact False.elim hq
    | cont => exact False.elim hq
/-- one object, known to the letter -/
def ExactO (ob : Obj) (a : Addr) : HO := .ext fun h => h.get? a = some ob
theorem exact_ok {P : Program} {w : World} {H : Hp} {h : Heap} {a : Addr} {ob : Obj} (e : h.get? a = some ob) : ObjOk P w H h a (ExactO ob a) := ⟨e, ⟨ob, e⟩, fun g1 g2 z k => k ob z⟩
/-! keys without lists -/
mutual
def nlB : PyData → Bool
  | .list _ => false
  | .tuple xs => nlAll xs
  | _ => true
def nlAll : List PyData → Bool
  | [] => true
  | x :: xs => nlB x && nlAll xs
end
mutual
theorem Dp.keepN {K : PySem.W.Frag} {H H' : Hp} {d : Addr} {ys : List V} (hd : H d = some (.lst ys)) (k : Keep d H H') : ∀ {v : V} {p : PyData}, nlB p = true → Dp K H v p → Dp K H' v p
  | _, _, _, .non => .non
  | _, _, _, .bl b => .bl b
  | _, _, _, .int i => .int i
  | _, _, _, .str x => .str x
  | _, _, n, .lst _ _ => by cases n
  | _, _, n, .tup h t => .tup (keep_T h hd k) (DpAll.keepN hd k n t)
theorem DpAll.keepN {K : PySem.W.Frag} {H H' : Hp} {d : Addr} {ys : List V} (hd : H d = some (.lst ys)) (k : Keep d H H') : ∀ {vs : List V} {ps : List PyData}, nlAll ps = true → DpAll K H vs ps → DpAll K H' vs ps
  | _, _, _, .nil => .nil
  | _, _, n, .cons h t => by
    have n := (Bool.and_eq_true _ _).mp n
    exact .cons (Dp.keepN hd k n.1 h) (DpAll.keepN hd k n.2 t)
end
mutual
theorem dp_same {K : PySem.W.Frag} {H H' : Hp} (s : Same H H') : ∀ {v : V} {p : PyData}, Dp K H v p → Dp K H' v p
  | _, _, .non => .non
  | _, _, .bl b => .bl b
  | _, _, .int i => .int i
  | _, _, .str x => .str x
  | _, _, .lst h t => .lst (s.seq h) (dps_same s t)
  | _, _, .tup h t => .tup (same_T s h) (dps_same s t)
theorem dps_same {K : PySem.W.Frag} {H H' : Hp} (s : Same H H') : ∀ {vs : List V} {ps : List PyData}, DpAll K H vs ps → DpAll K H' vs ps
  | _, _, .nil => .nil
  | _, _, .cons h t => .cons (dp_same s h) (dps_same s t)
end
theorem nl_take : ∀ {ps : List PyData}, nlAll ps = true → ∀ i, nlAll (ps.take i) = true
  | [], _, i => by rw [List.take_nil]; rfl
  | x :: xs, n, 0 => rfl
  | x :: xs, n, i + 1 => by
    have n := (Bool.and_eq_true _ _).mp n
    show (nlB x && nlAll (xs.take i)) = true
    rw [n.1, nl_take n.2 i]
    rfl
theorem nl_at : ∀ {ps : List PyData}, nlAll ps = true → ∀ {i : Nat} {p : PyData}, ps[i]? = some p → nlB p = true
  | x :: xs, n, 0, p, h => by cases h; exact ((Bool.and_eq_true _ _).mp n).1
  | x :: xs, n, i + 1, p, h => nl_at ((Bool.and_eq_true _ _).mp n).2 (i := i) (by simpa using h)
theorem dp_snoc {K : PySem.W.Frag} {H : Hp} {v : V} {p : PyData} (h : Dp K H v p) : ∀ {vs : List V} {ps : List PyData}, DpAll K H vs ps → DpAll K H (vs ++ [v]) (ps ++ [p])
  | _, _, .nil => .cons h .nil
  | _, _, .cons g t => .cons g (dp_snoc h t)
theorem vals_snoc {v : V} {u : Value} (h : RelV v u) : ∀ {vs : List V} {us : List Value}, Vals vs us → Vals (vs ++ [v]) (us ++ [u])
  | _, _, .nil => .cons h .nil
  | _, _, .cons g t => .cons g (vals_snoc h t)
/-- the keys are let go, the items stand in the list -/
def Ended (a kS : Addr) (out : List Value) (P : PySem.Fin → Shared → Prop) (s : Shared) : Prop := ∀ tk, P (.done (.ret .none)) { s with heap := (s.heap.update kS (Obj.mapSeq fun _ => (#[] : Array Value))).update a (Obj.mapSeq fun _ => out.toArray), toks := tk }
theorem endI {A : Around} {E : Value → Shared → Prop} {P : PySem.Fin → Shared → Prop} {a kS : Addr} {e1 n : Nat} {st : SortSt} {ka : Array Value} {out : List Value} (hk : s.heap.get? kS = some (seqObj "list" ka n)) (ha : s.heap.get? a = some (seqObj "list" #[] e1)) (ne : kS ≠ a)
    (z1 : ka.size ≤ sizeLine) (z2 : out.length ≤ sizeLine) (nf : failedOf st = none) (eo : (arrOf st).map (·.2) = out.toArray) (fin : Ended a kS out P s) :
    wpAny (model X.prog X.w) A (ksk_tail a false e1 (.ref kS) st) P E s := by
  have g1 := get?_update_seq hk fun _ => (#[] : Array Value)
  have a1 : (s.heap.update kS (Obj.mapSeq fun _ => (#[] : Array Value))).get? a = some (seqObj "list" #[] e1) := by rw [Heap.get?_update_ne _ _ _ _ ne.symm]; exact ha
  unfold ksk_tail
  dsimp only
  rw [eo, nf]
  refine wpAny_bind (listUpdate_at hk rfl ?_ z1 (Nat.zero_le _))
  refine wpAny_bind (wpAny_letGo (wpAny_bind (seqEpoch_at a1 rfl ?_)))
  refine wpAny_bind (listUpdate_at a1 rfl ?_ (Nat.zero_le _) (by rw [if_neg (by decide)]; show out.toArray.size ≤ _; rw [List.size_toArray]; omega))
  simp only [bne_self_eq_false, Bool.false_eq_true, if_false]
  exact wpAny_pure (fin _)
theorem mergeI {A : Around} {E : Value → Shared → Prop} {P : PySem.Fin → Shared → Prop} {a kS : Addr} {e1 n : Nat} {ka : Array Value} {its : List Value} {κ : PyProof.Rows.KeyKind} (hk : s.heap.get? kS = some (seqObj "list" ka n)) (ha : s.heap.get? a = some (seqObj "list" #[] e1)) (ne : kS ≠ a)
    (S : SortsAt X.prog X.w A s κ ka.toList) (hz : ka.size = its.length) (z : its.length ≤ sizeLine) (fin : Ended a kS (sortVals κ false ka.toList its) P s) :
    wpAny (model X.prog X.w) A (ksk_end a false its.toArray e1 (.ref kS) ka) P E s := by
  obtain ⟨kd, lt, kn⟩ := S.kind
  have KO : PyProof.Rows.KeysOf κ (ka.zip its.toArray) := keysOf_zip S.keys
  have lo : (sortVals κ false ka.toList its).length = its.length := sortVals_length false (by rw [Array.length_toList]; exact hz)
  have zz : (ka.zip its.toArray).size = its.length := by rw [Array.size_zip, hz, List.size_toArray, Nat.min_self]
  have outs : ∀ st' : SortSt, (arrOf st').Perm (ka.zip its.toArray) → SortedToK κ (arrOf st') (ka.zip its.toArray).size → Stable κ (arrOf st') (ka.zip its.toArray) → (arrOf st').map (·.2) = (sortVals κ false ka.toList its).toArray := fun st' p1 p2 p3 => by
    have r := sort_out (rev := false) (keys := ka) (items := its.toArray) (xs := arrOf st') (κ := κ) KO p1 p2 p3
    have r := congrArg List.toArray r
    rw [Array.toArray_toList] at r
    exact r
  unfold ksk_end
  dsimp only
  rw [if_neg (show ¬ (false = true) by decide)]
  by_cases few : its.toArray.size < 2
  · rw [if_pos few, if_pos few]
    refine wpAny_bind (wpAny_pure ?_)
    rw [StateT.run_pure]
    refine wpAny_bind (wpAny_pure ?_)
    refine endI (X := X) (st := SortSt.mk' general' (ka.zip its.toArray) #[] 7 none) hk ha ne (by omega) (by omega) rfl (outs _ (Array.Perm.refl _) (fun i j hij hj => ?_) (Stable.refl _)) fin
    rw [zz] at hj
    rw [List.size_toArray] at few
    obtain rfl : i = j := by omega
    exact KeyOrd.kle_refl _
  · rw [if_neg few, if_neg few]
    rw [List.size_toArray] at few
    refine wpAny_bind (kn (by rw [Array.length_toList]; omega) _ ?_)
    refine wpAny_bind (wpAny_mono (H.wpS_sortRunsSt (κ := κ) (kd := kd) (a₀ := ka.zip its.toArray) (st := SortSt.mk' kd (ka.zip its.toArray) #[] 7 none) (Q := fun _ st' => failedOf st' = none ∧ (arrOf st').map (·.2) = (sortVals κ false ka.toList its).toArray) lt KO ⟨Array.Perm.refl _, rfl, rfl⟩ rfl (Stable.refl _) (by omega) fun st' p1 p2 p3 p4 => ⟨p2, outs st' p1 p3 p4⟩) ?_ fun _ _ e => e)
    rintro ⟨⟨⟩, st'⟩ s' ⟨rfl, f1, f2⟩
    exact endI (X := X) hk ha ne (by omega) (by omega) f1 f2 fin
/-- what stands while the keys are made -/
structure Keying (X : Cx) (pins : List (Addr × Obj)) (σ : L2.St) (H : Hp) (a kS f : Addr) (ob fo : Obj) (ds : List PyData) (i : Nat) (s : Shared) : Prop where
  ex : ∃ Hi ks, Inv X pins σ Hi s ∧ Same H Hi ∧ Hi kS = some (.lst ks) ∧ Hi a = some (ExactO ob a) ∧ Hi f = none ∧ s.heap.get? f = some fo ∧ DpAll X.K Hi ks (ds.take i)
theorem dpl {K : PySem.W.Frag} {H : Hp} : ∀ {vs : List V} {ps : List PyData}, DpAll K H vs ps → vs.length = ps.length
  | _, _, .nil => rfl
  | _, _, .cons _ t => congrArg Nat.succ (dpl t)
theorem each_reads {us : List Value} {ds : List PyData} (I : Inv X pins σ H s) : ∀ {vs : List V} {us : List Value} {ds : List PyData}, Vals vs us → DpAll X.K H vs ds → EachIs (fun v d => ∃ as, Reads s.heap v d as) us ds
  | _, _, _, .nil, .nil => .nil
  | _, _, _, .cons r t, .cons h g => .cons (Dp.reads I _ _ _ h r) (each_reads (us := us) (ds := ds) I t g)
theorem restI {A : Around} {E : Value → Shared → Prop} {P : PySem.Fin → Shared → Prop} {params : Arguments} {body : Expr} {scope : Scope} {f c' a kS : Addr} {nm : Str} {k e1 : Nat} {pm ctv : Value} {tb : TE} {xs : List V} {its : List Value} {ds : List PyData}
    (L : LamS1 X.env.scope scope nm) (hna : nm ∉ X.N) (sb : Sub X (k + 1) A) (hfr : f ∉ frs X.stack)
    (hbind : ∀ v, bindArgs (PySem.W.kla_fn "<lambda>" (X.env.qual ++ "<lambda>") params body scope (cloFrom X.env.cells scope.names []) pm (.ref c') ctv) ⟨[v], []⟩ = pure [(nm, v)])
    (hbody : ∀ (A : Around) (outer : List Env) (s : Shared) (H : Hp), Room k (A.deeper (lamEnv X scope s.heap.objs.size f c')) → PE (lamCx1 X A outer s H C8.E0 scope f c' nm) body tb)
    (K0 : Keying X pins σ H a kS f (seqObj "list" #[] e1) (PySem.W.kla_obj "<lambda>" (X.env.qual ++ "<lambda>") params body scope (cloFrom X.env.cells scope.names []) pm c' ctv) ds 0 s) (hka : kS ≠ a) (hkn : H kS = none) (hc : H c' = some (CodeO c' (X.env.qual ++ "<lambda>")))
    (rv : Vals xs its) (hz : xs.length ≤ sizeLine) (hld : ds.length = xs.length) (al : AllAlike ds) (so : Sortable ds) (nl : nlAll ds = true) (dep : ∀ d ∈ ds, A.units + d.depth < cLine)
    (turn : ∀ (i : Nat) (x : V) (d : PyData), xs[i]? = some x → ds[i]? = some d → ∀ H3, Same H H3 → tb (σ ++ [some x]) H3 (fun v H4 => Same H3 H4 ∧ Dp X.K H4 v d))
    (fin : ∀ (s' : Shared) (Hi : Hp) (ks : List V) (out : List Value), Inv X pins σ Hi s' → Same H Hi → Hi kS = some (.lst ks) → Hi a = some (ExactO (seqObj "list" #[] e1) a) → KeyedOut false ds its out → Ended a kS out P s') :
    wpAny (model X.prog X.w) A (ksk_rest a (.ref f) false its.toArray e1 (.ref kS)) P E s := by
  have hl := rv.length
  unfold ksk_rest
  refine wpAny_bind (wpAny_rule ?_)
  rw [List.forIn_toArray]
  refine wpAny_bind (ksk_fold (fun i s' => Keying X pins σ H a kS f (seqObj "list" #[] e1) (PySem.W.kla_obj "<lambda>" (X.env.qual ++ "<lambda>") params body scope (cloFrom X.env.cells scope.names []) pm c' ctv) ds i s') its 0 s K0 ?_ ?_)
  · rintro j u s' hu ⟨Hi, ks, I, sm, hk, ha, hf0, hf1, dk⟩
    rw [Nat.zero_add] at dk ⊢
    have jl : j < its.length := (List.getElem?_eq_some_iff.mp hu).1
    have hx : xs[j]? = some (xs[j]'(by omega)) := List.getElem?_eq_getElem _
    obtain ⟨u', hu', ru⟩ := rv.get hx
    rw [hu] at hu'
    cases hu'
    have hd : ds[j]? = some (ds[j]'(by omega)) := List.getElem?_eq_getElem _
    generalize xs[j]'(by omega) = x at *
    generalize ds[j]'(by omega) = d at *
    refine wpAny_bind (wpAny_attempt (wpAny_mono (lam_call1 (tb := tb) I L hna sb hf1 hf0 hfr (sm _ _ hc) hbind hbody ru (turn j x d hx hd Hi sm)) (fun v s2 h2 => ?_) fun _ _ z => z))
    obtain ⟨z, H4, I4, rz, ⟨s4, dz⟩, f4, g4⟩ := h2
    dsimp only
    have hk4 := s4 _ _ hk
    obtain ⟨hkz, ki, kn, krv, kob⟩ := I4.hok kS _ hk4
    have lks := dpl dk
    rw [List.length_take] at lks
    have lki := krv.length
    refine wpAny_bind (listUpdate_at kob rfl ?_ (by rw [List.size_toArray]; omega) (by rw [Array.size_push, List.size_toArray]; omega))
    have gk := get?_update_seq kob (·.push v)
    have nfk : f ≠ kS := fun e => by rw [e, hk4] at f4; cases f4
    have hv : ki.toArray.push v = (ki ++ [v]).toArray := by simp
    rw [hv] at gk
    have I5 := I4.write (x := kS) (e := kS) (o := .lst (ks ++ [z])) (t' := s2.toks) (h' := s2.heap.update kS (Obj.mapSeq (·.push v))) (by rw [hk4]; trivial) (.inl rfl) (fun b o nb e => by rw [Heap.get?_update_ne _ _ _ _ nb]; exact e) ⟨_, gk⟩ ⟨by rw [List.length_append, List.length_singleton]; omega, _, _, vals_snoc rz krv, gk⟩
    have kk := keep_upd (d := kS) (H := H4) (o := .lst (ks ++ [z]))
    refine wpAny_pure ⟨rfl, ⟨_, ks ++ [z], I5, ?_, upd_same, kk _ _ hka.symm (s4 _ _ ha), by rw [upd_ne nfk]; exact f4, by rw [Heap.get?_update_ne _ _ _ _ nfk]; exact g4, ?_⟩⟩
    · intro b o e
      rw [upd_ne (ne_of_none e hkn)]
      exact s4 _ _ (sm _ _ e)
    · have et : ds.take (j + 1) = ds.take j ++ [d] := by rw [List.take_succ, hd]; rfl
      rw [et]
      exact dp_snoc (Dp.keepN hk4 kk (nl_at nl hd) dz) (DpAll.keepN hk4 kk (nl_take nl j) (dps_same s4 dk))
  · rintro s' ⟨Hi, ks, I, sm, hk, ha, hf0, hf1, dk⟩
    rw [Nat.zero_add, List.take_of_length_le (by omega)] at dk
    obtain ⟨hkz, ki, kn, krv, kob⟩ := I.hok kS _ hk
    have lks := dpl dk
    have lki := krv.length
    have ga : s'.heap.get? a = some (seqObj "list" #[] e1) := (I.hok a _ ha).1
    have er := each_reads (us := []) (ds := []) I krv dk
    refine wpAny_bind (listItems_at kob rfl ?_)
    refine mergeI (X := X) (κ := dataKind s'.heap ds) kob ga hka (SortsAt.data (s := s') (by show EachIs _ ki ds; exact er) al so dep) (by rw [List.size_toArray]; omega) (by omega) (fin s' Hi ks _ I sm hk ha ⟨s'.heap, ki, al, rfl, er⟩)
theorem each_zip : ∀ {xs : List V} {us : List Value} {ds : List PyData}, Vals xs us → ds.length = xs.length → EachIs (fun v (b : V × PyData) => RelV b.1 v) us (xs.zip ds)
  | _, _, [], .nil, _ => .nil
  | _, _, d :: ds, .cons r t, h => .cons r (each_zip t (Nat.succ.inj h))
theorem vals_of_each : ∀ {us : List Value} {bs : List (V × PyData)}, EachIs (fun v (b : V × PyData) => RelV b.1 v) us bs → Vals (bs.map (·.1)) us
  | _, _, .nil => .nil
  | _, _, .cons r t => .cons r (vals_of_each t)
/-- sorted(l, key=f), f a lambda of this frame -/
theorem sortedI {params : Arguments} {body : Expr} {scope : Scope} {f c' l : Addr} {nm : Str} {k : Nat} {pm ctv : Value} {tb : TE} {xs : List V} {ds : List PyData} {Q : VK}
    (I : Inv X pins σ H s) (L : LamS1 X.env.scope scope nm) (hna : nm ∉ X.N) (hr : Room (k + 3) X.A) (hfr : f ∉ frs X.stack)
    (hbind : ∀ v, bindArgs (PySem.W.kla_fn "<lambda>" (X.env.qual ++ "<lambda>") params body scope (cloFrom X.env.cells scope.names []) pm (.ref c') ctv) ⟨[v], []⟩ = pure [(nm, v)])
    (hbody : ∀ (A : Around) (outer : List Env) (s : Shared) (H : Hp), Room k (A.deeper (lamEnv X scope s.heap.objs.size f c')) → PE (lamCx1 X A outer s H C8.E0 scope f c' nm) body tb)
    (hf : s.heap.get? f = some (PySem.W.kla_obj "<lambda>" (X.env.qual ++ "<lambda>") params body scope (cloFrom X.env.cells scope.names []) pm c' ctv)) (hfn : H f = none) (hc : H c' = some (CodeO c' (X.env.qual ++ "<lambda>")))
    (hl : SqL X.K H l xs) (hld : ds.length = xs.length) (al : AllAlike ds) (so : Sortable ds) (nl : nlAll ds = true) (dep : ∀ d ∈ ds, d.depth ≤ 60) (hu : X.A.units + 65 < cLine)
    (turn : ∀ (i : Nat) (x : V) (d : PyData), xs[i]? = some x → ds[i]? = some d → ∀ H3, Same H H3 → tb (σ ++ [some x]) H3 (fun v H4 => Same H3 H4 ∧ Dp X.K H4 v d))
    (q : ∀ H5 p, Same H H5 → H p = none → H5 p = some (.lst (((xs.zip ds).mergeSort (dataLe false (·.2))).map (·.1))) → Q (.ref p) H5) :
    wpAny (model X.prog X.w) X.A (call (.builtin "sorted") [.ref l] [(Str.ofString "key", .ref f)]) (EP X pins σ Q) X.xe s := by
  obtain ⟨its, rv, pl, hz⟩ := I.list hl
  have li := rv.length
  refine sorted_of_sort pl.isList (by omega) (ksk_s1 _ _) (fun _ => ksk_l1 _ _) fun E' => ?_
  rw [ksk_t1]
  have c0 := copyHeap_at s.heap its
  have g1 := get?_update_seq c0 fun _ => (#[] : Array Value)
  unfold ksk_tree
  refine wpAny_bind (listItems_at c0 rfl ?_)
  refine wpAny_bind (listUpdate_at c0 rfl ?_ (by rw [List.size_toArray]; omega) (Nat.zero_le _))
  refine wpAny_bind (seqEpoch_at g1 rfl ?_)
  refine wpAny_bind (wpAny_newTuple ?_ (by show its.length ≤ _; omega))
  refine wpAny_bind (wpAny_newList ?_ (Nat.zero_le _))
  refine wpAny_holding ?_
  have za : (copyHeap s.heap its).objs.size = s.heap.objs.size + 2 := by unfold copyHeap; rw [size_push', Heap.size_update, size_push']
  have old : ∀ b o, s.heap.get? b = some o → ((copyHeap s.heap its).update (s.heap.objs.size + 1) (Obj.mapSeq fun _ => (#[] : Array Value))).get? b = some o := fun b o e => by
    rw [Heap.get?_update_ne _ _ _ _ (Nat.ne_of_lt (Nat.lt_succ_of_lt (Heap.lt_size e)))]
    exact copyHeap_old e
  generalize hcase : (if ((#[] : Array Value).size == its.toArray.size) = true then 0 else 0 + 1) = e1 at *
  have za1 : ((copyHeap s.heap its).update (s.heap.objs.size + 1) (Obj.mapSeq fun _ => (#[] : Array Value))).objs.size = s.heap.objs.size + 2 := by rw [Heap.size_update, za]
  generalize (copyHeap s.heap its).update (s.heap.objs.size + 1) (Obj.mapSeq fun _ => (#[] : Array Value)) = h1 at *
  have za2 : (h1.push (seqObj "tuple" its.toArray 0)).objs.size = s.heap.objs.size + 3 := by rw [size_push', za1]
  have g2 := Heap.get?_push_of_some (seqObj "tuple" its.toArray 0) g1
  have I1 := I.laid (a := s.heap.objs.size + 1) (o := ExactO (seqObj "list" #[] e1) (s.heap.objs.size + 1)) (t' := s.toks) (h' := h1.push (seqObj "tuple" its.toArray 0)) (fun b o e => Heap.get?_push_of_some _ (old b o e)) (Nat.le_succ _) (exact_ok g2)
  generalize hh2 : h1.push (seqObj "tuple" its.toArray 0) = h2 at *
  have I2 := I1.laid (a := h2.objs.size) (o := .lst []) (t' := s.toks) (h' := h2.push (seqObj "list" #[] 0)) (fun b o e => Heap.get?_push_of_some _ e) (Nat.le_refl _) ⟨Nat.zero_le _, [], 0, .nil, Heap.get?_push_size _ rfl⟩
  have na : H (s.heap.objs.size + 1) = none := I.hok.fresh (Nat.le_succ _)
  have nk : H h2.objs.size = none := I.hok.fresh (by omega)
  have nka : h2.objs.size ≠ s.heap.objs.size + 1 := by omega
  have lf := Heap.lt_size hf
  have nfk : f ≠ h2.objs.size := Nat.ne_of_lt (Nat.lt_of_lt_of_le lf (by omega))
  have nfa : f ≠ s.heap.objs.size + 1 := Nat.ne_of_lt (Nat.lt_succ_of_lt lf)
  have sm : Same H (upd (upd H (s.heap.objs.size + 1) (ExactO (seqObj "list" #[] e1) (s.heap.objs.size + 1))) h2.objs.size (.lst [])) := (same_new na _).trans (same_new (by rw [upd_ne nka]; exact nk) _)
  have kept : ∀ b o, s.heap.get? b = some o → (h2.push (seqObj "list" #[] 0)).get? b = some o := fun b o e => Heap.get?_push_of_some _ (by rw [← hh2]; exact Heap.get?_push_of_some _ (old b o e))
  refine restI (X := X) (pins := pins) (σ := σ) (H := H) (its := its) (kS := h2.objs.size) L hna (Sub.in1 (Sub.in1 (n := k + 2) ⟨hr, rfl⟩)) hfr hbind hbody ⟨_, [], I2, sm, upd_same, by rw [upd_ne nka.symm]; exact upd_same, by rw [upd_ne nfk, upd_ne nfa]; exact hfn, kept _ _ hf, .nil⟩ nka nk hc rv hz hld al so nl (fun d hd => by have := dep d hd; show X.A.units + 1 + 1 + d.depth < cLine; omega) turn ?_
  intro s' Hi ks out J smi hk ha ko tk
  refine ⟨rfl, ?_⟩
  obtain ⟨_, ki, kn, krv, kob⟩ := J.hok _ _ hk
  have ga0 : s'.heap.get? (s.heap.objs.size + 1) = some (seqObj "list" #[] e1) := (J.hok _ _ ha).1
  generalize h2.objs.size = kS at *
  generalize s.heap.objs.size + 1 = a at *
  have gk := get?_update_seq kob fun _ => (#[] : Array Value)
  have ga1 : (s'.heap.update kS (Obj.mapSeq fun _ => (#[] : Array Value))).get? a = some (seqObj "list" #[] e1) := by rw [Heap.get?_update_ne _ _ _ _ nka.symm]; exact ga0
  have ga2 := get?_update_seq ga1 fun _ => out.toArray
  have J1 := J.write (x := kS) (e := kS) (o := .lst []) (t' := s'.toks) (h' := s'.heap.update kS (Obj.mapSeq fun _ => (#[] : Array Value))) (by rw [hk]; trivial) (.inl rfl) (fun b o nb e => by rw [Heap.get?_update_ne _ _ _ _ nb]; exact e) ⟨_, gk⟩ ⟨Nat.zero_le _, [], _, .nil, gk⟩
  have e2 : (xs.zip ds).map (·.2) = ds := List.map_snd_zip (by omega)
  have ez : EachIs (fun v (b : V × PyData) => RelV b.1 v) its (xs.zip ds) := each_zip rv hld
  have eo := keyedOut_each (β := V × PyData) (bs := xs.zip ds) (R := fun v b => RelV b.1 v) (·.2) (by rw [e2]; exact ko) ez
  have vo := vals_of_each eo
  have lo : (((xs.zip ds).mergeSort (dataLe false (·.2))).map (·.1)).length = xs.length := by rw [List.length_map, List.length_mergeSort, List.length_zip]; omega
  generalize ((xs.zip ds).mergeSort (dataLe false (·.2))).map (·.1) = ys at *
  have J2 := J1.write (x := a) (e := a) (o := .lst ys) (t' := tk) (h' := (s'.heap.update kS (Obj.mapSeq fun _ => (#[] : Array Value))).update a (Obj.mapSeq fun _ => out.toArray)) (by rw [upd_ne nka.symm, ha]; trivial) (.inl rfl) (fun b o nb e => by rw [Heap.get?_update_ne _ _ _ _ nb]; exact e) ⟨_, ga2⟩ ⟨by omega, out, _, vo, ga2⟩
  refine ⟨.ref a, _, J2, rfl, q _ _ (fun b o e => ?_) na upd_same⟩
  rw [upd_ne (ne_of_none e na), upd_ne (ne_of_none e nk)]
  exact smi _ _ e
/-- what is wanted behind the making of the lambda -/
def SortL (K : PySem.W.Frag) (tb : TE) (l : Addr) (σ : L2.St) (H : Hp) (Q : VK) : Prop := ∃ (xs : List V) (ds : List PyData), SqL K H l xs ∧ ds.length = xs.length ∧ AllAlike ds ∧ Sortable ds ∧ nlAll ds = true ∧ (∀ d ∈ ds, d.depth ≤ 60) ∧
  (∀ (i : Nat) (x : V) (d : PyData), xs[i]? = some x → ds[i]? = some d → ∀ H3, Same H H3 → tb (σ ++ [some x]) H3 (fun v H4 => Same H3 H4 ∧ Dp K H4 v d)) ∧
  ∀ H5 p, Same H H5 → H p = none → H5 p = some (.lst (((xs.zip ds).mergeSort (dataLe false (·.2))).map (·.1))) → Q (.ref p) H5
def tSortL (K : PySem.W.Frag) (T : List (Addr × Str)) (te tb : TE) : TE := fun σ H Q => te σ H fun y H1 => ∃ l, y = .ref l ∧ Tabs T H1 ∧ ∀ H2, ExtN H1 H2 → Tabs T H2 → SortL K tb l σ H2 Q
/-- sorted(e, key=lambda a: body) -/
theorem pe_sortL {T : List (Addr × Str)} {c P : Addr} {k : Nat} {params : Arguments} {e body : Expr} {scope : Scope} {te tb : TE} {nm : Str} {p lpos kpos pos : Pos} (hg : Gl X "sorted") (hm : X.mg "sorted" = none) (he : PE X e te)
    (TB : TabB X.base X.mg c P) (hcode : X.env.code = .ref c) (hmT : (P, X.env.qual ++ "<lambda>") ∈ T) (hu : ∀ p ∈ T, p.1 = P → p.2 = X.env.qual ++ "<lambda>") (hr : Room (k + 3) X.A) (hua : X.A.units + 65 < cLine) (L : LamS1 X.env.scope scope nm) (hna : nm ∉ X.N) (hdef : defaultsOf params X.env = ([], []))
    (hbind : ∀ (q : Str) (cl : List (Str × Addr)) (pm cv ctv : Value) (v : Value), bindArgs (PySem.W.kla_fn "<lambda>" q params body scope cl pm cv ctv) ⟨[v], []⟩ = pure [(nm, v)])
    (hbody : ∀ (A : Around) (outer : List Env) (s : Shared) (H : Hp) (f c' : Addr), Room k (A.deeper (lamEnv X scope s.heap.objs.size f c')) → PE (lamCx1 X A outer s H C8.E0 scope f c' nm) body tb)
    (hse : starEach [e] X.env = (false, eval e X.env) :: starEach [] X.env := by rfl) (hst : backTo pos (starEach [e] X.env) = (false, eval e X.env) :: backTo pos (starEach [] X.env) := by rfl) (hpl : (backTo pos (starEach [e] X.env)).any (·.1) = false := by rfl) :
    PE X (.Call (.Name "sorted" p) [e] [⟨some "key", .Lambda params body scope lpos, kpos⟩] pos) (tSortL X.K T te tb) := by
  refine ⟨fun pins s σ H Q I h => ?_⟩
  refine wpAny_Call_Name_kw (ld_blt (u := .builtin "sorted") I hg hm (by decide +kernel) ?_ (by decide) (by decide))
  have ha : PA X [e] (tCons te tNil) := pa_cons he pa_nil hse
  refine PyProof.Rows.callWith_kw (thn (ha.run pos pins s σ H (fun vs H1 => match vs with | [y] => ∃ l, y = V.ref l ∧ Tabs T H1 ∧ ∀ H2, ExtN H1 H2 → Tabs T H2 → SortL X.K tb l σ H2 Q | _ => False) I h) fun us s1 ⟨vs, H1, I1, r1, q1⟩ => ?_) hst hpl (by rfl) (by rfl)
  obtain ⟨l, rfl, hT, q1⟩ : ∃ l, vs = [V.ref l] ∧ Tabs T H1 ∧ ∀ H2, ExtN H1 H2 → Tabs T H2 → SortL X.K tb l σ H2 Q := by
    match vs, q1 with
    | [y], ⟨l, ey, z⟩ => exact ⟨l, by rw [ey], z⟩
  obtain rfl := Vals.ref1 r1
  show wpAny _ _ (evalAll ((do let v ← eval (.Lambda params body scope lpos) X.env; standAt pos; pure v) :: [])) _ _ s1
  refine wpAny_evalAll_cons (wpAny_bind (lam_make2 I1 TB hcode hmT hu hT hdef (L.has I1.ok) fun f c' pm ctv H2 s2 I2 eN T2 hf hfn hfr hco => wpAny_bind (wpAny_standAt (wpAny_pure (wpAny_evalAll_nil ?_)))))
  obtain ⟨xs, ds, hl, hld, al, so, nl, dep, turn, q⟩ := q1 H2 eN T2
  show wpAny _ _ (call (.builtin "sorted") [.ref l] [(Str.ofString "key", .ref f)]) _ _ s2
  exact sortedI I2 L hna hr hfr (fun v => hbind _ _ _ _ _ v) (fun A outer s H hr' => hbody A outer s H f c' hr') hf hfn hco hl hld al so nl dep hua turn q
end
end My
/-! for i, x in enumerate(t), t a tuple -/
namespace My
open PySem PySem.Spec L2 PyProof.Rows
open AutoSeq1 (wpAny_loadPart')
theorem new_enumT (t : Addr) (its : Array Value) (m : Nat) (dd : Option Addr) (ss : Array (Option Value)) :
    Meets (Builtin.«enumerate.__new__» ⟨[.type "enumerate", .ref t], []⟩) (fun _ R s => s.heap.get? t = some { cls := .type "tuple", dict := dd, data := .seq its m, slots := ss } ∧
      R (.ok (.ret (.ref (s.heap.push { cls := .type "tuple_iterator", data := .fields #[.ref t, .int 0 0] }).objs.size)))
        { s with heap := (s.heap.push { cls := .type "tuple_iterator", data := .fields #[.ref t, .int 0 0] }).push { cls := .type "enumerate", data := .fields #[.none, .bool false, .ref s.heap.objs.size, rawInt 0, .none, .none] } }) :=
  .of_wp fun P0 w0 A0 R s h => by
    obtain ⟨hp, g, d, tk, os⟩ := s
    obtain ⟨ht, h⟩ := h
    have f1 := sub_enumerate
    have f2 : Heap.IsTuple (Shared.heap ⟨hp, g, d, tk, os⟩) t its := ⟨_, ht, rfl, m, rfl⟩
    wp_walk using wpAny_loadPart' ht
    refine wpAny_stack_any fun st => wpAny_pure ?_
    split
    · rename_i cc _ _ _ _ _
      cases (cc == Value.type "enumerate") <;> (wp_walk using wpAny_loadPart' ht, wpAny_pyIter_tuple f2; exact ⟨_, rfl, h⟩)
    · wp_walk using wpAny_loadPart' ht, wpAny_pyIter_tuple f2
      exact ⟨_, rfl, h⟩
section
variable {P0 : Program} {w0 : World} {A : Around} {E : Value → Shared → Prop} {s : Shared}
theorem call_enumT {t : Addr} {its : Array Value} {Q : Value → Shared → Prop} (hT : s.heap.IsTuple t its)
    (h : ∀ g, IsEnum g (s.heap.objs.size + 1) s.heap.objs.size 0 .none → g.IsTupleIter s.heap.objs.size t 0 → (∀ b o, s.heap.get? b = some o → g.get? b = some o) → Q (.ref (s.heap.objs.size + 1)) { s with heap := g }) :
    wpAny (model P0 w0) A (call (.type "enumerate") [.ref t]) Q E s := by
  obtain ⟨⟨cc, dd, dt, ss⟩, hl, e1, m, e2⟩ := hT
  obtain rfl : cc = .type "tuple" := e1
  obtain rfl : dt = .seq its m := e2
  refine callType_new F.called_enumerate (by decide) (F.typeCall_enumerate_1 _) (F.newCall_enumerate_1 _) (fun obj => F.args_object_init_2 obj _) F.entry_enumerate_new (new_enumT t its m dd ss) ⟨hl, ?_⟩
  have z1 : (s.heap.push { cls := .type "tuple_iterator", data := .fields #[.ref t, .int 0 0] }).objs.size = s.heap.objs.size + 1 := Heap.size_push ..
  show _ ∧ _
  rw [z1]
  have en : IsEnum ((s.heap.push { cls := .type "tuple_iterator", data := .fields #[.ref t, .int 0 0] }).push { cls := .type "enumerate", data := .fields #[.none, .bool false, .ref s.heap.objs.size, rawInt 0, .none, .none] }) (s.heap.objs.size + 1) s.heap.objs.size 0 .none := by
    have z2 := Heap.get?_push_size (s.heap.push { cls := .type "tuple_iterator", data := .fields #[.ref t, .int 0 0] }) (o := { cls := .type "enumerate", data := .fields #[.none, .bool false, .ref s.heap.objs.size, rawInt 0, .none, .none] }) rfl
    rw [z1] at z2
    exact z2
  exact ⟨⟨_, en, rfl⟩, h _ en ⟨_, Heap.get?_push_of_some _ (Heap.get?_push_size _ rfl), rfl, rfl⟩ fun b o y => Heap.get?_push_of_some _ (Heap.get?_push_of_some _ y)⟩
end
/-- each item of the tuple at a in a new pair -/
def IteT (K : PySem.W.Frag) (a : Addr) : It :=
  ⟨fun i H => ∃ (xs : List V) (x : V), SqT K H a xs ∧ xs[i]? = some x, fun i H v H' => ∃ T x, v = .ref T ∧ H T = none ∧ H' = upd H T (.tup [.int (i : Nat), x]) ∧ ∀ xs, SqT K H a xs → xs[i]? = some x, fun i H => ∃ xs : List V, SqT K H a xs ∧ xs.length = i⟩
theorem turn_enumT {P : Program} {w : World} {K : PySem.W.Frag} {elts : List Expr} {kk : Nat} {tpos : Pos} (a e it : Addr) :
    Turn P w K (.Tuple elts kk tpos) (IteT K a) [e, it] e (fun i h => (∃ old, IsEnum h e it ((i : Nat) : Int) old) ∧ h.IsTupleIter it a i ∧ e ≠ it ∧ e ≠ a ∧ a ≠ it) where
  mem := by simp
  obj := fun i h ⟨⟨old, he⟩, ⟨o, ho, hc, hd⟩, _⟩ b hb => by
    rcases (show b = e ∨ b = it by simpa using hb) with rfl | rfl
    · exact ⟨_, he, fun v q => nomatch q⟩
    · exact ⟨o, ho, fun v q => by rw [hd] at q; cases q⟩
  keep := fun i h h' ⟨⟨old, he⟩, hi, r⟩ k => ⟨⟨old, k e (by simp) _ he⟩, hi.at fun o q => k it (by simp) o q, r⟩
  item := by
    intro X e1 e2 e3 hc i pins s σ H E I hf st hg
    subst e1 e2 e3
    obtain ⟨⟨old, he⟩, hit, n1, n2, n3⟩ := st
    obtain ⟨xs, x, hq, hx⟩ := hg
    obtain ⟨its, rv, p, hz⟩ := I.tuple hq
    obtain ⟨u, hu, ru⟩ := rv.get hx
    have le : e < s.heap.objs.size := Heap.lt_size he
    have li : it < s.heap.objs.size := by obtain ⟨_, q, _⟩ := hit; exact Heap.lt_size q
    have lt : i < its.toArray.size := by rw [List.size_toArray]; exact (List.getElem?_eq_some_iff.mp hu).1
    refine wpAny_pyNext_enum_itemD (Draws.tuple (A := X.A.in1) (I.ok.hd hc) it a n3 its.toArray) he ⟨hit, p⟩ lt n1 (by simp [n1, n2]) fun v h' tk pv ho st' hT hsz hk => ?_
    have ev : v = u := by
      have pv : its.toArray[i]? = some v := pv
      have pv : its[i]? = some v := by simpa using pv
      rw [hu] at pv
      exact (Option.some.inj pv).symm
    subst ev
    refine ⟨_, rfl, wpAny_letOwnedTupleGo_enum (s := { s with heap := h', toks := tk + 1 }) ho fun h2 he2 sb => ?_⟩
    have hT2 : h2.get? s.heap.objs.size = some { cls := .type "tuple", data := .seq #[.int i tk, v] } := (sb.2 _ (Nat.ne_of_gt le)).trans hT
    have I1 := I.turnedNew (t' := tk + 1) (h' := h2) (ch := [e, it]) (T := s.heap.objs.size) (ob := .tup [.int (i : Nat), x]) (fun b ob hb q => (sb.2 b (fun z => hb (by simp [z]))).trans (hk b ob (fun z => hb (by simp [z])) (fun z => hb (by simp [z])) q)) hf (Nat.le_refl _)
      ⟨by show 2 ≤ sizeLine; decide, [.int i tk, v], .cons ⟨_, rfl⟩ (.cons ru .nil), ⟨_, hT2, rfl, _, rfl⟩⟩
    refine ⟨.ref s.heap.objs.size, _, I1, rfl, ⟨_, x, rfl, I.hok.fresh (Nat.le_refl _), rfl, fun ys hy => by rw [I.tuple_inj hy hq]; exact hx⟩, ⟨⟨v, ?_⟩, st'.1.at fun o q => (sb.2 it n1.symm).trans q, n1, n2, n3⟩, fun b hb => ?_⟩
    · rw [show ((i + 1 : Nat) : Int) = (i : Int) + 1 by omega]; exact he2
    · have lb : b < s.heap.objs.size := by rcases (show b = e ∨ b = it by simpa using hb) with rfl | rfl <;> assumption
      rw [upd_ne (Nat.ne_of_lt lb)]
      exact (hf b hb).1
  done := by
    intro X e1 e2 e3 hc i pins s σ H E I hf st hg
    subst e1 e2 e3
    obtain ⟨⟨old, he⟩, hit, n1, n2, n3⟩ := st
    obtain ⟨xs, hq, hx⟩ := hg
    obtain ⟨its, rv, p, hz⟩ := I.tuple hq
    obtain ⟨f0, f1, f2, f3, f4, f5⟩ := hf it (by simp)
    have hl : i = its.toArray.size := by rw [List.size_toArray, ← rv.length]; exact hx.symm
    rw [hl] at hit
    exact wpAny_pyNext_enum_endD (Draws.tuple (A := X.A.in1) (I.ok.hd hc) it a n3 its.toArray) he ⟨hit, p⟩ fun h' eb => ⟨rfl, I.turned (t' := s.toks) (fun b o hb q => eb b o hb q) f0 f1 f3 f4 f5⟩
  self := fun A i s Q E ⟨⟨_, he⟩, _⟩ h => wpAny_pyIter_enum he h
def iEnumT (K : PySem.W.Frag) (ta : TA) : TI := fun σ H R => ta σ H fun vs H1 => ∃ a xs, vs = [.ref a] ∧ SqT K H1 a xs ∧ R (IteT K a) H1
theorem pi_enumT {X : Cx} {e : Expr} {ta : TA} {p pos tpos : Pos} {elts : List Expr} {kk : Nat} (hg : Gl X "enumerate") (hm : X.mg "enumerate" = none) (ha : PA X [e] ta) (hs : starEach [e] X.env = [(false, eval e X.env)] := by rfl) :
    PI X (.Tuple elts kk tpos) (.Call (.Name "enumerate" p) [e] [] pos) (iEnumT X.K ta) := by
  refine ⟨fun pins s σ H R I h => ?_⟩
  refine Call_ (ld_blt I hg hm boot_enumerate (PyProof.Rows.callWith_type1 (thn (ha.run pos pins s σ H _ I h) fun us s1 ⟨vs, H1, I1, r1, a, xs, ev, hq, q⟩ => ?_) hs rfl))
  subst ev
  rw [Vals.ref1 r1]
  obtain ⟨its, rv, pt, hz⟩ := I1.tuple hq
  have la : a < s1.heap.objs.size := pt.lt
  refine call_enumT pt fun g en it hk => wpAny_pyIter_enum en ?_
  have I2 : Inv X pins σ H1 { s1 with heap := g } := I1.kept (t' := s1.toks) hk
  refine ⟨s1.heap.objs.size + 1, [s1.heap.objs.size + 1, s1.heap.objs.size], _, _, H1, rfl, I2, turn_enumT a (s1.heap.objs.size + 1) s1.heap.objs.size, ⟨⟨.none, en⟩, it, Nat.succ_ne_self _, Nat.ne_of_gt (Nat.lt_succ_of_lt la), Nat.ne_of_lt la⟩, fun b hb => ?_, q⟩
  have lb : s1.heap.objs.size ≤ b := by
    rcases (show b = s1.heap.objs.size + 1 ∨ b = s1.heap.objs.size by simpa using hb) with z | z
    · rw [z]; exact Nat.le_succ _
    · rw [z]; exact Nat.le_refl _
  exact I1.fpOk lb (I1.hok.fresh lb)
/-- the loop: a new pair each turn -/
theorem for_enumT {K : PySem.W.Frag} {a : Addr} {xs : List V} {g : TG} {tb : TS} {D : Ends} {σ : L2.St} {H : Hp} (Pv : Nat → L2.St → Hp → Prop) (h0 : Pv 0 σ H) (hT : ∀ i σ H, i ≤ xs.length → Pv i σ H → SqT K H a xs)
    (hs : ∀ i x σ H T, xs[i]? = some x → Pv i σ H → H T = none → g (.ref T) σ (upd H T (.tup [.int (i : Nat), x])) fun σ2 H2 => tb { D with nx := Pv (i + 1), ct := Pv (i + 1), bk := D.nx } σ2 H2) (hd : ∀ σ H, Pv xs.length σ H → D.nx σ H) :
    ∃ W : Nat → Nat → L2.St → Hp → Prop, (∃ m, W 0 m σ H) ∧ ∀ i m σ H, W i m σ H →
      ((IteT K a).stop i H ∧ D.nx σ H) ∨ ((IteT K a).go i H ∧ ∃ N : L2.St → Hp → Prop, (∀ σ' H', N σ' H' → ∃ m', m' < m ∧ W (i + 1) m' σ' H') ∧ ∀ x H', (IteT K a).yld i H x H' → g x σ H' fun σ2 H2 => tb { D with nx := N, ct := N, bk := D.nx } σ2 H2) := by
  refine ⟨fun i m σ H => m = xs.length - i ∧ i ≤ xs.length ∧ Pv i σ H, ⟨_, rfl, Nat.zero_le _, h0⟩, ?_⟩
  rintro i m σ H ⟨rfl, hi, p⟩
  have t := hT i σ H hi p
  by_cases lt : i < xs.length
  · refine .inr ⟨⟨xs, xs[i], t, List.getElem?_eq_getElem lt⟩, Pv (i + 1), fun σ' H' p' => ⟨_, by omega, rfl, lt, p'⟩, ?_⟩
    rintro v H' ⟨T, x, rfl, n, rfl, hx⟩
    exact hs i x σ H T (hx xs t) p n
  · obtain rfl : i = xs.length := by omega
    exact .inl ⟨⟨xs, t, rfl⟩, hd σ H p⟩
end My
/-! max(xs, default=k) of a list of ints that is not empty -/
namespace My
open PySem PySem.Spec L2 PyProof.Rows
open Sem (wp)
theorem fn_kw {P0 : Program} {w0 : World} {B : Around} {Ex : Value → Shared → Prop} {z : Shared} {nm : String} {bi : Builtin} {av : List Value} {kv : List (Str × Value)} {Post : Value → Shared → Prop} (h1 : builtinKind nm = none) (h2 : plainId nm = true)
    (h3 : entryFor table nm = some bi) (h4 : argsOk nm ⟨av, kv⟩)
    (h5 : wpAny (model P0 w0) B.in1 (bi ⟨av, kv⟩) (fun fin z' => match fin with
      | .done f => (match (Except.ok f : Result) with | .ok (.ret v) => Post v z' | .ok _ => False | .error e => Ex e z')
      | .again c => c.quiet = true ∧ codeAny (model P0 w0) B c (fun r z' => match r with | .ok (.ret v) => Post v z' | .ok _ => False | .error e => Ex e z') z') Ex z) :
    wpAny (model P0 w0) B (call (.builtin nm) av kv) Post Ex z := by
  refine wpAny_call (codeAny_call_builtin h2 h3 ?_)
  simp only [checkBuiltinCall, h1]
  cases hg : Manifest.signature? nm with
  | none => exact wpAny_pure h5
  | some sg =>
    simp only [argsOk, hg] at h4
    have h6 : Bind.checkArgs nm sg ⟨av, kv⟩ = pure () := h4
    simp only [h6]
    exact wpAny_pure h5
section
variable {P0 : Program} {w0 : World} {B : Around} {Res : Result → Shared → Prop} {it : Addr} {fpr wri : List Addr} {m : Nat} {Pi : Nat → Value → Prop} {Sti : Nat → Heap → Prop} {kv : List (Str × Value)}
theorem mxd_name : (toString "max" ++ toString ".loop" : String) = "max.loop" := by decide
theorem mxd_loop (Wk : Walks P0 w0 B.in1 it fpr wri m Pi Sti) (gt : Nat → Nat → Bool) (cmp : CmpOf P0 w0 B.in1 .Gt Pi gt) (b : Addr) (bf : b ∉ fpr) :
    ∀ (r i : Nat) (z : Shared) (top : Value) (cap : Nat), m - (i + 1) = r → i + 1 ≤ m → Sti (i + 1) z.heap → Pi (argBest gt i) top →
    z.heap.get? b = some { cls := .type "list", dict := none, data := .seq #[top, top] cap, slots := #[] } →
    (∀ v hp tk, Pi (argBest gt (m - 1)) v → (∀ a o, a ∉ wri → a ≠ b → z.heap.get? a = some o → hp.get? a = some o) → Res (.ok (.ret v)) { z with heap := hp, toks := tk }) →
    codeAny (model P0 w0) B (.builtin "max.loop" ⟨[.ref it, .none, .ref b], kv⟩) Res z := by
  have bw : b ∉ wri := fun h => bf (Wk.sub _ h)
  intro r
  induction r with
  | zero =>
    intro i z top cap er ei st pt hb hR
    have em : i + 1 = m := by omega
    refine codeAny_builtin F.entry_max_loop ?_
    rw [Around.under_plainId F.plain_max_loop _]
    show wpAny _ B.in1 (seqItems? (.ref b) >>= _) _ _ z
    refine wpAny_bind (wpAny_seqItems hb rfl ?_)
    show wpAny _ B.in1 (tryCatch (pyNext (.ref it)) _ >>= _) _ _ z
    refine wpAny_bind (wpAny_tryCatch (Wk.done z _ _ (em ▸ st) fun hp tk hk => ?_))
    have hb' := hk b _ bw hb
    show wpAny _ B.in1 (updateSeq b (fun _ => #[]) >>= _) _ _ _
    refine wpAny_bind (wpAny_updateSeq hb' rfl (wpAny_bind (wpAny_letGo (wpAny_pure ?_))))
    exact hR top _ tk (em ▸ pt) fun a o aw ab e => (Heap.get?_update_other _ _ (Ne.symm ab)).trans (hk a o aw e)
  | succ r ih =>
    intro i z top cap er ei st pt hb hR
    have lt : i + 1 < m := by omega
    refine codeAny_builtin F.entry_max_loop ?_
    rw [Around.under_plainId F.plain_max_loop _]
    show wpAny _ B.in1 (seqItems? (.ref b) >>= _) _ _ z
    refine wpAny_bind (wpAny_seqItems hb rfl ?_)
    show wpAny _ B.in1 (tryCatch (pyNext (.ref it)) _ >>= _) _ _ z
    refine wpAny_bind (wpAny_tryCatch (Wk.item (i + 1) z _ _ lt st fun v hp tk pv st' hk => ?_))
    have hb' := hk b _ bw hb
    show wpAny _ B.in1 (tryCatch (holding [v, v] (richCompare .Gt v top >>= _)) _ >>= _) _ _ _
    refine wpAny_bind (wpAny_tryCatch (wpAny_holding (wpAny_bind (cmp (i + 1) (argBest gt i) v top _ _ _ pv pt ?_))))
    refine wpAny_bind (wpAny_holding (wpAny_truthy_bool (wpAny_bind (wpAny_letGo (wpAny_pure ?_)))))
    cases eb : gt (i + 1) (argBest gt i) with
    | true =>
      simp only [if_true]
      refine wpAny_bind (wpAny_updateSeq hb' rfl (wpAny_bind (wpAny_letGo ?_)))
      rw [mxd_name]
      refine wpAny_pure ⟨plainId_quiet F.plain_max_loop _, ih (i + 1) _ v _ (by omega) lt (Wk.frame _ _ _ st' fun a af o e => (Heap.get?_update_other _ _ (fun h : b = a => bf (by rw [h]; exact af))).trans e)
        (by simp only [argBest, eb, if_true]; exact pv) (Heap.get?_update_self _ hb' rfl) fun v2 hp2 tk2 p2 hk2 => hR v2 hp2 tk2 p2 fun a o aw ab e => hk2 a o aw ab ((Heap.get?_update_other _ _ (Ne.symm ab)).trans (hk a o aw e))⟩
    | false =>
      simp only [Bool.false_eq_true, if_false]
      refine wpAny_bind (wpAny_letGo ?_)
      rw [mxd_name]
      exact wpAny_pure ⟨plainId_quiet F.plain_max_loop _, ih (i + 1) _ top cap (by omega) lt st' (by simp only [argBest, eb, Bool.false_eq_true, if_false]; exact pt) hb' fun v2 hp2 tk2 p2 hk2 => hR v2 hp2 tk2 p2 fun a o aw ab e => hk2 a o aw ab (hk a o aw e)⟩
theorem mxd_first (Wk : Walks P0 w0 B.in1 it fpr wri m Pi Sti) (gt : Nat → Nat → Bool) (cmp : CmpOf P0 w0 B.in1 .Gt Pi gt) (b : Addr) (bf : b ∉ fpr) (pos : 0 < m) {z : Shared} {cap : Nat} (st : Sti 0 z.heap)
    (hb : z.heap.get? b = some { cls := .type "list", dict := none, data := .seq #[] cap, slots := #[] })
    (hR : ∀ v hp tk, Pi (argBest gt (m - 1)) v → (∀ a o, a ∉ wri → a ≠ b → z.heap.get? a = some o → hp.get? a = some o) → Res (.ok (.ret v)) { z with heap := hp, toks := tk }) :
    codeAny (model P0 w0) B (.builtin "max.loop" ⟨[.ref it, .none, .ref b], kv⟩) Res z := by
  have bw : b ∉ wri := fun h => bf (Wk.sub _ h)
  refine codeAny_builtin F.entry_max_loop ?_
  rw [Around.under_plainId F.plain_max_loop _]
  show wpAny _ B.in1 (seqItems? (.ref b) >>= _) _ _ z
  refine wpAny_bind (wpAny_seqItems hb rfl ?_)
  show wpAny _ B.in1 (tryCatch (pyNext (.ref it)) _ >>= _) _ _ z
  refine wpAny_bind (wpAny_tryCatch (Wk.item 0 z _ _ pos st fun v hp tk pv st' hk => ?_))
  have hb' := hk b _ bw hb
  show wpAny _ B.in1 (updateSeq b (fun _ => #[v, v]) >>= _) _ _ _
  refine wpAny_bind (wpAny_updateSeq hb' rfl ?_)
  rw [mxd_name]
  exact wpAny_pure ⟨plainId_quiet F.plain_max_loop _, mxd_loop Wk gt cmp b bf _ 0 _ v _ rfl pos (Wk.frame _ _ _ st' fun a af o e => (Heap.get?_update_other _ _ (fun h : b = a => bf (by rw [h]; exact af))).trans e) pv (Heap.get?_update_self _ hb' rfl)
    fun v2 hp2 tk2 p2 hk2 => hR v2 hp2 tk2 p2 fun a o aw ab e => hk2 a o aw ab ((Heap.get?_update_other _ _ (Ne.symm ab)).trans (hk a o aw e))⟩
end
section
variable {P0 : Program} {w0 : World} {B : Around} {Ex : Value → Shared → Prop} {z : Shared}
theorem mxd_args (a d : Value) : argsOk "max" ⟨[a], [(Str.ofString "default", d)]⟩ := by unfold argsOk; kernel_rfl
theorem mxd_bind (d : Value) : Builtin.Builtins.bindParams "max" ["key", "default"] 0 ⟨[], [(Str.ofString "default", d)]⟩ = pure [none, some d] := by kernel_rfl
theorem mxd_ints {l : Addr} {xs : Array (Int × Tok)} {d : Value} {Post : Value → Shared → Prop} (hh : B.handled = none) (hl : z.heap.IsList l (intItems xs)) (hne : 0 < xs.size)
    (h : ∀ v hp tk, (intItems xs)[argBest (fun i j => decide (numAt xs i > numAt xs j)) (xs.size - 1)]? = some v → (∀ a o, z.heap.get? a = some o → hp.get? a = some o) → Post v { z with heap := hp, toks := tk }) :
    wpAny (model P0 w0) B (call (.builtin "max") [.ref l] [(Str.ofString "default", d)]) Post Ex z := by
  refine fn_kw F.kind_max F.plain_max F.entry_max (mxd_args _ _) ?_
  show wpAny _ B.in1 (Builtin.Builtins.bindParams "max" ["key", "default"] 0 ⟨[], [(Str.ofString "default", d)]⟩ >>= _) _ _ z
  refine wpAny_bind (wpAny_of_eq (mxd_bind d) (wpAny_bind (wpAny_pure (wpAny_bind (iter_intList hl fun z2 e st hfp hlI => ?_)))))
  subst e
  refine wpAny_bind (wpAny_newObj_type ?_)
  rw [mxd_name]
  refine wpAny_pure ⟨plainId_quiet F.plain_max_loop _, mxd_first (Walks.list (A := B.in1) hh _ l hlI (intItems xs)) _ (CmpOf.ints_gt (numAt xs) (fun _ _ => intItems_at)) _ (fun hm => Nat.lt_irrefl _ (hfp _ hm)) (by simpa [intItems] using hne)
    ((Walks.list (prog := P0) (w := w0) (A := B.in1) hh _ l hlI (intItems xs)).frame _ _ _ st fun a _ o e => Heap.get?_push_of_some _ e) (Heap.get?_push_size _ rfl) fun v hp tk pv hk => ?_⟩
  exact h v hp tk (by simpa [intItems] using pv) (old_kept fun a o aw e => hk a o aw (Nat.ne_of_lt (Heap.lt_size e)) (Heap.get?_push_of_some _ e))
theorem mxd_raw {l : Addr} {its : List Value} {ns : List Int} {d : Value} {Post : Value → Shared → Prop} (hh : B.handled = none) (hl : z.heap.IsList l its.toArray) (hi : IntsAre its ns) (hne : 0 < ns.length)
    (h : ∀ hp tk M t, (∀ a o, z.heap.get? a = some o → hp.get? a = some o) → M ∈ ns → (∀ a, a ∈ ns → a ≤ M) → Post (.int M t) { z with heap := hp, toks := tk }) : wpAny (model P0 w0) B (call (.builtin "max") [.ref l] [(Str.ofString "default", d)]) Post Ex z := by
  obtain ⟨ys, e⟩ := hi.allInts.items
  have en : numsOf (intItems ys).toList = ns := by rw [← e]; exact hi.numsOf
  rw [nums_intItems] at en
  subst en
  rw [e] at hl
  have sz : 0 < ys.size := by simpa using hne
  refine mxd_ints hh hl sz fun v hp tk hv hk => ?_
  obtain ⟨t, rfl⟩ := intItems_at hv
  obtain ⟨g1, g2⟩ := argBest_gt (numAt ys) (ys.size - 1)
  refine h hp tk _ t hk (by rw [numAt_eq]; exact PySem.getD_mem (by rw [List.length_map, Array.length_toList]; omega)) fun a ha => ?_
  obtain ⟨j, hj, rfl⟩ := mem_getD ha
  rw [List.length_map, Array.length_toList] at hj
  rw [← numAt_eq]
  exact g2 j (by omega)
end
section
variable {X : Cx}
def tMaxD (K : PySem.W.Frag) (te tk : TE) : TE := fun σ H Q => te σ H fun y H1 => tk σ H1 fun _ H2 => rMax K [y] H2 Q
/-- max(e, default=k) -/
theorem pe_maxD {e ek : Expr} {te tk : TE} {p kpos pos : Pos} (hc : X.calm = true) (hg : Gl X "max") (hm : X.mg "max" = none) (he : PE X e te) (hek : PE X ek tk)
    (hse : starEach [e] X.env = (false, eval e X.env) :: starEach [] X.env := by rfl) (hst : backTo pos (starEach [e] X.env) = (false, eval e X.env) :: backTo pos (starEach [] X.env) := by rfl) (hpl : (backTo pos (starEach [e] X.env)).any (·.1) = false := by rfl) :
    PE X (.Call (.Name "max" p) [e] [⟨some "default", ek, kpos⟩] pos) (tMaxD X.K te tk) := by
  refine ⟨fun pins s σ H Q I h => ?_⟩
  refine wpAny_Call_Name_kw (ld_blt (u := .builtin "max") I hg hm (by decide +kernel) ?_ (by decide) (by decide))
  have ha : PA X [e] (tCons te tNil) := pa_cons he pa_nil hse
  refine PyProof.Rows.callWith_kw (thn (ha.run pos pins s σ H (fun vs H1 => match vs with | [y] => tk σ H1 fun _ H2 => rMax X.K [y] H2 Q | _ => False) I h) fun us s1 ⟨vs, H1, I1, r1, q1⟩ => ?_) hst hpl (by rfl) (by rfl)
  obtain ⟨y, rfl, q1⟩ : ∃ y, vs = [y] ∧ tk σ H1 fun _ H2 => rMax X.K [y] H2 Q := by
    match vs, q1 with
    | [y], z => exact ⟨y, rfl, z⟩
  show wpAny _ _ (evalAll ((do let v ← eval ek X.env; standAt pos; pure v) :: [])) _ _ s1
  refine wpAny_evalAll_cons (wpAny_bind (thn (hek.run _ s1 σ H1 _ I1 q1) fun u s2 ⟨d, H2, I2, rd, a, ns, ey, hs, hne, q⟩ => wpAny_bind (wpAny_standAt (wpAny_pure (wpAny_evalAll_nil ?_)))))
  cases ey
  obtain rfl := Vals.ref1 r1
  obtain ⟨its, rv, hl, _⟩ := I2.list hs
  show wpAny _ _ (call (.builtin "max") [.ref a] [(Str.ofString "default", u)]) _ _ s2
  exact mxd_raw (I2.ok.hd hc) hl.isList rv.ints hne fun h' tk m t' hk h1 h2 => ⟨.int _, H2, I2.kept hk, ⟨_, rfl⟩, q m h1 h2⟩
end
/-! [x for one in t for x in one], all of them tuples -/
theorem pairedAt {α β : Type} {R : α → β → Prop} : ∀ {ps : List α} {ts : List β}, Paired R ps ts → ∀ {i : Nat} {p : α}, ps[i]? = some p → ∃ t, ts[i]? = some t ∧ R p t
  | _, _, .nil, i, p, h => by simp at h
  | _, _, .cons r t, 0, p, h => by
    cases h
    exact ⟨_, rfl, r⟩
  | _, _, .cons r t, i + 1, p, h => pairedAt t h
theorem flat_of {K : PySem.W.Frag} {a : Addr} {xs : List V} {yss : List (List V)} {σ : L2.St} {H1 : Hp} {D : Addr} {p q : Nat} {vs vs1 : List Nat} {Qd : Hp → Prop} (hD : H1 D = none) (hT : SqT K H1 a xs) (hP : Paired (fun x ys => ∃ b, x = V.ref b ∧ SqT K H1 b ys) xs yss)
    (hl : yss.flatten.length ≤ sizeLine) (w1 : ∀ x, wipe ((wipe σ vs).set p (some x)) vs = wipe σ vs) (l1 : ∀ x : V, ((wipe σ vs).set p (some x))[p]? = some (some x))
    (w2 : ∀ x y, wipe ((wipe ((wipe σ vs).set p (some x)) vs1).set q (some y)) vs1 = wipe ((wipe σ vs).set p (some x)) vs1) (l2 : ∀ x y : V, ((wipe ((wipe σ vs).set p (some x)) vs1).set q (some y))[q]? = some (some y))
    (hQ : ∀ H', Same H1 H' → H' D = some (.lst yss.flatten) → Qd H') :
    ∃ W : Nat → Nat → Hp → Prop, (∃ m, W 0 m (upd H1 D (.lst []))) ∧ ∀ i m H, W i m H →
      ((Itt K a).stop i H ∧ Qd H) ∨ ((Itt K a).go i H ∧ ∃ Nx : Hp → Prop, (∀ H', Nx H' → ∃ m', m' < m ∧ W (i + 1) m' H') ∧ ∀ x H', (Itt K a).yld i H x H' → gName p x (wipe σ vs) H' fun σ2 H2 => wipe σ2 vs = wipe σ vs ∧ tYes σ2 H2 fun b H3 =>
        if b = true then iTup K (tVar p) σ2 H3 fun J1 H4 => ∃ W1 : Nat → Nat → Hp → Prop, (∃ m, W1 0 m H4) ∧ ∀ j k H, W1 j k H →
          (J1.stop j H ∧ Nx H) ∨ (J1.go j H ∧ ∃ Nx1 : Hp → Prop, (∀ H', Nx1 H' → ∃ k', k' < k ∧ W1 (j + 1) k' H') ∧ ∀ x H', J1.yld j H x H' → gName q x (wipe σ2 vs1) H' fun σ3 H5 => wipe σ3 vs1 = wipe σ2 vs1 ∧ tYes σ3 H5 fun b H6 =>
            if b = true then tVar q σ3 H6 fun y H7 => ∃ acc, H7 D = some (.lst acc) ∧ acc.length < sizeLine ∧ Nx1 (upd H7 D (.lst (acc ++ [y]))) else Nx1 H6)
        else Nx H3) := by
  have hlen := Paired.length hP
  refine ⟨fun i m H => m = xs.length - i ∧ i ≤ xs.length ∧ Same H1 H ∧ H D = some (.lst (yss.take i).flatten), ⟨xs.length, by simp, Nat.zero_le _, same_new hD _, by rw [upd_same]; rfl⟩, ?_⟩
  rintro i m H ⟨rfl, hi, s1, hb⟩
  by_cases hlt : i < xs.length
  · refine .inr ⟨⟨xs, xs[i], same_T s1 hT, by simp [hlt]⟩, fun H => Same H1 H ∧ H D = some (.lst (yss.take (i + 1)).flatten), fun H' p' => ⟨xs.length - (i + 1), by omega, rfl, hlt, p'⟩, fun x H' y => ?_⟩
    obtain ⟨rfl, y⟩ := y
    obtain ⟨ys, ey, b, rfl, hB⟩ := pairedAt hP (y xs (same_T s1 hT))
    have et : yss.take (i + 1) = yss.take i ++ [ys] := by rw [List.take_succ, ey]; rfl
    have le : (yss.take (i + 1)).flatten.length ≤ yss.flatten.length := by
      conv => rhs; rw [← List.take_append_drop (i + 1) yss, List.flatten_append, List.length_append]
      omega
    rw [et, List.flatten_append, List.length_append] at le
    have le : (yss.take i).flatten.length + ys.length ≤ yss.flatten.length := by simpa using le
    refine ⟨w1 _, yes_of ⟨_, l1 _, b, rfl, ⟨_, same_T s1 hB⟩, fun j k H => k = ys.length - j ∧ j ≤ ys.length ∧ Same H1 H ∧ H D = some (.lst ((yss.take i).flatten ++ ys.take j)), ⟨ys.length, by simp, Nat.zero_le _, s1, by rw [hb]; simp⟩, ?_⟩⟩
    rintro j k H2 ⟨rfl, hj, s2, hb2⟩
    by_cases hjt : j < ys.length
    · refine .inr ⟨⟨ys, ys[j], same_T s2 hB, by simp [hjt]⟩, fun H => Same H1 H ∧ H D = some (.lst ((yss.take i).flatten ++ ys.take (j + 1))), fun H' p' => ⟨ys.length - (j + 1), by omega, rfl, hjt, p'⟩, fun z H' y2 => ?_⟩
      obtain ⟨rfl, y2⟩ := y2
      have ez := y2 ys (same_T s2 hB)
      refine ⟨w2 _ _, yes_of ⟨_, l2 _ _, _, hb2, ?_, fun c o e => ?_, ?_⟩⟩
      · rw [List.length_append, List.length_take]
        omega
      · rw [upd_ne (ne_of_none e hD)]
        exact s2 _ _ e
      · rw [upd_same, List.take_succ, ez, List.append_assoc]
        rfl
    · have e : j = ys.length := by omega
      subst e
      refine .inl ⟨⟨ys, same_T s2 hB, Nat.le_refl _⟩, s2, ?_⟩
      rw [hb2, et, List.take_length]
      simp
  · have e : i = xs.length := by omega
    subst e
    refine .inl ⟨⟨xs, same_T s1 hT, Nat.le_refl _⟩, hQ H s1 ?_⟩
    rw [hb, hlen, List.take_length]
end My
/-! the end of a law where some defs hold lambdas: their tables are empty when the law is called -/
namespace My
open PySem PySem.Spec PyProof.Rows L2 LamX
def Blank (K : PySem.W.Frag) (mg : Str → Option Value) (nms : List Str) (hp : Heap) : Prop := ∀ nm ∈ nms, ∀ g : Addr, mg nm = some (.ref g) → OwnTab K g hp
theorem walk_blank {lw : PySem.W.OpenLaw} {most lev : Nat} {pr : Program} {lo : List Str} {XQ : (Str → Option Value) → Heap → Prop} {YQ : World → Heap → Prop} {dr : DefRec} {KK : Params → PySem.W.Frag} {CQ : World → CXT} {par : Str} (nms : List Str)
    (e1 : lw.most = some most) (e2 : most ≤ sizeLine) (e3 : dr.params.defaults = []) (e4 : Room lev callerA) (e5 : (nms.all fun nm => (recsOf pr).any fun r => r.name == nm) = true) (e6 : ∀ (w0 : World) (hp : Heap), YQ w0 hp → (KK w0.params).In hp)
    (e7 : ∀ (w0 : World) (mg : Str → Option Value) (fa : Addr) (hp : Heap), YQ w0 hp → (KK w0.params).In hp → hp.Ns mainGlobals mg → mg dr.name = some (.ref fa) → Blank (KK w0.params) mg nms hp → LawAtS lw w0 (KK w0.params) (CQ w0) lev most par mg fa hp)
    (e8 : ∀ (w0 : World) (H : Hp) (z : Shared) (x : Value) (z' : Shared), CQ w0 [] H z (fun _ _ _ => False) x z' → False) :
    PySem.W.WalkO pr lo XQ YQ lw.row.toRowW dr [] (fun f vs => PySem.call f vs) := by
  refine Att.attach_callB e1 e3 fun w0 z0 z1 mg mb fa o pm cd doc a vs ns G Y _ _ _ hmg hob hin hle hbi hgo => ?_
  have KI := e6 w0 _ Y
  have bl : Blank (KK w0.params) mg nms z1.heap := fun nm hnm g hg c Pt o1 fd1 e dd vs1 sl a1 a2 a3 a4 a5 => by
    have hq : ((recsOf pr).any fun r => r.name == nm) = true := List.all_eq_true.mp e5 nm hnm
    obtain ⟨dq, hd1, hd2⟩ := List.any_eq_true.mp hq
    have hd3 : dq.name = nm := beq_iff_eq.mp hd2
    obtain ⟨a', o', fd', c', P', b1, b2, b3, b4, b5, b6⟩ := G.T.tab dq hd1
    rw [hd3, hg] at b1
    cases b1
    have g1 := KI _ _ a1
    rw [g1] at b2
    cases b2
    rw [a2] at b3
    cases b3
    rw [a3] at b4
    cases b4
    obtain ⟨⟨oc, vc, k1, _, k3, k4⟩, k5⟩ := b6
    have g2 := KI _ _ a4
    rw [g2] at k1
    cases k1
    cases k3
    rw [a5] at k4
    cases k4
    exact k5
  obtain ⟨fd, cs, sp, x1, x2, x3, x4, x5, x6⟩ := e7 w0 mg fa _ Y KI G.T.g hmg bl
  exact law_callTs KI G.T.g G.T.b G.T.builtins G.T.nolimit hgo x1 x2 x3 G.T.bmain hob hin (Nat.le_trans hle e2) e4 x6 x4 (fun H hH hS => x5 H a ns hle hbi hH hS) fun H x z' => e8 w0 H z1 x z'
end My
/-! len(x) and x[i] by own defs -/
namespace My
open PySem PySem.Spec L2 PyProof.Rows
section
variable {X : Cx} {k : Nat} {f C : Addr} {sp : Sp}
theorem runIn1 {pins : List (Addr × Obj)} {σ : L2.St} {H : Hp} {s : Shared} {Q : VK} {us : List Value} {vs : List V} (F : FnR X.prog X.w X.K X.mg X.base CX0 k f sp) (hr : Room (k + 1) X.A) (I : Inv X pins σ H s) (r : Vals vs us) (h : sp vs H Q E0) {Ex : Value → Shared → Prop} :
    wpAny (model X.prog X.w) X.A.in1 (call (.ref f) us) (EP X pins σ Q) Ex s := by
  refine wpAny_call (codeAny_mono (F X.A.in1 X.stack s H us vs Q E0 hr.in1 I.env0.in1 r h) fun rr s' hq => ?_)
  cases rr with
  | error e => exact False.elim hq
  | ok fl =>
    cases fl with
    | ret u => exact I.after hq
    | next => exact False.elim hq
    | brk => exact False.elim hq
    | cont => exact False.elim hq
def rLenO (C : Addr) (sp : Sp) : List V → Hp → VK → Prop := fun vs H Q => ∃ a dx fs, vs = [.ref a] ∧ H a = some (.ins C dx fs) ∧ sp [.ref a] H (fun v H' => ∃ n : Int, v = .int n ∧ 0 ≤ n ∧ n < 1000000 ∧ Q (.int n) H') E0
theorem cr_lenO (F : FnR X.prog X.w X.K X.mg X.base CX0 k f sp) (hr : Room (k + 1) X.A) (hs : PySem.W.findIn X.K (.ref C) "__len__" = some (some (.ref f))) (hf : PySem.W.isFn X.K (.ref f) = true) : CallR X (.builtin "len") (rLenO C sp) := by
  intro pins s σ H vs us Q I r h
  obtain ⟨a, dx, fs, rfl, ha, q⟩ := h
  rw [Vals.ref1 r]
  obtain ⟨mA, J, _⟩ := ins_get I.hok ha
  obtain ⟨od, J, _⟩ := J.look
  obtain ⟨m, hF⟩ := I.fr
  refine PySem.W.len_K hF I.ok.mod.kin J hs hf ?_
  refine wpAny_mono (runIn1 (vs := [V.ref a]) F hr I (.cons rfl .nil) q) (fun v s' ⟨z, H', I', rz, n, ez, n0, n1, q'⟩ => ?_) fun _ _ z => z
  subst ez
  obtain ⟨t, rfl⟩ := rz
  exact ⟨⟨n0, by omega⟩, .int n, H', I'.tok _, ⟨_, rfl⟩, q'⟩
def rIxO (C : Addr) (sp : Sp) : R2 := fun x y H Q => ∃ a dx fs i, x = .ref a ∧ y = .int i ∧ H a = some (.ins C dx fs) ∧ sp [.ref a, .int i] H Q E0
/-- x[i], x an object with its own __getitem__ -/
theorem pe_ixO {a b : Expr} {ta tb : TE} {pos : Pos} (F : FnR X.prog X.w X.K X.mg X.base CX0 k f sp) (hr : Room (k + 1) X.A) (hs : PySem.W.findIn X.K (.ref C) "__getitem__" = some (some (.ref f))) (hf : PySem.W.isFn X.K (.ref f) = true) (hfn : PySem.W.fnIn X.K f = true) (ha : PE X a ta) (hb : PE X b tb)
    (hsl : ∀ o i, subscripted b true o i = runValue (.builtin "lifetime.subscript" ⟨[o, i], []⟩) := by intro _ _; rfl) : PE X (.Subscript a b pos) (tOp (rIxO C sp) ta tb) := by
  refine ⟨fun pins s σ H Q I h => Subscript_ (binT ha hb I h fun v u s2 x y H2 I2 rx ry q => ?_)⟩
  obtain ⟨a, dx, fs, i, rfl, rfl, ha, q⟩ := q
  cases rx
  obtain ⟨t, rfl⟩ := ry
  obtain ⟨mA, J, _⟩ := ins_get I2.hok ha
  obtain ⟨od, J, _⟩ := J.look
  obtain ⟨m, hF⟩ := I2.fr
  exact PySem.W.sub_K hF I2.ok.mod.kin J hs hfn hf (runIn1 (vs := [V.ref a, V.int i]) F hr I2 (.cons rfl (.cons ⟨t, rfl⟩ .nil)) q) (hsl _ _)
end
end My
/-! lambdas that stand in a list and are called elsewhere -/
namespace My
open PySem PySem.Spec L2 LamX PyProof.Rows PySem.W PySem.Calls
/-- a lambda as it is written: no parameter, or one (dn) with the default 0 -/
structure Lm where
  params : Arguments
  body : Expr
  scope : Scope
  dn : Option Str
def LamO (q : Str) (m : Lm) (clo : List (Str × Addr)) (dV : Value) (f c' : Addr) : HO :=
  .ext fun h => ∃ doc pm ctv : Value, h.get? f = some (kdv_obj "<lambda>" q m.params (.expr m.body) m.scope clo dV doc pm c' ctv)
def Dfl (H : Hp) (m : Lm) (dV : Value) : Prop := (m.dn = none ∧ dV = .none) ∨ ∃ (a : Str) (t : Addr), m.dn = some a ∧ dV = .ref t ∧ H t = some (.tup [.int 0])
/-- v is the lambda m of the frame with these cells -/
def LamAt (q : Str) (cells : List (Str × Addr)) (m : Lm) (H : Hp) (v : V) : Prop :=
  ∃ (f c' : Addr) (dV : Value), v = .ref f ∧ H f = some (LamO q m (cloFrom cells m.scope.names []) dV f c') ∧ H c' = some (CodeO c' q) ∧ Dfl H m dV
theorem lamO_ne {q : Str} {m : Lm} {clo : List (Str × Addr)} {dV : Value} {f c' : Addr} (ps : Array Value) : LamO q m clo dV f c' ≠ .tbl ps := fun z => by
  unfold LamO at z
  cases z
theorem LamAt.extN {q : Str} {cells : List (Str × Addr)} {m : Lm} {H H' : Hp} {v : V} (h : LamAt q cells m H v) (e : ExtN H H') : LamAt q cells m H' v := by
  obtain ⟨f, c', dV, rfl, h1, h2, h3⟩ := h
  refine ⟨f, c', dV, rfl, e _ _ h1 (fun ps => lamO_ne ps), e _ _ h2 (fun ps => codeO_ne ps), ?_⟩
  rcases h3 with h3 | ⟨a, t, e1, e2, e3⟩
  · exact .inl h3
  · exact .inr ⟨a, t, e1, e2, e _ _ e3 (fun ps z => by cases z)⟩
theorem LamAt.same {q : Str} {cells : List (Str × Addr)} {m : Lm} {H H' : Hp} {v : V} (h : LamAt q cells m H v) (e : Same H H') : LamAt q cells m H' v := h.extN (ExtN.of e)
theorem LamAt.keep {q : Str} {cells : List (Str × Addr)} {m : Lm} {H H' : Hp} {v : V} {d : Addr} {ys : List V} (h : LamAt q cells m H v) (hd : H d = some (.lst ys)) (k : Keep d H H') : LamAt q cells m H' v := by
  obtain ⟨f, c', dV, rfl, h1, h2, h3⟩ := h
  refine ⟨f, c', dV, rfl, k _ _ (ne_of h1 hd (by intro z; unfold LamO at z; cases z)) h1, k _ _ (ne_of h2 hd (by intro z; unfold CodeO at z; cases z)) h2, ?_⟩
  rcases h3 with h3 | ⟨a, t, e1, e2, e3⟩
  · exact .inl h3
  · exact .inr ⟨a, t, e1, e2, k _ _ (ne_of e3 hd (by intro z; cases z)) e3⟩
theorem lamO_ok {P : Program} {w : World} {H : Hp} {h : Heap} {q : Str} {m : Lm} {clo : List (Str × Addr)} {dV doc pm ctv : Value} {f c' : Addr} (e : h.get? f = some (kdv_obj "<lambda>" q m.params (.expr m.body) m.scope clo dV doc pm c' ctv)) :
    ObjOk P w H h f (LamO q m clo dV f c') := ⟨⟨doc, pm, ctv, e⟩, ⟨_, e⟩, fun g1 g2 z k => by
  obtain ⟨d1, d2, d3, z⟩ := z
  exact ⟨d1, d2, d3, k _ z⟩⟩
section
variable {X : Cx} {pins : List (Addr × Obj)} {σ : L2.St} {H : Hp} {s : Shared}
/-- the tail of a lambda's making: it is tracked from now on -/
theorem lam_tail {T : List (Addr × Str)} {c P : Addr} {m : Lm} {pos : Pos} {E : Value → Shared → Prop} {Q : Value → Shared → Prop} {dV : Value} {fl : Nat} (I : Inv X pins σ H s) (TB : TabB X.base X.mg c P) (hcode : X.env.code = .ref c)
    (hm : (P, X.env.qual ++ "<lambda>") ∈ T) (hu : ∀ p ∈ T, p.1 = P → p.2 = X.env.qual ++ "<lambda>") (hT : Tabs T H) (hfree : ∀ y ∈ m.scope.names, y.2 = .free → ∃ c, X.env.cells.lookup y.1 = some c) (hdv : Dfl H m dV)
    (h : ∀ (f : Addr) (H1 : Hp) (s' : Shared), Inv X pins σ H1 s' → ExtN H H1 → Tabs T H1 → H f = none → LamAt (X.env.qual ++ "<lambda>") X.env.cells m H1 (.ref f) → Q (.ref f) s') :
    wpAny (model X.prog X.w) X.A (makeTail "<lambda>" (X.env.qual ++ "<lambda>") m.params (.expr m.body) m.scope X.env dV .none none pos fl) Q E s := by
  obtain ⟨ps, hP, ht, ha⟩ := hT _ hm
  have bP : s.heap.BuiltinsAt X.mg P := TB.bm.keeps I.bk
  have hP' : s.heap.get? P = some { cls := .none, data := .fields ps } := I.hok P _ hP
  have dx : ∀ {H1 : Hp}, ExtN H H1 → Dfl H1 m dV := fun {H1} e => by
    rcases hdv with z | ⟨a, t, e1, e2, e3⟩
    · exact .inl z
    · exact .inr ⟨a, t, e1, e2, e _ _ e3 (fun ps z => by cases z)⟩
  cases hc : codeAmong pos ps.toList with
  | none =>
    refine kdv_makeTail (mg := X.mg) (c := c) (P := P) (ps := ps) (closure_ok hfree) I.ok.glob (I.mod.glob.keeps I.bk) hcode (TB.code.keeps I.bk) hP' ht hc TB.gP bP fun c' ctv doc h' tk hx hge hlt hrec htb => ?_
    obtain ⟨c2, oc, vs, t, e2, hoc, hd, hv⟩ := hrec
    cases e2
    have hsz : s.heap.objs.size ≤ h'.objs.size := Nat.le_trans hge (Nat.le_of_lt hlt)
    have nC : H c' = none := I.hok.fresh hge
    have I1 := inv_table (t' := tk) (more := #[rawInt pos.line, rawInt pos.col, .ref c']) (h' := h') (q := X.env.qual ++ "<lambda>") I hP (fun b o hb e => hx b o hb e) htb hge ⟨oc, vs, t, hoc, hd, hv⟩
    have hE : ExtN H (upd (upd H P (.tbl (ps ++ #[rawInt pos.line, rawInt pos.col, .ref c']))) c' (CodeO c' (X.env.qual ++ "<lambda>"))) := fun b o e n => by
      rw [upd_ne (ne_of_none e nC), upd_ne (fun z => n ps (Option.some.inj (e.symm.trans (by rw [z]; exact hP))))]
      exact e
    have eL : (ps ++ #[rawInt pos.line, rawInt pos.col, .ref c']).toList = ps.toList ++ [rawInt pos.line, rawInt pos.col, .ref c'] := by simp
    have nF : H h'.objs.size = none := I.hok.fresh hsz
    have n1 : h'.objs.size ≠ c' := Nat.ne_of_gt hlt
    have n2 : h'.objs.size ≠ P := Nat.ne_of_gt (Nat.lt_of_lt_of_le (Heap.lt_size hP') hsz)
    have tb : Tabs T (upd (upd H P (.tbl (ps ++ #[rawInt pos.line, rawInt pos.col, .ref c']))) c' (CodeO c' (X.env.qual ++ "<lambda>"))) := fun p hp => by
      by_cases hb : p.1 = P
      · rw [hu p hp hb, hb]
        refine ⟨_, by rw [upd_ne (ne_of_none hP nC), upd_same], by rw [eL]; exact PySem.TriplesOk_snoc _ _ _ _ ht, fun p' cv hcv => ?_⟩
        rw [eL] at hcv
        rcases among_app _ ht hcv with z | z
        · obtain ⟨c0, e1, e2⟩ := ha p' cv z
          exact ⟨c0, e1, hE _ _ e2 codeO_ne⟩
        · exact ⟨c', z, upd_same⟩
      · obtain ⟨ps', a1, a2, a3⟩ := hT p hp
        refine ⟨ps', by rw [upd_ne (ne_of_none a1 nC), upd_ne hb]; exact a1, a2, fun p' cv hcv => ?_⟩
        obtain ⟨c0, e1, e2⟩ := a3 p' cv hcv
        exact ⟨c0, e1, hE _ _ e2 codeO_ne⟩
    have hco : upd (upd H P (.tbl (ps ++ #[rawInt pos.line, rawInt pos.col, .ref c']))) c' (CodeO c' (X.env.qual ++ "<lambda>")) c' = some (CodeO c' (X.env.qual ++ "<lambda>")) := upd_same
    have nF1 : upd (upd H P (.tbl (ps ++ #[rawInt pos.line, rawInt pos.col, .ref c']))) c' (CodeO c' (X.env.qual ++ "<lambda>")) h'.objs.size = none := by rw [upd_ne n1, upd_ne n2]; exact nF
    generalize upd (upd H P (.tbl (ps ++ #[rawInt pos.line, rawInt pos.col, .ref c']))) c' (CodeO c' (X.env.qual ++ "<lambda>")) = H1 at *
    have I2 := I1.laid (a := h'.objs.size) (o := LamO (X.env.qual ++ "<lambda>") m (cloFrom X.env.cells m.scope.names []) dV h'.objs.size c') (t' := tk) (h' := h'.push (kdv_obj "<lambda>" (X.env.qual ++ "<lambda>") m.params (.expr m.body) m.scope (cloFrom X.env.cells m.scope.names []) dV doc ((X.mg "__name__").getD .none) c' ctv))
      (fun b o e => Heap.get?_push_of_some _ e) (Nat.le_refl _) (lamO_ok (Heap.get?_push_size _ rfl))
    have sm := same_new nF1 (LamO (X.env.qual ++ "<lambda>") m (cloFrom X.env.cells m.scope.names []) dV h'.objs.size c')
    exact h _ _ _ I2 (hE.trans (ExtN.of sm)) (tb.ext sm) nF ⟨_, c', dV, rfl, upd_same, sm _ _ hco, dx (hE.trans (ExtN.of sm))⟩
  | some cv =>
    obtain ⟨c', e, hco⟩ := ha pos cv hc
    subst e
    refine kdv_makeTailHit (mg := X.mg) (c := c) (P := P) (ps := ps) (closure_ok hfree) I.ok.glob (I.mod.glob.keeps I.bk) hcode (TB.code.keeps I.bk) hP' ht hc bP fun ctv doc h' tk hx hsz => ?_
    have nF : H h'.objs.size = none := I.hok.fresh hsz
    have I2 := I.laid (a := h'.objs.size) (o := LamO (X.env.qual ++ "<lambda>") m (cloFrom X.env.cells m.scope.names []) dV h'.objs.size c') (t' := tk) (h' := h'.push (kdv_obj "<lambda>" (X.env.qual ++ "<lambda>") m.params (.expr m.body) m.scope (cloFrom X.env.cells m.scope.names []) dV doc ((X.mg "__name__").getD .none) c' ctv))
      (fun b o e => Heap.get?_push_of_some _ (hx b o e)) hsz (lamO_ok (Heap.get?_push_size _ rfl))
    have sm := same_new nF (LamO (X.env.qual ++ "<lambda>") m (cloFrom X.env.cells m.scope.names []) dV h'.objs.size c')
    exact h _ _ _ I2 (ExtN.of sm) (hT.ext sm) nF ⟨_, c', dV, rfl, upd_same, sm _ _ hco, dx (ExtN.of sm)⟩
end
/-- the lambda's names: captured ones and globals; its own parameter is none of the frame's names -/
structure LamSD (sc scope : Scope) (N : List Str) (dn : Option Str) : Prop where
  kind : scope.kind = .function
  co : scope.isCoroutine = false
  gen : scope.isGenerator = false
  own : ∀ y ∈ scope.names, y.2 ≠ .cell ∧ (y.2 = .local → y.1 ∉ N)
  free : ∀ y ∈ scope.names, y.2 = .free → sc.names.lookup y.1 = some .cell ∨ sc.names.lookup y.1 = some .free
  par : ∀ a, dn = some a → scope.names.lookup a = some .local
def lamSDB (sc scope : Scope) (N : List Str) (dn : Option Str) : Bool :=
  decide (scope.kind = .function) && !scope.isCoroutine && !scope.isGenerator && (scope.names.all fun y => !decide (y.2 = .cell) && (!decide (y.2 = .local) || decide (y.1 ∉ N)) && (!decide (y.2 = .free) || decide (sc.names.lookup y.1 = some .cell) || decide (sc.names.lookup y.1 = some .free))) &&
    (match dn with | none => true | some a => decide (scope.names.lookup a = some .local))
theorem lamSD_by {sc scope : Scope} {N : List Str} {dn : Option Str} (h : lamSDB sc scope N dn = true) : LamSD sc scope N dn := by
  unfold lamSDB at h
  simp only [Bool.and_eq_true, Bool.or_eq_true, Bool.not_eq_true', decide_eq_true_eq, decide_eq_false_iff_not, List.all_eq_true] at h
  obtain ⟨⟨⟨⟨h1, h2⟩, h3⟩, h4⟩, h5⟩ := h
  refine ⟨h1, h2, h3, fun y hy => ⟨(h4 y hy).1.1, fun e => ?_⟩, fun y hy e => ?_, fun a e => ?_⟩
  · rcases (h4 y hy).1.2 with z | z
    · exact absurd e z
    · exact z
  · rcases (h4 y hy).2 with (z | z) | z
    · exact absurd e z
    · exact .inl z
    · exact .inr z
  · rw [e] at h5
    exact of_decide_eq_true h5
theorem LamSD.has {X : Cx} {scope : Scope} {N : List Str} {dn : Option Str} (L : LamSD X.env.scope scope N dn) (ok : X.Ok) : ∀ y ∈ scope.names, y.2 = .free → ∃ c, X.env.cells.lookup y.1 = some c := fun y hy e => by
  rcases L.free y hy e with k | k
  · exact ok.has _ (.inl k)
  · exact ok.has _ (.inr k)
structure LmOk (X : Cx) (m : Lm) : Prop where
  S : LamSD X.env.scope m.scope X.N m.dn
  b0 : m.dn = none → ∀ (q : Str) (cl : List (Str × Addr)) (doc pm cv ctv : Value), bindArgs (kdv_fn "<lambda>" q m.params (.expr m.body) m.scope cl .none doc pm cv ctv) ⟨[], []⟩ = pure []
  b1 : ∀ a, m.dn = some a → ∀ (q : Str) (cl : List (Str × Addr)) (t : Addr) (doc pm cv ctv v : Value), ∃ k, bindArgs (kdv_fn "<lambda>" q m.params (.expr m.body) m.scope cl (.ref t) doc pm cv ctv) ⟨[], []⟩ = seqItems? (.ref t) >>= k ∧ k (some #[v]) = pure [(a, v)]
/-- v is a lambda of the frame X, t its reading -/
def LamT (X : Cx) (k : Nat) (t : XK → TE) (H : Hp) (v : V) : Prop :=
  ∃ m : Lm, LmOk X m ∧ (∀ (A : Around) (outer : List Env) (s : Shared) (H : Hp) (E : XK) (f c' : Addr), Room k (A.deeper (lamEnv X m.scope s.heap.objs.size f c')) → PE (lamCx X A outer s H E m.scope f c') m.body (t E)) ∧ LamAt (X.env.qual ++ "<lambda>") X.env.cells m H v
theorem LamT.extN {X : Cx} {k : Nat} {t : XK → TE} {H H' : Hp} {v : V} (h : LamT X k t H v) (e : ExtN H H') : LamT X k t H' v := by
  obtain ⟨m, a, b, c⟩ := h
  exact ⟨m, a, b, c.extN e⟩
theorem LamT.same {X : Cx} {k : Nat} {t : XK → TE} {H H' : Hp} {v : V} (h : LamT X k t H v) (e : Same H H') : LamT X k t H' v := h.extN (ExtN.of e)
theorem LamT.keep {X : Cx} {k : Nat} {t : XK → TE} {H H' : Hp} {v : V} {d : Addr} {ys : List V} (h : LamT X k t H v) (hd : H d = some (.lst ys)) (e : Keep d H H') : LamT X k t H' v := by
  obtain ⟨m, a, b, c⟩ := h
  exact ⟨m, a, b, c.keep hd e⟩
def tLamV (X : Cx) (T : List (Addr × Str)) (k : Nat) (t : XK → TE) : TE := fun _ H Q => Tabs T H ∧ ∀ H1 f, ExtN H H1 → Tabs T H1 → H f = none → LamT X k t H1 (.ref f) → Q (.ref f) H1
section
variable {X : Cx}
/-- lambda: body, as a value -/
theorem pe_lamV0 {k : Nat} {t : XK → TE} {T : List (Addr × Str)} {c P : Addr} {params : Arguments} {body : Expr} {scope : Scope} {pos : Pos} (TB : TabB X.base X.mg c P) (hcode : X.env.code = .ref c) (hmT : (P, X.env.qual ++ "<lambda>") ∈ T) (hu : ∀ p ∈ T, p.1 = P → p.2 = X.env.qual ++ "<lambda>")
    (L : LmOk X ⟨params, body, scope, none⟩) (hdef : defaultsOf params X.env = ([], []))
    (hbody : ∀ (A : Around) (outer : List Env) (s : Shared) (H : Hp) (E : XK) (f c' : Addr), Room k (A.deeper (lamEnv X scope s.heap.objs.size f c')) → PE (lamCx X A outer s H E scope f c') body (t E))
    : PE X (.Lambda params body scope pos) (tLamV X T k t) := by
  refine ⟨fun pins s σ H Q I h => ?_⟩
  obtain ⟨hT, h⟩ := h
  refine PySem.W.kla_eval hdef ?_
  rw [makeFunction_eq]
  simp only [List.zip_nil_right, List.filterMap_nil, List.isEmpty_nil, if_true, pure_bind]
  exact lam_tail (m := ⟨params, body, scope, none⟩) I TB hcode hmT hu hT (L.S.has I.ok) (.inl ⟨rfl, rfl⟩) fun f H1 s' I1 eN T1 hf la => ⟨.ref f, H1, I1, rfl, h H1 f eN T1 hf ⟨_, L, hbody, la⟩⟩
/-- lambda a=0: body, as a value -/
theorem pe_lamV1 {k : Nat} {t : XK → TE} {T : List (Addr × Str)} {c P : Addr} {params : Arguments} {body : Expr} {scope : Scope} {pos pc : Pos} {a : Str} {j : Nat} (TB : TabB X.base X.mg c P) (hcode : X.env.code = .ref c) (hmT : (P, X.env.qual ++ "<lambda>") ∈ T) (hu : ∀ p ∈ T, p.1 = P → p.2 = X.env.qual ++ "<lambda>")
    (L : LmOk X ⟨params, body, scope, some a⟩) (hdef : params.defaults = [.Constant (.int 0) j pc]) (hk0 : params.kw_defaults = [])
    (hbody : ∀ (A : Around) (outer : List Env) (s : Shared) (H : Hp) (E : XK) (f c' : Addr), Room k (A.deeper (lamEnv X scope s.heap.objs.size f c')) → PE (lamCx X A outer s H E scope f c') body (t E))
    : PE X (.Lambda params body scope pos) (tLamV X T k t) := by
  refine ⟨fun pins s σ H Q I h => ?_⟩
  obtain ⟨hT, h⟩ := h
  refine kdv_lam (by rw [hdef]; rfl) hk0 ?_
  rw [hdef]
  refine kdv_all1 (thn ((pe_int (X := X) (i := 0) (j := j) (pos := pc)).run pins s σ H (fun v H' => v = .int 0 ∧ H' = H) I ⟨rfl, rfl⟩) fun u s1 hz => kdv_all0 ?_)
  obtain ⟨v, H1, I1, r1, rfl, rfl⟩ := hz
  rw [makeFunction_eq]
  simp only [List.zip_nil_right, List.filterMap_nil, List.isEmpty_nil, if_true, pure_bind, List.isEmpty_cons, Bool.false_eq_true, if_false]
  refine wpAny_bind (wpAny_newTextTuple ?_)
  have nt : H1 s1.heap.objs.size = none := I1.hok.fresh (Nat.le_refl _)
  have I2 := I1.laid (a := s1.heap.objs.size) (o := .tup [.int 0]) (t' := s1.toks) (h' := s1.heap.push { cls := .type "tuple", data := .seq [u].toArray }) (fun b o e => Heap.get?_push_of_some _ e) (Nat.le_refl _)
    ⟨(by show 1 ≤ sizeLine; decide), [u], .cons r1 .nil, _, Heap.get?_push_size _ rfl, rfl, _, rfl⟩
  have sm := same_new nt (.tup [.int 0])
  exact lam_tail (m := ⟨params, body, scope, some a⟩) I2 TB hcode hmT hu (hT.ext sm) (L.S.has I.ok) (.inr ⟨a, _, rfl, rfl, upd_same⟩) fun f H2 s' I3 eN T1 hf la => ⟨.ref f, H2, I3, rfl, h H2 f ((ExtN.of sm).trans eN) T1 (by
    by_cases e : f = s1.heap.objs.size
    · rw [e]; exact nt
    · rw [upd_ne e] at hf; exact hf) ⟨_, L, hbody, la⟩⟩
end
/-! ### a frame's cells as a part of the base -/
structure LamB (X : Cx) (σ : L2.St) (b : Heap) : Prop where
  ok : X.Ok
  sub : ∀ a o, X.base.get? a = some o → b.get? a = some o
  size : X.base.objs.size ≤ b.objs.size
  cell : ∀ x c, X.env.cells.lookup x = some c → ∃ v, b.IsCell c v
  val : ∀ (i : Nat) (x : Str) (v : V) (c : Addr), X.N[i]? = some x → σ[i]? = some (some v) → (X.env.scope.names.lookup x = some .cell ∨ X.env.scope.names.lookup x = some .free) → X.env.cells.lookup x = some c → ∃ u, RelV v u ∧ b.IsCell c (some u)
  len : σ.length = X.N.length
def bigB (X : Cx) (H : Hp) (h : Heap) : Heap := hideAll h (trk h H ++ frs X.stack)
theorem funs_re {h b b' : Heap} : ∀ {l : List Env}, h.FunFrames b l → (∀ a ∈ frs l, b'.get? a = none) → h.FunFrames b' l
  | [], _, _ => trivial
  | env :: r, ⟨hk, ⟨L, o, hf, hn, ho, hd⟩, hr⟩, q => by
    have mem : ∀ a ∈ frs r, a ∈ frs (env :: r) := fun a ha => by unfold frs; rw [List.filterMap_cons, hf]; exact List.mem_cons_of_mem _ ha
    exact ⟨hk, ⟨L, o, hf, q L (by unfold frs; rw [List.filterMap_cons, hf]; exact List.mem_cons_self), ho, hd⟩, funs_re hr fun a ha => q a (mem a ha)⟩
section
variable {X : Cx} {pins : List (Addr × Obj)} {σ : L2.St} {H : Hp} {s : Shared}
theorem big_get {h : Heap} {a : Addr} {o : Obj} (e : h.get? a = some o) (n : H a = none) (nf : a ∉ frs X.stack) : (bigB X H h).get? a = some o :=
  hideAll_get _ e fun hm => by
    rcases List.mem_append.mp hm with z | z
    · have q : (H a).isSome = true := (List.mem_filter.mp z).2
      rw [n] at q
      cases q
    · exact nf z
theorem of_big {h : Heap} {a : Addr} {o : Obj} (e : (bigB X H h).get? a = some o) : h.get? a = some o ∧ H a = none := by
  have e' : h.get? a = some o := of_hideAll _ e
  refine ⟨e', ?_⟩
  cases q : H a with
  | none => rfl
  | some x =>
    have hm : a ∈ trk h H ++ frs X.stack := List.mem_append.mpr (.inl (List.mem_filter.mpr ⟨List.mem_range.mpr (Heap.lt_size e'), by simp [q]⟩))
    have z : (bigB X H h).get? a = none := hideAll_none _ hm
    rw [z] at e
    cases e
theorem big_sub (I : Inv X pins σ H s) : ∀ a o, X.base.get? a = some o → (bigB X H s.heap).get? a = some o := fun a o e => by
  obtain ⟨h1, h2⟩ := I.bs a o e
  refine big_get h1 h2 fun z => ?_
  rcases List.mem_cons.mp (I.stkSub a z) with z | z
  · have l1 := Heap.lt_size e
    have l2 := Nat.le_trans I.ok.bsz I.ok.above
    rw [z] at l1
    exact Nat.lt_irrefl _ (Nat.lt_of_lt_of_le l1 l2)
  · exact I.ok.nofr e z
theorem big_mod (I : Inv X pins σ H s) : Mod X.K X.mg (bigB X H s.heap) := by
  have k := big_sub I
  obtain ⟨mb, h1, h2⟩ := I.mod.blt
  exact ⟨I.mod.kin.keeps k, I.mod.glob.keeps k, ⟨mb, h1.keeps k, h2⟩, I.mod.nolimit.keeps k⟩
theorem big_env0 (I : Inv X pins σ H s) : Env0 X.prog X.w X.K X.mg (bigB X H s.heap) X.A X.stack s H :=
  ⟨I.ok.frames, big_mod I, fun a o e => of_big e, by unfold bigB; rw [hideAll_size]; exact Nat.le_refl _, funs_re I.stack fun a ha => hideAll_none _ (List.mem_append.mpr (.inr ha)), I.stkFree, I.hok, I.bare⟩
theorem lamB_of (I : Inv X pins σ H s) (hfn : ∀ x, X.fn x = true) : LamB X σ (bigB X H s.heap) := by
  have nf : ∀ x c, X.env.cells.lookup x = some c → c ∉ frs X.stack := fun x c e z => by
    rcases List.mem_cons.mp (I.stkSub c z) with z | z
    · exact I.cne x c e z
    · obtain ⟨_, o, ho, _⟩ := I.ok.funs.mem z
      have l1 := Heap.lt_size ho
      have l2 := I.ok.cab x c (hfn x) e
      exact Nat.lt_irrefl _ (Nat.lt_of_lt_of_le l1 l2)
  have up : ∀ x c v, X.env.cells.lookup x = some c → s.heap.IsCell c v → (bigB X H s.heap).IsCell c v := fun x c v e ⟨o, ho, hd⟩ => ⟨o, big_get ho (I.freeC x c e) (nf x c e), hd⟩
  refine ⟨I.ok, big_sub I, ?_, fun x c e => ?_, fun i x v c e1 e2 e3 e4 => ?_, I.len⟩
  · unfold bigB
    rw [hideAll_size]
    exact Nat.le_trans I.ok.bsz I.sz
  · obtain ⟨v, z⟩ := I.cell x c e
    exact ⟨v, up x c v e z⟩
  · obtain ⟨m, _, hl⟩ := I.loc
    obtain ⟨u, r, q⟩ := hl i x v e1 e2 (.inr e3)
    refine ⟨u, r, ?_⟩
    rcases q with ⟨k, _⟩ | ⟨_, c2, k2, z⟩
    · have k : X.env.scope.names.lookup x = some .local := k
      rcases e3 with e3 | e3 <;> rw [e3] at k <;> cases k
    · rw [e4] at k2
      cases k2
      exact up x c _ e4 z
theorem lam_startB {A : Around} {outer : List Env} {E : XK} {scope : Scope} {dn : Option Str} {f c' : Addr} {b h₁ : Heap} {tk : Nat} {HZ : Hp} {s1 : Shared} {bs : List (Str × Value)} (B : LamB X σ b) (L : LamSD X.env.scope scope X.N dn) (e0 : Env0 X.prog X.w X.K X.mg b A outer s1 HZ) (hd : A.handled = none)
    (hns : h₁.Ns s1.heap.objs.size fun y => bs.reverse.lookup y) (kp : ∀ b o, s1.heap.get? b = some o → h₁.get? b = some o) :
    Inv (lamCx X A outer s1 HZ E scope f c') [] σ HZ { s1 with heap := h₁, toks := tk } := by
  have hfree := L.has B.ok
  have cm : ∀ {y c}, (cloFrom X.env.cells scope.names []).lookup y = some c → X.env.cells.lookup y = some c := fun {y c} e => by
    rcases cloFrom_mem (PySem.mem_of_lookup e) with hm | ⟨h1, h2⟩
    · cases hm
    · obtain ⟨c1, hc⟩ := hfree _ h1 rfl
      have hc : X.env.cells.lookup y = some c1 := hc
      have e2 : c = c1 := by
        rw [h2, hc] <;> rfl
      rw [e2]
      exact hc
  have look : ∀ {y}, scope.names.lookup y = some .free → ∃ c, (cloFrom X.env.cells scope.names []).lookup y = some c := fun {y} hl => mem_lookup (cloFrom_has (cells := X.env.cells) (acc := []) (PySem.mem_of_lookup hl))
  have cellK : ∀ {c : Addr} {v : Option Value}, b.IsCell c v → h₁.IsCell c v := fun {c v} ⟨o, ho, hd⟩ => ⟨o, kp _ _ (e0.bs c o ho).1, hd⟩
  have noA : ∀ b : Addr, b ∉ (lamCx X A outer s1 HZ E scope f c').ex := fun b z => absurd (show b ∈ ([] : List Addr) from z) (by simp)
  have fb : ∀ a, b.get? a = none → X.base.get? a = none := fun a n => by
    cases e : X.base.get? a with
    | none => rfl
    | some o => rw [B.sub a o e] at n; cases n
  refine ⟨⟨B.ok.mod, L.kind, rfl, rfl, Nat.le_refl _, fun y z c e1 e2 => B.ok.inj y z c (cm e1) (cm e2), fun y hy => ?_, fun y c z _ => ?_, fun _ => hd, Around.frames_deeper e0.frames, .inr ⟨rfl, rfl⟩, fun b z => absurd z (noA b), fun a o e => e0.bs a o (B.sub a o e), Nat.le_trans B.size e0.bsz, fun b _ _ => noA b,
      fun b z => absurd z (noA b), funs_re e0.funs fun a ha => fb a (e0.funs.mem ha).1, e0.frf⟩,
    rfl, e0.bare, Un.kept kp, ⟨_, hns, fun i y v e1 e2 e3 => ?_⟩, fun y c e => ?_, e0.hok.fresh (Nat.le_refl _), fun y c e => ?_, fun q hq => absurd (show q ∈ ([] : List (Addr × Obj)) ++ [] from hq) (by simp), e0.hok.kept kp, B.len⟩
  · have hy : scope.names.lookup y = some .cell ∨ scope.names.lookup y = some .free := hy
    rcases hy with hy | hy
    · exact absurd rfl (L.own _ (PySem.mem_of_lookup hy)).1
    · exact look hy
  · have z : false = true := z
    cases z
  · have e1 : X.N[i]? = some y := e1
    have e3 : Vis scope y := e3
    rcases e3 with k | k | k
    · exact absurd (List.mem_of_getElem? e1) ((L.own _ (PySem.mem_of_lookup k)).2 rfl)
    · exact absurd rfl (L.own _ (PySem.mem_of_lookup k)).1
    · obtain ⟨c2, h2⟩ := look k
      obtain ⟨u, r, z⟩ := B.val i y v c2 e1 e2 (L.free _ (PySem.mem_of_lookup k) rfl) (cm h2)
      exact ⟨u, r, .inr ⟨.inr k, c2, h2, cellK z⟩⟩
  · obtain ⟨v, z⟩ := B.cell y c (cm e)
    exact ⟨v, cellK z⟩
  · obtain ⟨v, o, ho, _⟩ := B.cell y c (cm e)
    exact (e0.bs c o ho).2
/-- x(), in a def that got the lambda m; b: a base with the cells of m's frame -/
theorem pe_actB {CXg : CXT} {Eg : XK} {Ng : List Str} {qg : Str} {sg : Scope} {g : Addr} {cdg : Value} {m : Lm} {k i : Nat} {a : Str} {pn : List (Addr × Obj)} {xe : Value → Shared → Prop} {W : WX} {E : XK} {tb : TE} {p1 p2 : Pos} {b : Heap} {AZ : Around} {outZ : List Env} {s0 : Shared} {H0 : Hp}
    (B : LamB X σ b) (L : LmOk X m) (tk : Takes ((cxOf CXg X.prog X.w X.K X.mg b Ng qg sg g cdg AZ outZ s0 H0 Eg).tr pn xe) W) (hW : ∀ cls d σ' H', E cls d H' → W cls d σ' H') (hr : Room (k + 1) (AZ.deeper (envOfC qg sg s0.heap.objs.size g cdg)))
    (hbody : ∀ (A : Around) (outer : List Env) (s : Shared) (H : Hp) (f c' : Addr), Room k (A.deeper (lamEnv X m.scope s.heap.objs.size f c')) → PE (lamCx X A outer s H E m.scope f c') m.body tb)
    (hN : Ng[i]? = some a) (hv : Vis sg a) (hd : (a == ("__debug__" : Str)) = false := by decide) (hcd : (a == ("__classdict__" : Str)) = false := by decide) :
    PE ((cxOf CXg X.prog X.w X.K X.mg b Ng qg sg g cdg AZ outZ s0 H0 Eg).tr pn xe) (.Call (.Name a p1) [] [] p2)
      (fun σZ HZ Q => ∃ v, σZ[i]? = some (some v) ∧ LamAt (X.env.qual ++ "<lambda>") X.env.cells m HZ v ∧ tb σ HZ Q) := by
  refine ⟨fun pinsZ sZ σZ HZ Q IZ h => ?_⟩
  obtain ⟨v, hs, ⟨f, c', dV, rfl, hf, hc, hdv⟩, ht⟩ := h
  refine wpAny_Call_Name_kw (thn ((pe_var (pos := p1) (i := i) hN hv hd hcd).run pinsZ sZ σZ HZ (fun v H1 => v = .ref f ∧ H1 = HZ) IZ ⟨.ref f, hs, rfl, rfl⟩) fun u s1 ⟨v, H1, I1, r1, q1⟩ => ?_)
  obtain ⟨ev, eH⟩ := q1
  subst ev
  rw [eH] at I1
  obtain rfl : u = Value.ref f := r1
  obtain ⟨⟨doc, pm, ctv, of1⟩, _, _⟩ := I1.hok f _ hf
  refine PySem.W.callWith_F0 ⟨_, _, _, _, of1⟩ ?_
  obtain ⟨⟨oc, vs, t, hoc, hdc, hvc⟩, _, _⟩ := I1.hok c' _ hc
  have bd : ∃ bs : List (Str × Value), BindsTo s1 (kdv_fn "<lambda>" (X.env.qual ++ "<lambda>") m.params (.expr m.body) m.scope (cloFrom X.env.cells m.scope.names []) dV doc pm (.ref c') ctv) ⟨[], []⟩ bs ∧ ∀ y ∈ bs, m.scope.names.lookup y.1 = some .local := by
    rcases hdv with ⟨e1, rfl⟩ | ⟨a', tt, e1, rfl, e3⟩
    · exact ⟨[], .of_eq (L.b0 e1 _ _ _ _ _ _), fun y hy => by cases hy⟩
    · obtain ⟨_, its, rv, o, ho, _, n, hn⟩ := I1.hok tt _ e3
      obtain ⟨v0, rfl⟩ : ∃ v0, its = [v0] := by
        cases rv with
        | cons _ r => cases r; exact ⟨_, rfl⟩
      obtain ⟨kk, h1, h2⟩ := L.b1 a' e1 (X.env.qual ++ "<lambda>") (cloFrom X.env.cells m.scope.names []) tt doc pm (.ref c') ctv v0
      exact ⟨[(a', v0)], BindsTo.of_defaults (T := tt) rfl ho hn h1 h2, fun y hy => by rw [List.mem_singleton.mp hy]; exact L.S.par a' e1⟩
  obtain ⟨bs, hb, hl⟩ := bd
  have rc : codeAny (model X.prog X.w) (AZ.deeper (envOfC qg sg s0.heap.objs.size g cdg)) (.call (.ref f) ⟨[], []⟩) (CR (L2.CX X.prog X.w) (envOfC qg sg s0.heap.objs.size g cdg :: outZ) X.prog X.w HZ s1 Q E) s1 := by
    refine PySem.W.kla_callFunE hr.depth of1 rfl L.S.co L.S.gen rfl ⟨c', oc, vs, t, rfl, hoc, hdc, hvc⟩ (hb _ _ _ _ ?_)
    refine wpAny_newFunctionEnv (fun y hy => (L.S.own y hy).1) hl (fun h₁ hns hsb => ⟨I1.nolimit.fresh _ hsb, ?_⟩) L.S.kind
    show codeAny _ _ (.expr m.body (lamEnv X m.scope s1.heap.objs.size f c')) _ _
    have kp : ∀ b o, s1.heap.get? b = some o → h₁.get? b = some o := fun b o e => hsb.extBut b o (Nat.ne_of_lt (Heap.lt_size e)) (Heap.get?_push_of_some _ e)
    have J : Inv (lamCx X (AZ.deeper (envOfC qg sg s0.heap.objs.size g cdg)) (envOfC qg sg s0.heap.objs.size g cdg :: outZ) s1 HZ E m.scope f c') [] σ HZ { s1 with heap := h₁, toks := s1.toks + bs.length } :=
      lam_startB B L.S I1.env0 hr.hd hns kp
    refine PySem.W.kla_codeExpr (wpAny_mono ((hbody _ _ s1 HZ f c' (hr.deeper _)).run [] _ _ HZ Q J ht) (fun v s' hq => ?_) fun e s' hq => hq)
    obtain ⟨w', H', J', rv, q⟩ := hq
    exact ⟨w', H', J'.os, J'.bare, J'.base, J'.hok, rv, q⟩
  have hx : Passes (L2.CX X.prog X.w) ((cxOf CXg X.prog X.w X.K X.mg b Ng qg sg g cdg AZ outZ s0 H0 Eg).tr pn xe) E := passes_call tk hW
  refine wpAny_call (codeAny_mono rc fun r s' hq => ?_)
  cases r with
  | error e => exact hx pinsZ σZ HZ s1 e s' I1 hq
  | ok fl =>
    cases fl with
    | ret u => exact I1.after hq
    | next => exact False.elim hq
    | brk => exact False.elim hq
    | cont => exact False.elim hq
/-- the def that calls what it got, over a base with the cells -/
def sp_errB (X : Cx) (k : Nat) (σ : L2.St) (TT : (XK → Hp → VK → Prop) → Hp → VK → Prop) : Sp := fun vs H Q _ => ∃ v t, vs = [v] ∧ LamT X k t H v ∧ TT (fun E H' Q' => (∀ m, LamAt (X.env.qual ++ "<lambda>") X.env.cells m H v → LamAt (X.env.qual ++ "<lambda>") X.env.cells m H' v) ∧ t E σ H' Q') H Q
theorem errB {TT : (XK → Hp → VK → Prop) → Hp → VK → Prop} {x a : Str} {g : Addr} {k : Nat} {pg : Arguments} {bg : List Stmt} {sg : Scope} {dV kV doc pm cdv ct oc : Value} {an od : Option Addr} {osl : Array (Option Value)} {Ng : List Str} {b : Heap}
    (lk : X.K.lookup g = some ⟨oc, od, .func (PySem.W.fnOf x x pg bg sg dV kV doc pm an cdv ct), osl⟩) (hcg : PySem.W.codeIn X.K cdv x = true) (hb : L2.Binds X.K (PySem.W.fnOf x x pg bg sg dV kV doc pm an cdv ct) [a] []) (Sg : FnScope Ng [a] sg) (hNg : Ng[0]? = some a) (hva : Vis sg a)
    (hG : ∀ (A : Around) (outer : List Env), GivesTo { X with base := b, A := A, stack := outer } Ng x sg g cdv bg a (X.env.qual ++ "<lambda>") TT) (B : LamB X σ b)
    (hd : (a == ("__debug__" : Str)) = false := by decide) (hcd : (a == ("__classdict__" : Str)) = false := by decide) :
    FnR X.prog X.w X.K X.mg b C8.CX0 (k + 2) g (sp_errB X k σ TT) := by
  intro A outer s H us vs Q E hr e0 r h
  obtain ⟨v, t, rfl, ⟨m, L, hbody, la⟩, h⟩ := h
  obtain ⟨f, c', dV, rfl, hf, hc, hdv⟩ := id la
  cases r with
  | cons rx rr =>
    cases rr
    cases rx
    have e00 : Env0 X.prog X.w X.K X.mg b A outer s H := e0
    have kin : X.K.In s.heap := e0.mod.kin.keeps fun b o e => (e0.bs b o e).1
    refine codeAny_mono (run_ofS (CX := C8.CX0) (N := Ng) (ps := [a]) (us := [.ref f]) (vs := [.ref f]) (k := k + 1) (Q := Q) (E := C8.E0) lk hcg Sg hr e0 (hb s [.ref f] kin rfl) (.cons rfl .nil) rfl fun hr' => ?_) fun r s' hq => ?_
    · obtain ⟨t', ht', hq'⟩ := hG A outer f c' s H Q (fun E H' Q' => (∀ m, LamAt (X.env.qual ++ "<lambda>") X.env.cells m H (.ref f) → LamAt (X.env.qual ++ "<lambda>") X.env.cells m H' (.ref f)) ∧ t E σ H' Q') (fun W pn xe E p1 p2 tk hW => ⟨fun pins s' σ' H' Q' I' h' => (pe_actB (X := X) (i := 0) B L tk hW hr' (fun A outer s H f c' hr2 => hbody A outer s H E f c' hr2) hNg hva hd hcd).run pins s' σ' H' Q' I' ⟨_, h'.1, h'.2.2.1 m la, h'.2.2.2⟩⟩) hc h
      exact ⟨t', ht'.nox, hq'⟩
    · cases r with
      | error e => exact (show False from hq).elim
      | ok fl => exact hq
/-- x(e, ..) by a promise over the base with the cells -/
theorem pe_big {x : Str} {g : Addr} {k : Nat} {e : Expr} {es : List Expr} {ta : TA} {sp : L2.St → Sp} {p pos : Pos} (hg : Gl X x) (hm : X.mg x = some (.ref g)) (hk : PySem.W.keepIn X.K (.ref g) = true) (hfn : ∀ x, X.fn x = true) (ha : PA X (e :: es) ta)
    (hF : ∀ σ b, LamB X σ b → FnR X.prog X.w X.K X.mg b C8.CX0 k g (sp σ)) (hr : Room k X.A) (hd : (x == ("__debug__" : Str)) = false := by decide)
    (he : starEach (e :: es) X.env = (false, eval e X.env) :: starEach es X.env := by rfl) (hpl : (backTo pos (starEach es X.env)).any (·.1) = false := by rfl) :
    PE X (.Call (.Name x p) (e :: es) [] pos) (fun σ H Q => ta σ H fun vs H1 => sp σ vs H1 Q C8.E0) := by
  refine ⟨fun pins s σ H Q I h => ?_⟩
  refine wpAny_Call_Name_kw (ld_glob I hg hm ?_ hd)
  refine PySem.W.callWith_K (h₀ := X.base) I.ok.mod.kin hk (thn (ha.run pos pins s σ H _ I h) fun us s1 ⟨vs, H1, I1, r, q⟩ => ⟨I1.kIn, ?_⟩) he hpl
  refine wpAny_call (codeAny_mono (hF σ _ (lamB_of I1 hfn) X.A X.stack s1 H1 us vs Q C8.E0 hr (big_env0 I1) r q) fun r s' hq => ?_)
  cases r with
  | error e => exact (show False from hq).elim
  | ok fl =>
    cases fl with
    | ret u => exact I1.after hq
    | next => exact False.elim hq
    | brk => exact False.elim hq
    | cont => exact False.elim hq
end
end My
/-! t == u of two tuples, items by their own == -/
namespace My
open PySem PySem.Spec L2 PyProof.Rows PySem.SeqAt
open AutoSeq1 (wpAny_loadPart')
open MeetsSeq MeetsSeq2 MeetsSeq3 SeqRoads2
section
variable {prog : Program} {w : World} {A : Around} {R : Result → Shared → Prop}
theorem tuple_eqB (l b : Addr) (items items2 : Array Value) (n n2 : Nat) (dd dd2 : Option Addr) (sl sl2 : Array (Option Value)) (I : Shared → Prop) (e : Nat → Bool)
    (turn : ∀ i (h1 : i < items.size) (h2 : i < items2.size) s, I s → wpAny (model prog w) A.in1 (eqBool items[i] items2[i]) (fun r s' => r = e i ∧ I s') (fun e s' => R (.error e) s') s)
    (fin : ∀ s, I s → R (.ok (.ret (.bool ((List.range (min items.size items2.size)).all e && items.size == items2.size)))) s) {s : Shared} (hl1 : s.heap.get? l = some { cls := .type "tuple", dict := dd, data := .seq items n, slots := sl }) (hb1 : s.heap.get? b = some { cls := .type "tuple", dict := dd2, data := .seq items2 n2, slots := sl2 }) (h : I s) :
    wpAny (model prog w) A.in1 (Builtin.«tuple.__eq__» ⟨[.ref l, .ref b], []⟩) (GQ.FinOf prog w A R) (fun e s' => R (.error e) s') s := by
  have f2 := AutoSeq1.sub_tuple_tuple
  have hZ : (items.toList.zip items2.toList).length = min items.size items2.size := by simp
  have h0 := h
  obtain ⟨hp, g, d, tk, os⟩ := s
  wp_walk using wpAny_loadPart' hl1, wpAny_loadPart' hb1, wpAny_forIn_list _ (fun rest b s' => b.1 = none ∧ ∃ i, rest = (items.toList.zip items2.toList).drop i ∧ I s' ∧ (List.range (min items.size items2.size)).all e = ((List.range (min items.size items2.size)).drop i).all e) _
  case turn =>
    rintro ⟨y, x⟩ rest b s' ⟨hb', i, hz, hI, hR⟩
    have hlt : i < (items.toList.zip items2.toList).length := by
      rcases Nat.lt_or_ge i (items.toList.zip items2.toList).length with h' | h'
      · exact h'
      · rw [List.drop_of_length_le h'] at hz; cases hz
    have hm : i < min items.size items2.size := hZ ▸ hlt
    have h1 : i < items.size := Nat.lt_of_lt_of_le hm (Nat.min_le_left _ _)
    have h2 : i < items2.size := Nat.lt_of_lt_of_le hm (Nat.min_le_right _ _)
    rw [List.drop_eq_getElem_cons hlt] at hz
    injection hz with hyx hrest
    have hy : y = items[i] := by have := congrArg Prod.fst hyx; simpa using this
    have hx : x = items2[i] := by have := congrArg Prod.snd hyx; simpa using this
    subst hy hx
    have hd : (List.range (min items.size items2.size)).drop i = i :: (List.range (min items.size items2.size)).drop (i + 1) := by simp [List.drop_eq_getElem_cons, hm]
    rw [hd, List.all_cons] at hR
    refine wpAny_bind (wpAny_mono (turn i h1 h2 s' hI) (fun r s2 q2 => ?_) fun _ _ x => x)
    obtain ⟨hr, q2⟩ := q2
    rw [← hr] at hR
    cases r with
    | true =>
      wp_walk
      exact ⟨rfl, i + 1, hrest, q2, by simpa using hR⟩
    | false =>
      have hF := fin s2 q2
      rw [hR] at hF
      wp_walk
      simpa using hF
  case fin =>
    rintro ⟨b1, b2⟩ s' ⟨hb', i, hz, hI, hR⟩
    simp only at hb'
    subst hb'
    have hge : min items.size items2.size ≤ i := by
      rcases Nat.lt_or_ge i (items.toList.zip items2.toList).length with h' | h'
      · rw [List.drop_eq_getElem_cons h'] at hz; cases hz
      · exact hZ ▸ h'
    rw [List.drop_of_length_le (by simpa using hge)] at hR
    have hF := fin s' hI
    rw [hR] at hF
    wp_walk
    simpa [Builtin.Tuple.tupleCompareSizes] using hF
  case h =>
    exact ⟨rfl, 0, rfl, h0, rfl⟩
end
/-- a tuple tells one triple only -/
def Coh (K : PySem.W.Frag) (H : Hp) : Prop := ∀ (a : Addr) (x y z x' y' z' : Int), SqT K H a [.int x, .int y, .int z] → SqT K H a [.int x', .int y', .int z'] → x = x' ∧ y = y' ∧ z = z'
theorem vals3 {x y z : Int} {its : List Value} (r : Vals [.int x, .int y, .int z] its) : ∃ t1 t2 t3, its = [.int x t1, .int y t2, .int z t3] := by
  cases r with
  | cons r1 r => cases r with
    | cons r2 r => cases r with
      | cons r3 r => cases r with
        | nil =>
          obtain ⟨t1, rfl⟩ := r1
          obtain ⟨t2, rfl⟩ := r2
          obtain ⟨t3, rfl⟩ := r3
          exact ⟨t1, t2, t3, rfl⟩
theorem coh_of {X : Cx} {pins : List (Addr × Obj)} {σ : L2.St} {H : Hp} {s : Shared} (I : Inv X pins σ H s) : Coh X.K H := by
  intro a x y z x' y' z' h h'
  obtain ⟨its, r, e, _⟩ := I.tuple h
  obtain ⟨its', r', e', _⟩ := I.tuple h'
  obtain ⟨o, ho, hc, n, hd⟩ := e
  obtain ⟨o', ho', hc', n', hd'⟩ := e'
  rw [ho] at ho'
  cases ho'
  rw [hd] at hd'
  injection hd' with hd' _
  obtain ⟨t1, t2, t3, rfl⟩ := vals3 r
  obtain ⟨u1, u2, u3, rfl⟩ := vals3 r'
  simp at hd'
  exact ⟨hd'.1.1, hd'.2.1.1, hd'.2.2.1⟩
def rEqTO (K : PySem.W.Frag) (C : Addr) (sp : Sp) : R2 := fun x y H Q => ∃ a b xs ys, x = .ref a ∧ y = .ref b ∧ SqT K H a xs ∧ SqT K H b ys ∧ (Coh K H → ∃ e : Nat → Bool, (∀ (i : Nat) (u v : V), xs[i]? = some u → ys[i]? = some v → ∃ (p q dx dy : Addr) (fs gs : List (Str × V)), u = .ref p ∧ v = .ref q ∧ H p = some (.ins C dx fs) ∧ H q = some (.ins C dy gs) ∧ (p = q → e i = true) ∧ sp [.ref p, .ref q] H (fun v H' => v = .bl (e i) ∧ H' = H) E0) ∧ Q (.bl ((List.range (min xs.length ys.length)).all e && xs.length == ys.length)) H)
section
variable {X : Cx} {k : Nat} {f C : Addr} {sp : Sp}
theorem op_eqTO (F0 : FnR X.prog X.w X.K X.mg X.base CX0 k f sp) (hr : Room (k + 1) X.A)
    (hs : PySem.W.findIn X.K (.ref C) "__eq__" = some (some (.ref f))) (hf : PySem.W.isFn X.K (.ref f) = true) : OpR X (compareOp .Eq) (rEqTO X.K C sp) := by
  intro pins s σ H x y v u Q I rx ry hq
  obtain ⟨a, b, xs, ys, rfl, rfl, ha, hb, q0⟩ := hq
  obtain ⟨e, turn, q⟩ := q0 (coh_of I)
  cases rx
  cases ry
  obtain ⟨its, r, e1, z⟩ := I.tuple ha
  obtain ⟨its2, r2, e2, z2⟩ := I.tuple hb
  obtain ⟨⟨cls, dd, data, sl⟩, ho, hc, n, hd⟩ := id e1
  obtain ⟨⟨cls2, dd2, data2, sl2⟩, ho2, hc2, n2, hd2⟩ := id e2
  simp only at hc hd hc2 hd2
  subst hc hd hc2 hd2
  show wpAny (model X.prog X.w) X.A (richCompare .Eq (.ref a) (.ref b)) (EP X pins σ Q) X.xe s
  refine wpAny_richCompare_same_room (op := .Eq) ⟨_, ho, rfl⟩ ⟨_, ho2, rfl⟩ F.slot_tuple_eq (GQ.call_here F.slot_tuple_eq ⟨_, ho, rfl⟩ F.entry_tuple_eq (F.args_tuple_eq_2 _ _) ?_) hr.units0
  refine tuple_eqB (R := wants (fun v s' => v ≠ .notImplemented ∧ EP X pins σ Q v s') X.xe) a b its.toArray its2.toArray n n2 dd dd2 sl sl2 (fun s' => Inv X pins σ H s') e (fun i h1 h2 s' I' => ?_) (fun s' I' => ⟨(fun x => nomatch x), ?_⟩) ho ho2 I
  · have k1 : i < xs.length := by rw [r.length]; simpa using h1
    have k2 : i < ys.length := by rw [r2.length]; simpa using h2
    obtain ⟨u, hu, ru⟩ := r.get (List.getElem?_eq_getElem k1)
    obtain ⟨v, hv, rv⟩ := r2.get (List.getElem?_eq_getElem k2)
    obtain ⟨p, q', dx, dy, fs, gs, eu, ev, hp, hq, self, hsp⟩ := turn i _ _ (List.getElem?_eq_getElem k1) (List.getElem?_eq_getElem k2)
    rw [eu] at ru
    rw [ev] at rv
    cases ru
    cases rv
    have g1 : its.toArray[i] = .ref p := by
      have h1' : i < its.length := by simpa using h1
      rw [List.getElem?_eq_getElem h1'] at hu
      simpa using hu
    have g2 : its2.toArray[i] = .ref q' := by
      have h2' : i < its2.length := by simpa using h2
      rw [List.getElem?_eq_getElem h2'] at hv
      simpa using hv
    rw [g1, g2]
    exact eqB_own F0 (Sub.in1 (n := k) ⟨hr, rfl⟩) hs hf I' hp hq self hsp
  · refine ⟨.bl _, H, I', rfl, ?_⟩
    rw [List.size_toArray, List.size_toArray, ← r.length, ← r2.length]
    exact q
end
end My
/-! o.m(e, ..) within a try; comprehensions with two for, by an invariant for each -/
namespace My
open PySem PySem.Spec L2 PyProof.Rows
def tMethS (C : Addr) (m : Str) (sp : Sp) (E : L2.St → XK) (ta : TE) (t : TA) : TE := fun σ H Q => ta σ H fun x H1 => ∃ a dx fs, x = .ref a ∧ H1 a = some (.ins C dx fs) ∧ fs.lookup m = none ∧ t σ H1 fun vs H2 => sp (x :: vs) H2 Q (E σ)
theorem pe_methS {X : Cx} {CX : CXT} {k : Nat} {f C : Addr} {fd : FuncData} {ps : List Str} {sp : Sp} {E : L2.St → XK} {m : Str} {pos apos : Pos} {e o : Expr} {es : List Expr} {ta : TE} {t : TA} {pl : Sem Bool} (he : PE X o ta) (c : Cls X.K C) (hm : Meth X.K C m f) (F : FnOk X.prog X.w X.K X.mg X.base CX k f fd ps sp) (hr : Room k X.A) (hb : Binds X.K fd ps []) (hx : ∀ σ, PassesAt CX X σ (E σ)) (ha : PA X (e :: es) t)
    (hst : starEach (e :: es) X.env = (false, eval e X.env) :: starEach es X.env := by rfl) (hpl : (backTo pos (starEach es X.env)).any (·.1) = false := by rfl)
    (ht : eval (.Call (.Attribute o m apos) (e :: es) [] pos) X.env = (do
      let ov ← eval o X.env
      standAt apos.atName
      let (f, first) ← holding [ov] (getMethod ov m pl)
      callWith pos f first (backTo pos (starEach (e :: es) X.env)) (backToKw pos (keywordEach [] X.env))) := by rfl) :
    PE X (.Call (.Attribute o m apos) (e :: es) [] pos) (tMethS C m sp E ta t) := by
  refine ⟨fun pins s σ H Q I h => ?_⟩
  refine PySem.W.methodCall_KW (pl := pl) (thn (he.run pins s σ H _ I h) fun u s1 ⟨x, H1, I1, rx, a, dx, fs, ex, ea, l, q⟩ => ?_) ht
  subst ex
  obtain rfl : u = Value.ref a := rx
  refine getmeth_ok I1 ea c hm l ?_
  refine PySem.W.callWith_K (first := [.ref a]) (h₀ := X.base) I.ok.mod.kin hm.kp (thn (ha.run pos pins s1 σ H1 _ I1 q) fun us s2 ⟨vs, H2, I2, r, q2⟩ => ⟨I2.kIn, ?_⟩) hst hpl
  exact run_fnS (us := .ref a :: us) (vs := .ref a :: vs) F hr hb (hx σ) I2 (.cons rfl r) q2
theorem FnOk.or {P : Program} {w : World} {K : PySem.W.Frag} {mg : Str → Option Value} {base : Heap} {k : Nat} {f : Addr} {fd : FuncData} {ps : List Str} {sp1 sp2 : Sp} (F1 : FnOk P w K mg base CX0 k f fd ps sp1) (F2 : FnOk P w K mg base (L2.CX P w) k f fd ps sp2) : FnOk P w K mg base (L2.CX P w) k f fd ps (fun vs H Q E => sp1 vs H Q E ∨ sp2 vs H Q E) := by
  refine ⟨fun vs H Q E h => h.elim (F1.len vs H Q E) (F2.len vs H Q E), fun A outer s H a us vs Q E hr e0 hb r h => ?_⟩
  rcases h with h | h
  · refine PySem.codeAny_mono (F1.run A outer s H a us vs Q E hr e0 hb r h) fun x s' hx => ?_
    match x, hx with
    | .ok (.ret u), hx => exact hx
    | .error e, hx => exact hx.elim
    | .ok .next, hx => exact hx
    | .ok .brk, hx => exact hx
    | .ok .cont, hx => exact hx
  · exact F2.run A outer s H a us vs Q E hr e0 hb r h
/-- one walk of the inner for -/
def LcIn (J1 : It) (g1 : TG) (tt1 : TT) (te : TE) (vs1 : List Nat) (D : Addr) (σ2 : L2.St) (Nx : Hp → Prop) (H4 : Hp) : Prop :=
  ∃ W1 : Nat → Nat → Hp → Prop, (∃ m, W1 0 m H4) ∧ ∀ j k H, W1 j k H →
    (J1.stop j H ∧ Nx H) ∨ (J1.go j H ∧ ∃ Nx1 : Hp → Prop, (∀ H', Nx1 H' → ∃ k', k' < k ∧ W1 (j + 1) k' H') ∧ ∀ x H', J1.yld j H x H' → g1 x (wipe σ2 vs1) H' fun σ3 H5 => wipe σ3 vs1 = wipe σ2 vs1 ∧ tt1 σ3 H5 fun b H6 =>
      if b = true then te σ3 H6 fun y H7 => ∃ acc, H7 D = some (.lst acc) ∧ acc.length < sizeLine ∧ Nx1 (upd H7 D (.lst (acc ++ [y]))) else Nx1 H6)
theorem in_list {K : PySem.W.Frag} {b : Addr} {ys : List V} {g1 : TG} {tt1 : TT} {te : TE} {vs1 : List Nat} {D : Addr} {σ2 : L2.St} {Nx : Hp → Prop} {H4 : Hp} (S : Nat → Hp → Prop) (h0 : S 0 H4) (hT : ∀ j H, j ≤ ys.length → S j H → SqL K H b ys)
    (hs : ∀ j x H, ys[j]? = some x → S j H → g1 x (wipe σ2 vs1) H fun σ3 H5 => wipe σ3 vs1 = wipe σ2 vs1 ∧ tt1 σ3 H5 fun c H6 => if c = true then te σ3 H6 fun y H7 => ∃ acc, H7 D = some (.lst acc) ∧ acc.length < sizeLine ∧ S (j + 1) (upd H7 D (.lst (acc ++ [y]))) else S (j + 1) H6)
    (hd : ∀ H, S ys.length H → Nx H) : LcIn (Itl K b) g1 tt1 te vs1 D σ2 Nx H4 := by
  refine ⟨fun j m H => m = ys.length - j ∧ j ≤ ys.length ∧ S j H, ⟨_, rfl, Nat.zero_le _, h0⟩, ?_⟩
  rintro j m H ⟨rfl, hj, p⟩
  have t := hT j H hj p
  by_cases lt : j < ys.length
  · refine .inr ⟨⟨ys, ys[j], t, List.getElem?_eq_getElem lt⟩, S (j + 1), fun H' p' => ⟨_, by omega, rfl, lt, p'⟩, ?_⟩
    rintro v H' ⟨rfl, hx⟩
    exact hs j v _ (hx ys t) p
  · obtain rfl : j = ys.length := by omega
    exact .inl ⟨⟨ys, t, Nat.le_refl _⟩, hd H p⟩
theorem in_tup {K : PySem.W.Frag} {b : Addr} {ys : List V} {g1 : TG} {tt1 : TT} {te : TE} {vs1 : List Nat} {D : Addr} {σ2 : L2.St} {Nx : Hp → Prop} {H4 : Hp} (S : Nat → Hp → Prop) (h0 : S 0 H4) (hT : ∀ j H, j ≤ ys.length → S j H → SqT K H b ys)
    (hs : ∀ j x H, ys[j]? = some x → S j H → g1 x (wipe σ2 vs1) H fun σ3 H5 => wipe σ3 vs1 = wipe σ2 vs1 ∧ tt1 σ3 H5 fun c H6 => if c = true then te σ3 H6 fun y H7 => ∃ acc, H7 D = some (.lst acc) ∧ acc.length < sizeLine ∧ S (j + 1) (upd H7 D (.lst (acc ++ [y]))) else S (j + 1) H6)
    (hd : ∀ H, S ys.length H → Nx H) : LcIn (Itt K b) g1 tt1 te vs1 D σ2 Nx H4 := by
  refine ⟨fun j m H => m = ys.length - j ∧ j ≤ ys.length ∧ S j H, ⟨_, rfl, Nat.zero_le _, h0⟩, ?_⟩
  rintro j m H ⟨rfl, hj, p⟩
  have t := hT j H hj p
  by_cases lt : j < ys.length
  · refine .inr ⟨⟨ys, ys[j], t, List.getElem?_eq_getElem lt⟩, S (j + 1), fun H' p' => ⟨_, by omega, rfl, lt, p'⟩, ?_⟩
    rintro v H' ⟨rfl, hx⟩
    exact hs j v _ (hx ys t) p
  · obtain rfl : j = ys.length := by omega
    exact .inl ⟨⟨ys, t, Nat.le_refl _⟩, hd H p⟩
theorem lc2_tup {K : PySem.W.Frag} {a : Addr} {xs : List V} {σ : L2.St} {g g1 : TG} {tt tt1 : TT} {wi1 : TI} {te : TE} {vs vs1 : List Nat} {D : Addr} {H0 : Hp} {Qd : Hp → Prop} (P : Nat → Hp → Prop) (h0 : P 0 H0) (hT : ∀ i H, i ≤ xs.length → P i H → SqT K H a xs)
    (hs : ∀ i x H, xs[i]? = some x → P i H → g x (wipe σ vs) H fun σ2 H2 => wipe σ2 vs = wipe σ vs ∧ tt σ2 H2 fun b H3 => if b = true then wi1 σ2 H3 fun J1 H4 => LcIn J1 g1 tt1 te vs1 D σ2 (P (i + 1)) H4 else P (i + 1) H3)
    (hd : ∀ H, P xs.length H → Qd H) :
    ∃ W : Nat → Nat → Hp → Prop, (∃ m, W 0 m H0) ∧ ∀ i m H, W i m H → ((Itt K a).stop i H ∧ Qd H) ∨ ((Itt K a).go i H ∧ ∃ Nx : Hp → Prop, (∀ H', Nx H' → ∃ m', m' < m ∧ W (i + 1) m' H') ∧ ∀ x H', (Itt K a).yld i H x H' → g x (wipe σ vs) H' fun σ2 H2 => wipe σ2 vs = wipe σ vs ∧ tt σ2 H2 fun b H3 =>
      if b = true then wi1 σ2 H3 fun J1 H4 => LcIn J1 g1 tt1 te vs1 D σ2 Nx H4 else Nx H3) := by
  refine ⟨fun i m H => m = xs.length - i ∧ i ≤ xs.length ∧ P i H, ⟨_, rfl, Nat.zero_le _, h0⟩, ?_⟩
  rintro i m H ⟨rfl, hi, p⟩
  have t := hT i H hi p
  by_cases lt : i < xs.length
  · refine .inr ⟨⟨xs, xs[i], t, List.getElem?_eq_getElem lt⟩, P (i + 1), fun H' p' => ⟨_, by omega, rfl, lt, p'⟩, ?_⟩
    rintro v H' ⟨rfl, hx⟩
    exact hs i v _ (hx xs t) p
  · obtain rfl : i = xs.length := by omega
    exact .inl ⟨⟨xs, t, Nat.le_refl _⟩, hd H p⟩
theorem lc2_list {K : PySem.W.Frag} {a : Addr} {xs : List V} {σ : L2.St} {g g1 : TG} {tt tt1 : TT} {wi1 : TI} {te : TE} {vs vs1 : List Nat} {D : Addr} {H0 : Hp} {Qd : Hp → Prop} (P : Nat → Hp → Prop) (h0 : P 0 H0) (hT : ∀ i H, i ≤ xs.length → P i H → SqL K H a xs)
    (hs : ∀ i x H, xs[i]? = some x → P i H → g x (wipe σ vs) H fun σ2 H2 => wipe σ2 vs = wipe σ vs ∧ tt σ2 H2 fun b H3 => if b = true then wi1 σ2 H3 fun J1 H4 => LcIn J1 g1 tt1 te vs1 D σ2 (P (i + 1)) H4 else P (i + 1) H3)
    (hd : ∀ H, P xs.length H → Qd H) :
    ∃ W : Nat → Nat → Hp → Prop, (∃ m, W 0 m H0) ∧ ∀ i m H, W i m H → ((Itl K a).stop i H ∧ Qd H) ∨ ((Itl K a).go i H ∧ ∃ Nx : Hp → Prop, (∀ H', Nx H' → ∃ m', m' < m ∧ W (i + 1) m' H') ∧ ∀ x H', (Itl K a).yld i H x H' → g x (wipe σ vs) H' fun σ2 H2 => wipe σ2 vs = wipe σ vs ∧ tt σ2 H2 fun b H3 =>
      if b = true then wi1 σ2 H3 fun J1 H4 => LcIn J1 g1 tt1 te vs1 D σ2 Nx H4 else Nx H3) := by
  refine ⟨fun i m H => m = xs.length - i ∧ i ≤ xs.length ∧ P i H, ⟨_, rfl, Nat.zero_le _, h0⟩, ?_⟩
  rintro i m H ⟨rfl, hi, p⟩
  have t := hT i H hi p
  by_cases lt : i < xs.length
  · refine .inr ⟨⟨xs, xs[i], t, List.getElem?_eq_getElem lt⟩, P (i + 1), fun H' p' => ⟨_, by omega, rfl, lt, p'⟩, ?_⟩
    rintro v H' ⟨rfl, hx⟩
    exact hs i v _ (hx xs t) p
  · obtain rfl : i = xs.length := by omega
    exact .inl ⟨⟨xs, t, Nat.le_refl _⟩, hd H p⟩
end My
/-! dicts whose keys are tuples: values() walked; {k: v for ..} of any keys -/
namespace My
open PySem PySem.Spec L2 PyProof.Rows
section
variable {X : Cx} {pins : List (Addr × Obj)} {σ : L2.St} {H : Hp} {s : Shared} {d : Addr} {o : Obj}
/-- a locked dict with tuple keys: its entries' values -/
theorem frzTv {kvs : List (List Key × V)} (I : Inv X pins σ H s) (h : H d = some (.frz o (.dT kvs))) :
    (d == sysModules) = false ∧ s.heap.get? d = some o ∧ o.ExactDict ∧ ∃ (es : Array DictEntry) (ep : Nat), o.data = .dict es ep ∧ es.size = kvs.length ∧
      ∀ (i : Nat) (hi : i < es.size), ∃ k v, kvs[i]? = some (k, v) ∧ RelV v es[i].val := by
  obtain ⟨hd, z, hs, xs, pr, ob, es, ep, ho, hx, hdt, he, _⟩ := I.hok d _ h
  rw [hd] at ho
  cases ho
  have n1 : es.size = xs.length := size_of_entries he
  have n2 : kvs.length = xs.length := Paired.length pr
  refine ⟨hs, hd, hx, es, ep, hdt, by omega, fun i hi => ?_⟩
  obtain ⟨⟨k, v⟩, hkv⟩ : ∃ p, kvs[i]? = some p := ⟨kvs[i]'(by omega), List.getElem?_eq_getElem _⟩
  obtain ⟨b, hb, _, _, hv⟩ := paired_get pr hkv
  have q := entry_at he i
  rw [hb, Array.getElem?_eq_getElem hi] at q
  refine ⟨k, v, hkv, ?_⟩
  rw [Option.some.inj q]
  exact hv
end
/-- the values, in their order -/
def Itvt (d : Addr) (o : Obj) (kvs : List (List Key × V)) : It :=
  ⟨fun i H => H d = some (.frz o (.dT kvs)) ∧ i < kvs.length, fun i H x H' => H' = H ∧ ∃ k, kvs[i]? = some (k, x), fun i H => H d = some (.frz o (.dT kvs)) ∧ kvs.length ≤ i⟩
theorem turnVt {P : Program} {w : World} {K : PySem.W.Frag} {tg : Expr} {d : Addr} {o : Obj} {es : Array DictEntry} {ep : Nat} {kvs : List (List Key × V)} (it : Addr) (hod : o.data = .dict es ep) : Turn P w K tg (Itvt d o kvs) [it] it (fun i h => h.IsValIter it d i es.size ep) where
  mem := by simp
  obj := fun i h st b hb => by
    obtain rfl : b = it := List.mem_singleton.mp hb
    obtain ⟨oi, e, _, dd⟩ := st
    exact ⟨oi, e, fun v z => by rw [dd] at z; cases z⟩
  keep := fun i h h' st k => st.at fun oi e => k it (.head _) oi e
  item := by
    intro X hP hw hK hc i pins s σ H E I hf st hg
    subst hP hw hK
    obtain ⟨f0, f1, f2, f3, f4, f5⟩ := hf it (.head _)
    obtain ⟨hs, hgd, hx, es', ep', hdt, hsz, ent⟩ := frzTv I hg.1
    obtain ⟨rfl, rfl⟩ := dict_ep hod hdt
    have hi : i < es'.size := by rw [hsz]; exact hg.2
    obtain ⟨k, v, hkv, rv⟩ := ent i hi
    refine PySem.wpAny_pyNext_values_item_raw st ⟨o, hgd, hx, hdt⟩ hi fun h' st' sb => ?_
    have I1 : Inv X pins σ H { s with heap := h' } := I.turned (t' := s.toks) (fun b ob hb e => (sb.2 b hb).trans e) f0 f1 f3 f4 f5
    obtain ⟨oi, e, c, dd⟩ := id st'
    exact ⟨_, rfl, go_of (s := { s with heap := h' }) e c dd (by decide) ⟨v, H, I1, rv, ⟨rfl, k, hkv⟩, st', fun b hb => (hf b hb).1⟩⟩
  done := by
    intro X hP hw hK hc i pins s σ H E I hf st hg
    subst hP hw hK
    obtain ⟨f0, f1, f2, f3, f4, f5⟩ := hf it (.head _)
    obtain ⟨hs, hgd, hx, es', ep', hdt, hsz, _⟩ := frzTv I hg.1
    obtain ⟨rfl, rfl⟩ := dict_ep hod hdt
    exact PySem.wpAny_pyNext_values_end_raw (I.ok.hd hc) st ⟨o, hgd, hx, hdt⟩ (by rw [hsz]; exact hg.2) fun h' eb => ⟨rfl, I.turned (t' := s.toks) (fun b ob hb e => eb b ob hb e) f0 f1 f3 f4 f5⟩
  self := fun A i s Q E st h => wpAny_pyIter_valiter st h
/-- for v in e.values(), the dict locked -/
def iValsT (td : TE) : TI := fun σ H R => td σ H fun x H1 => ∃ d o kvs, x = .ref d ∧ H1 d = some (.frz o (.dT kvs)) ∧ R (Itvt d o kvs) H1
section
variable {X : Cx} {tg e : Expr} {td : TE} {apos cpos : Pos}
theorem pi_valuesT (he : PE X e td) (hbase : attributeBase e "values" X.env (eval e X.env) = eval e X.env := by rfl) (hline : (apos.endLine == cpos.line) = true := by rfl) : PI X tg (.Call (.Attribute e "values" apos) [] [] cpos) (iValsT td) := by
  refine ⟨fun pins s σ H R I h => ?_⟩
  refine wpAny_Call_method (T := "dict") (id := "dict.values") hbase rfl hline F.plainAttrs_dict F.slot_dict_values F.type_dict_values (thn (he.run pins s σ H _ I h) fun u s1 ⟨x, H1, I1, rx, d, o, kvs, ex, hd, q⟩ => ?_)
  subst ex
  obtain rfl : u = Value.ref d := rx
  obtain ⟨hs, hgd, hx, es, ep, hdt, _, _⟩ := frzTv I1 hd
  have raw : s1.heap.DictRaw d es ep := ⟨o, hgd, hx, hdt⟩
  have ty : s1.TypeIs (.ref d) "dict" := ⟨o, hgd, hx.1⟩
  refine ⟨ty, (fun a ea => by cases ea; exact ⟨o, hgd, hx.2.1⟩), ?_⟩
  have I2 : Inv X pins σ H1 { s1 with heap := s1.heap.push { cls := .type "dict_values", data := .fields #[.ref d] } } := I1.kept (t' := s1.toks) fun b ob q => Heap.get?_push_of_some _ q
  have fin : wpAny (model X.prog X.w) X.A (pyIter (.ref s1.heap.objs.size)) (PIE X pins σ tg R) X.xe { s1 with heap := s1.heap.push { cls := .type "dict_values", data := .fields #[.ref d] } } :=
    PySem.wpAny_pyIter_values_raw (d := d) ⟨_, Heap.get?_push_size _ rfl, rfl, rfl⟩ (raw.at fun o e => Heap.get?_push_of_some _ e) (pi_one (tk := s1.toks) I2 _ (turnVt _ hdt) ⟨_, Heap.get?_push_size _ rfl, rfl, rfl⟩ q)
  show wpAny _ _ (callWith cpos (.builtin "dict.values") [.ref d] [] []) _ X.xe s1
  exact method_meetsIn F.slot_dict_values F.entry_dict_values rfl (PySem.evalArgs_none ⟨rfl, ty, F.args_dict_values_1 _, _, PySem.meets_dict_values_raw d hs, ⟨⟨_, _, raw⟩, fin⟩⟩)
end
/-! ### {k: v for ..}, whatever the keys are -/
/-- what d[y] = z makes of the heap, at D; the model's own store does it -/
structure PutOk (P : Program) (w : World) (K : PySem.W.Frag) (n : Nat) (put : Addr → V → V → Hp → Hp → Prop) : Prop where
  run : ∀ {X : Cx} (_ : X.prog = P) (_ : X.w = w) (_ : X.K = K) (_ : X.A.units + n < cLine) {pins : List (Addr × Obj)} {σ : L2.St} {H H' : Hp} {s : Shared} {E : Value → Shared → Prop} {D : Addr} {y z : V} {u r : Value} {Q : Unit → Shared → Prop},
    Inv X pins σ H s → put D y z H H' → RelV y u → RelV z r → (∀ s', Inv X pins σ H' s' → Q () s') → wpAny (model X.prog X.w) X.A (dictSet D u r) Q E s
/-- a tuple of ints and texts as a key -/
def putT (D : Addr) (y z : V) (H H' : Hp) : Prop := ∃ kvs k b, H D = some (.dT kvs) ∧ y = .ref b ∧ H b = some (.tup (k.map kV)) ∧ kvs.length < sizeLine ∧ H' = upd H D (.dT (putK kvs k z))
theorem putT_ok {P : Program} {w : World} {K : PySem.W.Frag} : PutOk P w K 1 putT := ⟨fun {X} _ _ _ hu {pins σ H H' s E D y z u r Q} I p ry rz h => by
  obtain ⟨kvs, k, b, e, rfl, eb, l, rfl⟩ := p
  cases (show u = Value.ref b from ry)
  obtain ⟨zz, hd, xs, rel, dd⟩ := dt_of I.hok e
  have hz : xs.length ≤ sizeLine := by rw [← Paired.length rel]; exact zz
  have hl : (putK kvs k z).length ≤ sizeLine := by have := length_putK kvs k z; omega
  refine wpAny_dictSet_heap (hsz := hz) (show X.A.units < cLine by omega) (key_of I.hok eb) dd fun h' dd' hs => h _ ?_
  obtain ⟨q, es, ep, hq, h2, h3, h4, _, h5⟩ := dd'
  refine d_write I (by rw [e]; exact True.intro) hs ⟨q, hq⟩ ⟨hl, hd, _, (rel.put k eb rz).keeps fun c ys ec => ?_, q, es, ep, hq, h2, h3, h4, h5⟩
  rw [upd_ne (ne_of ec e (fun z => nomatch z))]
  exact ec⟩
section
variable {X : Cx}
def tDcG (o0 : Addr → HO) (put : Addr → V → V → Hp → Hp → Prop) (wi : TI) (g : TG) (tt : TT) (tk tv : TE) (vs : List Nat) : TE := fun σ H Q => wi σ H fun J H1 => ∀ D, H1 D = none → ∃ W : Nat → Nat → Hp → Prop, (∃ m, W 0 m (upd H1 D (o0 D))) ∧ ∀ i m H, W i m H →
  (J.stop i H ∧ Q (.ref D) H) ∨ (J.go i H ∧ ∃ Nx : Hp → Prop, (∀ H', Nx H' → ∃ m', m' < m ∧ W (i + 1) m' H') ∧ ∀ x H', J.yld i H x H' → g x (wipe σ vs) H' fun σ2 H2 => wipe σ2 vs = wipe σ vs ∧ tt σ2 H2 fun b H3 =>
    if b = true then tk σ2 H3 fun y H4 => tv σ2 H4 fun z H5 => ∃ H6, put D y z H5 H6 ∧ Nx H6 else Nx H3)
theorem dcG_core {o0 : Addr → HO} {put : Addr → V → V → Hp → Hp → Prop} {n : Nat} (po : PutOk X.prog X.w X.K n put) (hu : X.A.units + n < cLine) (o0n : ∀ {H : Hp} (h : Heap), sysModules < h.objs.size → ObjOk X.prog X.w H (h.push { cls := .type "dict", data := .dict #[] }) h.objs.size (o0 h.objs.size))
    {pins : List (Addr × Obj)} {s : Shared} {σ : L2.St} {H : Hp} {Q : VK} {kx vx tg iter : Expr} {ifs : List Expr} {scope : Scope} {own : List (Str × Nat)} {pos pos' : Pos} {wi : TI} {g : TG} {tt : TT} {tk tv : TE} {use : Option (Value → Sem Unit)} {Qf : Value → Shared → Prop}
    (hc : X.calm = true) (hN : X.N.Nodup) (I : Inv X pins σ H s) (hi : PI X tg iter wi) (ok : BlkOk X.N X.env.scope scope own)
    (hg : ∀ (s : Shared) (H : Hp) (C : Addr) (cl : List (Str × Addr)) (fp : List Addr), PG (X.blk s H scope (compEnvC scope cl C X.env) fp) tg g) (ht : ∀ (s : Shared) (H : Hp) (C : Addr) (cl : List (Str × Addr)) (fp : List Addr), PTs (X.blk s H scope (compEnvC scope cl C X.env) fp) ifs tt)
    (hk : ∀ (s : Shared) (H : Hp) (C : Addr) (cl : List (Str × Addr)) (fp : List Addr), PE (X.blk s H scope (compEnvC scope cl C X.env) fp) kx tk)
    (he : ∀ (s : Shared) (H : Hp) (C : Addr) (cl : List (Str × Addr)) (fp : List Addr), PE (X.blk s H scope (compEnvC scope cl C X.env) fp) vx tv) (hs : ∀ x, foldedSetIterable iter X.env x = pure x)
    (h : tDcG o0 put wi g tt tk tv (own.map (·.2)) σ H Q)
    (hRR : ∀ D C s' m H', Inv X pins σ H' s' → Q (.ref D) H' → s'.heap.Ns C m → FpOk X pins H' C → compPost (model X.prog X.w) X.A X.xe use Qf (.ref D) C (.ok .next) s') :
    wpAny (model X.prog X.w) X.A (comprehension (.DictComp kx vx [⟨tg, iter, ifs, 0⟩] scope pos) scope X.env pos' newDict false (eval iter X.env) use) Qf X.xe s := by
  have hfree : ∀ y ∈ scope.names, y.2 = .free → ∃ c, X.env.cells.lookup y.1 = some c := fun y hy e =>
    (ok.free y hy e).elim (fun k => I.ok.has _ (.inl k)) (fun k => I.ok.has _ (.inr k))
  refine wpAny_comprehension_free (use := use) rfl hs (closure_ok hfree) ok.kind (fun y hy e => by rw [ok.uniq y hy, e]) (thn (hi.run pins s σ H _ I h) fun xv s1 hx => thn hx fun itv s2 h2 => ?_)
  obtain ⟨it, fp, tn, J, H2, rfl, I2, T, st2, f2, q⟩ := h2
  refine wpAny_newObj_type (newEnv_comp ?_)
  generalize hD : s2.heap.objs.size = D
  have hDn : H2 D = none := I2.hok.fresh (Nat.le_of_eq hD)
  obtain ⟨W, ⟨m0, w0⟩, turn⟩ := q D hDn
  generalize hs3 : ({ s2 with heap := s2.heap.push { cls := .type "dict", data := .dict #[] } } : Shared) = s3
  have I3 : Inv X pins σ (upd H2 D (o0 D)) s3 := by
    rw [← hs3]
    refine I2.laid (t' := s2.toks) (fun b o e => Heap.get?_push_of_some _ e) (Nat.le_of_eq hD) ?_
    rw [← hD]
    exact o0n s2.heap I2.big
  have h3 : s3.heap = s2.heap.push { cls := .type "dict", data := .dict #[] } := by rw [← hs3]
  have sz : ∀ b ∈ fp, b < s2.heap.objs.size := fun b hb => let ⟨o, e, _⟩ := T.obj _ _ st2 b hb; Heap.lt_size e
  have f3 : ∀ b ∈ fp, FpOk X pins (upd H2 D (o0 D)) b ∧ b < s3.heap.objs.size := fun b hb =>
    ⟨⟨by rw [upd_ne (by rw [← hD]; exact Nat.ne_of_lt (sz b hb))]; exact (f2 b hb).1, (f2 b hb).2⟩, by rw [h3, Heap.size_push]; exact Nat.lt_succ_of_lt (sz b hb)⟩
  have st3 : tn 0 s3.heap := T.keep _ _ _ st2 fun b _ o e => by rw [h3]; exact Heap.get?_push_of_some _ e
  have I4 := block_start I3 ok hN f3
  have pg := hg s3 (upd H2 D (o0 D)) s3.heap.objs.size (cellsFrom (s3.heap.objs.size + 1) scope.names (cloFrom X.env.cells scope.names [])) fp
  have pt := ht s3 (upd H2 D (o0 D)) s3.heap.objs.size (cellsFrom (s3.heap.objs.size + 1) scope.names (cloFrom X.env.cells scope.names [])) fp
  have pk := hk s3 (upd H2 D (o0 D)) s3.heap.objs.size (cellsFrom (s3.heap.objs.size + 1) scope.names (cloFrom X.env.cells scope.names [])) fp
  have pe := he s3 (upd H2 D (o0 D)) s3.heap.objs.size (cellsFrom (s3.heap.objs.size + 1) scope.names (cloFrom X.env.cells scope.names [])) fp
  show codeAny _ _ (.compStart (.DictComp kx vx [⟨tg, iter, ifs, 0⟩] scope pos) 0 (.ref it) (.ref D) (compEnvC scope (cellsFrom (s3.heap.objs.size + 1) scope.names (cloFrom X.env.cells scope.names [])) s3.heap.objs.size X.env)) (compPost (model X.prog X.w) X.A X.xe use Qf (.ref D) s3.heap.objs.size) { s3 with heap := pushCells (s3.heap.push { cls := .type "dict", data := .dict #[] }) scope.names }
  have nfp : ∀ b ∈ fp, (upd H2 D (o0 D)) b = none := fun b hb => (f3 b hb).1.1
  generalize hce : compEnvC scope (cellsFrom (s3.heap.objs.size + 1) scope.names (cloFrom X.env.cells scope.names [])) s3.heap.objs.size X.env = ce at I4 pg pt pk pe ⊢
  have cL : ce.locals = s3.heap.objs.size := by subst hce; rfl
  generalize hH3 : upd H2 D (o0 D) = H3 at I3 I4 pg pt pk pe w0 nfp f3
  generalize hs4 : ({ s3 with heap := pushCells (s3.heap.push { cls := .type "dict", data := .dict #[] }) scope.names } : Shared) = s4 at I4 ⊢
  have st4 : tn 0 s4.heap := T.keep _ _ _ st3 fun b _ o e => by rw [← hs4]; exact pushCells_keeps _ _ _ _ (Heap.get?_push_of_some _ e)
  have stat : ∀ {σ' : L2.St} {H' : Hp} {s' : Shared}, Inv (X.blk s3 H3 scope ce fp) [] σ' H' s' → (∀ b ∈ fp, H' b = none) → ∀ b ∈ fp, FpOk (X.blk s3 H3 scope ce fp) [] H' b := fun {σ' H' s'} I' hn b hb =>
    ⟨hn b hb, (I'.ok.exf b hb).1, I'.ok.exfs b hb, .inl hb, fun x c e => (I'.ok.exf b hb).2 x c e, fun p hp => absurd (show p ∈ ([] : List (Addr × Obj)) ++ [] from hp) (by simp)⟩
  refine (fun loop => codeAny_compStart_dict loop (T.self X.A 0 _ _ _ st4 loop)) ?_
  refine compLoop_anyD (fun n s' => ∃ i H', Inv (X.blk s3 H3 scope ce fp) [] (wipe σ (own.map (·.2))) H' s' ∧ tn i s'.heap ∧ (∀ b ∈ fp, H' b = none) ∧ W i n H') ?_ m0 ⟨0, H3, I4, st4, nfp, w0⟩
  rintro n s5 ⟨i, H5, I5, st5, n5, w5⟩
  rcases turn i n H5 w5 with ⟨stop, qq⟩ | ⟨go, Nx, hNx, step⟩
  · refine thnF (T.done (X.blk s3 H3 scope ce fp) rfl rfl rfl hc i [] s5 _ H5 (fun _ _ => False) I5 (stat I5 n5) st5 stop) fun r s6 ⟨hr, I6⟩ => ?_
    subst hr
    have I7 : Inv X pins σ H5 s6 := I3.call' (ch := fp) I6.os I6.base I6.hok I6.bare fun b hb => ⟨(f3 b hb).1.2.2.2.1, (f3 b hb).1.2.1, (f3 b hb).1.2.2.2.2.1, (f3 b hb).1.2.2.2.2.2⟩
    have nC : H5 s3.heap.objs.size = none := by rw [← cL]; exact I6.free
    obtain ⟨m, hn, _⟩ := I6.loc
    have hn : s6.heap.Ns ce.locals m := hn
    rw [cL] at hn
    exact hRR D s3.heap.objs.size s6 m H5 I7 qq hn (I3.fpOk (Nat.le_refl _) nC)
  · refine thnF (T.item (X.blk s3 H3 scope ce fp) rfl rfl rfl hc i [] s5 _ H5 (fun _ _ => False) I5 (stat I5 n5) st5 go) fun r s6 ⟨u, hr, h6⟩ => ?_
    subst hr
    refine thnF h6 fun _ s7 ⟨x, H7, I7, r7, y7, st7, n7⟩ => ?_
    have I7' := I7.pinned (stat I7 n7) (T.obj _ _ st7)
    refine thnF (pg.run _ s7 _ H7 x u _ I7' r7 (step x H7 y7)) fun _ s8 ⟨σ8, H8, I8, hw8, q8⟩ => ?_
    refine thnF (pt.run _ s8 σ8 H8 _ I8 q8) fun b s9 ⟨H9, I9, q9⟩ => ?_
    have fin : ∀ {s' : Shared} {H' : Hp}, Inv (X.blk s3 H3 scope ce fp) ([] ++ pinsAt fp s7.heap) σ8 H' s' → Nx H' → ∃ m, m < n ∧ ∃ i H', Inv (X.blk s3 H3 scope ce fp) [] (wipe σ (own.map (·.2))) H' s' ∧ tn i s'.heap ∧ (∀ b ∈ fp, H' b = none) ∧ W i m H' := fun {s' H'} I' nx => by
      obtain ⟨m', hm, w'⟩ := hNx H' nx
      have pin' : ∀ b ∈ fp, ∀ o, s7.heap.get? b = some o → s'.heap.get? b = some o ∧ H' b = none := fun b hb o e =>
        let z := I'.pin (b, o) (List.mem_append_right _ (List.mem_append_right _ (mem_pinsAt hb e)))
        ⟨z.1, z.2.1⟩
      refine ⟨m', hm, i + 1, H', (I'.unpinned (pins := [])).weak (by rw [← hw8, wipe_length]) (fun j v e => ?_), T.keep _ _ _ st7 fun b hb o e => (pin' b hb o e).1, fun b hb => ?_, w'⟩
      · rw [← hw8] at e
        exact (wipe_some e).1
      · obtain ⟨o, e, _⟩ := T.obj _ _ st7 b hb
        exact (pin' b hb o e).2
    cases b with
    | false => exact fin I9 q9
    | true =>
      refine thnF (pk.run _ s9 σ8 H9 _ I9 q9) fun z s10 ⟨yk, H10, I10, r10, q10⟩ => ?_
      refine thnF (pe.run _ s10 σ8 H10 _ I10 q10) fun z2 s11 ⟨yv, H11, I11, r11, H12, hp, nx⟩ => ?_
      exact po.run (X := X.blk s3 H3 scope ce fp) rfl rfl rfl hu I11 hp r10 r11 fun s12 I12 => fin I12 nx
/-- as a value -/
theorem pe_dcG {o0 : Addr → HO} {put : Addr → V → V → Hp → Hp → Prop} {n : Nat} (po : PutOk X.prog X.w X.K n put) (hu : X.A.units + n < cLine) (o0n : ∀ {H : Hp} (h : Heap), sysModules < h.objs.size → ObjOk X.prog X.w H (h.push { cls := .type "dict", data := .dict #[] }) h.objs.size (o0 h.objs.size))
    {kx vx tg iter : Expr} {ifs : List Expr} {scope : Scope} {own : List (Str × Nat)} {pos : Pos} {wi : TI} {g : TG} {tt : TT} {tk tv : TE} (hc : X.calm = true) (hN : X.N.Nodup) (hi : PI X tg iter wi) (ok : BlkOk X.N X.env.scope scope own)
    (hg : ∀ (s : Shared) (H : Hp) (C : Addr) (cl : List (Str × Addr)) (fp : List Addr), PG (X.blk s H scope (compEnvC scope cl C X.env) fp) tg g) (ht : ∀ (s : Shared) (H : Hp) (C : Addr) (cl : List (Str × Addr)) (fp : List Addr), PTs (X.blk s H scope (compEnvC scope cl C X.env) fp) ifs tt)
    (hk : ∀ (s : Shared) (H : Hp) (C : Addr) (cl : List (Str × Addr)) (fp : List Addr), PE (X.blk s H scope (compEnvC scope cl C X.env) fp) kx tk)
    (he : ∀ (s : Shared) (H : Hp) (C : Addr) (cl : List (Str × Addr)) (fp : List Addr), PE (X.blk s H scope (compEnvC scope cl C X.env) fp) vx tv) (hs : ∀ x, foldedSetIterable iter X.env x = pure x := by intro _; rfl) :
    PE X (.DictComp kx vx [⟨tg, iter, ifs, 0⟩] scope pos) (tDcG o0 put wi g tt tk tv (own.map (·.2))) := by
  refine ⟨fun pins s σ H Q I h => ?_⟩
  rw [arm_eval_DictComp]
  refine dcG_core po hu o0n hc hN I hi ok hg ht hk he hs h fun D C s' m H' I' q hn f => ⟨m, hn, fun h'' sb => ?_⟩
  obtain ⟨f0, f1, f2, f3, f4, f5⟩ := f
  exact ⟨.ref D, H', I'.turned (t' := s'.toks) (fun b o hb e => (sb.2 b hb).trans e) f0 f1 f3 f4 f5, rfl, q⟩
theorem dT0 {P : Program} {w : World} {H : Hp} (h : Heap) (hb : sysModules < h.objs.size) : ObjOk P w H (h.push { cls := .type "dict", data := .dict #[] }) h.objs.size (.dT []) := dt_empty h hb
end
end My
/-! max(xs, default=k) of any list of ints; t < u of two tuples of ints -/
namespace My
open PySem PySem.Spec L2 PyProof.Rows
open Sem (wp)
section
variable {P0 : Program} {w0 : World} {B : Around} {Res : Result → Shared → Prop} {it : Addr} {fpr wri : List Addr} {Pi : Nat → Value → Prop} {Sti : Nat → Heap → Prop}
theorem mxd_none (Wk : Walks P0 w0 B.in1 it fpr wri 0 Pi Sti) (b : Addr) (bf : b ∉ fpr) {z : Shared} {cap : Nat} {d : Value} (st : Sti 0 z.heap)
    (hb : z.heap.get? b = some { cls := .type "list", dict := none, data := .seq #[] cap, slots := #[] })
    (hR : ∀ hp tk, (∀ a o, a ∉ wri → a ≠ b → z.heap.get? a = some o → hp.get? a = some o) → Res (.ok (.ret d)) { z with heap := hp, toks := tk }) :
    codeAny (model P0 w0) B (.builtin "max.loop" ⟨[.ref it, .none, .ref b], [(Str.ofString "default", d)]⟩) Res z := by
  refine codeAny_builtin F.entry_max_loop ?_
  rw [Around.under_plainId F.plain_max_loop _]
  show wpAny _ B.in1 (seqItems? (.ref b) >>= _) _ _ z
  refine wpAny_bind (wpAny_seqItems hb rfl ?_)
  show wpAny _ B.in1 (tryCatch (pyNext (.ref it)) _ >>= _) _ _ z
  refine wpAny_bind (wpAny_tryCatch (Wk.done z _ _ st fun hp tk hk => ?_))
  exact wpAny_bind (wpAny_rule (wpAny_pure (hR _ tk fun a o aw ab e => hk a o aw e)))
end
section
variable {P0 : Program} {w0 : World} {B : Around} {Ex : Value → Shared → Prop} {z : Shared}
theorem mxd_ints0 {l : Addr} {xs : Array (Int × Tok)} {d : Value} {Post : Value → Shared → Prop} (hh : B.handled = none) (hl : z.heap.IsList l (intItems xs)) (hne : xs.size = 0)
    (h : ∀ hp tk, (∀ a o, z.heap.get? a = some o → hp.get? a = some o) → Post d { z with heap := hp, toks := tk }) :
    wpAny (model P0 w0) B (call (.builtin "max") [.ref l] [(Str.ofString "default", d)]) Post Ex z := by
  refine fn_kw F.kind_max F.plain_max F.entry_max (mxd_args _ _) ?_
  show wpAny _ B.in1 (Builtin.Builtins.bindParams "max" ["key", "default"] 0 ⟨[], [(Str.ofString "default", d)]⟩ >>= _) _ _ z
  refine wpAny_bind (wpAny_of_eq (mxd_bind d) (wpAny_bind (wpAny_pure (wpAny_bind (iter_intList hl fun z2 e st hfp hlI => ?_)))))
  subst e
  refine wpAny_bind (wpAny_newObj_type ?_)
  rw [mxd_name]
  have W := Walks.list (prog := P0) (w := w0) (A := B.in1) hh _ l hlI (intItems xs)
  have e0 : (intItems xs).size = 0 := by simpa [intItems] using hne
  rw [e0] at W
  refine wpAny_pure ⟨plainId_quiet F.plain_max_loop _, mxd_none W _ (fun hm => Nat.lt_irrefl _ (hfp _ hm)) (W.frame _ _ _ st fun a _ o e => Heap.get?_push_of_some _ e) (Heap.get?_push_size _ rfl) fun hp tk hk => ?_⟩
  exact h hp tk (old_kept fun a o aw e => hk a o aw (Nat.ne_of_lt (Heap.lt_size e)) (Heap.get?_push_of_some _ e))
theorem mxd_raw0 {l : Addr} {its : List Value} {d : Value} {Post : Value → Shared → Prop} (hh : B.handled = none) (hl : z.heap.IsList l its.toArray) (hi : IntsAre its [])
    (h : ∀ hp tk, (∀ a o, z.heap.get? a = some o → hp.get? a = some o) → Post d { z with heap := hp, toks := tk }) : wpAny (model P0 w0) B (call (.builtin "max") [.ref l] [(Str.ofString "default", d)]) Post Ex z := by
  obtain ⟨ys, e⟩ := hi.allInts.items
  have en : numsOf (intItems ys).toList = [] := by rw [← e]; exact hi.numsOf
  rw [nums_intItems] at en
  rw [e] at hl
  exact mxd_ints0 hh hl (by simpa using congrArg List.length en) h
end
section
variable {X : Cx}
def tMaxE (K : PySem.W.Frag) (te tk : TE) : TE := fun σ H Q => te σ H fun y H1 => tk σ H1 fun d H2 => ∃ (a : Addr) (ns : List Int), y = .ref a ∧ SqL K H2 a (ns.map V.int) ∧ (0 < ns.length → ∀ m, m ∈ ns → (∀ y ∈ ns, y ≤ m) → Q (.int m) H2) ∧ (ns = [] → Q d H2)
/-- max(e, default=k), whether or not there is anything -/
theorem pe_maxE {e ek : Expr} {te tk : TE} {p kpos pos : Pos} (hc : X.calm = true) (hg : Gl X "max") (hm : X.mg "max" = none) (he : PE X e te) (hek : PE X ek tk)
    (hse : starEach [e] X.env = (false, eval e X.env) :: starEach [] X.env := by rfl) (hst : backTo pos (starEach [e] X.env) = (false, eval e X.env) :: backTo pos (starEach [] X.env) := by rfl) (hpl : (backTo pos (starEach [e] X.env)).any (·.1) = false := by rfl) :
    PE X (.Call (.Name "max" p) [e] [⟨some "default", ek, kpos⟩] pos) (tMaxE X.K te tk) := by
  refine ⟨fun pins s σ H Q I h => ?_⟩
  refine wpAny_Call_Name_kw (ld_blt (u := .builtin "max") I hg hm (by decide +kernel) ?_ (by decide) (by decide))
  have ha : PA X [e] (tCons te tNil) := pa_cons he pa_nil hse
  refine PyProof.Rows.callWith_kw (thn (ha.run pos pins s σ H (fun vs H1 => match vs with | [y] => tk σ H1 fun d H2 => ∃ (a : Addr) (ns : List Int), y = V.ref a ∧ SqL X.K H2 a (ns.map V.int) ∧ (0 < ns.length → ∀ m, m ∈ ns → (∀ y ∈ ns, y ≤ m) → Q (.int m) H2) ∧ (ns = [] → Q d H2) | _ => False) I h) fun us s1 ⟨vs, H1, I1, r1, q1⟩ => ?_) hst hpl (by rfl) (by rfl)
  obtain ⟨y, rfl, q1⟩ : ∃ y, vs = [y] ∧ tk σ H1 fun d H2 => ∃ (a : Addr) (ns : List Int), y = V.ref a ∧ SqL X.K H2 a (ns.map V.int) ∧ (0 < ns.length → ∀ m, m ∈ ns → (∀ y ∈ ns, y ≤ m) → Q (.int m) H2) ∧ (ns = [] → Q d H2) := by
    match vs, q1 with
    | [y], z => exact ⟨y, rfl, z⟩
  show wpAny _ _ (evalAll ((do let v ← eval ek X.env; standAt pos; pure v) :: [])) _ _ s1
  refine wpAny_evalAll_cons (wpAny_bind (thn (hek.run _ s1 σ H1 _ I1 q1) fun u s2 ⟨d, H2, I2, rd, a, ns, ey, hs, qn, q0⟩ => wpAny_bind (wpAny_standAt (wpAny_pure (wpAny_evalAll_nil ?_)))))
  cases ey
  obtain rfl := Vals.ref1 r1
  obtain ⟨its, rv, hl, _⟩ := I2.list hs
  show wpAny _ _ (call (.builtin "max") [.ref a] [(Str.ofString "default", u)]) _ _ s2
  by_cases hne : 0 < ns.length
  · exact mxd_raw (I2.ok.hd hc) hl.isList rv.ints hne fun h' tk m t' hk h1 h2 => ⟨.int _, H2, I2.kept hk, ⟨_, rfl⟩, qn hne m h1 h2⟩
  · have e0 : ns = [] := List.length_eq_zero_iff.mp (by omega)
    subst e0
    exact mxd_raw0 (I2.ok.hd hc) hl.isList rv.ints fun h' tk hk => ⟨d, H2, I2.kept hk, rd, q0 rfl⟩
/-- t < u, as the first pair that differs says -/
def ltII (ns ms : List Int) : Bool := Ob.lexAt (fun j => decide (ns.getD j 0 = ms.getD j 0)) (fun j => decide (ns.getD j 0 < ms.getD j 0)) (decide (ns.length < ms.length)) 0 (min ns.length ms.length)
def rLtT (K : PySem.W.Frag) : R2 := fun x y H Q => ∃ (a b : Addr) (ns ms : List Int), x = .ref a ∧ y = .ref b ∧ SqT K H a (ns.map V.int) ∧ SqT K H b (ms.map V.int) ∧ Q (.bl (ltII ns ms)) H
theorem op_ltT (hu : X.A.units < cLine) : OpR X (compareOp .Lt) (rLtT X.K) := by
  intro pins s σ H x y v u Q I rx ry h
  obtain ⟨a, b, ns, ms, rfl, rfl, ha, hb, q⟩ := h
  cases rx
  cases ry
  obtain ⟨ws, r1, p1, _⟩ := I.tuple ha
  obtain ⟨us, r2, p2, _⟩ := I.tuple hb
  have i1 : IntsAre ws ns := Vals.ints r1
  have i2 : IntsAre us ms := Vals.ints r2
  have n1 : ws.toArray.size = ns.length := by rw [List.size_toArray]; exact i1.length
  have n2 : us.toArray.size = ms.length := by rw [List.size_toArray]; exact i2.length
  have g1 : ∀ j (h1 : j < ws.toArray.size), ∃ t, ws.toArray[j] = .int (ns.getD j 0) t := fun j h1 => PyProof.Rows.IntsAre.int_at i1 _ _ (by simp at h1; simp [h1])
  have g2 : ∀ j (h1 : j < us.toArray.size), ∃ t, us.toArray[j] = .int (ms.getD j 0) t := fun j h1 => PyProof.Rows.IntsAre.int_at i2 _ _ (by simp at h1; simp [h1])
  have R := Ob.RcOp.tuples_lt (A := X.A) (s := s) (e := fun j => decide (ns.getD j 0 = ms.getD j 0)) (r := fun j => decide (ns.getD j 0 < ms.getD j 0)) p1 p2 hu (fun j h1 h2 => by
    obtain ⟨t, et⟩ := g1 j h1
    obtain ⟨t', et'⟩ := g2 j h2
    rw [et, et', show decide (ns.getD j 0 = ms.getD j 0) = (ns.getD j 0 == ms.getD j 0) by rw [Bool.eq_iff_iff]; simp]
    exact SeqAt.EqAt.int_int _ _ _ _) (fun j h1 h2 _ => by
    obtain ⟨t, et⟩ := g1 j h1
    obtain ⟨t', et'⟩ := g2 j h2
    rw [et, et']
    exact Ob.RcOp.lt_int _ _ _ _)
  rw [n1, n2] at R
  exact R X.prog X.w X.xe (EP X pins σ Q) ⟨.bl _, H, I, rfl, q⟩
theorem ltII2 (a b c d : Int) : ltII [a, b] [c, d] = decide (a < c ∨ (a = c ∧ b < d)) := by
  unfold ltII
  simp only [List.length_cons, List.length_nil, Nat.min_self, Nat.zero_add, Nat.lt_irrefl, decide_false]
  rw [Ob.lexAt_succ, Ob.lexAt_succ, Ob.lexAt_zero]
  simp only [List.getD_cons_zero, List.getD_cons_succ, Nat.zero_add]
  by_cases h : a = c
  · subst h
    by_cases h2 : b = d
    · subst h2; simp
    · simp [h2]
  · simp [h]
end
section
variable {X : Cx}
/-- x in a list or a tuple of data -/
def rInE (K : PySem.W.Frag) : R2 := fun x y H Q => ∃ d ds, Dp K H x d ∧ (Dp K H y (.list ds) ∨ Dp K H y (.tuple ds)) ∧ SeqAt.shaped d = true ∧ SeqAt.shaped (.list ds) = true ∧ Q (.bl (ds.any fun z => PyData.eqv z d)) H
theorem op_inE (hu : X.A.units + 65 < cLine) : OpR X (compareOp .In) (rInE X.K) := by
  intro pins s σ H x y v u Q I rx ry h
  obtain ⟨d, ds, hd, he, sd, se, q⟩ := h
  obtain ⟨as, r1⟩ := Dp.reads I d x v hd rx
  rcases he with he | he
  · obtain ⟨bs, r2⟩ := Dp.reads I (.list ds) y u he ry
    exact SeqAt.in_list_reads r2 r1 (SeqAt.canLay_of_shaped se) (SeqAt.canLay_of_shaped sd) (room_in_shaped sd hu) ⟨.bl _, H, I, rfl, q⟩
  · obtain ⟨bs, r2⟩ := Dp.reads I (.tuple ds) y u he ry
    exact SeqAt.in_tuple_reads r2 r1 (SeqAt.canLay_of_shaped se) (SeqAt.canLay_of_shaped sd) (room_in_shaped sd hu) ⟨.bl _, H, I, rfl, q⟩
end
end My
/-! dicts whose keys are tuples of any depth, told by their keys, the keys' addresses and their values -/
namespace My
open PySem PySem.Spec L2 PyProof.Rows
/-! ### a key as data -/
mutual
def nk : PyData → NestedKey
  | .none => .none
  | .bool b => .num (if b = true then 1 else 0)
  | .int i => .num i
  | .str x => .text x
  | .tuple ds => .tup (nks ds)
  | .list _ => .none
  | .dict _ => .none
def nks : List PyData → List NestedKey
  | [] => []
  | d :: ds => nk d :: nks ds
end
section
variable {X : Cx} {pins : List (Addr × Obj)} {σ : L2.St} {H : Hp} {s : Shared}
mutual
theorem nested_of (I : Inv X pins σ H s) : ∀ {v : V} {d : PyData} {u : Value}, Dp X.K H v d → nlB d = true → RelV v u → NestedIs s.heap (nk d) u
  | _, _, u, .non, _, r => by
    obtain rfl : u = Value.none := r
    exact .none
  | _, _, u, .bl b, _, r => by
    obtain rfl : u = Value.bool b := r
    exact .bool rfl
  | _, _, u, .int i, _, r => by
    obtain ⟨t, rfl⟩ : ∃ t, u = Value.int i t := r
    exact .int i t
  | _, _, u, .str x, _, r => by
    obtain ⟨t, rfl⟩ : ∃ t, u = Value.str x t := r
    exact .text x t
  | _, _, u, .lst _ _, nl, _ => by cases nl
  | _, _, u, @Dp.tup _ _ a xs ds h t, nl, r => by
    obtain rfl : u = Value.ref a := r
    obtain ⟨its, rv, ⟨o, ho, hc, n, hd⟩, _⟩ := I.tuple h
    refine NestedIs.tup ho hc hd ?_
    exact nested_all I t (show nlAll ds = true from nl) rv
theorem nested_all (I : Inv X pins σ H s) : ∀ {vs : List V} {ds : List PyData} {us : List Value}, DpAll X.K H vs ds → nlAll ds = true → Vals vs us → NestedAll s.heap (nks ds) us
  | _, _, _, .nil, _, .nil => .nil
  | _, d :: ds, _, .cons h t, nl, .cons r rs => by
    have nl : (nlB d && nlAll ds) = true := nl
    rw [Bool.and_eq_true] at nl
    exact .cons (nested_of I h nl.1 r) (nested_all I t nl.2 rs)
end
end
mutual
theorem dp_mono {K : PySem.W.Frag} {H H' : Hp} (e : ∀ p xs, SqT K H p xs → SqT K H' p xs) : ∀ {v : V} {d : PyData}, nlB d = true → Dp K H v d → Dp K H' v d
  | _, _, _, .non => .non
  | _, _, _, .bl b => .bl b
  | _, _, _, .int i => .int i
  | _, _, _, .str x => .str x
  | _, .list _, nl, .lst _ _ => by cases nl
  | _, .tuple ds, nl, .tup h t => .tup (e _ _ h) (dps_mono e (show nlAll ds = true from nl) t)
theorem dps_mono {K : PySem.W.Frag} {H H' : Hp} (e : ∀ p xs, SqT K H p xs → SqT K H' p xs) : ∀ {vs : List V} {ds : List PyData}, nlAll ds = true → DpAll K H vs ds → DpAll K H' vs ds
  | _, _, _, .nil => .nil
  | _, d :: ds, nl, .cons h t => by
    have nl : (nlB d && nlAll ds) = true := nl
    rw [Bool.and_eq_true] at nl
    exact .cons (dp_mono e nl.1 h) (dps_mono e nl.2 t)
end
/-- at b stands the tuple that the key is -/
def KeyAt (K : PySem.W.Frag) (H : Hp) (b : Addr) (k : NestedKey) : Prop := ∃ ds, Dp K H (.ref b) (.tuple ds) ∧ nlAll ds = true ∧ k = nk (.tuple ds) ∧ k.depth ≤ 8
theorem KeyAt.mono {K : PySem.W.Frag} {H H' : Hp} {b : Addr} {k : NestedKey} (h : KeyAt K H b k) (e : ∀ p xs, SqT K H p xs → SqT K H' p xs) : KeyAt K H' b k := by
  obtain ⟨ds, h1, h2, h3, h4⟩ := h
  exact ⟨ds, dp_mono e (show nlB (.tuple ds) = true from h2) h1, h2, h3, h4⟩
abbrev KVs := List (NestedKey × Addr × V)
def KeysIn (K : PySem.W.Frag) (H : Hp) (kvs : KVs) : Prop := ∀ p ∈ kvs, KeyAt K H p.2.1 p.1
theorem KeysIn.mono {K : PySem.W.Frag} {H H' : Hp} {kvs : KVs} (h : KeysIn K H kvs) (e : ∀ p xs, SqT K H p xs → SqT K H' p xs) : KeysIn K H' kvs := fun p hp => (h p hp).mono e
def RelN (p : NestedKey × Addr × V) (q : NestedKey × Addr × Value) : Prop := q.1 = p.1 ∧ q.2.1 = p.2.1 ∧ RelV p.2.2 q.2.2
/-- the dict at D -/
def DN (P : Program) (w : World) (D : Addr) (kvs : KVs) : HO := .ext fun h => kvs.length ≤ sizeLine ∧ (D == sysModules) = false ∧ ∃ xs : List (NestedKey × Addr × Value), Paired RelN kvs xs ∧
  ∃ o es ep, h.get? D = some o ∧ o.ExactDict ∧ o.data = .dict es ep ∧ es.toList = xs.map (entryOfKey (nestedKind P w)) ∧ (xs.map (·.1)).Nodup
theorem dn_ok {P : Program} {w : World} {H : Hp} {h : Heap} {D : Addr} {kvs : KVs} (z : kvs.length ≤ sizeLine) (hs : (D == sysModules) = false) {xs : List (NestedKey × Addr × Value)} (pr : Paired RelN kvs xs) {o : Obj} {es : Array DictEntry} {ep : Nat}
    (ho : h.get? D = some o) (hx : o.ExactDict) (hd : o.data = .dict es ep) (he : es.toList = xs.map (entryOfKey (nestedKind P w))) (hn : (xs.map (·.1)).Nodup) : ObjOk P w H h D (DN P w D kvs) :=
  ⟨⟨z, hs, xs, pr, o, es, ep, ho, hx, hd, he, hn⟩, ⟨o, ho⟩, fun h1 h2 ⟨z, hs, xs, pr, o, es, ep, ho, r⟩ k => ⟨z, hs, xs, pr, o, es, ep, k o ho, r⟩⟩
theorem dn_at {P : Program} {w : World} {H : Hp} {h : Heap} {D : Addr} {kvs : KVs} (x : ObjOk P w H h D (DN P w D kvs)) : kvs.length ≤ sizeLine ∧ (D == sysModules) = false ∧ ∃ xs : List (NestedKey × Addr × Value), Paired RelN kvs xs ∧
  ∃ o es ep, h.get? D = some o ∧ o.ExactDict ∧ o.data = .dict es ep ∧ es.toList = xs.map (entryOfKey (nestedKind P w)) ∧ (xs.map (·.1)).Nodup := x.1
def atN (kvs : KVs) (k : NestedKey) : Option (Addr × V) := atK kvs k where
  atK : KVs → NestedKey → Option (Addr × V)
    | [], _ => none
    | p :: r, k => if p.1 = k then some p.2 else atK r k
def putN (kvs : KVs) (k : NestedKey) (b : Addr) (v : V) : KVs := match atN kvs k with
  | none => kvs ++ [(k, b, v)]
  | some _ => kvs.map fun p => if p.1 = k then (p.1, p.2.1, v) else p
theorem atK_rel {kvs : KVs} {xs : List (NestedKey × Addr × Value)} (pr : Paired RelN kvs xs) (k : NestedKey) : match atN.atK kvs k, atKey xs k with
    | none, none => True
    | some p, some q => q.1 = p.1 ∧ RelV p.2 q.2
    | _, _ => False := by
  induction pr with
  | nil => exact True.intro
  | @cons p q ps qs r t ih =>
    obtain ⟨e1, e2, e3⟩ := r
    by_cases h : p.1 = k
    · rw [show atN.atK (p :: ps) k = some p.2 from if_pos h, show atKey (q :: qs) k = some q.2 from by unfold atKey; rw [List.find?_cons, decide_eq_true (e1.trans h)]; rfl]
      exact ⟨e2, e3⟩
    · rw [show atN.atK (p :: ps) k = atN.atK ps k from if_neg h, show atKey (q :: qs) k = atKey qs k from by unfold atKey; rw [List.find?_cons, decide_eq_false (fun z => h (e1.symm.trans z))]]
      exact ih
theorem atN_some {kvs : KVs} {xs : List (NestedKey × Addr × Value)} (pr : Paired RelN kvs xs) {k : NestedKey} {p : Addr × V} (h : atN kvs k = some p) : ∃ q, atKey xs k = some q ∧ q.1 = p.1 ∧ RelV p.2 q.2 := by
  have := atK_rel pr k
  rw [show atN.atK kvs k = some p from h] at this
  cases e : atKey xs k with
  | none => rw [e] at this; exact this.elim
  | some q => rw [e] at this; exact ⟨q, rfl, this⟩
theorem atN_none {kvs : KVs} {xs : List (NestedKey × Addr × Value)} (pr : Paired RelN kvs xs) {k : NestedKey} (h : atN kvs k = none) : atKey xs k = none := by
  have := atK_rel pr k
  rw [show atN.atK kvs k = none from h] at this
  cases e : atKey xs k with
  | none => rfl
  | some q => rw [e] at this; exact this.elim
theorem atN_isSome {kvs : KVs} {xs : List (NestedKey × Addr × Value)} (pr : Paired RelN kvs xs) (k : NestedKey) : (atKey xs k).isSome = (atN kvs k).isSome := by
  cases e : atN kvs k with
  | none => rw [atN_none pr e]; rfl
  | some p => obtain ⟨q, hq, _⟩ := atN_some pr e; rw [hq]; rfl
theorem pairedN_app {α β : Type} {R : α → β → Prop} : ∀ {as : List α} {bs : List β} {cs : List α} {ds : List β}, Paired R as bs → Paired R cs ds → Paired R (as ++ cs) (bs ++ ds)
  | _, _, _, _, .nil, t => t
  | _, _, _, _, .cons r t, u => .cons r (pairedN_app t u)
theorem putN_rel {kvs : KVs} {xs : List (NestedKey × Addr × Value)} (pr : Paired RelN kvs xs) {k : NestedKey} {b : Addr} {v : V} {r : Value} (rv : RelV v r) : Paired RelN (putN kvs k b v) (storedH xs k b r) := by
  unfold putN
  cases e : atN kvs k with
  | none =>
    rw [storedH_new (atN_none pr e)]
    exact pairedN_app pr (.cons ⟨rfl, rfl, rv⟩ .nil)
  | some p =>
    obtain ⟨q, hq, _⟩ := atN_some pr e
    rw [storedH_old hq]
    clear e hq
    induction pr with
    | nil => exact .nil
    | @cons p q ps qs t _ ih =>
      refine .cons ?_ ih
      obtain ⟨e1, e2, e3⟩ := t
      show RelN (if p.1 = k then _ else p) (putAt k r q)
      unfold putAt
      by_cases h : p.1 = k
      · rw [if_pos h, if_pos (e1.trans h)]
        exact ⟨e1, e2, rv⟩
      · rw [if_neg h, if_neg (fun z => h (e1.symm.trans z))]
        exact ⟨e1, e2, e3⟩
theorem putN_len (kvs : KVs) (k : NestedKey) (b : Addr) (v : V) : (putN kvs k b v).length ≤ kvs.length + 1 := by
  unfold putN
  split
  · simp
  · rw [List.length_map]; omega
theorem putN_keys {K : PySem.W.Frag} {H : Hp} {kvs : KVs} (h : KeysIn K H kvs) {k : NestedKey} {b : Addr} (hb : KeyAt K H b k) (v : V) : KeysIn K H (putN kvs k b v) := by
  intro p hp
  unfold putN at hp
  split at hp
  · rcases List.mem_append.mp hp with hp | hp
    · exact h p hp
    · rw [List.mem_singleton.mp hp]; exact hb
  · obtain ⟨q, hq, rfl⟩ := List.mem_map.mp hp
    split
    · exact h q hq
    · exact h q hq
section
variable {X : Cx} {pins : List (Addr × Obj)} {σ : L2.St} {H : Hp} {s : Shared}
theorem key_is (I : Inv X pins σ H s) {b : Addr} {k : NestedKey} (h : KeyAt X.K H b k) : (nestedKind X.prog X.w).is s.heap k b := by
  obtain ⟨ds, h1, h2, rfl, h4⟩ := h
  exact ⟨nested_of I h1 (show nlB (.tuple ds) = true from h2) (show RelV (.ref b) (.ref b) from rfl), h4⟩
theorem keys_are (I : Inv X pins σ H s) {kvs : KVs} {xs : List (NestedKey × Addr × Value)} (pr : Paired RelN kvs xs) (h : KeysIn X.K H kvs) : ∀ x ∈ xs, (nestedKind X.prog X.w).is s.heap x.1 x.2.1 := by
  induction pr with
  | nil => intro x hx; cases hx
  | @cons p q ps qs r t ih =>
    intro x hx
    rcases List.mem_cons.mp hx with rfl | hx
    · rw [r.1, r.2.1]; exact key_is I (h p (.head _))
    · exact ih (fun y hy => h y (.tail _ hy)) x hx
theorem dn_of (I : Inv X pins σ H s) {D : Addr} {kvs : KVs} (hd : Rd H D (DN X.prog X.w D kvs)) (hk : KeysIn X.K H kvs) : kvs.length ≤ sizeLine ∧ (D == sysModules) = false ∧ ∃ xs, Paired RelN kvs xs ∧ s.heap.DictOfH (nestedKind X.prog X.w) D xs := by
  obtain ⟨z, hs, xs, pr, o, es, ep, ho, hx, hdt, he, hn⟩ := dn_at (hd.ok I.hok)
  exact ⟨z, hs, xs, pr, o, es, ep, ho, hx, hdt, he, keys_are I pr hk, hn⟩
/-- D[b] = v -/
theorem dn_set {A : Around} {E : Value → Shared → Prop} {D b : Addr} {kvs : KVs} {k : NestedKey} {v : V} {r : Value} {Q : Unit → Shared → Prop} (hu : A.units + 9 < cLine) (I : Inv X pins σ H s) (hd : H D = some (DN X.prog X.w D kvs)) (hk : KeysIn X.K H kvs) (hb : KeyAt X.K H b k) (hl : kvs.length < sizeLine) (rv : RelV v r)
    (h : ∀ s', Inv X pins σ (upd H D (DN X.prog X.w D (putN kvs k b v))) s' → Q () s') : wpAny (model X.prog X.w) A (setItem (.ref D) (.ref b) r) Q E s := by
  obtain ⟨z, hs, xs, pr, dd⟩ := dn_of I (.inl hd) hk
  have hz : xs.length ≤ sizeLine := by rw [← Paired.length pr]; exact z
  refine wpAny_setItem_heap (hsz := hz) (show A.units + 1 + 8 < cLine by omega) (key_is I hb) dd fun h' dd' sb => h _ ?_
  obtain ⟨q, es, ep, hq, h2, h3, h4, _, h5⟩ := dd'
  exact d_write I (by rw [hd]; exact True.intro) sb ⟨q, hq⟩ (dn_ok (by have := putN_len kvs k b v; omega) hs (putN_rel pr rv) hq h2 h3 h4 h5)
theorem dn_set2 {E : Value → Shared → Prop} {D b : Addr} {kvs : KVs} {k : NestedKey} {v : V} {r : Value} {Q : Unit → Shared → Prop} (hu : X.A.units + 9 < cLine) (I : Inv X pins σ H s) (hd : H D = some (DN X.prog X.w D kvs)) (hk : KeysIn X.K H kvs) (hb : KeyAt X.K H b k) (hl : kvs.length < sizeLine) (rv : RelV v r)
    (h : ∀ s', Inv X pins σ (upd H D (DN X.prog X.w D (putN kvs k b v))) s' → Q () s') : wpAny (model X.prog X.w) X.A (dictSet D (.ref b) r) Q E s := by
  obtain ⟨z, hs, xs, pr, dd⟩ := dn_of I (.inl hd) hk
  have hz : xs.length ≤ sizeLine := by rw [← Paired.length pr]; exact z
  refine wpAny_dictSet_heap (hsz := hz) (show X.A.units + 8 < cLine by omega) (key_is I hb) dd fun h' dd' sb => h _ ?_
  obtain ⟨q, es, ep, hq, h2, h3, h4, _, h5⟩ := dd'
  exact d_write I (by rw [hd]; exact True.intro) sb ⟨q, hq⟩ (dn_ok (by have := putN_len kvs k b v; omega) hs (putN_rel pr rv) hq h2 h3 h4 h5)
end
/-! ### the rules -/
def tDNew (P : Program) (w : World) : TE := fun _ H Q => ∀ p, H p = none → Q (.ref p) (upd H p (DN P w p []))
def tDInN (P : Program) (w : World) (K : PySem.W.Frag) (n : Bool) (ty td : TE) : TE := fun σ H Q => ty σ H fun y H1 => td σ H1 fun x H2 => ∃ D kvs b k, x = .ref D ∧ y = .ref b ∧ Rd H2 D (DN P w D kvs) ∧ KeysIn K H2 kvs ∧ KeyAt K H2 b k ∧ Q (.bl (n != (atN kvs k).isSome)) H2
def tDGetN (P : Program) (w : World) (K : PySem.W.Frag) (td ty : TE) : TE := fun σ H Q => td σ H fun x H1 => ty σ H1 fun y H2 => ∃ D kvs b k p, x = .ref D ∧ y = .ref b ∧ Rd H2 D (DN P w D kvs) ∧ KeysIn K H2 kvs ∧ KeyAt K H2 b k ∧ atN kvs k = some p ∧ Q p.2 H2
def sDPutN (P : Program) (w : World) (K : PySem.W.Frag) (td ty tv : TE) : TS := fun D0 σ H => tv σ H fun v H1 => td σ H1 fun x H2 => ty σ H2 fun y H3 => ∃ D kvs b k, x = .ref D ∧ y = .ref b ∧ H3 D = some (DN P w D kvs) ∧ KeysIn K H3 kvs ∧ KeyAt K H3 b k ∧ kvs.length < sizeLine ∧ D0.nx σ (upd H3 D (DN P w D (putN kvs k b v)))
section
variable {X : Cx} {o i e f value : Expr} {pos pos' tpos : Pos} {td ty tv : TE}
theorem pe_dnewN : PE X (.Dict [] [] pos) (tDNew X.prog X.w) := ⟨fun pins s σ H Q I h =>
  wpAny_Dict_empty ⟨.ref s.heap.objs.size, _, I.laid (a := s.heap.objs.size) (o := DN X.prog X.w s.heap.objs.size []) (t' := s.toks) (fun _ _ q => Heap.get?_push_of_some _ q) (Nat.le_refl _)
    (dn_ok (xs := []) (Nat.zero_le _) (beq_eq_false_iff_ne.mpr (Nat.ne_of_gt I.big)) .nil (Heap.get?_push_size _ rfl) ⟨rfl, rfl, rfl⟩ rfl rfl .nil), rfl, h _ (I.hok.fresh (Nat.le_refl _))⟩⟩
theorem pc_dinN (hu : X.A.units + 9 < cLine) (hi : PE X i ty) (ho : PE X o td) : PC X .In i o (tDInN X.prog X.w X.K false ty td) := by
  refine ⟨fun pins s σ H Q I h => ?_⟩
  refine thn (hi.run pins s σ H _ I h) fun iv s1 ⟨y, H1, I1, ry, q1⟩ => thn (ho.run pins s1 σ H1 _ I1 q1) fun u s2 ⟨x, H2, I2, rx, D, kvs, b, k, ex, ey, hd, hk, hb, q2⟩ => ?_
  subst ex ey
  obtain rfl : u = Value.ref D := rx
  obtain rfl : iv = Value.ref b := ry
  obtain ⟨z, hs, xs, pr, dd⟩ := dn_of I2 hd hk
  refine wpAny_in_heap (show X.A.units + 1 + 8 < cLine by omega) (key_is I2 hb) hs dd ?_
  rw [atN_isSome pr k]
  exact ⟨.bl (atN kvs k).isSome, H2, I2.tok _, rfl, by simpa using q2⟩
theorem pc_dnotinN (hu : X.A.units + 9 < cLine) (hi : PE X i ty) (ho : PE X o td) : PC X .NotIn i o (tDInN X.prog X.w X.K true ty td) := by
  refine ⟨fun pins s σ H Q I h => ?_⟩
  refine thn (hi.run pins s σ H _ I h) fun iv s1 ⟨y, H1, I1, ry, q1⟩ => thn (ho.run pins s1 σ H1 _ I1 q1) fun u s2 ⟨x, H2, I2, rx, D, kvs, b, k, ex, ey, hd, hk, hb, q2⟩ => ?_
  subst ex ey
  obtain rfl : u = Value.ref D := rx
  obtain rfl : iv = Value.ref b := ry
  obtain ⟨z, hs, xs, pr, dd⟩ := dn_of I2 hd hk
  refine wpAny_notIn_heap (show X.A.units + 1 + 8 < cLine by omega) (key_is I2 hb) hs dd ?_
  rw [atN_isSome pr k]
  exact ⟨.bl (!(atN kvs k).isSome), H2, I2.tok _, rfl, by simpa using q2⟩
theorem pe_dgetN (hu : X.A.units + 9 < cLine) (ho : PE X o td) (hi : PE X i ty) (hs : NoSl i) : PE X (.Subscript o i pos) (tDGetN X.prog X.w X.K td ty) := by
  refine ⟨fun pins s σ H Q I h => ?_⟩
  refine subD_of PySem.F.slot_dict_getitem.lookup hs (thn (ho.run pins s σ H _ I h) fun u s1 ⟨x, H1, I1, rx, q1⟩ => thn (hi.run pins s1 σ H1 _ I1 q1) fun iv s2 ⟨y, H2, I2, ry, D, kvs, b, k, p, ex, ey, hd, hk, hb, hp, q2⟩ => ?_)
  subst ex ey
  obtain rfl : u = Value.ref D := rx
  obtain rfl : iv = Value.ref b := ry
  obtain ⟨z, hs, xs, pr, dd⟩ := dn_of I2 hd hk
  obtain ⟨q, hq, _, rq⟩ := atN_some pr hp
  exact ⟨dd.typeIs, wpAny_getItem_heap (show X.A.units + 1 + 8 < cLine by omega) (key_is I2 hb) dd hq ⟨p.2, H2, I2.tok _, rq, q2⟩⟩
theorem ps_dputN (hu : X.A.units + 9 < cLine) (ho : PE X o td) (hi : PE X i ty) (hv : PE X value tv) (hs : swapsWith value (some (.Subscript o i pos')) pos.line X.env = pure false) :
    PS X (.Assign [.Subscript o i pos'] value pos) (sDPutN X.prog X.w X.K td ty tv) := by
  refine ⟨fun pins s σ H D0 I h => ?_⟩
  refine wpAny_Assign_Subscript (thn (hv.run pins s σ H _ I h) fun r s1 ⟨v, H1, I1, rv, q1⟩ => thn (ho.run pins s1 σ H1 _ I1 q1) fun u s2 ⟨x, H2, I2, rx, q2⟩ => thn (hi.run pins s2 σ H2 _ I2 q2) fun iv s3 ⟨y, H3, I3, ry, D, kvs, b, k, ex, ey, hd, hk, hb, hl, q3⟩ => ?_) hs
  subst ex ey
  obtain rfl : u = Value.ref D := rx
  obtain rfl : iv = Value.ref b := ry
  exact dn_set hu I3 hd hk hb hl rv fun s4 I4 => ⟨σ, _, I4, q3⟩
end
/-- a comprehension's store -/
def putD (P : Program) (w : World) (K : PySem.W.Frag) (D : Addr) (y z : V) (H H' : Hp) : Prop := ∃ kvs b k, y = .ref b ∧ H D = some (DN P w D kvs) ∧ KeysIn K H kvs ∧ KeyAt K H b k ∧ kvs.length < sizeLine ∧ H' = upd H D (DN P w D (putN kvs k b z))
theorem putD_ok {P : Program} {w : World} {K : PySem.W.Frag} : PutOk P w K 9 (putD P w K) := ⟨fun {X} hP hw hK hu {pins σ H H' s E D y z u r Q} I p ry rz h => by
  subst hP hw hK
  obtain ⟨kvs, b, k, rfl, hd, hk, hb, hl, rfl⟩ := p
  cases (show u = Value.ref b from ry)
  exact dn_set2 hu I hd hk hb hl rz h⟩
theorem dN0 {P : Program} {w : World} {H : Hp} (h : Heap) (hb : sysModules < h.objs.size) : ObjOk P w H (h.push { cls := .type "dict", data := .dict #[] }) h.objs.size (DN P w h.objs.size []) :=
  dn_ok (xs := []) (Nat.zero_le _) (beq_eq_false_iff_ne.mpr (Nat.ne_of_gt hb)) .nil (Heap.get?_push_size _ rfl) ⟨rfl, rfl, rfl⟩ rfl rfl .nil
/-! ### list(d): the keys, as they stand -/
section
variable {X : Cx}
theorem relN_len {kvs : KVs} {xs : List (NestedKey × Addr × Value)} (pr : Paired RelN kvs xs) : kvs.length = xs.length := Paired.length pr
theorem relN_keys {kvs : KVs} {xs : List (NestedKey × Addr × Value)} (pr : Paired RelN kvs xs) : xs.map (fun x => Value.ref x.2.1) = kvs.map fun p => Value.ref p.2.1 := by
  induction pr with
  | nil => rfl
  | cons r t ih => rw [List.map_cons, List.map_cons, ih, r.2.1]
theorem valsRefs : ∀ kvs : KVs, Vals (kvs.map fun p => V.ref p.2.1) (kvs.map fun p => Value.ref p.2.1)
  | [] => .nil
  | _ :: r => .cons rfl (valsRefs r)
theorem call_listN (hc : X.calm = true) : CallR X (.type "list") (fun xs H Q => ∃ D kvs, xs = [V.ref D] ∧ Rd H D (DN X.prog X.w D kvs) ∧ ∀ p, H p = none → Q (.ref p) (upd H p (.lst (kvs.map fun p => V.ref p.2.1)))) := by
  intro pins s σ H xs us Q I r h
  obtain ⟨D, kvs, rfl, hd, q⟩ := h
  obtain ⟨u, rfl, rx⟩ := r.one
  cases rx
  obtain ⟨z, hs, ks, pr, o, es, ep, ho, hx, hdt, he, hn⟩ := dn_at (hd.ok I.hok)
  have l1 : es.size = ks.length := size_of_entries he
  have l2 := relN_len pr
  refine PySem.W.kdl_call (kdl_raw hs hx hdt) (I.ok.hd hc) ho (by omega) fun h' tk acc c kp e it => ?_
  have ea : acc.toList = ks.map fun x => Value.ref x.2.1 := by
    apply List.ext_getElem?
    intro j
    rw [List.getElem?_map]
    have hl : acc.toList.length = ks.length := by rw [Array.length_toList, it.1]; exact l1
    cases hj : acc.toList[j]? with
    | none =>
      have h1 := List.getElem?_eq_none_iff.mp hj
      rw [List.getElem?_eq_none (by omega)]
      rfl
    | some v =>
      obtain ⟨en, hen, hv⟩ := it.2 j v (by rw [← Array.getElem?_toList]; exact hj)
      have qe := entry_at he j
      rw [hen] at qe
      cases hb : ks[j]? with
      | none => rw [hb] at qe; cases qe
      | some b =>
        rw [hb] at qe
        rw [hv, Option.some.inj qe]
        rfl
  rw [relN_keys pr] at ea
  have rv : Vals (kvs.map fun p => V.ref p.2.1) acc.toList := by rw [ea]; exact valsRefs _
  refine ⟨.ref s.heap.objs.size, _, I.laid (t' := tk) (o := .lst (kvs.map fun p => V.ref p.2.1)) kp (Nat.le_refl _) ?_, rfl, q _ (I.hok.fresh (Nat.le_refl _))⟩
  exact ⟨by rw [List.length_map]; exact z, acc.toList, c, rv, by rw [Array.toArray_toList]; exact e⟩
end
/-! ### d.values(), walked -/
section
variable {X : Cx} {pins : List (Addr × Obj)} {σ : L2.St} {H : Hp} {s : Shared} {d : Addr} {o : Obj}
theorem pairedN_at {kvs : KVs} {xs : List (NestedKey × Addr × Value)} (pr : Paired RelN kvs xs) : ∀ {i : Nat} {x : NestedKey × Addr × Value}, xs[i]? = some x → ∃ p, kvs[i]? = some p ∧ RelN p x := by
  induction pr with
  | nil => intro i x e; simp at e
  | @cons a b as bs r t ih =>
    intro i x e
    cases i with
    | zero => simp at e; subst e; exact ⟨a, rfl, r⟩
    | succ j => simp at e; obtain ⟨p, hp, hr⟩ := ih e; exact ⟨p, by simpa using hp, hr⟩
theorem frzN {kvs : KVs} (I : Inv X pins σ H s) (h : H d = some (.frz o (DN X.prog X.w d kvs))) :
    (d == sysModules) = false ∧ s.heap.get? d = some o ∧ o.ExactDict ∧ ∃ (es : Array DictEntry) (ep : Nat), o.data = .dict es ep ∧ es.size = kvs.length ∧
      ∀ (i : Nat) (hi : i < es.size), ∃ p, kvs[i]? = some p ∧ es[i].key = .ref p.2.1 ∧ RelV p.2.2 es[i].val := by
  obtain ⟨hd, u⟩ := I.hok d _ h
  obtain ⟨z, hs, xs, pr, ob, es, ep, ho, hx, hdt, he, _⟩ := dn_at u
  rw [hd] at ho
  cases ho
  have n1 : es.size = xs.length := size_of_entries he
  have n2 := relN_len pr
  refine ⟨hs, hd, hx, es, ep, hdt, by omega, fun i hi => ?_⟩
  have q := entry_at he i
  rw [Array.getElem?_eq_getElem hi, List.getElem?_eq_getElem (by omega)] at q
  obtain ⟨p, hp, r⟩ := pairedN_at pr (List.getElem?_eq_getElem (show i < xs.length by omega))
  have q := Option.some.inj q
  refine ⟨p, hp, ?_, ?_⟩
  · rw [q]; show Value.ref _ = _; rw [r.2.1]
  · rw [q]; exact r.2.2
end
def Itvn (P : Program) (w : World) (d : Addr) (o : Obj) (kvs : KVs) : It :=
  ⟨fun i H => H d = some (.frz o (DN P w d kvs)) ∧ i < kvs.length, fun i H x H' => H' = H ∧ ∃ p, kvs[i]? = some p ∧ x = p.2.2, fun i H => H d = some (.frz o (DN P w d kvs)) ∧ kvs.length ≤ i⟩
theorem turnVn {P : Program} {w : World} {K : PySem.W.Frag} {tg : Expr} {d : Addr} {o : Obj} {es : Array DictEntry} {ep : Nat} {kvs : KVs} (it : Addr) (hod : o.data = .dict es ep) : Turn P w K tg (Itvn P w d o kvs) [it] it (fun i h => h.IsValIter it d i es.size ep) where
  mem := by simp
  obj := fun i h st b hb => by
    obtain rfl : b = it := List.mem_singleton.mp hb
    obtain ⟨oi, e, _, dd⟩ := st
    exact ⟨oi, e, fun v z => by rw [dd] at z; cases z⟩
  keep := fun i h h' st k => st.at fun oi e => k it (.head _) oi e
  item := by
    intro X hP hw hK hc i pins s σ H E I hf st hg
    subst hP hw hK
    obtain ⟨f0, f1, f2, f3, f4, f5⟩ := hf it (.head _)
    obtain ⟨hs, hgd, hx, es', ep', hdt, hsz, ent⟩ := frzN I hg.1
    obtain ⟨rfl, rfl⟩ := dict_ep hod hdt
    have hi : i < es'.size := by rw [hsz]; exact hg.2
    obtain ⟨p, hp, _, rv⟩ := ent i hi
    refine PySem.wpAny_pyNext_values_item_raw st ⟨o, hgd, hx, hdt⟩ hi fun h' st' sb => ?_
    have I1 : Inv X pins σ H { s with heap := h' } := I.turned (t' := s.toks) (fun b ob hb e => (sb.2 b hb).trans e) f0 f1 f3 f4 f5
    obtain ⟨oi, e, c, dd⟩ := id st'
    exact ⟨_, rfl, go_of (s := { s with heap := h' }) e c dd (by decide) ⟨p.2.2, H, I1, rv, ⟨rfl, p, hp, rfl⟩, st', fun b hb => (hf b hb).1⟩⟩
  done := by
    intro X hP hw hK hc i pins s σ H E I hf st hg
    subst hP hw hK
    obtain ⟨f0, f1, f2, f3, f4, f5⟩ := hf it (.head _)
    obtain ⟨hs, hgd, hx, es', ep', hdt, hsz, _⟩ := frzN I hg.1
    obtain ⟨rfl, rfl⟩ := dict_ep hod hdt
    exact PySem.wpAny_pyNext_values_end_raw (I.ok.hd hc) st ⟨o, hgd, hx, hdt⟩ (by rw [hsz]; exact hg.2) fun h' eb => ⟨rfl, I.turned (t' := s.toks) (fun b ob hb e => eb b ob hb e) f0 f1 f3 f4 f5⟩
  self := fun A i s Q E st h => wpAny_pyIter_valiter st h
/-- for v in e.values(), the dict locked -/
def iValsN (P : Program) (w : World) (td : TE) : TI := fun σ H R => td σ H fun x H1 => ∃ d o kvs, x = .ref d ∧ H1 d = some (.frz o (DN P w d kvs)) ∧ R (Itvn P w d o kvs) H1
section
variable {X : Cx} {tg e : Expr} {td : TE} {apos cpos : Pos}
theorem pi_valuesN (he : PE X e td) (hbase : attributeBase e "values" X.env (eval e X.env) = eval e X.env := by rfl) (hline : (apos.endLine == cpos.line) = true := by rfl) : PI X tg (.Call (.Attribute e "values" apos) [] [] cpos) (iValsN X.prog X.w td) := by
  refine ⟨fun pins s σ H R I h => ?_⟩
  refine wpAny_Call_method (T := "dict") (id := "dict.values") hbase rfl hline F.plainAttrs_dict F.slot_dict_values F.type_dict_values (thn (he.run pins s σ H _ I h) fun u s1 ⟨x, H1, I1, rx, d, o, kvs, ex, hd, q⟩ => ?_)
  subst ex
  obtain rfl : u = Value.ref d := rx
  obtain ⟨hs, hgd, hx, es, ep, hdt, _, _⟩ := frzN I1 hd
  have raw : s1.heap.DictRaw d es ep := ⟨o, hgd, hx, hdt⟩
  have ty : s1.TypeIs (.ref d) "dict" := ⟨o, hgd, hx.1⟩
  refine ⟨ty, (fun a ea => by cases ea; exact ⟨o, hgd, hx.2.1⟩), ?_⟩
  have I2 : Inv X pins σ H1 { s1 with heap := s1.heap.push { cls := .type "dict_values", data := .fields #[.ref d] } } := I1.kept (t' := s1.toks) fun b ob q => Heap.get?_push_of_some _ q
  have fin : wpAny (model X.prog X.w) X.A (pyIter (.ref s1.heap.objs.size)) (PIE X pins σ tg R) X.xe { s1 with heap := s1.heap.push { cls := .type "dict_values", data := .fields #[.ref d] } } :=
    PySem.wpAny_pyIter_values_raw (d := d) ⟨_, Heap.get?_push_size _ rfl, rfl, rfl⟩ (raw.at fun o e => Heap.get?_push_of_some _ e) (pi_one (tk := s1.toks) I2 _ (turnVn _ hdt) ⟨_, Heap.get?_push_size _ rfl, rfl, rfl⟩ q)
  show wpAny _ _ (callWith cpos (.builtin "dict.values") [.ref d] [] []) _ X.xe s1
  exact method_meetsIn F.slot_dict_values F.entry_dict_values rfl (PySem.evalArgs_none ⟨rfl, ty, F.args_dict_values_1 _, _, PySem.meets_dict_values_raw d hs, ⟨⟨_, _, raw⟩, fin⟩⟩)
end
open LamX
/-! ### what such a dict is not -/
theorem dn_code {P : Program} {w : World} {D : Addr} {kvs : KVs} {q : Str} : DN P w D kvs ≠ CodeO D q := by
  intro e
  have e : (fun h : Heap => kvs.length ≤ sizeLine ∧ (D == sysModules) = false ∧ ∃ xs : List (NestedKey × Addr × Value), Paired RelN kvs xs ∧
    ∃ o es ep, h.get? D = some o ∧ o.ExactDict ∧ o.data = .dict es ep ∧ es.toList = xs.map (entryOfKey (nestedKind P w)) ∧ (xs.map (·.1)).Nodup) = (fun h => ∃ (oc : Obj) (vs : Array Value) (t : Tok), h.get? D = some oc ∧ oc.data = .fields vs ∧ vs[1]? = some (.str q t)) := HO.ext.inj e
  have g : ({ objs := Array.replicate (D + 1) { cls := .none, data := .fields #[.none, .str q 0] } } : Heap).get? D = some { cls := .none, data := .fields #[.none, .str q 0] } := by
    unfold Heap.get?
    simp
  have z := (congrFun e { objs := Array.replicate (D + 1) { cls := .none, data := .fields #[.none, .str q 0] } }).mpr ⟨_, _, 0, g, rfl, rfl⟩
  obtain ⟨_, _, xs, _, o, es, ep, h1, _, h3, _⟩ := z
  rw [g] at h1
  cases h1
  cases h3
/-- all but what is at D stays -/
theorem keepN_T {P : Program} {w : World} {K : PySem.W.Frag} {H H' : Hp} {D a : Addr} {kvs : KVs} {xs : List V} (hd : H D = some (DN P w D kvs)) (k : Keep D H H') (h : SqT K H a xs) : SqT K H' a xs := by
  rcases h with (h | ⟨o, h⟩) | h
  · exact .inl (.inl (k _ _ (ne_of h hd (fun z => nomatch z)) h))
  · exact .inl (.inr ⟨o, k _ _ (ne_of h hd (fun z => nomatch z)) h⟩)
  · exact .inr h
theorem keepF_T {K : PySem.W.Frag} {H H' : Hp} {D a : Addr} {o : Obj} {P : Program} {w : World} {kvs : KVs} {xs : List V} (hd : H D = some (.frz o (DN P w D kvs))) (k : Keep D H H') (h : SqT K H a xs) : SqT K H' a xs := by
  rcases h with (h | ⟨o, h⟩) | h
  · exact .inl (.inl (k _ _ (ne_of h hd (fun z => nomatch z)) h))
  · exact .inl (.inr ⟨o, k _ _ (ne_of h hd (fun z => by injection z with _ z; exact nomatch z)) h⟩)
  · exact .inr h
theorem TabS.keepN {P : Program} {w : World} {H H' : Hp} {D p : Addr} {q : Str} {kvs : KVs} (t : TabS H p q) (hd : H D = some (DN P w D kvs)) (k : Keep D H H') : TabS H' p q := by
  obtain ⟨ps, h1, h2, h3⟩ := t
  refine ⟨ps, k _ _ (ne_of h1 hd (by intro z; exact nomatch z)) h1, h2, fun pos cv hc => ?_⟩
  obtain ⟨c, e1, e2⟩ := h3 pos cv hc
  refine ⟨c, e1, k _ _ (fun z => ?_) e2⟩
  subst z
  rw [hd] at e2
  exact dn_code (Option.some.inj e2)
theorem lc2_valsN {P0 : Program} {w0 : World} {d : Addr} {o : Obj} {kvs : KVs} {σ : L2.St} {g g1 : TG} {tt tt1 : TT} {wi1 : TI} {te : TE} {vs vs1 : List Nat} {D : Addr} {H0 : Hp} {Qd : Hp → Prop} (P : Nat → Hp → Prop) (h0 : P 0 H0) (hT : ∀ i H, i ≤ kvs.length → P i H → H d = some (.frz o (DN P0 w0 d kvs)))
    (hs : ∀ i p H, kvs[i]? = some p → P i H → g p.2.2 (wipe σ vs) H fun σ2 H2 => wipe σ2 vs = wipe σ vs ∧ tt σ2 H2 fun b H3 => if b = true then wi1 σ2 H3 fun J1 H4 => LcIn J1 g1 tt1 te vs1 D σ2 (P (i + 1)) H4 else P (i + 1) H3)
    (hd : ∀ H, P kvs.length H → Qd H) :
    ∃ W : Nat → Nat → Hp → Prop, (∃ m, W 0 m H0) ∧ ∀ i m H, W i m H → ((Itvn P0 w0 d o kvs).stop i H ∧ Qd H) ∨ ((Itvn P0 w0 d o kvs).go i H ∧ ∃ Nx : Hp → Prop, (∀ H', Nx H' → ∃ m', m' < m ∧ W (i + 1) m' H') ∧ ∀ x H', (Itvn P0 w0 d o kvs).yld i H x H' → g x (wipe σ vs) H' fun σ2 H2 => wipe σ2 vs = wipe σ vs ∧ tt σ2 H2 fun b H3 =>
      if b = true then wi1 σ2 H3 fun J1 H4 => LcIn J1 g1 tt1 te vs1 D σ2 Nx H4 else Nx H3) := by
  refine ⟨fun i m H => m = kvs.length - i ∧ i ≤ kvs.length ∧ P i H, ⟨_, rfl, Nat.zero_le _, h0⟩, ?_⟩
  rintro i m H ⟨rfl, hi, p⟩
  have t := hT i H hi p
  by_cases lt : i < kvs.length
  · refine .inr ⟨⟨t, lt⟩, P (i + 1), fun H' p' => ⟨_, by omega, rfl, lt, p'⟩, ?_⟩
    rintro v H' ⟨rfl, q, hq, rfl⟩
    exact hs i q _ hq p
  · obtain rfl : i = kvs.length := by omega
    exact .inl ⟨⟨t, Nat.le_refl _⟩, hd H p⟩
/-! ### keys that are three ints -/
def nk3 (a b c : Int) : NestedKey := .tup [.num a, .num b, .num c]
theorem nk3_inj {a b c x y z : Int} (e : nk3 a b c = nk3 x y z) : a = x ∧ b = y ∧ c = z := by
  unfold nk3 at e
  injection e with e
  simp only [List.cons.injEq, NestedKey.num.injEq, and_true] at e
  exact e
theorem keyAt3 {K : PySem.W.Frag} {H : Hp} {b : Addr} {x y z : Int} (h : SqT K H b [.int x, .int y, .int z]) : KeyAt K H b (nk3 x y z) :=
  ⟨[.int x, .int y, .int z], .tup h (.cons (.int _) (.cons (.int _) (.cons (.int _) .nil))), rfl, rfl, by simp [nk3, NestedKey.depth, NestedKey.depthAll]⟩
/-! ### {k: v for x in l if ..} over a list -/
theorem dcN_list {P : Program} {w : World} {K : PySem.W.Frag} {a : Addr} {xs : List V} {g : TG} {tt : TT} {tk tv : TE} {vs : List Nat} {σ : L2.St} {H1 : Hp} {D : Addr} {Qd : Hp → Prop} (Pv : Nat → Hp → Prop) (h0 : Pv 0 (upd H1 D (DN P w D []))) (hl : ∀ i H, i ≤ xs.length → Pv i H → SqL K H a xs)
    (hs : ∀ i x H, xs[i]? = some x → Pv i H → g x (wipe σ vs) H fun σ2 H2 => wipe σ2 vs = wipe σ vs ∧ tt σ2 H2 fun b H3 =>
      if b = true then tk σ2 H3 fun y H4 => tv σ2 H4 fun z H5 => ∃ H6, putD P w K D y z H5 H6 ∧ Pv (i + 1) H6 else Pv (i + 1) H3) (hd : ∀ H, Pv xs.length H → Qd H) :
    ∃ W : Nat → Nat → Hp → Prop, (∃ m, W 0 m (upd H1 D (DN P w D []))) ∧ ∀ i m H, W i m H →
      ((Itl K a).stop i H ∧ Qd H) ∨ ((Itl K a).go i H ∧ ∃ Nx : Hp → Prop, (∀ H', Nx H' → ∃ m', m' < m ∧ W (i + 1) m' H') ∧ ∀ x H', (Itl K a).yld i H x H' → g x (wipe σ vs) H' fun σ2 H2 => wipe σ2 vs = wipe σ vs ∧ tt σ2 H2 fun b H3 =>
        if b = true then tk σ2 H3 fun y H4 => tv σ2 H4 fun z H5 => ∃ H6, putD P w K D y z H5 H6 ∧ Nx H6 else Nx H3) := by
  refine ⟨fun i m H => m = xs.length - i ∧ i ≤ xs.length ∧ Pv i H, ⟨_, rfl, Nat.zero_le _, h0⟩, ?_⟩
  rintro i m H ⟨rfl, hi, p⟩
  have t := hl i H hi p
  by_cases lt : i < xs.length
  · refine .inr ⟨⟨xs, xs[i], t, List.getElem?_eq_getElem lt⟩, Pv (i + 1), fun H' p' => ⟨_, by omega, rfl, lt, p'⟩, ?_⟩
    rintro v H' ⟨rfl, hx⟩
    exact hs i v _ (hx xs t) p
  · obtain rfl : i = xs.length := by omega
    exact .inl ⟨⟨xs, t, Nat.le_refl _⟩, hd H p⟩
def rListN (P : Program) (w : World) : List V → Hp → VK → Prop := fun xs H Q => ∃ D kvs, xs = [V.ref D] ∧ Rd H D (DN P w D kvs) ∧ ∀ p, H p = none → Q (.ref p) (upd H p (.lst (kvs.map fun p => V.ref p.2.1)))
section
variable {X : Cx}
/-- name = {..} on one line, the name a local -/
theorem ps_setDcG {o0 : Addr → HO} {put : Addr → V → V → Hp → Hp → Prop} {n : Nat} (po : PutOk X.prog X.w X.K n put) (hu : X.A.units + n < cLine) (o0n : ∀ {H : Hp} (h : Heap), sysModules < h.objs.size → ObjOk X.prog X.w H (h.push { cls := .type "dict", data := .dict #[] }) h.objs.size (o0 h.objs.size))
    {i : Nat} {y : Str} {py : Pos} {kx vx tg iter : Expr} {ifs : List Expr} {scope : Scope} {own : List (Str × Nat)} {pos spos : Pos} {wi : TI} {g : TG} {tt : TT} {tk tv : TE} (hc : X.calm = true) (hN : X.N.Nodup) (hy : X.N[i]? = some y) (hyl : X.env.scope.names.lookup y = some .local)
    (hsw : swapsWith (.DictComp kx vx [⟨tg, iter, ifs, 0⟩] scope pos) (some (.Name y py)) spos.line X.env = pure true) (hi : PI X tg iter wi) (ok : BlkOk X.N X.env.scope scope own)
    (hg : ∀ (s : Shared) (H : Hp) (C : Addr) (cl : List (Str × Addr)) (fp : List Addr), PG (X.blk s H scope (compEnvC scope cl C X.env) fp) tg g) (ht : ∀ (s : Shared) (H : Hp) (C : Addr) (cl : List (Str × Addr)) (fp : List Addr), PTs (X.blk s H scope (compEnvC scope cl C X.env) fp) ifs tt)
    (hk : ∀ (s : Shared) (H : Hp) (C : Addr) (cl : List (Str × Addr)) (fp : List Addr), PE (X.blk s H scope (compEnvC scope cl C X.env) fp) kx tk)
    (he : ∀ (s : Shared) (H : Hp) (C : Addr) (cl : List (Str × Addr)) (fp : List Addr), PE (X.blk s H scope (compEnvC scope cl C X.env) fp) vx tv) (hs : ∀ x, foldedSetIterable iter X.env x = pure x := by intro _; rfl) :
    PS X (.Assign [.Name y py] (.DictComp kx vx [⟨tg, iter, ifs, 0⟩] scope pos) spos) (tAsg (tDcG o0 put wi g tt tk tv (own.map (·.2))) (gName i)) := by
  refine ⟨fun pins s σ H D I h => ?_⟩
  rw [exec_Assign_Name_used _ _ _ _ hsw]
  refine wpAny_bind (wpAny_standAt (wpAny_bind ?_))
  show wpAny _ X.A (do let _ ← comprehension (.DictComp kx vx [⟨tg, iter, ifs, 0⟩] scope pos) scope X.env (firstIterPos [⟨tg, iter, ifs, 0⟩] pos) newDict false (eval iter X.env) (some (assign (.Name y py) X.env))) _ _ s
  have h : tDcG o0 put wi g tt tk tv (own.map (·.2)) σ H (fun x H1 => gName i x σ H1 D.nx) := h
  refine wpAny_bind (thn (dcG_core (Qf := fun _ s' => SP X pins D .next s') po hu o0n hc hN I hi ok hg ht hk he hs h fun L C s' m H' I' q hn f => ?_) fun _ s' hq => wpAny_pure (wpAny_pure hq))
  show wpAny _ _ (assign (.Name y py) X.env (.ref L)) _ _ _
  refine wpAny_assign_Name (store_ok2 (v := V.ref L) I' hN hy (.inl hyl) rfl (fun s2 I2 ⟨a, sb, ha⟩ => ?_) (.inr hyl))
  obtain ⟨f0, f1, f2, f3, f4, f5⟩ := f
  have haC : C ≠ a := ha.elim (fun z => by rw [z]; exact f1) (fun z e => f4 y a z e.symm)
  refine ⟨m, hn.sameBut sb haC, fun h3 sb3 => ?_⟩
  exact ⟨_, H', I2.turned (t' := s2.toks) (fun b o hb e => (sb3.2 b hb).trans e) f0 f1 f3 f4 f5, q⟩
theorem sw_trueD {kx vx : Expr} {gs : List Comprehension} {scope : Scope} {pos py : Pos} {y : Str} {l : Nat} {env : Env} (hk : env.scope.kind = .function) (hy : env.scope.names.lookup y = some .local) (hl : (py.line == pos.line) = true)
    (ha : (scope.names.any fun (n, k) => n == y && (k == .local || k == .cell)) = false) : swapsWith (.DictComp kx vx gs scope pos) (some (.Name y py)) l env = pure true := by
  have ky : env.kindOf y = some .local := hy
  have hb : env.blockKind = .function := by unfold Env.blockKind; rw [hk]; rfl
  unfold swapsWith
  simp only [hb, ky, ha, Expr.pos, hl]
  rfl
end
end My
/-! a list of anything, held against the empty list -/
namespace My
open PySem PySem.Spec L2 PyProof.Rows
section
variable {X : Cx}
def rEqE (K : PySem.W.Frag) : R2 := fun x y H Q => ∃ a b xs, x = .ref a ∧ y = .ref b ∧ SqL K H a xs ∧ SqL K H b [] ∧ Q (.bl xs.isEmpty) H
def rNeE (K : PySem.W.Frag) : R2 := fun x y H Q => ∃ a b xs, x = .ref a ∧ y = .ref b ∧ SqL K H a xs ∧ SqL K H b [] ∧ Q (.bl (!xs.isEmpty)) H
theorem op_eqE (hu : X.A.units < cLine) : OpR X (compareOp .Eq) (rEqE X.K) := by
  intro pins s σ H x y v u Q I rx ry h
  obtain ⟨a, b, xs, rfl, rfl, ha, hb, q⟩ := h
  obtain rfl := Vals.ref1 (.cons rx .nil) |> fun e => (List.cons.inj e).1
  obtain rfl := Vals.ref1 (.cons ry .nil) |> fun e => (List.cons.inj e).1
  obtain ⟨i1, r1, l1, z1⟩ := I.list ha
  obtain ⟨i2, r2, l2, z2⟩ := I.list hb
  cases r2
  cases xs with
  | nil =>
    cases r1
    exact (SeqAt.RcAt.lists l1.isList l2.isList rfl hu (e := fun _ => true) (fun j h1 _ => absurd h1 (Nat.not_lt_zero _))) _ _ _ _ ⟨.bl true, H, I, rfl, q⟩
  | cons z zs =>
    cases r1
    exact (SeqAt.RcAt.lists_lengths l1.isList l2.isList (by simp) hu) _ _ _ _ ⟨.bl false, H, I, rfl, q⟩
theorem op_neE (hu : X.A.units < cLine) : OpR X (compareOp .NotEq) (rNeE X.K) := by
  intro pins s σ H x y v u Q I rx ry h
  obtain ⟨a, b, xs, rfl, rfl, ha, hb, q⟩ := h
  obtain rfl := Vals.ref1 (.cons rx .nil) |> fun e => (List.cons.inj e).1
  obtain rfl := Vals.ref1 (.cons ry .nil) |> fun e => (List.cons.inj e).1
  obtain ⟨i1, r1, l1, z1⟩ := I.list ha
  obtain ⟨i2, r2, l2, z2⟩ := I.list hb
  cases r2
  cases xs with
  | nil =>
    cases r1
    exact (SeqAt.RcNeAt.lists l1.isList l2.isList rfl hu (e := fun _ => true) (fun j h1 _ => absurd h1 (Nat.not_lt_zero _))) _ _ _ _ ⟨.bl false, H, I, rfl, q⟩
  | cons z zs =>
    cases r1
    exact (SeqAt.RcNeAt.lists_lengths l1.isList l2.isList (by simp) hu) _ _ _ _ ⟨.bl true, H, I, rfl, q⟩
end
end My
/-! len of a dict whose keys are tuples of any depth -/
namespace My
open PySem PySem.Spec L2 PyProof.Rows
section
theorem u0 {k : Nat} {A : Around} (r : Room k A) : A.units < cLine := by have := r.un; omega
theorem u9 {k : Nat} {A : Around} (r : Room k A) : A.units + 9 < cLine := by have := r.un; omega
end
section
variable {X : Cx}
theorem call_lenN : CallR X (.builtin "len") (fun xs H Q => ∃ D kvs, xs = [V.ref D] ∧ Rd H D (DN X.prog X.w D kvs) ∧ Q (.int (kvs.length : Int)) H) := by
  intro pins s σ H xs us Q I r h
  obtain ⟨D, kvs, rfl, hd, q⟩ := h
  obtain ⟨u, rfl, rx⟩ := r.one
  cases rx
  obtain ⟨z, hs, ks, pr, o, es, ep, ho, hx, hdt, he, hn⟩ := dn_at (hd.ok I.hok)
  have l1 : es.size = ks.length := size_of_entries he
  have l2 := relN_len pr
  have big : sizeLine < 2 ^ 63 := by decide
  refine call_len_slot (T := "dict") (id := "dict.__len__") (n := (kvs.length : Int)) ⟨o, ho, hx.1⟩ F.slot_dict_len (fun Q' hq => ?_) (by omega) (by omega) ?_
  · refine GQ.call_here F.slot_dict_len ⟨_, ho, hx.1⟩ F.entry_dict_len (F.args_dict_len_1 _) ?_
    obtain ⟨hp, g, d, tk, os⟩ := s
    wp_walk
    rw [hdt]
    wp_walk
    rw [show ((es.size : Int) + ((0 : Nat) : Int)) = (List.length kvs : Int) by omega]
    exact hq
  · exact ⟨.int _, H, I.kept (t' := s.toks + 1 + 1) (fun _ _ e => e), ⟨_, rfl⟩, q⟩
end
end My
/-! list comprehensions whose items may raise: pe_lcX, pass_blk -/
namespace My
open PySem PySem.Spec L2 PyProof.Rows
theorem Inv.otherXe {X : Cx} {pins : List (Addr × Obj)} {σ : L2.St} {H : Hp} {s : Shared} (I : Inv X pins σ H s) (xe : Value → Shared → Prop) : Inv { X with xe := xe } pins σ H s :=
  ⟨⟨I.ok.mod, I.ok.kind, I.ok.glob, I.ok.blt, I.ok.above, I.ok.inj, I.ok.has, I.ok.cab, I.ok.hd, I.ok.frames, I.ok.stk, I.ok.exf, I.ok.bs, I.ok.bsz, I.ok.noex, I.ok.exfs, I.ok.funs, I.ok.frf⟩, I.os, I.bare, I.base, I.loc, I.cell, I.free, I.freeC, I.pin, I.hok, I.len⟩
/-- a comprehension's block out of which an error may come -/
abbrev blkX (X : Cx) (s : Shared) (H : Hp) (scope : Scope) (cenv : Env) (fp : List Addr) (E : XK) : Cx :=
  { X.blk s H scope cenv fp with xe := fun u s' => ∃ pins σ H1 s1, Inv (X.blk s H scope cenv fp) pins σ H1 s1 ∧ CX X.prog X.w X.stack H1 s1 E u s' }
theorem pass_blk {X : Cx} {s : Shared} {H : Hp} {scope : Scope} {cenv : Env} {fp : List Addr} {E : XK} : Passes (CX X.prog X.w) (blkX X s H scope cenv fp E) E := fun pins σ H1 s1 u s' I c => ⟨pins, σ, H1, s1, Inv.otherXe I _, c⟩
/-- what is asked where the error leaves the block -/
def errPost (M : Model) (A : Around) (E : Value → Shared → Prop) (cenv : Env) (u : Value) (s' : Shared) : Prop :=
  ∃ m, s'.heap.Ns cenv.locals m ∧ ∀ h', Heap.SameBut cenv.locals s'.heap h' → wpAny M A (PySem.passOn "comprehension.variables-let-go" u cenv : Sem Value) (fun _ _ => False) E { s' with heap := h' }
def lcPost (M : Model) (A : Around) (E : Value → Shared → Prop) (use : Option (Value → Sem Unit)) (Q : Value → Shared → Prop) (acc : Value) (cenv : Env) (r : Result) (s' : Shared) : Prop := match r, use with
  | .ok _, none => ∃ m, s'.heap.Ns cenv.locals m ∧ ∀ h', Heap.SameBut cenv.locals s'.heap h' → Q acc { s' with heap := h' }
  | .ok _, some f => wpAny M A (f acc) (fun _ s2 => ∃ m, s2.heap.Ns cenv.locals m ∧ ∀ h', Heap.SameBut cenv.locals s2.heap h' → Q .none { s2 with heap := h' }) E s'
  | .error x, _ => errPost M A E cenv x s'
theorem framesBut {B h1 h2 : Heap} {C : Addr} : ∀ {l : List Env}, h1.FunFrames B l → (∀ b ∈ frs l, b ≠ C) → Heap.SameBut C h1 h2 → h2.FunFrames B l
  | [], _, _, _ => trivial
  | env :: l, h, hn, sb => by
    obtain ⟨hk, ⟨L, o, hf, hb, ho, hd⟩, hr⟩ := h
    exact ⟨hk, ⟨L, o, hf, hb, (sb.2 L (hn L (List.mem_filterMap.mpr ⟨env, List.mem_cons_self, hf⟩))).trans ho, hd⟩, framesBut hr (fun b hb' => by
      obtain ⟨e, he, q⟩ := List.mem_filterMap.mp hb'
      exact hn b (List.mem_filterMap.mpr ⟨e, List.mem_cons_of_mem _ he, q⟩)) sb⟩
section
variable {X : Cx} {pins : List (Addr × Obj)} {σ : L2.St} {H : Hp} {s s' : Shared} {C : Addr} {E : XK} {ce : Env} {u : Value} {m : Str → Option Value}
/-- an error comes out of a block's item: it is noted, the block's names are let go, and it leaves the def -/
theorem blk_err (tk : Takes X (fun cls d _ H => E cls d H)) (hst : X.stack = X.env :: X.outer) (hf : X.env.frame = some X.env.locals) (hcf : ce.frame = X.env.frame) (I : Inv X pins σ H s) (f : FpOk X pins H ce.locals) (hC : s.heap.Ns ce.locals m)
    (c : CX X.prog X.w X.stack H s E u s') : notedBy (model X.prog X.w) X.A ce (fun e s2 => errPost (model X.prog X.w) X.A X.xe ce e s2) u s' := by
  generalize hC' : ce.locals = C at *
  obtain ⟨a, B, H', cls, d, rfl, fl, hok, ub, na, os, ag, hE⟩ := c
  obtain ⟨f0, f1, f2, f3, f4, f5⟩ := f
  obtain ⟨oC, es, ep, ho, hd, hl⟩ := hC
  have hCs : C ∉ frs X.stack := fun hm => by
    rcases List.mem_cons.mp (I.stkSub C hm) with z | z
    · exact f1 z
    · exact f2 z
  have hBC : B.get? C = some oC := ub.keep C oC ho f0 hCs
  have nC' : H' C = none := ub.free C oC ho f0
  have hfr : X.A.frames = some (X.env :: X.outer) := by rw [I.ok.frames, hst]
  have efr : noteFrame (.ref a) ce = noteFrame (.ref a) X.env := by unfold noteFrame PySem.frameOf; rw [hcf]
  unfold notedBy
  rw [efr]
  have st0 : B.StaysIn s'.heap := fl.1
  rw [hst] at fl
  refine HandSPX.looks_onZ Zc.steady hfr hf fl fun h1 held up1 => ?_
  rw [← hst] at held
  obtain ⟨k1, hen, hl1, oe, vs, T, oT, ts, he, hz, hde, h1', hnT, hTe, hT, hdT, h3⟩ := held
  have h1C := k1 C oC hBC
  have aC : a ≠ C := fun z => by rw [z, hBC] at hen; cases hen
  have TC : T ≠ C := fun z => by rw [z, hBC] at hnT; cases hnT
  refine ⟨m, ⟨oC, es, ep, by rw [hC']; exact h1C, hd, hl⟩, fun h2 sb => ?_⟩
  rw [hC'] at sb
  have hB' : ∀ b o, (PySem.W.hideAll B [C]).get? b = some o → B.get? b = some o := fun b o e => PySem.W.of_hideAll _ e
  have nBC : (PySem.W.hideAll B [C]).get? C = none := PySem.W.hideAll_none _ (by simp)
  have bne : ∀ b o, (PySem.W.hideAll B [C]).get? b = some o → b ≠ C := fun b o e z => by rw [z, nBC] at e; cases e
  have st2 : (PySem.W.hideAll B [C]).StaysIn h2 := fun b o e => (sb.2 b (bne b o e)).trans (k1 b o (hB' b o e))
  have a2 : (PySem.W.hideAll B [C]).get? a = none := by
    cases q : (PySem.W.hideAll B [C]).get? a with
    | none => rfl
    | some o => have z := hB' _ _ q; rw [hen] at z; cases z
  have T2 : (PySem.W.hideAll B [C]).get? T = none := by
    cases q : (PySem.W.hideAll B [C]).get? T with
    | none => rfl
    | some o => have z := hB' _ _ q; rw [hnT] at z; cases z
  have fr1 : ∀ b ∈ frs X.stack, (PySem.W.hideAll B [C]).get? b = none := fun b hb => by
    cases q : (PySem.W.hideAll B [C]).get? b with
    | none => rfl
    | some o => have z := hB' _ _ q; rw [(hl1.mem hb).1] at z; cases z
  have fl2 : h2.FunFrames (PySem.W.hideAll B [C]) X.stack := by
    have z : h1.FunFrames (PySem.W.hideAll B [C]) X.stack := funFrames_none hl1 fr1
    exact framesBut z (fun b hb q => hCs (by rw [← q]; exact hb)) sb
  unfold PySem.passOn
  refine wpAny_bind (wpAny_field ((sb.2 a aC).trans he) hde h1' ?_)
  rw [if_neg (show ¬ ((Value.ref T == Value.none) = true) from by simp)]
  refine wpAny_bind (HandSPX.setFlight_anyZ (s := { s' with heap := h2 }) st2 fl2 ⟨oe, vs, T, oT, ts, (sb.2 a aC).trans he, hz, hde, h1', T2, hTe, (sb.2 T TC).trans hT, hdT, h3⟩ fun h3' q1 q2 q3 up3 => wpAny_throw ?_)
  rw [hcf, hf] at q3
  obtain ⟨G, g1, g2⟩ := restrict s'.heap fun b => decide (b ≠ C) && ((B.get? b).isSome || decide (b ∈ frs X.stack))
  have og : ∀ b o, G.get? b = some o → s'.heap.get? b = some o ∧ b ≠ C ∧ ((B.get? b).isSome = true ∨ b ∈ frs X.stack) := fun b o e => by
    cases q : decide (b ≠ C) && ((B.get? b).isSome || decide (b ∈ frs X.stack)) with
    | false => rw [g2 b q] at e; cases e
    | true =>
      rw [g1 b q] at e
      rw [Bool.and_eq_true, Bool.or_eq_true, decide_eq_true_eq, decide_eq_true_eq] at q
      exact ⟨e, q⟩
  have gB : ∀ b o, b ≠ C → B.get? b = some o → G.get? b = some o := fun b o n e => by
    rw [g1 b (by simp [e, n])]
    exact st0 b o e
  have gF : ∀ b, b ∈ frs X.stack → G.get? b = s'.heap.get? b := fun b hb => g1 b (by simp [hb, show b ≠ C from fun z => hCs (z ▸ hb)])
  have nC : ∀ b, b ∉ [C] → b ≠ C := fun b hb z => hb (by simp [z])
  refine tk _ _ ⟨a, PySem.W.hideAll B [C], { s with heap := G, gens := s'.gens, drawn := s'.drawn, toks := s'.toks }, pins, σ, H', cls, d, rfl, ?_, fun b o e hb => ?_, fun b o e hnf => ?_, .inr (.inr ⟨q1, a2, q2, q3⟩), na, os, ag, hE⟩
  · refine I.call (ch := [C]) ⟨fun b o e n hb hc => gB b o (nC b hc) (ub.keep b o e n hb), fun b o e n hb hc => ?_, fun b o e n _ => ub.free b o e n, fun b o e hc => ?_, ub.tups, ub.frzs, ub.tbls⟩ (fun b v q => ?_) ag (fun b hb => ?_)
    · obtain ⟨sl, q⟩ := ub.slot b o e hb
      exact ⟨sl, by rw [gF b hb]; exact q⟩
    · by_cases hb : b ∈ frs X.stack
      · obtain ⟨sl, q⟩ := ub.slot b o e hb
        exact ⟨_, by rw [gF b hb]; exact q⟩
      · obtain ⟨o', q⟩ := ub.there b o e hb
        exact ⟨o', gB b o' (nC b hc) q⟩
    · refine (hok b v q).stay (fun c v' hc e => gB c v' (fun z => ?_) e) (fun _ r => r) fun _ _ r => r
      rw [z, nC'] at hc
      rcases hc with hc | hc
      · rw [← hc, nC'] at q; cases q
      · cases hc
    · obtain rfl : b = C := by simpa using hb
      exact ⟨f3, f1, f4, f5⟩
  · obtain ⟨e', n, h⟩ := og b o e
    rcases h with h | h
    · obtain ⟨o', q⟩ := Option.isSome_iff_exists.mp h
      have z := st0 b o' q
      rw [e'] at z; cases z
      exact PySem.W.hideAll_get _ q (by simp [n])
    · exact absurd h hb
  · obtain ⟨e', n, _⟩ := og b o e
    obtain ⟨sl1, e1⟩ := up1 b o e' hnf
    have e2 := (sb.2 b n).trans e1
    obtain ⟨sl2, e3⟩ := up3 b _ e2 hnf
    exact ⟨sl2, e3⟩
end
section
variable {M : Model} {A : Around} {E : Value → Shared → Prop} {s : Shared} {env : Env}
/-- a comprehension whose block may let an error out: which environment the error leaves is told -/
theorem comp_err {e : Expr} {scope : Scope} {pos : Pos} {newAcc first : Sem Value} {g : Comprehension} {gs : List Comprehension} {cl : List (Str × Addr)} {use : Option (Value → Sem Unit)} {Q : Value → Shared → Prop}
    (hcl : clausesOf e = g :: gs) (hs : ∀ x, foldedSetIterable g.iter env x = pure x) (hclos : closureFor scope env = pure cl) (hkind : scope.kind = .function) (hnames : ∀ x ∈ scope.names, x.2 = .local → scope.names.lookup x.1 = some .local)
    (h : wpAny M A first (fun x s1 => wpAny M A (pyIter x) (fun it s2 => wpAny M A newAcc (fun acc s3 =>
      wpAny M A (newFunctionEnv scope env.globals cl [] env.qual none .none (some env)) (fun cenv s4 =>
        codeAny M A (.compStart e 0 it acc { cenv with scope := relabel scope env }) (lcPost M A E use Q acc { cenv with scope := relabel scope env }) s4) E s3) E s2) E s1) E s) :
    wpAny M A (comprehension e scope env pos newAcc false first use) Q E s := by
  unfold comprehension
  rw [hclos, hcl]
  refine wpAny_bind (wpAny_mono h (fun x s1 h1 => wpAny_bind (wpAny_standAt (wpAny_bind (wpAny_of_eq (hs x) (wpAny_bind (wpAny_holding (wpAny_mono h1 (fun it s2 h2 =>
    wpAny_standIf (wpAny_bind (wpAny_mono h2 (fun acc s3 h3 => wpAny_bind (wpAny_pure (wpAny_bind (wpAny_mono h3 (fun cenv s4 h4 => ?_) fun _ _ z => z)))) fun _ _ z => z)))
      fun _ _ z => z))))))) fun _ _ z => z)
  dsimp only
  have hv : ∀ x ∈ (scope.names.filter fun x => (x.2 == .local || x.2 == .cell) && x.1 != (".0" : Str)).reverse, x.2 = .local →
      Env.kindOf { cenv with scope := relabel scope env } x.1 = some .local := fun x hx hl => lookup_relabel_local (hnames x (List.mem_filter.mp (List.mem_reverse.mp hx)).1 hl)
  have hv2 : ∀ x ∈ (scope.names.filter fun x => (x.2 == .local || x.2 == .cell) && x.1 != (".0" : Str)).reverse.drop 1 ++ (scope.names.filter fun x => (x.2 == .local || x.2 == .cell) && x.1 != (".0" : Str)).reverse.take 1,
      x.2 = .local → Env.kindOf { cenv with scope := relabel scope env } x.1 = some .local := fun x hx hl => (List.mem_append.mp hx).elim (fun z => hv x (List.mem_of_mem_drop z) hl) (fun z => hv x (List.mem_of_mem_take z) hl)
  refine wpAny_holding (wpAny_bind (wpAny_attempt (wpAny_holding (wpAny_run (codeAny_mono h4 fun r s' hr => ?_)))))
  cases r with
  | ok f =>
    cases use with
    | none =>
      obtain ⟨m, hn, hr⟩ := hr
      exact wpAny_bind (wpAny_holding (wpAny_comp_letGo (cenv := { cenv with scope := relabel scope env }) hkind _ s' m hv hn fun h' m' _ hs' => wpAny_pure (hr h' hs')))
    | some u =>
      refine wpAny_bind (wpAny_rule (wpAny_bind (wpAny_holding (wpAny_mono hr (fun _ s2 hr2 => ?_) fun _ _ z => z))))
      obtain ⟨m, hn, hr2⟩ := hr2
      exact wpAny_bind (wpAny_comp_letGo (cenv := { cenv with scope := relabel scope env }) hkind _ s2 m hv2 hn fun h' m' _ hs' => wpAny_pure (hr2 h' hs'))
  | error x =>
    have hr : errPost M A E { cenv with scope := relabel scope env } x s' := by cases use <;> exact hr
    obtain ⟨m, hn, hr⟩ := hr
    exact wpAny_bind (wpAny_holding (wpAny_comp_letGo (cenv := { cenv with scope := relabel scope env }) hkind _ s' m hv hn fun h' m' _ hs' => wpAny_mono (hr h' hs') (fun _ _ f => f.elim) fun _ _ y => y))
end
section
variable {X : Cx}
/-- [elt for tg in iter] where elt may raise what the def lets out -/
theorem lc_coreX {pins : List (Addr × Obj)} {s : Shared} {σ : L2.St} {H : Hp} {Q : VK} {E : XK} {elt tg iter : Expr} {ifs : List Expr} {scope : Scope} {own : List (Str × Nat)} {pos pos' : Pos} {wi : TI} {g : TG} {tt : TT} {te : TE} {use : Option (Value → Sem Unit)} {Qf : Value → Shared → Prop} (I : Inv X pins σ H s) (tk : Takes X (fun cls d _ H => E cls d H)) (hst : X.stack = X.env :: X.outer) (hf : X.env.frame = some X.env.locals)
    (hc : X.calm = true) (hN : X.N.Nodup) (hi : PI X tg iter wi) (ok : BlkOk X.N X.env.scope scope own)
    (hg : ∀ (s : Shared) (H : Hp) (C : Addr) (cl : List (Str × Addr)) (fp : List Addr), PG (X.blk s H scope (compEnvC scope cl C X.env) fp) tg g) (ht : ∀ (s : Shared) (H : Hp) (C : Addr) (cl : List (Str × Addr)) (fp : List Addr), PTs (X.blk s H scope (compEnvC scope cl C X.env) fp) ifs tt)
    (he : ∀ (s : Shared) (H : Hp) (C : Addr) (cl : List (Str × Addr)) (fp : List Addr), PE (blkX X s H scope (compEnvC scope cl C X.env) fp E) elt te) (hs : ∀ x, foldedSetIterable iter X.env x = pure x)
    (h : tLc wi g tt te (own.map (·.2)) σ H Q)
    (hRR : ∀ D ce s' m H', Inv X pins σ H' s' → Q (.ref D) H' → s'.heap.Ns ce.locals m → FpOk X pins H' ce.locals → lcPost (model X.prog X.w) X.A X.xe use Qf (.ref D) ce (.ok .next) s') :
    wpAny (model X.prog X.w) X.A (comprehension (.ListComp elt [⟨tg, iter, ifs, 0⟩] scope pos) scope X.env pos' (newList []) false (eval iter X.env) use) Qf X.xe s := by
  have hfree : ∀ y ∈ scope.names, y.2 = .free → ∃ c, X.env.cells.lookup y.1 = some c := fun y hy e => (ok.free y hy e).elim (fun k => I.ok.has _ (.inl k)) (fun k => I.ok.has _ (.inr k))
  refine comp_err rfl hs (closure_ok hfree) ok.kind (fun y hy e => by rw [ok.uniq y hy, e]) (thn (hi.run pins s σ H _ I h) fun xv s1 hx => thn hx fun itv s2 h2 => ?_)
  obtain ⟨it, fp, tn, J, H2, e, I2, T, st2, f2, q⟩ := h2
  subst e
  refine wpAny_newObj_type (newEnv_comp ?_) (by show 0 ≤ sizeLine; decide)
  generalize hD : s2.heap.objs.size = D
  have hDn : H2 D = none := I2.hok.fresh (Nat.le_of_eq hD)
  obtain ⟨W, ⟨m0, w0⟩, turn⟩ := q D hDn
  generalize hs3 : ({ s2 with heap := s2.heap.push { cls := .type "list", data := .seq ([] : List Value).toArray } } : Shared) = s3
  have I3 : Inv X pins σ (upd H2 D (.lst [])) s3 := by
    rw [← hs3]
    refine I2.laid (t' := s2.toks) (fun b o e => Heap.get?_push_of_some _ e) (Nat.le_of_eq hD) ⟨Nat.zero_le _, [], 0, .nil, ?_⟩
    rw [← hD]
    exact Heap.get?_push_size _ rfl
  have h3 : s3.heap = s2.heap.push { cls := .type "list", data := .seq ([] : List Value).toArray } := by rw [← hs3]
  have f3 : ∀ b ∈ fp, FpOk X pins (upd H2 D (.lst [])) b ∧ b < s3.heap.objs.size := fun b hb => by
    obtain ⟨o, eo, _⟩ := T.obj _ _ st2 b hb
    have hlt := Heap.lt_size eo
    refine ⟨⟨?_, (f2 b hb).2⟩, by rw [h3, Heap.size_push]; exact Nat.lt_succ_of_lt hlt⟩
    rw [upd_ne (by rw [← hD]; exact Nat.ne_of_lt hlt)]
    exact (f2 b hb).1
  have st3 : tn 0 s3.heap := T.keep _ _ _ st2 fun b _ o e => by rw [h3]; exact Heap.get?_push_of_some _ e
  have I4 := block_start I3 ok hN f3
  have pg := hg s3 (upd H2 D (.lst [])) s3.heap.objs.size (cellsFrom (s3.heap.objs.size + 1) scope.names (cloFrom X.env.cells scope.names [])) fp
  have pt := ht s3 (upd H2 D (.lst [])) s3.heap.objs.size (cellsFrom (s3.heap.objs.size + 1) scope.names (cloFrom X.env.cells scope.names [])) fp
  have pe := he s3 (upd H2 D (.lst [])) s3.heap.objs.size (cellsFrom (s3.heap.objs.size + 1) scope.names (cloFrom X.env.cells scope.names [])) fp
  show codeAny _ _ (.compStart (.ListComp elt [⟨tg, iter, ifs, 0⟩] scope pos) 0 (.ref it) (.ref D) (compEnvC scope (cellsFrom (s3.heap.objs.size + 1) scope.names (cloFrom X.env.cells scope.names [])) s3.heap.objs.size X.env))
    (lcPost (model X.prog X.w) X.A X.xe use Qf (.ref D) (compEnvC scope (cellsFrom (s3.heap.objs.size + 1) scope.names (cloFrom X.env.cells scope.names [])) s3.heap.objs.size X.env)) { s3 with heap := pushCells (s3.heap.push { cls := .type "dict", data := .dict #[] }) scope.names }
  have nfp : ∀ b ∈ fp, (upd H2 D (.lst [])) b = none := fun b hb => (f3 b hb).1.1
  have cF : (compEnvC scope (cellsFrom (s3.heap.objs.size + 1) scope.names (cloFrom X.env.cells scope.names [])) s3.heap.objs.size X.env).frame = X.env.frame := rfl
  have cL : (compEnvC scope (cellsFrom (s3.heap.objs.size + 1) scope.names (cloFrom X.env.cells scope.names [])) s3.heap.objs.size X.env).locals = s3.heap.objs.size := rfl
  generalize compEnvC scope (cellsFrom (s3.heap.objs.size + 1) scope.names (cloFrom X.env.cells scope.names [])) s3.heap.objs.size X.env = ce at I4 pg pt pe cF cL ⊢
  generalize hH3 : upd H2 D (.lst []) = H3 at I3 I4 pg pt pe w0 nfp f3
  generalize hs4 : ({ s3 with heap := pushCells (s3.heap.push { cls := .type "dict", data := .dict #[] }) scope.names } : Shared) = s4 at I4 ⊢
  have st4 : tn 0 s4.heap := T.keep _ _ _ st3 fun b _ o e => by rw [← hs4]; exact pushCells_keeps _ _ _ _ (Heap.get?_push_of_some _ e)
  have stat : ∀ {σ' : L2.St} {H' : Hp} {s' : Shared}, Inv (X.blk s3 H3 scope ce fp) [] σ' H' s' → (∀ b ∈ fp, H' b = none) → ∀ b ∈ fp, FpOk (X.blk s3 H3 scope ce fp) [] H' b := fun {σ' H' s'} I' hn b hb =>
    ⟨hn b hb, (I'.ok.exf b hb).1, I'.ok.exfs b hb, .inl hb, fun x c e => (I'.ok.exf b hb).2 x c e, fun p hp => absurd (show p ∈ ([] : List (Addr × Obj)) ++ [] from hp) (by simp)⟩
  have back : ∀ {pins' : List (Addr × Obj)} {σ' : L2.St} {H' : Hp} {s' : Shared}, Inv (X.blk s3 H3 scope ce fp) pins' σ' H' s' → Inv X pins σ H' s' ∧ FpOk X pins H' ce.locals ∧ ∃ m, s'.heap.Ns ce.locals m := fun {pins' σ' H' s'} I' => by
    have J : Inv X pins σ H' s' := I3.call' (ch := fp) I'.os I'.base I'.hok I'.bare fun b hb => ⟨(f3 b hb).1.2.2.2.1, (f3 b hb).1.2.1, (f3 b hb).1.2.2.2.2.1, (f3 b hb).1.2.2.2.2.2⟩
    obtain ⟨m, hn, _⟩ := I'.loc
    have z : H' ce.locals = none := I'.free
    refine ⟨J, ?_, m, hn⟩
    rw [cL] at z ⊢
    exact I3.fpOk (Nat.le_refl _) z
  have loop : codeAny (model X.prog X.w) X.A (.compLoop (.ListComp elt [⟨tg, iter, ifs, 0⟩] scope pos) 0 (.ref it) (.ref D) ce) (lcPost (model X.prog X.w) X.A X.xe use Qf (.ref D) ce) s4 := by
    refine compLoop_any (fun n s' => ∃ i H', Inv (X.blk s3 H3 scope ce fp) [] (wipe σ (own.map (·.2))) H' s' ∧ tn i s'.heap ∧ (∀ b ∈ fp, H' b = none) ∧ W i n H') ?_ m0 ⟨0, H3, I4, st4, nfp, w0⟩
    rintro n s5 ⟨i, H5, I5, st5, n5, w5⟩
    rcases turn i n H5 w5 with ⟨stop, qq⟩ | ⟨go, Nx, hNx, step⟩
    · have td := T.done (X.blk s3 H3 scope ce fp) rfl rfl rfl hc i [] s5 _ H5 (fun _ _ => False) I5 (stat I5 n5) st5 stop
      refine thnF td fun r s6 ⟨hr, I6⟩ => ?_
      subst hr
      obtain ⟨I7, f7, m, hn⟩ := back I6
      exact hRR D ce s6 m H5 I7 qq hn f7
    · have ti := T.item (X.blk s3 H3 scope ce fp) rfl rfl rfl hc i [] s5 _ H5 (fun _ _ => False) I5 (stat I5 n5) st5 go
      refine thnF ti fun r s6 ⟨u, hr, h6⟩ => ?_
      subst hr
      refine thnF h6 fun _ s7 ⟨x, H7, I7, r7, y7, st7, n7⟩ => ?_
      have I7' := I7.pinned (stat I7 n7) (T.obj _ _ st7)
      refine thnF (pg.run _ s7 _ H7 x u _ I7' r7 (step x H7 y7)) fun _ s8 ⟨σ8, H8, I8, hw8, q8⟩ => ?_
      refine thnF (pt.run _ s8 σ8 H8 _ I8 q8) fun b s9 ⟨H9, I9, q9⟩ => ?_
      have fin : ∀ {s' : Shared} {H' : Hp}, Inv (X.blk s3 H3 scope ce fp) ([] ++ pinsAt fp s7.heap) σ8 H' s' → Nx H' → ∃ m, m < n ∧ ∃ i H', Inv (X.blk s3 H3 scope ce fp) [] (wipe σ (own.map (·.2))) H' s' ∧ tn i s'.heap ∧ (∀ b ∈ fp, H' b = none) ∧ W i m H' := fun {s' H'} I' nx => by
        obtain ⟨m', hm, w'⟩ := hNx H' nx
        have pin' : ∀ b ∈ fp, ∀ o, s7.heap.get? b = some o → s'.heap.get? b = some o ∧ H' b = none := fun b hb o e =>
          let z := I'.pin (b, o) (List.mem_append_right _ (List.mem_append_right _ (mem_pinsAt hb e)))
          ⟨z.1, z.2.1⟩
        have hl : (wipe σ (own.map (·.2))).length = σ8.length := by rw [← hw8, wipe_length]
        refine ⟨m', hm, i + 1, H', (I'.unpinned (pins := [])).weak hl (fun j v e => by rw [← hw8] at e; exact (wipe_some e).1), T.keep _ _ _ st7 fun b hb o e => (pin' b hb o e).1, fun b hb => ?_, w'⟩
        obtain ⟨o, e, _⟩ := T.obj _ _ st7 b hb
        exact (pin' b hb o e).2
      cases b with
      | false =>
        simp only [Bool.false_eq_true, if_false] at q9 ⊢
        exact fin I9 q9
      | true =>
        simp only [if_true] at q9 ⊢
        refine wpAny_mono (pe.run _ s9 σ8 H9 _ (Inv.otherXe I9 _) q9) (fun z s10 ⟨yv, H10, I10, r10, acc, hD10, hz10, nx⟩ => ?_) fun u' s10 ⟨pins', σ', H1', s1', J, c⟩ => ?_
        · exact app_ok (X := X.blk s3 H3 scope ce fp) (Inv.otherXe I10 _) hD10 hz10 r10 fun s11 I11 => fin I11 nx
        · obtain ⟨I7b, f7, m, hn⟩ := back J
          have z := blk_err tk hst hf cF I7b f7 hn c
          unfold notedBy at z ⊢
          exact wpAny_mono z (fun _ _ y => by cases use <;> exact y) fun _ _ y => by cases use <;> exact y
  exact codeAny_compStart_list loop (T.self X.A 0 _ _ _ st4 loop)
/-- as a value -/
theorem pe_lcX {E : XK} {elt tg iter : Expr} {ifs : List Expr} {scope : Scope} {own : List (Str × Nat)} {pos : Pos} {wi : TI} {g : TG} {tt : TT} {te : TE} (tk : Takes X (fun cls d _ H => E cls d H)) (hst : X.stack = X.env :: X.outer) (hf : X.env.frame = some X.env.locals)
    (hc : X.calm = true) (hN : X.N.Nodup) (hi : PI X tg iter wi) (ok : BlkOk X.N X.env.scope scope own)
    (hg : ∀ (s : Shared) (H : Hp) (C : Addr) (cl : List (Str × Addr)) (fp : List Addr), PG (X.blk s H scope (compEnvC scope cl C X.env) fp) tg g) (ht : ∀ (s : Shared) (H : Hp) (C : Addr) (cl : List (Str × Addr)) (fp : List Addr), PTs (X.blk s H scope (compEnvC scope cl C X.env) fp) ifs tt)
    (he : ∀ (s : Shared) (H : Hp) (C : Addr) (cl : List (Str × Addr)) (fp : List Addr), PE (blkX X s H scope (compEnvC scope cl C X.env) fp E) elt te) (hs : ∀ x, foldedSetIterable iter X.env x = pure x := by intro _; rfl) :
    PE X (.ListComp elt [⟨tg, iter, ifs, 0⟩] scope pos) (tLc wi g tt te (own.map (·.2))) := by
  refine ⟨fun pins s σ H Q I h => ?_⟩
  rw [eval_ListComp]
  refine lc_coreX (use := none) I tk hst hf hc hN hi ok hg ht he hs h fun D ce s6 m H5 I7 qq hn f7 => ⟨m, hn, fun h'' sb => ?_⟩
  obtain ⟨g0, g1, g2, g3, g4, g5⟩ := f7
  exact ⟨.ref D, H5, I7.turned (t' := s6.toks) (fun b o hb e => (sb.2 b hb).trans e) g0 g1 g3 g4 g5, rfl, qq⟩
/-- put into a name, on one line -/
theorem ps_setLcX {i : Nat} {y : Str} {py : Pos} {E : XK} {elt tg iter : Expr} {ifs : List Expr} {scope : Scope} {own : List (Str × Nat)} {pos spos : Pos} {wi : TI} {g : TG} {tt : TT} {te : TE} (tk : Takes X (fun cls d _ H => E cls d H)) (hst : X.stack = X.env :: X.outer) (hf : X.env.frame = some X.env.locals)
    (hc : X.calm = true) (hN : X.N.Nodup) (hy : X.N[i]? = some y) (hyl : X.env.scope.names.lookup y = some .local) (hsw : swapsWith (.ListComp elt [⟨tg, iter, ifs, 0⟩] scope pos) (some (.Name y py)) spos.line X.env = pure true) (hi : PI X tg iter wi) (ok : BlkOk X.N X.env.scope scope own)
    (hg : ∀ (s : Shared) (H : Hp) (C : Addr) (cl : List (Str × Addr)) (fp : List Addr), PG (X.blk s H scope (compEnvC scope cl C X.env) fp) tg g) (ht : ∀ (s : Shared) (H : Hp) (C : Addr) (cl : List (Str × Addr)) (fp : List Addr), PTs (X.blk s H scope (compEnvC scope cl C X.env) fp) ifs tt)
    (he : ∀ (s : Shared) (H : Hp) (C : Addr) (cl : List (Str × Addr)) (fp : List Addr), PE (blkX X s H scope (compEnvC scope cl C X.env) fp E) elt te) (hs : ∀ x, foldedSetIterable iter X.env x = pure x := by intro _; rfl) :
    PS X (.Assign [.Name y py] (.ListComp elt [⟨tg, iter, ifs, 0⟩] scope pos) spos) (tAsg (tLc wi g tt te (own.map (·.2))) (gName i)) := by
  refine ⟨fun pins s σ H D I h => ?_⟩
  rw [exec_Assign_Name_used _ _ _ _ hsw]
  refine wpAny_bind (wpAny_standAt (wpAny_bind ?_))
  show wpAny _ X.A (do let _ ← comprehension (.ListComp elt [⟨tg, iter, ifs, 0⟩] scope pos) scope X.env (firstIterPos [⟨tg, iter, ifs, 0⟩] pos) (newList []) false (eval iter X.env) (some (assign (.Name y py) X.env))) _ _ s
  have h : tLc wi g tt te (own.map (·.2)) σ H (fun x H1 => gName i x σ H1 D.nx) := h
  refine wpAny_bind (thn (lc_coreX (Qf := fun _ s' => SP X pins D .next s') I tk hst hf hc hN hi ok hg ht he hs h fun L ce s6 m H5 I7 qq hn f7 => ?_) fun _ s' hq => wpAny_pure (wpAny_pure hq))
  show wpAny _ _ (PySem.assign (.Name y py) X.env (.ref L)) _ _ _
  refine wpAny_assign_Name (store_ok2 (v := V.ref L) I7 hN hy (.inl hyl) rfl (fun s2 I2 ⟨a, sb, ha⟩ => ?_) (.inr hyl))
  obtain ⟨g0, g1, g2, g3, g4, g5⟩ := f7
  have haC : ce.locals ≠ a := by
    rcases ha with z | z
    · rw [z]; exact g1
    · exact fun e => g4 y a z e.symm
  refine ⟨m, hn.sameBut sb haC, fun h3 sb3 => ?_⟩
  exact ⟨_, H5, I2.turned (t' := s2.toks) (fun b o hb e => (sb3.2 b hb).trans e) g0 g1 g3 g4 g5, qq⟩
end
end My
/-! a tuple of anything, held against the empty tuple -/
namespace My
open PySem PySem.Spec L2 PyProof.Rows
section
variable {X : Cx}
def rNeTE (K : PySem.W.Frag) : R2 := fun x y H Q => ∃ a b xs, x = .ref a ∧ y = .ref b ∧ SqT K H a xs ∧ SqT K H b [] ∧ Q (.bl (!xs.isEmpty)) H
theorem op_neTE (hu : X.A.units < cLine) : OpR X (compareOp .NotEq) (rNeTE X.K) := by
  intro pins s σ H x y v u Q I rx ry h
  obtain ⟨a, b, xs, rfl, rfl, ha, hb, q⟩ := h
  obtain rfl := Vals.ref1 (.cons rx .nil) |> fun e => (List.cons.inj e).1
  obtain rfl := Vals.ref1 (.cons ry .nil) |> fun e => (List.cons.inj e).1
  obtain ⟨i1, r1, l1, z1⟩ := I.tuple ha
  obtain ⟨i2, r2, l2, z2⟩ := I.tuple hb
  cases r2
  cases xs with
  | nil =>
    cases r1
    exact (SeqAt.RcNeAt.tuples l1 l2 hu (e := fun _ => true) (fun j h1 _ => absurd h1 (Nat.not_lt_zero _))) _ _ _ _ ⟨.bl false, H, I, rfl, q⟩
  | cons z zs =>
    cases r1
    exact (SeqAt.RcNeAt.tuples l1 l2 hu (e := fun _ => true) (fun j _ h2 => absurd h2 (Nat.not_lt_zero _))) _ _ _ _ ⟨.bl true, H, I, rfl, q⟩
end
end My
/-! words: numbers and spots that they tell -/
namespace My
open PySem L2 Mth TL
def dgB (c : Nat) : Bool := decide (48 ≤ c) && decide (c ≤ 57)
/-- digits of a number, without leading zeros, at most m of them -/
def nmB (m : Nat) (l : List Nat) : Bool := decide (1 ≤ l.length) && decide (l.length ≤ m) && l.all dgB && (decide (l = [48]) || !decide (l.head? = some 48))
def unM (l : List Nat) : List Nat := if l.head? = some 45 then l.tail else l
def valF (l : List Nat) : Int := if l.head? = some 45 then -((NumText.digitsVal l.tail : Nat) : Int) else ((NumText.digitsVal l : Nat) : Int)
def numF (l : List Nat) : Option Int := if l = [45, 48] ∨ nmB 9 (unM l) = false then none else some (valF l)
def wsF (l : List Nat) : List (List Nat) := spl [44] 0 [] l
def spF : List Int → Option T3
  | [x, y] => some (x, y, 1)
  | [x, y, q] => if 1 ≤ q ∧ g3 x y q = 1 ∧ q ≠ 1 then some (x, y, q) else none
  | _ => none
def spotF (l : List Nat) : Option T3 := if none ∈ (wsF l).map numF then none else spF (((wsF l).map numF).filterMap id)
theorem nm_digits {m : Nat} {l : List Nat} (h : nmB m l = true) : NumText.AllDigits l ∧ l ≠ [] ∧ l.length ≤ m := by
  unfold nmB at h
  rw [Bool.and_eq_true, Bool.and_eq_true, Bool.and_eq_true, decide_eq_true_iff, decide_eq_true_iff, List.all_eq_true] at h
  obtain ⟨⟨⟨h1, h2⟩, h3⟩, _⟩ := h
  refine ⟨fun c hc => ?_, fun e => by rw [e] at h1; simp at h1, h2⟩
  have := h3 c hc
  unfold dgB at this
  rw [Bool.and_eq_true, decide_eq_true_iff, decide_eq_true_iff] at this
  exact this
theorem head45 {l : List Nat} (h : l.head? = some 45) : l = 45 :: l.tail := by
  cases l with
  | nil => cases h
  | cons c t => rw [Option.some.inj h]; rfl
/-- int(word) -/
theorem int_numF {x : Str} {n : Int} (h : numF (tl x) = some n) : intText? x = some n ∧ x.length ≤ 10 := by
  unfold numF at h
  by_cases c : tl x = [45, 48] ∨ nmB 9 (unM (tl x)) = false
  · rw [if_pos c] at h; cases h
  · rw [if_neg c] at h
    have nm : nmB 9 (unM (tl x)) = true := by
      cases e : nmB 9 (unM (tl x)) with
      | true => rfl
      | false => exact absurd (.inr e) c
    obtain ⟨d1, d2, d3⟩ := nm_digits nm
    have e := Option.some.inj h
    unfold unM at d1 d2 d3
    unfold valF at e
    have hl := len_tl x
    by_cases m : (tl x).head? = some 45
    · rw [if_pos m] at d1 d2 d3 e
      have ex := head45 m
      have lx : (tl x).length = (tl x).tail.length + 1 := by rw [List.length_tail]; cases ht : tl x with
        | nil => rw [ht] at m; cases m
        | cons c t => simp
      refine ⟨?_, by omega⟩
      rw [← e]
      exact intText_neg ex d1 d2 (by omega)
    · rw [if_neg m] at d1 d2 d3 e
      refine ⟨?_, by omega⟩
      rw [← e]
      exact intText_digits d1 d2 (by omega)
theorem rm_tl (x : Str) : tl (Txt.removeprefix x ⟨#[45]⟩) = unM (tl x) := by
  unfold Txt.removeprefix unM
  have e : Builtin.Str.subAt x ⟨#[45]⟩ 0 = decide ((tl x).head? = some 45) := by
    rw [StrLaws.subAt_eq, List.drop_zero]
    show ((tl x).take 1 == [45]) = _
    cases tl x with
    | nil => rfl
    | cons c t =>
      show ([c] == [45]) = _
      rw [Bool.eq_iff_iff, beq_iff_eq, decide_eq_true_iff]
      constructor
      · intro h; rw [(List.cons.inj h).1]; rfl
      · intro h; rw [Option.some.inj h]
  rw [e]
  by_cases c : (tl x).head? = some 45
  · rw [if_pos (decide_eq_true c), if_pos c]
    unfold Txt.affix
    have ex := head45 c
    have lx : (tl x).length = (tl x).tail.length + 1 := by
      have := congrArg List.length ex
      rw [List.length_cons] at this
      exact this
    have hl := len_tl x
    dsimp only
    rw [if_neg (by rw [beq_iff_eq]; show ¬ (x.length - 1 = x.length); omega)]
    rw [show (⟨#[45]⟩ : Str).length = 1 from rfl, tl_strSub_end, List.drop_one]
  · rw [if_neg (by rw [decide_eq_false c]; exact Bool.false_ne_true), if_neg c]
    rfl
theorem cut_to1 (x : Str) : tl (cutS x none (some 1)) = (tl x).take 1 := by
  have hl := len_tl x
  unfold cutS
  rw [HT.sIx_none]
  show ((tl x).drop 0).take (HT.sIx x.length x.length (some ((1 : Nat) : Int)) - 0) = _
  rw [HT.sIx_nat, List.drop_zero, Nat.sub_zero]
  by_cases h : 1 ≤ x.length
  · rw [Nat.min_eq_left h]
  · rw [show min 1 x.length = 0 by omega, List.length_eq_zero_iff.mp (show (tl x).length = 0 by omega)]
    rfl
theorem cut_from1 (x : Str) : tl (cutS x (some 1) none) = (tl x).tail := by
  have hl := len_tl x
  unfold cutS
  rw [HT.sIx_none]
  show ((tl x).drop (HT.sIx x.length 0 (some ((1 : Nat) : Int)))).take (x.length - HT.sIx x.length 0 (some ((1 : Nat) : Int))) = _
  rw [HT.sIx_nat]
  by_cases h : 1 ≤ x.length
  · rw [Nat.min_eq_left h, List.drop_one, List.take_of_length_le (by rw [List.length_tail]; omega)]
  · rw [show min 1 x.length = 0 by omega, List.drop_zero, List.length_eq_zero_iff.mp (show (tl x).length = 0 by omega)]
    simp
/-! ### the words of numbers and of spots -/
def intL : Int → List Nat
  | .ofNat n => numL n
  | .negSucc n => 45 :: numL (n + 1)
theorem tl_int (i : Int) : tl (Str.ofString (toString i)) = intL i := by
  cases i with
  | ofNat n => exact tl_num n
  | negSucc n =>
    have := tl_num (n + 1)
    rw [tl_ofString] at this ⊢
    show (("-" ++ Nat.repr (n + 1) : String)).toList.map Char.toNat = 45 :: numL (n + 1)
    rw [String.toList_append, List.map_append, ← this]
    rfl
theorem intL_free {i : Int} {s : Nat} (h : (s < 48 ∨ 57 < s) ∧ s ≠ 45) : s ∉ intL i := by
  cases i with
  | ofNat n => exact numL_free h.1
  | negSucc n =>
    intro m
    rcases List.mem_cons.mp m with m | m
    · exact h.2 m
    · exact numL_free h.1 m
theorem num_head (n : Nat) : ∃ c t, numL n = c :: t ∧ 48 ≤ c ∧ c ≤ 57 := by
  cases h : numL n with
  | nil => exact absurd h (numL_ne n)
  | cons c t => exact ⟨c, t, rfl, numL_digits n c (by rw [h]; exact .head _)⟩
theorem num_lead : ∀ n : Nat, 0 < n → (numL n).head? ≠ some 48 := by
  intro n
  induction n using Nat.strongRecOn with
  | ind n ih =>
    intro h0
    by_cases h : n < 10
    · rw [numL_lt h]
      intro e
      have := Option.some.inj e
      omega
    · rw [numL_step (by omega), List.head?_append]
      have := ih (n / 10) (by omega) (by omega)
      cases hn : numL (n / 10) with
      | nil => exact absurd hn (numL_ne _)
      | cons c t =>
        rw [hn] at this
        exact this
theorem nm_num {n : Nat} (h : n < 1000000000) : nmB 9 (numL n) = true := by
  have h1 := numL_len (n := n) (k := 9) (by decide) h
  have h2 := numL_ne n
  have h3 := numL_digits n
  have h4 : 1 ≤ (numL n).length := by cases hh : numL n with | nil => exact absurd hh h2 | cons c t => simp
  unfold nmB
  rw [decide_eq_true h4, decide_eq_true h1, List.all_eq_true.mpr fun c hc => by unfold dgB; rw [decide_eq_true (h3 c hc).1, decide_eq_true (h3 c hc).2]; rfl]
  by_cases e : n = 0
  · subst e; decide +kernel
  · rw [decide_eq_false (num_lead n (by omega))]
    simp
theorem numF_int {i : Int} (h : i.natAbs < 1000000000) : numF (intL i) = some i := by
  unfold numF
  cases i with
  | ofNat n =>
    have h : n < 1000000000 := h
    obtain ⟨c, t, e, c1, c2⟩ := num_head n
    have hd : (numL n).head? ≠ some 45 := by rw [e]; intro z; have := Option.some.inj z; omega
    have hn : ¬ (numL n = [45, 48] ∨ nmB 9 (unM (numL n)) = false) := by
      rintro (z | z)
      · rw [z] at hd; exact hd rfl
      · unfold unM at z
        rw [if_neg hd, nm_num h] at z
        cases z
    show (if numL n = [45, 48] ∨ nmB 9 (unM (numL n)) = false then none else some (valF (numL n))) = _
    rw [if_neg hn]
    unfold valF
    rw [if_neg hd, numL_val]
    rfl
  | negSucc n =>
    have h : n + 1 < 1000000000 := h
    have hd : (45 :: numL (n + 1)).head? = some 45 := rfl
    have hn : ¬ (45 :: numL (n + 1) = [45, 48] ∨ nmB 9 (unM (45 :: numL (n + 1))) = false) := by
      rintro (z | z)
      · have z := (List.cons.inj z).2
        have := num_lead (n + 1) (by omega)
        rw [z] at this
        exact this rfl
      · unfold unM at z
        rw [if_pos hd, List.tail_cons, nm_num h] at z
        cases z
    show (if 45 :: numL (n + 1) = [45, 48] ∨ nmB 9 (unM (45 :: numL (n + 1))) = false then none else some (valF (45 :: numL (n + 1)))) = _
    rw [if_neg hn]
    unfold valF
    rw [if_pos hd, List.tail_cons, numL_val]
    rfl
/-- the numbers that a word of a spot tells -/
def pts (z : T3) : List Int := if z.2.2 = 1 then [z.1, z.2.1] else [z.1, z.2.1, z.2.2]
def wordL (z : T3) : List Nat := joinL [44] ((pts z).map intL)
theorem ws_word (z : T3) : wsF (wordL z) = (pts z).map intL := by
  unfold wsF wordL
  refine spl_join (s := 44) (S := []) ?_ fun p hp => ?_
  · unfold pts; split <;> simp
  · obtain ⟨i, _, rfl⟩ := List.mem_map.mp hp
    exact intL_free (by omega)
theorem spot_word {z : T3} (o : Ok z) (b : B 29 z) : spotF (wordL z) = some z := by
  obtain ⟨b1, b2, b3⟩ := b
  have e29 : (2 : Nat) ^ 29 = 536870912 := by decide
  unfold spotF
  rw [ws_word]
  unfold pts
  have n1 := numF_int (i := z.1) (by omega)
  have n2 := numF_int (i := z.2.1) (by omega)
  have n3 := numF_int (i := z.2.2) (by omega)
  obtain ⟨o1, o2⟩ := o
  by_cases c : z.2.2 = 1
  · rw [if_pos c]
    simp only [List.map_cons, List.map_nil, n1, n2]
    rw [if_neg (by simp)]
    show some (z.1, z.2.1, 1) = some z
    rw [← c]
  · rw [if_neg c]
    simp only [List.map_cons, List.map_nil, n1, n2, n3]
    rw [if_neg (by simp)]
    show (if 1 ≤ z.2.2 ∧ g3 z.1 z.2.1 z.2.2 = 1 ∧ z.2.2 ≠ 1 then some (z.1, z.2.1, z.2.2) else none) = some z
    rw [if_pos ⟨by omega, o2, c⟩]
theorem joinL_free {S : List Nat} {s : Nat} (hS : s ∉ S) : ∀ {ps : List (List Nat)}, (∀ p ∈ ps, s ∉ p) → s ∉ joinL S ps
  | [], _ => by simp [joinL]
  | [p], h => h p (.head _)
  | p :: q :: r, h => by
    show s ∉ p ++ (S ++ joinL S (q :: r))
    intro m
    rcases List.mem_append.mp m with m | m
    · exact h p (.head _) m
    · rcases List.mem_append.mp m with m | m
      · exact hS m
      · exact joinL_free hS (fun z hz => h z (.tail _ hz)) m
theorem word_free {z : T3} {s : Nat} (h : (s < 48 ∨ 57 < s) ∧ s ≠ 45 ∧ s ≠ 44) : s ∉ wordL z := joinL_free (by simpa using h.2.2) fun p hp => by
  obtain ⟨i, _, rfl⟩ := List.mem_map.mp hp
  exact intL_free ⟨h.1, h.2.1⟩
theorem spl_le (S : List Nat) : ∀ (l : List Nat) (k : Nat) (acc : List Nat), ∀ p ∈ spl S k acc l, p.length ≤ acc.length + l.length
  | [], k, acc, p, h => by
    rw [spl_nil, List.mem_singleton] at h
    rw [h]; exact Nat.le_refl _
  | c :: r, 0, acc, p, h => by
    cases e : pre S (c :: r) with
    | true =>
      rw [spl_hit e] at h
      rcases List.mem_cons.mp h with h | h
      · rw [h]; exact Nat.le_add_right _ _
      · have := spl_le S r _ [] p h
        rw [List.length_nil, Nat.zero_add] at this
        rw [List.length_cons]; omega
    | false =>
      rw [spl_miss e] at h
      have := spl_le S r 0 _ p h
      rw [List.length_append, List.length_singleton] at this
      rw [List.length_cons]; omega
  | c :: r, k + 1, acc, p, h => by
    have := spl_le S r k acc p h
    rw [List.length_cons]; omega
theorem spl_cnt (S : List Nat) : ∀ (l : List Nat) (k : Nat) (acc : List Nat), (spl S k acc l).length ≤ l.length + 1
  | [], k, acc => by rw [spl_nil]; exact Nat.le_refl _
  | c :: r, 0, acc => by
    cases e : pre S (c :: r) with
    | true =>
      rw [spl_hit e, List.length_cons, List.length_cons]
      have := spl_cnt S r (S.length - 1) []
      omega
    | false =>
      rw [spl_miss e, List.length_cons]
      have := spl_cnt S r 0 (acc ++ [c])
      omega
  | c :: r, k + 1, acc => by
    have := spl_cnt S r k acc
    rw [List.length_cons]
    exact Nat.le_trans this (by omega)
theorem split_ws (x : Str) : (Txt.split x ",").map tl = wsF (tl x) := by
  rw [split_spl x "," (by rw [show tl ("," : Str) = [44] from by decide +kernel]; simp) (kind_ok (by decide +kernel)), show tl ("," : Str) = [44] from by decide +kernel]
  rfl
theorem split_one {x y : Str} {s : Nat} (e : tl y = [s]) (h : s < 256) : (Txt.split x y).length ≤ x.length + 1 ∧ ∀ p ∈ Txt.split x y, p.length ≤ x.length := by
  have eq := split_spl x y (by rw [e]; simp) (kind_ok (by
    rw [show y = ⟨[s].toArray⟩ from ext_tl e]
    simp [h]))
  constructor
  · have := congrArg List.length eq
    rw [List.length_map] at this
    rw [this, len_tl]
    exact spl_cnt _ _ _ _
  · intro p hp
    have m : tl p ∈ (Txt.split x y).map tl := List.mem_map.mpr ⟨p, hp, rfl⟩
    rw [eq] at m
    have := spl_le _ _ _ _ _ m
    rw [len_tl, len_tl]
    simpa using this
theorem joinL_len (S : List Nat) : ∀ ps : List (List Nat), (joinL S ps).length ≤ (ps.map (·.length)).sum + ps.length * S.length
  | [] => Nat.zero_le _
  | [p] => by
    show p.length ≤ p.length + 0 + 1 * S.length
    omega
  | p :: q :: r => by
    have ih := joinL_len S (q :: r)
    show (p ++ (S ++ joinL S (q :: r))).length ≤ _
    rw [List.length_append, List.length_append, List.map_cons, List.sum_cons, List.length_cons, Nat.add_mul]
    omega
theorem sum_le {α : Type} {f : α → Nat} {k : Nat} : ∀ {l : List α}, (∀ x ∈ l, f x ≤ k) → (l.map f).sum ≤ k * l.length
  | [], _ => Nat.le_refl _
  | x :: l, h => by
    have ih := sum_le (l := l) fun y hy => h y (.tail _ hy)
    have := h x (.head _)
    rw [List.map_cons, List.sum_cons, List.length_cons, Nat.mul_add]
    omega
theorem intL_len {i : Int} (h : i.natAbs < 1000000000000000000) : (intL i).length ≤ 19 := by
  cases i with
  | ofNat n => exact Nat.le_trans (numL_len (k := 18) (by decide) h) (by decide)
  | negSucc n =>
    have := numL_len (n := n + 1) (k := 18) (by decide) h
    show (45 :: numL (n + 1)).length ≤ 19
    rw [List.length_cons]; omega
theorem pts_len (z : T3) : (pts z).length ≤ 3 := by unfold pts; split <;> simp
theorem pts_B {z : T3} (b : B 59 z) : ∀ i ∈ pts z, i.natAbs < 1000000000000000000 := fun i hi => by
  obtain ⟨b1, b2, b3⟩ := b
  have e59 : (2 : Nat) ^ 59 = 576460752303423488 := by decide
  unfold pts at hi
  split at hi <;> simp only [List.mem_cons, List.not_mem_nil, or_false] at hi <;> rcases hi with rfl | rfl | rfl <;> omega
theorem wordL_len {z : T3} (b : B 59 z) : (wordL z).length ≤ 60 := by
  have h := joinL_len [44] ((pts z).map intL)
  have h2 : (((pts z).map intL).map (·.length)).sum ≤ 19 * (pts z).length := by
    rw [List.map_map]
    exact sum_le fun i hi => intL_len (pts_B b i hi)
  have h3 := pts_len z
  rw [List.length_map] at h
  unfold wordL
  rw [List.length_singleton] at h
  omega
end My
/-! which words tell a spot, as the law finds out -/
namespace My
open PySem L2 Mth TL
theorem g3_one (x y : Int) : g3 x y 1 = 1 := by
  unfold g3
  simp
theorem low_self {x y d : Int} (o : Ok (x, y, d)) : low x y d = (x, y, d) := by
  obtain ⟨o1, o2⟩ := o
  have o1 : 0 < d := o1
  have o2 : g3 x y d = 1 := o2
  have e : sg x y d = 1 := by
    unfold sg
    rw [o2, if_neg (by omega)]
  unfold low
  rw [e, Int.fdiv_one, Int.fdiv_one, Int.fdiv_one]
theorem fold_ge : ∀ (l : List Nat) (a : Nat), a ≤ l.foldl (fun acc c => acc * 10 + (c - 48)) a
  | [], a => Nat.le_refl _
  | c :: l, a => by
    have := fold_ge l (a * 10 + (c - 48))
    rw [List.foldl_cons]
    omega
theorem nm_head {m : Nat} {l : List Nat} (h : nmB m l = true) : l = [48] ∨ l.head? ≠ some 48 := by
  unfold nmB at h
  rw [Bool.and_eq_true, Bool.or_eq_true, decide_eq_true_iff] at h
  rcases h.2 with h | h
  · exact .inl h
  · exact .inr (by simpa using h)
theorem nm_val {l : List Nat} (h : nmB 9 l = true) : (NumText.digitsVal l = 0 → l = [48]) ∧ (NumText.digitsVal l = 1 → l = [49]) := by
  obtain ⟨d1, d2, _⟩ := nm_digits h
  cases l with
  | nil => exact absurd rfl d2
  | cons c t =>
    have hc := d1 c (.head _)
    cases t with
    | nil =>
      have e : NumText.digitsVal [c] = c - 48 := by unfold NumText.digitsVal; simp
      rw [e]
      refine ⟨fun z => ?_, fun z => ?_⟩
      · rw [show c = 48 by omega]
      · rw [show c = 49 by omega]
    | cons d t =>
      have n48 : c ≠ 48 := by
        rcases nm_head h with z | z
        · cases z
        · intro e; exact z (by rw [e]; rfl)
      have e : NumText.digitsVal (c :: d :: t) = t.foldl (fun acc c => acc * 10 + (c - 48)) ((0 * 10 + (c - 48)) * 10 + (d - 48)) := rfl
      have g := fold_ge t ((0 * 10 + (c - 48)) * 10 + (d - 48))
      rw [e]
      exact ⟨fun z => by omega, fun z => by omega⟩
theorem nm_num45 {m : Nat} {l : List Nat} (h : nmB m l = true) : l.head? ≠ some 45 := by
  obtain ⟨d1, d2, _⟩ := nm_digits h
  cases l with
  | nil => exact absurd rfl d2
  | cons c t =>
    have hc := d1 c (.head _)
    intro e
    have := Option.some.inj e
    omega
theorem numF_nm {l : List Nat} (h : nmB 9 l = true) : numF l = some ((NumText.digitsVal l : Nat) : Int) := by
  have h45 := nm_num45 h
  unfold numF
  rw [if_neg]
  · unfold valF
    rw [if_neg h45]
  · rintro (z | z)
    · rw [z] at h45; exact h45 rfl
    · unfold unM at z
      rw [if_neg h45, h] at z
      cases z
theorem numF_pos {l : List Nat} {q : Int} (h : numF l = some q) (h1 : 1 ≤ q) : nmB 9 l = true ∧ l ≠ [48] := by
  unfold numF at h
  by_cases c : l = [45, 48] ∨ nmB 9 (unM l) = false
  · rw [if_pos c] at h; cases h
  · rw [if_neg c] at h
    have e := Option.some.inj h
    unfold valF at e
    by_cases m : l.head? = some 45
    · rw [if_pos m] at e; omega
    · rw [if_neg m] at e
      unfold unM at c
      rw [if_neg m] at c
      refine ⟨?_, fun z => ?_⟩
      · cases g : nmB 9 l with
        | true => rfl
        | false => exact absurd (.inr g) c
      · rw [z] at e
        have : NumText.digitsVal [48] = 0 := by decide +kernel
        omega
theorem spw_part {l a : List Nat} (h : a ∈ wsF l) (n : numF a = none) : spotF l = none := by
  unfold spotF
  rw [if_pos (List.mem_map.mpr ⟨a, h, n⟩)]
theorem spF_len {is : List Int} (h : (spF is).isSome = true) : is.length = 2 ∨ is.length = 3 := by
  match is, h with
  | [_, _], _ => exact .inl rfl
  | [_, _, _], _ => exact .inr rfl
  | [], h => cases h
  | [_], h => cases h
  | _ :: _ :: _ :: _ :: _, h => cases h
theorem spw_all {ns : List (Option Int)} (h : none ∉ ns) : (ns.filterMap id).length = ns.length := by
  induction ns with
  | nil => rfl
  | cons n ns ih =>
    cases n with
    | none => exact absurd (.head _) h
    | some n =>
      show ((ns.filterMap id).length + 1) = _
      rw [ih fun z => h (.tail _ z), List.length_cons]
theorem spw_len {l : List Nat} (h : (wsF l).length ≠ 2) (h3 : (wsF l).length ≠ 3) : spotF l = none := by
  unfold spotF
  by_cases c : none ∈ (wsF l).map numF
  · rw [if_pos c]
  · rw [if_neg c]
    have e := spw_all c
    rw [List.length_map] at e
    cases g : spF (((wsF l).map numF).filterMap id) with
    | none => rfl
    | some z =>
      rcases spF_len (show (spF (((wsF l).map numF).filterMap id)).isSome = true by rw [g]; rfl) with k | k <;> omega
theorem spw_two {l a b : List Nat} {x y : Int} (h : wsF l = [a, b]) (ha : numF a = some x) (hb : numF b = some y) : spotF l = some (x, y, 1) := by
  unfold spotF
  rw [h]
  simp only [List.map_cons, List.map_nil, ha, hb]
  rw [if_neg (by simp)]
  rfl
theorem spw_three {l a b c : List Nat} {x y q : Int} (h : wsF l = [a, b, c]) (ha : numF a = some x) (hb : numF b = some y) (hc : numF c = some q) : spotF l = if 1 ≤ q ∧ g3 x y q = 1 ∧ q ≠ 1 then some (x, y, q) else none := by
  unfold spotF
  rw [h]
  simp only [List.map_cons, List.map_nil, ha, hb, hc]
  rw [if_neg (by simp)]
  rfl
theorem spw_third {l a b c : List Nat} (h : wsF l = [a, b, c]) (hc : nmB 9 c = false ∨ c = [48] ∨ c = [49]) : spotF l = none := by
  cases na : numF a with
  | none => exact spw_part (by rw [h]; simp) na
  | some x => cases nb : numF b with
    | none => exact spw_part (by rw [h]; simp) nb
    | some y => cases nc : numF c with
      | none => exact spw_part (by rw [h]; simp) nc
      | some q =>
        rw [spw_three h na nb nc, if_neg]
        rintro ⟨q1, _, q2⟩
        obtain ⟨p1, p2⟩ := numF_pos nc q1
        rcases hc with hc | hc | hc
        · rw [p1] at hc; cases hc
        · exact p2 hc
        · rw [hc] at nc
          have : numF [49] = some 1 := by decide +kernel
          rw [this] at nc
          exact q2 (Option.some.inj nc).symm
theorem spw_third_ok {l a b c : List Nat} {x y : Int} (h : wsF l = [a, b, c]) (ha : numF a = some x) (hb : numF b = some y) (hc : nmB 9 c = true) (h0 : c ≠ [48]) (h1 : c ≠ [49]) :
    ∃ q : Int, numF c = some q ∧ 2 ≤ q ∧ spotF l = if g3 x y q = 1 then some (x, y, q) else none := by
  obtain ⟨v0, v1⟩ := nm_val hc
  have q2 : 2 ≤ ((NumText.digitsVal c : Nat) : Int) := by
    have n0 : NumText.digitsVal c ≠ 0 := fun z => h0 (v0 z)
    have n1 : NumText.digitsVal c ≠ 1 := fun z => h1 (v1 z)
    omega
  refine ⟨_, numF_nm hc, q2, ?_⟩
  rw [spw_three h ha hb (numF_nm hc)]
  by_cases g : g3 x y ((NumText.digitsVal c : Nat) : Int) = 1
  · rw [if_pos g, if_pos ⟨by omega, g, by omega⟩]
  · rw [if_neg g, if_neg fun z => g z.2.1]
/-- the numbers of a word that tells a spot -/
theorem spw_nums {l : List Nat} {z : T3} (h : spotF l = some z) : ∃ is : List Int, (wsF l).map numF = is.map some ∧ is ++ List.replicate (3 - is.length) 1 = [z.1, z.2.1, z.2.2] ∧ is.length ≤ 3 := by
  unfold spotF at h
  by_cases c : none ∈ (wsF l).map numF
  · rw [if_pos c] at h; cases h
  · rw [if_neg c] at h
    have e : ∀ {ns : List (Option Int)}, none ∉ ns → ns = (ns.filterMap id).map some := by
      intro ns
      induction ns with
      | nil => intro _; rfl
      | cons n ns ih =>
        intro h
        cases n with
        | none => exact absurd (.head _) h
        | some n =>
          show some n :: ns = some n :: (ns.filterMap id).map some
          rw [← ih fun z => h (.tail _ z)]
    refine ⟨_, e c, ?_⟩
    generalize ((wsF l).map numF).filterMap id = is at h
    match is, h with
    | [x, y], h =>
      have h := Option.some.inj h
      rw [← h]
      exact ⟨rfl, by simp⟩
    | [x, y, q], h =>
      have h : (if 1 ≤ q ∧ g3 x y q = 1 ∧ q ≠ 1 then some (x, y, q) else none) = some z := h
      split at h
      · have h := Option.some.inj h
        rw [← h]
        exact ⟨rfl, by simp⟩
      · cases h
    | [], h => cases h
    | [_], h => cases h
    | _ :: _ :: _ :: _ :: _, h => cases h
theorem spw_ok {l : List Nat} {z : T3} (h : spotF l = some z) : Ok z := by
  unfold spotF at h
  split at h
  · cases h
  · generalize ((wsF l).map numF).filterMap id = is at h
    match is, h with
    | [x, y], h =>
      have h := Option.some.inj h
      rw [← h]
      exact ⟨by show (0 : Int) < 1; decide, by show g3 x y 1 = 1; exact g3_one x y⟩
    | [x, y, q], h =>
      have h : (if 1 ≤ q ∧ g3 x y q = 1 ∧ q ≠ 1 then some (x, y, q) else none) = some z := h
      split at h
      · rename_i c
        have h := Option.some.inj h
        rw [← h]
        exact ⟨by show 0 < q; omega, c.2.1⟩
      · cases h
    | [], h => cases h
    | [_], h => cases h
    | _ :: _ :: _ :: _ :: _, h => cases h
theorem fold_lt : ∀ (l : List Nat) (a : Nat), NumText.AllDigits l → l.foldl (fun acc c => acc * 10 + (c - 48)) a < (a + 1) * 10 ^ l.length
  | [], a, _ => by simp
  | c :: l, a, h => by
    have hc := h c (.head _)
    have ih := fold_lt l (a * 10 + (c - 48)) fun d hd => h d (.tail _ hd)
    rw [List.foldl_cons, List.length_cons, Nat.pow_succ]
    refine Nat.lt_of_lt_of_le ih ?_
    rw [Nat.mul_comm (10 ^ l.length) 10, ← Nat.mul_assoc]
    exact Nat.mul_le_mul_right _ (by omega)
theorem numF_B {l : List Nat} {n : Int} (h : numF l = some n) : n.natAbs < 1000000000 := by
  unfold numF at h
  by_cases c : l = [45, 48] ∨ nmB 9 (unM l) = false
  · rw [if_pos c] at h; cases h
  · rw [if_neg c] at h
    have nm : nmB 9 (unM l) = true := by
      cases e : nmB 9 (unM l) with
      | true => rfl
      | false => exact absurd (.inr e) c
    obtain ⟨d1, d2, d3⟩ := nm_digits nm
    have b : ∀ l : List Nat, NumText.AllDigits l → l.length ≤ 9 → NumText.digitsVal l < 1000000000 := fun l h1 h2 => by
      have := fold_lt l 0 h1
      unfold NumText.digitsVal
      refine Nat.lt_of_lt_of_le this ?_
      rw [Nat.zero_add, Nat.one_mul]
      exact Nat.le_trans (Nat.pow_le_pow_right (by decide) h2) (by decide)
    have e := Option.some.inj h
    unfold valF at e
    unfold unM at d1 d3
    by_cases m : l.head? = some 45
    · rw [if_pos m] at d1 d3 e
      have := b _ d1 d3
      omega
    · rw [if_neg m] at d1 d3 e
      have := b _ d1 d3
      omega
theorem spw_B {l : List Nat} {z : T3} (h : spotF l = some z) : B 30 z := by
  obtain ⟨is, e1, e2, l3⟩ := spw_nums h
  have hb : ∀ i ∈ is, i.natAbs < 1000000000 := fun i hi => by
    have : some i ∈ (wsF l).map numF := by rw [e1]; exact List.mem_map.mpr ⟨i, hi, rfl⟩
    obtain ⟨a, _, ea⟩ := List.mem_map.mp this
    exact numF_B ea
  have hb2 : ∀ i ∈ is ++ List.replicate (3 - is.length) 1, i.natAbs < 1000000000 := fun i hi => by
    rcases List.mem_append.mp hi with hi | hi
    · exact hb i hi
    · rw [(List.mem_replicate.mp hi).2]; decide
  rw [e2] at hb2
  have e30 : (2 : Nat) ^ 30 = 1073741824 := by decide
  have b1 := hb2 z.1 (by simp)
  have b2 := hb2 z.2.1 (by simp)
  have b3 := hb2 z.2.2 (by simp)
  exact ⟨by omega, by omega, by omega⟩
end My
namespace My
open PySem L2 Mth
def topS (i : Nat) : Stmt := PySem.Challenge.pw_copyarms_k33_texts_of_drawings.main.body.getD i (.Pass ⟨0, 0, 0, 0⟩)
end My
namespace My
open PySem L2 Mth
abbrev s_common_divisor : Stmt := topS 25
theorem sc_common_divisor : FnScope ["one", "other"] ["one", "other"] (defScope s_common_divisor) := ⟨rfl, rfl, rfl, by decide +kernel, rfl, by decide +kernel, by decide +kernel⟩
section
variable {P : Program} {w : World} {K : PySem.W.Frag} {mg : Str → Option Value} {base : Heap}
/-- a def with keyword-only parameters, out of which nothing is raised -/
theorem ok0 {x qual : Str} {params : Arguments} {body : List Stmt} {scope : Scope} {dvs : List V} {kws : List (Str × V)} {f : Addr} {fd : FuncData} {N ps : List Str} {k : Nat} {sp : Sp} (F : FunD K x qual params body scope dvs kws f fd) (S : FnScope N ps scope) (len : ∀ vs H Q E, sp vs H Q E → vs.length = ps.length)
    (hbody : ∀ (cdv : Value) (A : Around) (outer : List Env) (s : Shared) (H : Hp) (vs : List V) (Q : VK) (E : XK), Room k (A.deeper (PyProof.Rows.envOfC qual scope s.heap.objs.size f cdv)) → sp vs H Q E →
      ∃ t, PSs (cxOf CX0 P w K mg base N qual scope f cdv A outer s H E).nox body t ∧ t { nx := fun _ H' => Q .non H', rt := Q } (start N vs) H) : FnOk P w K mg base CX0 (k + 1) f fd ps sp :=
  F.ok S len fun cdv A outer s H vs Q E hr hsp => by
    obtain ⟨t, h, q⟩ := hbody cdv A outer s H vs Q E hr hsp
    exact ⟨t, h.nox, q⟩
/-- the greatest common divisor -/
def sp_gcd : Sp := fun vs H Q _ => ∃ a b : Int, vs = [.int a, .int b] ∧ Q (.int ((Int.gcd a b : Nat) : Int)) H
theorem ok_common_divisor {f : Addr} {fd : FuncData} (b_abs : mg "abs" = none) (F : Fun K "common_divisor" "common_divisor" s_common_divisor f fd) : FnOk P w K mg base CX0 1 f fd ["one", "other"] sp_gcd := by
  refine F.ok sc_common_divisor (fun vs H Q E h => ?_) (fun cdv A outer s H vs Q E hr h => ?_)
  · obtain ⟨a, b, rfl, _⟩ := h
    rfl
  obtain ⟨a, b, rfl, q⟩ := h
  refine ⟨_, (pss_cons (ps_while PassesOwn.never (pt_cmpR (op_ne) (pv 1) pe_int (nomark _)) (pss_one (ps_par (i := 0) (j := 1) (by rfl) sc_common_divisor.nd rfl rfl (by decide) rfl rfl (pa_cons (pv 1) (pa_cons (pe_op op_modN (pv 0) (pv 1)) pa_nil)) (by rfl))))
    (pss_one (ps_ret (pe_callB call_abs (by rfl) b_abs (by decide +kernel) (pa_cons (pv 0) pa_nil))))), ?_⟩
  refine while_by (fun σ H' => H' = H ∧ ∃ x y : Int, σ = [some (.int x), some (.int y)] ∧ Int.gcd x y = Int.gcd a b) (fun σ _ => match σ with | [_, some (.int y)] => y.natAbs | _ => 0) ⟨rfl, a, b, rfl, rfl⟩ ?_ ?_
  · rintro σ H' ⟨rfl, x, y, rfl, e⟩
    refine ⟨_, rfl, rfl, _, rfl, ?_⟩
    by_cases c : y = 0
    · subst c
      refine if_neg (by decide) |>.mpr ?_
      refine ⟨_, rfl, _, rfl, ?_⟩
      rw [← e, gcd_0] at q
      exact q
    · refine (if_pos (show (!decide (V.int y = V.int 0)) = true by rw [decide_eq_false (fun z => c (V.int.inj z))]; rfl)).mpr ?_
      refine ⟨_, rfl, _, rfl, _, rfl, _, _, rfl, rfl, c, _, _, rfl, ⟨rfl, _, _, rfl, ?_⟩, ?_⟩
      · rw [gcd_fmod]; exact e
      · exact fmod_small c
  · rintro σ H' Q1 Q2 hq ⟨v, h1, h2, k, h3, h4⟩
    exact ⟨v, h1, h2, k, h3, hq _ _ h4⟩
/-- (x, y, d) in lowest terms -/
def sp_low (K : PySem.W.Frag) : Sp := fun vs H Q _ => ∃ x y d : Int, vs = [.int x, .int y, .int d] ∧ d ≠ 0 ∧ d.natAbs < 2 ^ 8500 ∧ ∀ H' r, Same H H' → IsT K H' r (low x y d) → Q r H'
theorem g3_lt {x y d : Int} (hd : d ≠ 0) {n : Nat} (h : d.natAbs < 2 ^ n) : (sg x y d).natAbs < 2 ^ n := by
  obtain ⟨u, hu⟩ := @sg_dd x y d
  have hu0 : u ≠ 0 := fun z => by rw [z, Int.mul_zero] at hu; exact hd hu
  have e : (sg x y d).natAbs * u.natAbs = d.natAbs := by rw [← Int.natAbs_mul, ← hu]
  have : 1 ≤ u.natAbs := by omega
  have : (sg x y d).natAbs * 1 ≤ (sg x y d).natAbs * u.natAbs := Nat.mul_le_mul_left _ this
  omega
/-- two parts of numbers of bounded size -/
def sp_two (K : PySem.W.Frag) (g : T3 → T3 → T3) : Sp := fun vs H Q _ => ∃ va vb a b, vs = [va, vb] ∧ IsT K H va a ∧ IsT K H vb b ∧ Ok a ∧ Ok b ∧ B 4000 a ∧ B 4000 b ∧ ∀ H' r, Same H H' → IsT K H' r (g a b) → Q r H'
theorem mulW {i j : Int} {a b : Nat} (ha : i.natAbs < 2 ^ (a + 1)) (hb : j.natAbs < 2 ^ (b + 1)) (h : a + b + 2 ≤ 1000000 := by decide) : CMulW i j := wide_mul ha hb (by omega) (by omega) (by omega)
def sp_one (K : PySem.W.Frag) (g : T3 → T3) : Sp := fun vs H Q _ => ∃ va a, vs = [va] ∧ IsT K H va a ∧ ∀ H' r, Same H H' → IsT K H' r (g a) → Q r H'
def sp_inv (K : PySem.W.Frag) : Sp := fun vs H Q _ => ∃ va a, vs = [va] ∧ IsT K H va a ∧ Nz a ∧ B 4000 a ∧ ∀ H' r, Same H H' → IsT K H' r (inv a) → Q r H'
def sp_face (K : PySem.W.Frag) : Sp := fun vs H Q _ => ∃ va a m, vs = [va, .bl m] ∧ IsT K H va a ∧ ∀ H' r, Same H H' → IsT K H' r (face a m) → Q r H'
/-- where a copy carries a spot -/
def sp_car (K : PySem.W.Frag) : Sp := fun vs H Q _ => ∃ vt vs' m vz t s z, vs = [vt, vs', .bl m, vz] ∧ IsT K H vt t ∧ IsT K H vs' s ∧ IsT K H vz z ∧ Ok t ∧ Ok s ∧ Ok z ∧ B 1900 t ∧ B 4000 s ∧ B 1900 z ∧ ∀ H' r, Same H H' → IsT K H' r (car t s m z) → Q r H'
def sp_fr (K : PySem.W.Frag) : Sp := fun vs H Q _ => ∃ p q' : Int, vs = [.int p, .int q'] ∧ q' ≠ 0 ∧ q'.natAbs < 2 ^ 8500 ∧ ∀ H' a, Same H H' → SqT K H' a [.int (fr p q').1, .int (fr p q').2] → Q (.ref a) H'
theorem g3_0 (p q : Int) : g3 p 0 q = ((Int.gcd p q : Nat) : Int) := by
  unfold g3
  rw [Int.gcd_zero_right]
  unfold Int.gcd
  rw [Int.natAbs_natCast]
def BC (n : Nat) (c : Cp) : Prop := B n c.t ∧ B n c.s
end
end My

namespace My
open PySem L2 Mth
abbrev s_is_spot : Stmt := topS 26
theorem sc_is_spot : FnScope ["value", "number", "x", "y", "d"] ["value"] (defScope s_is_spot) := ⟨rfl, rfl, rfl, by decide +kernel, rfl, by decide +kernel, by decide +kernel⟩
abbrev s_is_whole : Stmt := topS 24
theorem sc_is_whole : FnScope ["value"] ["value"] (defScope s_is_whole) := ⟨rfl, rfl, rfl, by decide +kernel, rfl, by decide +kernel, by decide +kernel⟩
section
variable {P : Program} {w : World} {K : PySem.W.Frag} {mg : Str → Option Value} {base : Heap}
theorem ty_T {K : PySem.W.Frag} {H : Hp} {a : Addr} {xs : List V} (h : SqT K H a xs) : TyX K H (.ref a) (.type "tuple") := by
  rcases h with (h | ⟨o, h⟩) | ⟨o, its, n, h, c, _⟩
  · exact .base (.tup h)
  · exact .fTuple h
  · exact .kTuple h c
def sp_whole : Sp := fun vs H Q _ => ∃ i : Int, vs = [.int i] ∧ Q (.bl true) H
theorem ok_is_whole {f : Addr} {fd : FuncData} (b_isinstance : mg "isinstance" = none) (b_int : mg "int" = none) (b_bool : mg "bool" = none) (F : Fun K "is_whole" "is_whole" s_is_whole f fd) : FnOk P w K mg base CX0 1 f fd ["value"] sp_whole := by
  refine F.ok sc_is_whole (fun vs H Q E h => ?_) (fun cdv A outer s H vs Q E hr h => ?_)
  · obtain ⟨i, rfl, _⟩ := h
    rfl
  obtain ⟨i, rfl, q⟩ := h
  refine ⟨_, (pss_one (ps_ret (pe_and (pe_callB (r := rIsi K) call_isi (by rfl) b_isinstance (by decide +kernel) (pa_cons (pv 0) (pa_cons (pe_bltn (v := .ty "int") (by rfl) b_int (by decide +kernel) rfl) pa_nil))) (pe_one (pe_not (pe_callB (r := rIsi K) call_isi (by rfl) b_isinstance (by decide +kernel) (pa_cons (pv 0) (pa_cons (pe_bltn (v := .ty "bool") (by rfl) b_bool (by decide +kernel) rfl) pa_nil)))))))), ?_⟩
  refine ⟨_, rfl, _, _, _, _, _, rfl, .ty _, .base (.int i), kit_ty (by decide +kernel), true, rfl, iteT ?_⟩
  exact ⟨_, rfl, _, _, _, _, _, rfl, .ty _, .base (.int i), kit_ty (by decide +kernel), false, rfl, q⟩
/-- what is a spot is one -/
def sp_isspot (K : PySem.W.Frag) : Sp := fun vs H Q _ => ∃ va a, vs = [va] ∧ IsT K H va a ∧ Ok a ∧ ∀ H', Same H H' → Q (.bl true) H'
theorem v3_at {a : T3} {i : Nat} {x : V} (h : (v3 a)[i]? = some x) : ∃ z : Int, x = .int z := by
  unfold v3 at h
  match i, h with
  | 0, h => exact ⟨_, (Option.some.inj h).symm⟩
  | 1, h => exact ⟨_, (Option.some.inj h).symm⟩
  | 2, h => exact ⟨_, (Option.some.inj h).symm⟩
  | (n + 3), h => simp at h
theorem ok_is_spot {f : Addr} {fd : FuncData} (b_isinstance : mg "isinstance" = none) (b_tuple : mg "tuple" = none) (b_len : mg "len" = none) (b_all : mg "all" = none) (d_common_divisor : D P w K mg base "common_divisor" 1 sp_gcd) (d_is_whole : D P w K mg base "is_whole" 1 sp_whole)
    (F : Fun K "is_spot" "is_spot" s_is_spot f fd) : FnOk P w K mg base CX0 2 f fd ["value"] (sp_isspot K) := by
  refine F.ok sc_is_spot (fun vs H Q E h => ?_) (fun cdv A outer s H vs Q E hr h => ?_)
  · obtain ⟨va, a, rfl, _⟩ := h
    rfl
  obtain ⟨va, a, rfl, ⟨p, rfl, ta⟩, oa, q⟩ := h
  refine ⟨_, (pss_cons (ps_if (PW.pt (pw_or (pt_not (pt_val (pe_callB (r := rIsi K) call_isi (by rfl) b_isinstance (by decide +kernel) (pa_cons (pv 0) (pa_cons (pe_bltn (v := .ty "tuple") (by rfl) b_tuple (by decide +kernel) rfl) pa_nil))))) (pw_or1 (pt_cmpR (op_ne) (pe_callB call_len_seq (by rfl) b_len PySem.boot_len (pa_cons (pv 0) pa_nil)) pe_int (nomark _))))) (pss_one (ps_ret pe_bl)) pss_nil)
    (pss_cons (ps_if (pt_not (pt_val (pe_callB (cr_all rfl) (by rfl) b_all (by decide +kernel) (pa_cons (pe_lc (own := [("number", 1)]) (g := gName 1) (tt := tYes) (by rfl) sc_is_spot.nd (pi_tup (pv 0)) (blkOk_by (own := [("number", 1)]) (N := ["value", "number", "x", "y", "d"]) (sc := defScope s_is_spot) (by decide +kernel)) (fun _ _ _ _ _ => (pg_name (i := 1) sc_is_spot.nd rfl (by first | exact Or.inl rfl | exact Or.inr rfl))) (fun _ _ _ _ _ => pts_nil) (fun _ _ _ _ _ => (pc d_is_whole (hr.mono (by decide)) (pa_cons (pv 1) pa_nil)))) pa_nil)))) (pss_one (ps_ret pe_bl)) pss_nil)
    (pss_cons (ps_asg (pv 0) (pg_tup rfl (pgs_cons (pg_name (i := 2) sc_is_spot.nd rfl (by first | exact Or.inl rfl | exact Or.inr rfl)) (pgs_cons (pg_name (i := 3) sc_is_spot.nd rfl (by first | exact Or.inl rfl | exact Or.inr rfl)) (pgs_cons (pg_name (i := 4) sc_is_spot.nd rfl (by first | exact Or.inl rfl | exact Or.inr rfl)) pgs_nil)))))
    (pss_one (ps_ret (pe_and (pe_cmpR (op_ge) (pv 4) pe_int (nomark _)) (pe_one (pe_cmpR (op_eq) (pc d_common_divisor (hr.mono (by decide)) (pa_cons (pc d_common_divisor (hr.mono (by decide)) (pa_cons (pv 2) (pa_cons (pv 3) pa_nil))) (pa_cons (pv 4) pa_nil))) pe_int (nomark _))))))))), ?_⟩
  refine ⟨_, rfl, _, _, _, _, _, rfl, .ty _, ty_T ta, kit_ty (by decide +kernel), true, rfl, ?_⟩
  refine iteF ?_
  refine ⟨_, rfl, _, _, rfl, .inr ta, rfl, _, rfl, iteF ?_⟩
  refine ⟨_, rfl, _, rfl, ⟨_, ta⟩, fun L hL => lc_tup (K := K) (a := p) (xs := v3 a) (fun i H' => ∃ acc : List V, H' = upd H L (.lst acc) ∧ acc = (List.replicate i true).map V.bl) ⟨[], rfl, rfl⟩ ?_ ?_ ?_⟩
  · rintro i H' hi ⟨acc, rfl, _⟩
    exact same_T (same_new hL _) ta
  · rintro i x H' hx ⟨acc, rfl, ea⟩
    obtain ⟨z, rfl⟩ := v3_at hx
    refine ⟨rfl, ?_⟩
    refine yes_of ?_
    refine ⟨_, rfl, z, rfl, acc, upd_same, ?_, ?_⟩
    · have := (List.getElem?_eq_some_iff.mp hx).1
      rw [ea, List.length_map, List.length_replicate]
      exact small1000 (by have : (v3 a).length = 3 := rfl; omega)
    · refine ⟨acc ++ [.bl true], upd_upd, ?_⟩
      rw [ea, List.replicate_succ', List.map_append]
      rfl
  · rintro H' ⟨acc, rfl, ea⟩
    refine ⟨_, [true, true, true], rfl, .inl (.inl ?_), ?_⟩
    · rw [ea]; exact upd_same
    refine ⟨_, rfl, iteF ?_⟩
    have s1 := same_new hL (.lst acc)
    refine ⟨_, rfl, _, _, rfl, same_T s1 ta, rfl, _, _, rfl, _, _, rfl, _, _, rfl, rfl, ?_⟩
    refine ⟨_, rfl, _, _, rfl, rfl, true, congrArg V.bl (decide_eq_true (show (1 : Int) ≤ a.2.2 from oa.1)), iteT ?_⟩
    refine ⟨_, rfl, _, rfl, _, _, rfl, _, rfl, _, _, rfl, rfl, ?_⟩
    have e : V.int ((Int.gcd ((Int.gcd a.1 a.2.1 : Nat) : Int) a.2.2 : Nat) : Int) = V.int 1 := congrArg V.int oa.2
    have z := q _ s1
    show Q (.bl (decide (V.int ((Int.gcd ((Int.gcd a.1 a.2.1 : Nat) : Int) a.2.2 : Nat) : Int) = V.int 1))) _
    rw [decide_eq_true e]
    exact z
def sp_check (K : PySem.W.Frag) : Sp := fun vs H Q _ => ∃ va a, vs = [va] ∧ IsT K H va a ∧ Ok a ∧ ∀ H', Same H H' → Q .non H'
def d3 (s : T3) : PyData := .tuple [.int s.1, .int s.2.1, .int s.2.2]
theorem Dp3 {K : PySem.W.Frag} {H : Hp} {p : Addr} {s : T3} (h : SqT K H p (v3 s)) : Dp K H (.ref p) (d3 s) := .tup h (.cons (.int _) (.cons (.int _) (.cons (.int _) .nil)))
theorem shaped3 (s : T3) : SeqAt.shaped (d3 s) = true := rfl
theorem eqv3 (s t : T3) : PyData.eqv (d3 s) (d3 t) = decide (s = t) := by
  obtain ⟨a, b, c⟩ := s
  obtain ⟨u, v, w⟩ := t
  show ((a == u) && ((b == v) && ((c == w) && true))) = decide ((a, b, c) = (u, v, w))
  by_cases h1 : a = u
  · by_cases h2 : b = v
    · by_cases h3 : c = w
      · subst h1 h2 h3; simp
      · rw [decide_eq_false (fun z => h3 (by injection z with _ z; injection z))]; simp [h3]
    · rw [decide_eq_false (fun z => h2 (by injection z with _ z; injection z))]; simp [h2]
  · rw [decide_eq_false (fun z => h1 (by injection z))]; simp [h1]
def sp_checkT (K : PySem.W.Frag) : Sp := fun vs H Q _ => ∃ va a, vs = [va] ∧ IsT K H va a ∧ Ok a ∧ Nz a ∧ ∀ H', Same H H' → Q .non H'
end
end My

namespace My
open PySem L2 Mth
abbrev s_law_below : Stmt := topS 50
theorem sc_law_below : FnScope ["_law_d", "_law_limit", "_law_result"] ["_law_d", "_law_limit"] (defScope s_law_below) := ⟨rfl, rfl, rfl, by decide +kernel, rfl, by decide +kernel, by decide +kernel⟩
abbrev s_law_random : Stmt := topS 49
theorem sc_law_random : FnScope ["_law_script", "_law_salt", "_law_seed", "_law_cell"] ["_law_script", "_law_salt"] (defScope s_law_random) := ⟨rfl, rfl, rfl, by decide +kernel, rfl, by decide +kernel, by decide +kernel⟩
section
variable {P : Program} {w : World} {K : PySem.W.Frag} {mg : Str → Option Value} {base : Heap}
/-! ### the source of numbers -/
structure Src where
  seed : Int
  cur : Int
  rest : List Int
structure SrcOk (s : Src) : Prop where
  s0 : 0 ≤ s.seed
  s1 : s.seed < 2147483647
  c0 : 0 ≤ s.cur
  r0 : ∀ r ∈ s.rest, 0 ≤ r
  len : s.rest.length ≤ 63
def encD (s : Src) : List V := .int s.seed :: .int s.cur :: s.rest.map V.int
theorem natAbs_pow18 : ((10 : Int) ^ (18 : Int).toNat) = 1000000000000000000 := by decide
theorem getInt {ns : List Int} {i : Nat} {y : V} (h : (ns.map V.int)[i]? = some y) : ∃ u, y = V.int u ∧ ns[i]? = some u := by
  rw [List.getElem?_map] at h
  cases e : ns[i]? with
  | none => rw [e] at h; cases h
  | some u => rw [e] at h; exact ⟨u, (Option.some.inj h).symm, rfl⟩
theorem take_more {α : Type} {l : List α} {i : Nat} {x : α} (h : l[i]? = some x) : l.take (i + 1) = l.take i ++ [x] := by
  rw [List.take_succ, h]
  rfl
def sp_random (K : PySem.W.Frag) : Sp := fun vs H Q _ => ∃ (a : Addr) (ns : List Int) (salt : Int), vs = [.ref a, .int salt] ∧ SqL K H a (ns.map V.int) ∧ ns.length ≤ 63 ∧ 0 ≤ salt ∧ salt < 2147483647 ∧
  ∀ H' d st, Same H H' → H' d = some (.lst (encD st)) → SrcOk st → Q (.ref d) H'
theorem ok_law_random {f : Addr} {fd : FuncData} (b_abs : mg "abs" = none) (F : Fun K "_law_random" "_law_random" s_law_random f fd) : FnOk P w K mg base CX0 1 f fd ["_law_script", "_law_salt"] (sp_random K) := by
  refine F.ok sc_law_random (fun vs H Q E h => ?_) (fun cdv A outer s H vs Q E hr h => ?_)
  · obtain ⟨a, ns, salt, rfl, _⟩ := h
    rfl
  obtain ⟨a, ns, salt, rfl, hS, h63, h0, h1, q⟩ := h
  refine ⟨_, (pss_cons (ps_set (i := 2) sc_law_random.nd rfl (by first | exact Or.inl rfl | exact Or.inr rfl) (pv 1))
    (pss_cons (ps_for PassesOwn.never rfl (pi_list (pv 0)) (pg_name (i := 3) sc_law_random.nd rfl (by first | exact Or.inl rfl | exact Or.inr rfl)) (pss_one (ps_set (i := 2) sc_law_random.nd rfl (by first | exact Or.inl rfl | exact Or.inr rfl) (pe_op op_modN (pe_op op_add (pe_op op_mulW (pv 2) pe_int) (pe_callB call_abs (by rfl) b_abs (by decide +kernel) (pa_cons (pv 3) pa_nil))) pe_int))))
    (pss_one (ps_ret (pe_op op_cat (pe_lst (pa_cons (pv 2) (pa_cons pe_int pa_nil))) (pe_lc (own := [("_law_cell", 3)]) (g := gName 3) (by rfl) sc_law_random.nd (pi_list (pv 0)) (blkOk_by (own := [("_law_cell", 3)]) (N := ["_law_script", "_law_salt", "_law_seed", "_law_cell"]) (sc := defScope s_law_random) (by decide +kernel)) (fun _ _ _ _ _ => (pg_name (i := 3) sc_law_random.nd rfl (by first | exact Or.inl rfl | exact Or.inr rfl))) (fun _ _ _ _ _ => (pts_one (pt_cmpR (op_ge) (pv 3) (pe_op op_pow pe_int pe_int) (nomark _)))) (fun _ _ _ _ _ => (pv 3)))))))), ?_⟩
  refine ⟨_, rfl, ?_⟩
  refine ⟨_, rfl, _, rfl, ⟨_, hS⟩, for_list (K := K) (a := a) (xs := ns.map V.int) (fun i σ H' => H' = H ∧ ∃ (z : Int) (v : Option V), σ = [some (.ref a), some (.int salt), some (.int z), v] ∧ 0 ≤ z ∧ z < 2147483647) ⟨rfl, salt, none, rfl, h0, h1⟩ ?_ ?_ ?_⟩
  · rintro i σ H' _ ⟨rfl, _⟩
    exact hS
  · rintro i y σ H' hi ⟨rfl, z, v, rfl, z0, z1⟩
    obtain ⟨u, rfl, hu⟩ := getInt hi
    refine ⟨_, rfl, _, _, rfl, rfl, mulW (a := 31) (b := 31) (show z.natAbs < 2 ^ 32 by omega) (by decide), _, rfl, _, rfl, _, _, rfl, rfl, _, _, rfl, rfl, (show (2147483647 : Int) ≠ 0 by decide), ?_⟩
    exact ⟨rfl, _, _, rfl, Int.fmod_nonneg_of_pos _ (by decide), Int.fmod_lt_of_pos _ (by decide)⟩
  · rintro σ H' ⟨rfl, z, v, rfl, z0, z1⟩
    refine ⟨_, rfl, (by show 2 ≤ sizeLine; decide), fun p hp => ?_⟩
    have g1 := same_new hp (.lst [.int z, .int 0])
    refine ⟨_, rfl, a, rfl, ⟨_, g1.seq hS⟩, fun L hL => lc_list (K := K) (a := a) (xs := ns.map V.int) (fun i H1 => ∃ acc : List Int, H1 = upd (upd H' p (.lst [.int z, .int 0])) L (.lst (acc.map V.int)) ∧ acc.length ≤ i ∧ ∀ r ∈ acc, 0 ≤ r) ⟨[], rfl, Nat.le_refl _, fun r hr => by cases hr⟩ ?_ ?_ ?_⟩
    · rintro i H1 hi ⟨acc, rfl, _⟩
      exact (same_new hL _).seq (g1.seq hS)
    · rintro i y H1 hi ⟨acc, rfl, hl, ha⟩
      obtain ⟨u, rfl, hu⟩ := getInt hi
      have hi63 : i < ns.length := (List.getElem?_eq_some_iff.mp hu).1
      refine ⟨rfl, ?_⟩
      refine ⟨_, rfl, _, _, rfl, rfl, ⟨by decide, by decide, by decide⟩, _, _, rfl, rfl, _, rfl, ?_⟩
      refine ite2 (fun c => ?_) (fun c => ?_)
      · refine ⟨_, rfl, acc.map V.int, upd_same, ?_, acc ++ [u], ?_, ?_, ?_⟩
        · rw [List.length_map]; exact small1000 (by omega)
        · rw [upd_upd, List.map_append]; rfl
        · rw [List.length_append, List.length_singleton]; omega
        · intro r hr
          rcases List.mem_append.mp hr with h | h
          · exact ha r h
          · have c' : (10 : Int) ^ (18 : Int).toNat ≤ u := of_decide_eq_true c
            rw [natAbs_pow18] at c'
            have := List.mem_singleton.mp h
            omega
      · exact ⟨acc, rfl, by omega, ha⟩
    · rintro H1 ⟨acc, rfl, hl, ha⟩
      rw [List.length_map] at hl
      have npL : p ≠ L := fun z => by rw [← z, upd_same] at hL; cases hL
      refine ⟨p, L, _, _, rfl, rfl, by rw [upd_ne npL]; exact upd_same, upd_same, ?_, fun r hr => ?_⟩
      · rw [List.length_map]; exact small (by show 2 + _ ≤ 1000; omega)
      · have g2 := same_new hL (.lst (acc.map V.int))
        exact q _ _ ⟨z, 0, acc⟩ (g1.trans (g2.trans (same_new hr _))) upd_same ⟨z0, z1, Int.le_refl 0, ha, by show acc.length ≤ 63; omega⟩
/-- the next number -/
def sp_below : Sp := fun vs H Q _ => ∃ (d : Addr) (n : Int) (st : Src), vs = [.ref d, .int n] ∧ 0 < n ∧ n < 1000000 ∧ H d = some (.lst (encD st)) ∧ SrcOk st ∧
  ∀ st' r, SrcOk st' → 0 ≤ r → r < n → Q (.int r) (upd H d (.lst (encD st')))
theorem div_nn {a b : Int} (ha : 0 ≤ a) (hb : 0 < b) : 0 ≤ a.fdiv b := by
  rw [Int.fdiv_eq_ediv_of_nonneg a (by omega)]
  exact Int.ediv_nonneg ha (by omega)
theorem dX {i j : Int} (h : 0 < j) (h9 : j < 1000000) : CDivX i j := divX (b := 20) (by omega) (by omega) (by decide) (by decide)
theorem at0 {a b : V} {r : List V} : atI (a :: b :: r) 0 = some a := atI_nat (j := 0) rfl
theorem at1 {a b : V} {r : List V} : atI (a :: b :: r) 1 = some b := atI_nat (j := 1) rfl
theorem ix0 {a b : V} {r : List V} : ixN (a :: b :: r).length 0 = some 0 := by
  unfold ixN
  rw [if_pos (by decide), if_pos (by simp only [List.length_cons]; omega)]
  rfl
theorem ix1 {a b : V} {r : List V} : ixN (a :: b :: r).length 1 = some 1 := by
  unfold ixN
  rw [if_pos (by decide), if_pos (by simp only [List.length_cons]; omega)]
  rfl
theorem ok_law_below {f : Addr} {fd : FuncData} (b_len : mg "len" = none) (F : Fun K "_law_below" "_law_below" s_law_below f fd) : FnOk P w K mg base CX0 1 f fd ["_law_d", "_law_limit"] sp_below := by
  refine F.ok sc_law_below (fun vs H Q E h => ?_) (fun cdv A outer s H vs Q E hr h => ?_)
  · obtain ⟨d, n, st, rfl, _⟩ := h
    rfl
  obtain ⟨d, n, ⟨seed, cur, rest⟩, rfl, n0, n1, hd, ⟨s0, s1, c0, r0, hl⟩, q⟩ := h
  dsimp only at s0 s1 c0 r0 hl
  refine ⟨_, (pss_cons (ps_if (PW.pt (pw_and (pt_cmpR (op_eq) (pe_ix ix_list (pv 0) pe_int (fun _ _ => rfl)) pe_int (nomark _)) (pw_and1 (pt_cmpR (op_gt) (pe_callB call_len_seq (by rfl) b_len PySem.boot_len (pa_cons (pv 0) pa_nil)) pe_int (nomark _))))) (pss_one (ps_asg (pe_bm PySem.F.plainAttrs_list PySem.F.slot_list_pop PySem.F.type_list_pop mt_popAt (pv 0) (pa_cons pe_int pa_nil)) (pg_sub (pv 0) pe_int set_list))) pss_nil)
    (pss_cons (ps_if (pt_cmpR (op_gt) (pe_ix ix_list (pv 0) pe_int (fun _ _ => rfl)) pe_int (nomark _)) (pss_cons (ps_set (i := 2) sc_law_below.nd rfl (by first | exact Or.inl rfl | exact Or.inr rfl) (pe_op op_modN (pe_ix ix_list (pv 0) pe_int (fun _ _ => rfl)) (pv 1)))
    (pss_cons (ps_asg (pe_op op_fdivX (pe_ix ix_list (pv 0) pe_int (fun _ _ => rfl)) (pv 1)) (pg_sub (pv 0) pe_int set_list))
    (pss_one (ps_ret (pv 2))))) pss_nil)
    (pss_cons (ps_asg (pe_op op_modN (pe_op op_add (pe_op op_mulW (pe_ix ix_list (pv 0) pe_int (fun _ _ => rfl)) pe_int) pe_int) pe_int) (pg_sub (pv 0) pe_int set_list))
    (pss_one (ps_ret (pe_op op_modN (pe_op op_fdivX (pe_ix ix_list (pv 0) pe_int (fun _ _ => rfl)) pe_int) (pv 1))))))), ?_⟩
  have tail : ∀ (cur : Int) (rest : List Int) (H1 : Hp), 0 ≤ cur → (∀ r ∈ rest, 0 ≤ r) → rest.length ≤ 63 → (∀ o, upd H1 d o = upd H d o) → H1 d = some (.lst (encD ⟨seed, cur, rest⟩)) →
      (tSeq (tIfS (tTest (tOp (rI0 fun i j => .bl (decide (j < i))) (tOp (rIxL K) (tVar 0) (tC (.int 1))) (tC (.int 0))))
        (tSeq (tAsg (tOp (rI (fun _ j => j ≠ 0) fun i j => .int (i.fmod j)) (tOp (rIxL K) (tVar 0) (tC (.int 1))) (tVar 1)) (gName 2))
          (tSeq (tAsg (tOp (rI CDivX fun i j => .int (i.fdiv j)) (tOp (rIxL K) (tVar 0) (tC (.int 1))) (tVar 1)) (gSub (tVar 0) (tC (.int 1)) rSetL)) (tRet (tVar 2)))) tNext)
        (tSeq (tAsg (tOp (rI (fun _ j => j ≠ 0) fun i j => .int (i.fmod j)) (tOp (rI0 fun i j => .int (i + j)) (tOp (rI CMulW fun i j => .int (i * j)) (tOp (rIxL K) (tVar 0) (tC (.int 0))) (tC (.int 48271))) (tC (.int 11))) (tC (.int 2147483647))) (gSub (tVar 0) (tC (.int 0)) rSetL))
          (tRet (tOp (rI (fun _ j => j ≠ 0) fun i j => .int (i.fmod j)) (tOp (rI CDivX fun i j => .int (i.fdiv j)) (tOp (rIxL K) (tVar 0) (tC (.int 0))) (tC (.int 64))) (tVar 1))))) { nx := fun _ H' => Q .non H', rt := Q } [some (.ref d), some (.int n), none] H1 := by
    intro cur rest H1 c0 r0 hl hu h1
    refine ⟨_, rfl, _, _, _, _, rfl, rfl, .inl (.inl h1), at1, _, _, rfl, rfl, _, rfl, ?_⟩
    refine ite2 (fun c => ?_) (fun c => ?_)
    · refine ⟨_, rfl, _, _, _, _, rfl, rfl, .inl (.inl h1), at1, _, rfl, _, _, rfl, rfl, (show n ≠ 0 by omega), ?_⟩
      refine ⟨_, rfl, _, _, _, _, rfl, rfl, .inl (.inl h1), at1, _, rfl, _, _, rfl, rfl, dX n0 n1, ?_⟩
      refine ⟨_, rfl, _, _, _, _, rfl, rfl, h1, ix1, ?_⟩
      refine ⟨_, rfl, ?_⟩
      have z := q ⟨seed, cur.fdiv n, rest⟩ (cur.fmod n) ⟨s0, s1, div_nn c0 n0, r0, hl⟩ (Int.fmod_nonneg_of_pos _ n0) (Int.fmod_lt_of_pos _ n0)
      rw [← hu] at z
      exact z
    · refine ⟨_, rfl, _, _, _, _, rfl, rfl, .inl (.inl h1), at0, _, _, rfl, rfl, mulW (a := 31) (b := 31) (show seed.natAbs < 2 ^ 32 by omega) (by decide), _, _, rfl, rfl, _, _, rfl, rfl, (show (2147483647 : Int) ≠ 0 by decide), ?_⟩
      refine ⟨_, rfl, _, _, _, _, rfl, rfl, h1, ix0, ?_⟩
      have m0 := Int.fmod_nonneg_of_pos (a := seed * 48271 + 11) (b := 2147483647) (by decide)
      have m1 := Int.fmod_lt_of_pos (a := seed * 48271 + 11) (b := 2147483647) (by decide)
      have z := q ⟨(seed * 48271 + 11).fmod 2147483647, cur, rest⟩ ((((seed * 48271 + 11).fmod 2147483647).fdiv 64).fmod n) ⟨m0, m1, c0, r0, hl⟩ (Int.fmod_nonneg_of_pos _ n0) (Int.fmod_lt_of_pos _ n0)
      rw [← hu] at z
      refine ⟨_, rfl, _, _, _, _, rfl, rfl, .inl (.inl upd_same), at0, _, _, rfl, rfl, dX (by decide) (by decide), _, rfl, _, _, rfl, rfl, (show n ≠ 0 by omega), ?_⟩
      exact z
  refine ⟨_, rfl, _, _, _, _, rfl, rfl, .inl (.inl hd), at1, rfl, _, rfl, ?_⟩
  refine ite2 (fun c => ?_) (fun c => ?_)
  · refine ⟨_, rfl, _, _, rfl, .inl (.inl (.inl hd)), _, _, rfl, rfl, _, rfl, ?_⟩
    refine ite2 (fun c2 => ?_) (fun c2 => ?_)
    · cases rest with
      | nil =>
        exfalso
        have := of_decide_eq_true c2
        simp [encD] at this
      | cons r rs =>
        refine ⟨_, rfl, .inl ⟨rfl, _, .inl (.inl hd)⟩, _, _, _, 2, _, rfl, rfl, hd, by decide, by decide, ?_, rfl, ?_⟩
        · show seqIndex? 2 (encD ⟨seed, cur, r :: rs⟩).length = some 2
          refine (ixN_seq (n := (encD ⟨seed, cur, r :: rs⟩).length) (i := 2) (j := 2) ?_).1
          unfold ixN
          rw [if_pos (by decide), if_pos (by simp [encD]; omega)]
          rfl
        refine ⟨_, rfl, _, _, _, _, rfl, rfl, upd_same, ix1, ?_⟩
        refine tail r rs _ (r0 r (List.mem_cons_self ..)) (fun x hx => r0 x (List.mem_cons_of_mem _ hx)) (by simp only [List.length_cons] at hl; omega) (fun o => ?_) ?_
        · rw [upd_upd, upd_upd]
        · rw [upd_same]
          rfl
    · exact tail cur rest H c0 r0 hl (fun o => rfl) hd
  · exact tail cur rest H c0 r0 hl (fun o => rfl) hd
end
end My

namespace My
open PySem L2 Mth
abbrev s_law_common : Stmt := topS 52
theorem sc_law_common : FnScope ["_law_one", "_law_other"] ["_law_one", "_law_other"] (defScope s_law_common) := ⟨rfl, rfl, rfl, by decide +kernel, rfl, by decide +kernel, by decide +kernel⟩
abbrev s_law_lowest : Stmt := topS 53
theorem sc_law_lowest : FnScope ["_law_x", "_law_y", "_law_q", "_law_common_now"] ["_law_x", "_law_y", "_law_q"] (defScope s_law_lowest) := ⟨rfl, rfl, rfl, by decide +kernel, rfl, by decide +kernel, by decide +kernel⟩
abbrev s_law_spot : Stmt := topS 54
theorem sc_law_spot : FnScope ["_law_d", "_law_below_here"] ["_law_d"] (defScope s_law_spot) := ⟨rfl, rfl, rfl, by decide +kernel, rfl, by decide +kernel, by decide +kernel⟩
section
variable {P : Program} {w : World} {K : PySem.W.Frag} {mg : Str → Option Value} {base : Heap}
theorem ok_law_common {f : Addr} {fd : FuncData} (b_abs : mg "abs" = none) (F : Fun K "_law_common" "_law_common" s_law_common f fd) : FnOk P w K mg base CX0 1 f fd ["_law_one", "_law_other"] sp_gcd := by
  refine F.ok sc_law_common (fun vs H Q E h => ?_) (fun cdv A outer s H vs Q E hr h => ?_)
  · obtain ⟨a, b, rfl, _⟩ := h
    rfl
  obtain ⟨a, b, rfl, q⟩ := h
  refine ⟨_, (pss_cons (ps_par (i := 0) (j := 1) (by rfl) sc_law_common.nd rfl rfl (by decide) rfl rfl (pa_cons (pe_callB call_abs (by rfl) b_abs (by decide +kernel) (pa_cons (pv 0) pa_nil)) (pa_cons (pe_callB call_abs (by rfl) b_abs (by decide +kernel) (pa_cons (pv 1) pa_nil)) pa_nil)) (by rfl))
    (pss_cons (ps_while PassesOwn.never (pt_cmpR (op_gt) (pv 1) pe_int (nomark _)) (pss_one (ps_par (i := 0) (j := 1) (by rfl) sc_law_common.nd rfl rfl (by decide) rfl rfl (pa_cons (pv 1) (pa_cons (pe_op op_modN (pv 0) (pv 1)) pa_nil)) (by rfl))))
    (pss_one (ps_ret (pv 0))))), ?_⟩
  refine ⟨_, rfl, _, rfl, _, rfl, _, rfl, _, _, rfl, ?_⟩
  refine while_by (fun σ H' => H' = H ∧ ∃ x y : Int, σ = [some (.int x), some (.int y)] ∧ 0 ≤ x ∧ 0 ≤ y ∧ Int.gcd x y = Int.gcd a b) (fun σ _ => match σ with | [_, some (.int y)] => y.natAbs | _ => 0) ⟨rfl, _, _, rfl, ?_, ?_, ?_⟩ ?_ ?_
  · split <;> omega
  · split <;> omega
  · have e : ∀ z : Int, (if z < 0 then -z else z) = ((z.natAbs : Nat) : Int) := fun z => by split <;> omega
    rw [e, e]
    unfold Int.gcd
    rw [Int.natAbs_natCast, Int.natAbs_natCast]
  · rintro σ H' ⟨rfl, x, y, rfl, x0, y0, e⟩
    refine ⟨_, rfl, _, _, rfl, rfl, _, rfl, ?_⟩
    refine ite2 (fun c => ?_) (fun c => ?_)
    · have c' : 0 < y := of_decide_eq_true c
      refine ⟨_, rfl, _, rfl, _, rfl, _, _, rfl, rfl, (show y ≠ 0 by omega), _, _, rfl, ⟨rfl, _, _, rfl, y0, Int.fmod_nonneg_of_pos _ c', ?_⟩, ?_⟩
      · rw [gcd_fmod]; exact e
      · exact fmod_small (by omega)
    · have c' : ¬ 0 < y := of_decide_eq_false (Bool.eq_false_iff.mpr c)
      have y1 : y = 0 := by omega
      subst y1
      refine ⟨_, rfl, ?_⟩
      rw [← e, Int.gcd_zero_right] at q
      have ex : ((x.natAbs : Nat) : Int) = x := by omega
      rw [ex] at q
      exact q
  · rintro σ H' Q1 Q2 hq ⟨v, h1, i, j, h2, h3, k, h4, h5⟩
    exact ⟨v, h1, i, j, h2, h3, k, h4, hq _ _ h5⟩
theorem ok_law_lowest {f : Addr} {fd : FuncData} (d_law_common : D P w K mg base "_law_common" 1 sp_gcd) (F : Fun K "_law_lowest" "_law_lowest" s_law_lowest f fd) : FnOk P w K mg base CX0 2 f fd ["_law_x", "_law_y", "_law_q"] (sp_low K) := by
  refine F.ok sc_law_lowest (fun vs H Q E h => ?_) (fun cdv A outer s H vs Q E hr h => ?_)
  · obtain ⟨x, y, d, rfl, _⟩ := h
    rfl
  obtain ⟨x, y, d, rfl, hd, hB, q⟩ := h
  refine ⟨_, (pss_cons (ps_set (i := 3) sc_law_lowest.nd rfl (by first | exact Or.inl rfl | exact Or.inr rfl) (pc d_law_common (hr.mono (by decide)) (pa_cons (pc d_law_common (hr.mono (by decide)) (pa_cons (pv 0) (pa_cons (pv 1) pa_nil))) (pa_cons (pv 2) pa_nil))))
    (pss_cons (ps_set (i := 3) sc_law_lowest.nd rfl (by first | exact Or.inl rfl | exact Or.inr rfl) (pe_ifExp (pt_cmpR (op_gt) (pv 2) pe_int (nomark _)) (pv 3) (pe_op op_sub pe_int (pv 3))))
    (pss_one (ps_ret (pe_tup (pa_cons (pe_op op_fdivX (pv 0) (pv 3)) (pa_cons (pe_op op_fdivX (pv 1) (pv 3)) (pa_cons (pe_op op_fdivX (pv 2) (pv 3)) pa_nil)))))))), ?_⟩
  refine ⟨_, rfl, _, rfl, _, _, rfl, _, rfl, _, _, rfl, ?_⟩
  refine ⟨_, rfl, _, _, rfl, rfl, _, rfl, ?_⟩
  have hc : CDivX x (sg x y d) ∧ CDivX y (sg x y d) ∧ CDivX d (sg x y d) := ⟨divX (sg_ne hd) (g3_lt hd hB) (by decide) (by decide), divX (sg_ne hd) (g3_lt hd hB) (by decide) (by decide), divX (sg_ne hd) (g3_lt hd hB) (by decide) (by decide)⟩
  refine ite2 (fun c => ?_) (fun c => ?_)
  · have es : sg x y d = g3 x y d := if_neg (by have := of_decide_eq_true c; omega)
    rw [es] at hc
    refine ⟨_, rfl, ?_⟩
    refine ⟨_, rfl, _, rfl, _, _, rfl, rfl, hc.1, _, rfl, _, rfl, _, _, rfl, rfl, hc.2.1, _, rfl, _, rfl, _, _, rfl, rfl, hc.2.2, (by show 3 ≤ sizeLine; decide), fun p hp => ?_⟩
    refine q _ _ (same_new hp _) ?_
    unfold low
    rw [es]
    exact IsT.new
  · have es : sg x y d = 0 - g3 x y d := by
      rw [Int.zero_sub]
      exact if_pos (by have := of_decide_eq_false (Bool.eq_false_iff.mpr c); omega)
    rw [es] at hc
    refine ⟨_, rfl, _, _, rfl, rfl, ?_⟩
    refine ⟨_, rfl, _, rfl, _, _, rfl, rfl, hc.1, _, rfl, _, rfl, _, _, rfl, rfl, hc.2.1, _, rfl, _, rfl, _, _, rfl, rfl, hc.2.2, (by show 3 ≤ sizeLine; decide), fun p hp => ?_⟩
    refine q _ _ (same_new hp _) ?_
    unfold low
    rw [es]
    exact IsT.new
/-! ### draws -/
structure TurnIn (t : T3) : Prop where
  ok : Ok t
  nz : Nz t
  bd : B 3 t
  mem : t ∈ turns13
structure SpotIn (t : T3) : Prop where
  ok : Ok t
  bd : B 3 t
def sp_draw (g : Hp → V → Prop) : Sp := fun vs H Q _ => ∃ (d : Addr) (st : Src), vs = [.ref d] ∧ H d = some (.lst (encD st)) ∧ SrcOk st ∧
  ∀ H' st' r, Keep d H H' → H' d = some (.lst (encD st')) → SrcOk st' → g H' r → Q r H'
instance (t : T3) : Decidable (Ok t) := inferInstanceAs (Decidable (_ ∧ _))
instance (t : T3) : Decidable (Nz t) := inferInstanceAs (Decidable (_ ∨ _))
theorem turns_in : ∀ t ∈ turns13, TurnIn t := by
  have h : ∀ t ∈ turns13, Ok t ∧ Nz t ∧ B 3 t := by decide +kernel
  exact fun t ht => ⟨(h t ht).1, (h t ht).2.1, (h t ht).2.2, ht⟩
theorem paired_at {ps : List Addr} {ts : List T3} {R : Addr → T3 → Prop} (h : Paired R ps ts) : ∀ {i : Nat}, i < ts.length → ∃ p t, ps[i]? = some p ∧ t ∈ ts ∧ R p t := by
  induction h with
  | nil => intro i hi; cases hi
  | cons r _ ih =>
    intro i hi
    cases i with
    | zero => exact ⟨_, _, rfl, List.mem_cons_self .., r⟩
    | succ i =>
      obtain ⟨p, t, h1, h2, h3⟩ := ih (i := i) (by simpa using hi)
      exact ⟨p, t, by simpa using h1, List.mem_cons_of_mem _ h2, h3⟩
theorem paired_app {R : Addr → T3 → Prop} : ∀ {ps qs : List Addr} {ts us : List T3}, Paired R ps ts → Paired R qs us → Paired R (ps ++ qs) (ts ++ us)
  | _, _, _, _, .nil, k => k
  | _, _, _, _, .cons r t, k => .cons r (paired_app t k)
theorem paired_imp {R S : Addr → T3 → Prop} (h : ∀ p t, R p t → S p t) : ∀ {ps : List Addr} {ts : List T3}, Paired R ps ts → Paired S ps ts
  | _, _, .nil => .nil
  | _, _, .cons r t => .cons (h _ _ r) (paired_imp h t)
theorem at_map {ps : List Addr} {i : Nat} {p : Addr} {z : Int} (h : ps[i]? = some p) (hz : z = (i : Int)) : atI (ps.map V.ref) z = some (.ref p) := by
  rw [hz]
  exact atI_nat (by rw [List.getElem?_map, h]; rfl)
theorem ok_law_spot {f : Addr} {fd : FuncData} (d_law_below : D P w K mg base "_law_below" 1 sp_below) (d_law_lowest : D P w K mg base "_law_lowest" 2 (sp_low K)) (F : Fun K "_law_spot" "_law_spot" s_law_spot f fd) : FnOk P w K mg base CX0 3 f fd ["_law_d"] (sp_draw fun H r => ∃ t, IsT K H r t ∧ SpotIn t) := by
  refine F.ok sc_law_spot (fun vs H Q E h => ?_) (fun cdv A outer s H vs Q E hr h => ?_)
  · obtain ⟨d, st, rfl, _⟩ := h
    rfl
  obtain ⟨d, st, rfl, hd, ok, q⟩ := h
  refine ⟨_, (pss_cons (ps_set (i := 1) sc_law_spot.nd rfl (by first | exact Or.inl rfl | exact Or.inr rfl) (pe_ix ix_list (pe_lst (pa_cons pe_int (pa_cons pe_int (pa_cons pe_int (pa_cons pe_int (pa_cons pe_int (pa_cons pe_int pa_nil))))))) (pc d_law_below (hr.mono (by decide)) (pa_cons (pv 0) (pa_cons pe_int pa_nil))) (fun _ _ => rfl)))
    (pss_one (ps_ret (pc d_law_lowest (hr.mono (by decide)) (pa_cons (pe_op op_sub (pc d_law_below (hr.mono (by decide)) (pa_cons (pv 0) (pa_cons pe_int pa_nil))) pe_int) (pa_cons (pe_op op_sub (pc d_law_below (hr.mono (by decide)) (pa_cons (pv 0) (pa_cons pe_int pa_nil))) pe_int) (pa_cons (pv 1) pa_nil))))))), ?_⟩
  refine ⟨(by show 6 ≤ sizeLine; decide), fun a ha => ?_⟩
  have sa := same_new ha (.lst [.int 1, .int 1, .int 1, .int 2, .int 3, .int 4])
  refine ⟨_, rfl, d, _, st, rfl, by decide, by decide, sa _ _ hd, ok, fun st1 r ok1 r0 r1 => ?_⟩
  have had : a ≠ d := fun z => by rw [← z, ha] at hd; cases hd
  obtain ⟨c, hc, c1, c4⟩ : ∃ c : Int, atI [V.int 1, .int 1, .int 1, .int 2, .int 3, .int 4] r = some (.int c) ∧ 1 ≤ c ∧ c ≤ 4 := by
    have : r = 0 ∨ r = 1 ∨ r = 2 ∨ r = 3 ∨ r = 4 ∨ r = 5 := by omega
    rcases this with rfl | rfl | rfl | rfl | rfl | rfl
    · exact ⟨1, by rfl, by decide, by decide⟩
    · exact ⟨1, by rfl, by decide, by decide⟩
    · exact ⟨1, by rfl, by decide, by decide⟩
    · exact ⟨2, by rfl, by decide, by decide⟩
    · exact ⟨3, by rfl, by decide, by decide⟩
    · exact ⟨4, by rfl, by decide, by decide⟩
  refine ⟨a, _, _, _, rfl, rfl, .inl (.inl (by rw [upd_ne had]; exact upd_same)), hc, ?_⟩
  refine ⟨_, rfl, d, _, st1, rfl, by decide, by decide, upd_same, ok1, fun st2 x ok2 x0 x1 => ?_⟩
  refine ⟨_, _, rfl, rfl, _, rfl, d, _, st2, rfl, by decide, by decide, upd_same, ok2, fun st3 y ok3 y0 y1 => ?_⟩
  refine ⟨_, _, rfl, rfl, _, rfl, _, _, _, rfl, (by omega), (show c.natAbs < 2 ^ 8500 from Nat.lt_of_lt_of_le (show c.natAbs < 2 ^ 3 by omega) (pw (by decide))), fun H' r' s' i => ?_⟩
  refine q _ st3 _ ((Keep.of sa).trans (keep_upd.trans (keep_upd.trans (keep_upd.trans (Keep.of s'))))) (s' _ _ upd_same) ok3 ⟨_, i, low_ok (by omega), low_B (by omega) ?_ ?_ ?_⟩ <;> show _ < 8 <;> omega
end
end My

namespace My
open PySem L2 Mth
section
variable {K : PySem.W.Frag}
theorem asg_of {te : TE} {g : TG} {u : TS} {D : Ends} {σ : L2.St} {H : Hp} (h : te σ H fun x H1 => g x σ H1 (u D)) : tSeq (tAsg te g) u D σ H := h
theorem gn_of {i : Nat} {v : V} {σ : L2.St} {H : Hp} {Q : L2.St → Hp → Prop} (h : Q (σ.set i (some v)) H) : gName i v σ H Q := h
theorem nil_of {σ : L2.St} {H : Hp} {Q : List V → Hp → Prop} (h : Q [] H) : tNil σ H Q := h
theorem te_join {t : TE} {σ : L2.St} {H : Hp} {Q : VK} (W : V → Hp → Prop) (k : ∀ v H', W v H' → Q v H') (h : ∀ Q' : VK, (∀ v H', W v H' → Q' v H') → t σ H Q') : t σ H Q := h Q k
theorem seq_assoc {A B C : TS} {D : Ends} {σ : L2.St} {H : Hp} (h : tSeq (tSeq A B) C D σ H) : tSeq A (tSeq B C) D σ H := h
end
end My

namespace My
open PySem L2 Mth
section
theorem pimp {α β : Type} {R S : α → β → Prop} (h : ∀ p t, R p t → S p t) : ∀ {ps : List α} {ts : List β}, Paired R ps ts → Paired S ps ts
  | _, _, .nil => .nil
  | _, _, .cons r t => .cons (h _ _ r) (pimp h t)
theorem papp {α β : Type} {R : α → β → Prop} : ∀ {ps qs : List α} {ts us : List β}, Paired R ps ts → Paired R qs us → Paired R (ps ++ qs) (ts ++ us)
  | _, _, _, _, .nil, k => k
  | _, _, _, _, .cons r t, k => .cons r (papp t k)
theorem pget {α β : Type} {R : α → β → Prop} : ∀ {ps : List α} {ts : List β}, Paired R ps ts → ∀ {i : Nat} {p : α}, ps[i]? = some p → ∃ t, ts[i]? = some t ∧ R p t
  | _, _, .nil, i, p, h => by simp at h
  | _, _, .cons r t, 0, p, h => ⟨_, rfl, by simp at h; rw [← h]; exact r⟩
  | _, _, .cons r t, i + 1, p, h => by
    obtain ⟨u, h1, h2⟩ := pget t (i := i) (p := p) (by simpa using h)
    exact ⟨u, by simpa using h1, h2⟩
theorem prev {α β : Type} {R : α → β → Prop} {l : List α} {m : List β} (h : Paired R l m) : Paired R l.reverse m.reverse := by
  induction h with
  | nil => exact .nil
  | cons r _ ih => rw [List.reverse_cons, List.reverse_cons]; exact papp ih (.cons r .nil)
theorem pdrop {α β : Type} {R : α → β → Prop} {l : List α} {m : List β} (h : Paired R l m) : ∀ n, Paired R (l.drop n) (m.drop n) := by
  induction h with
  | nil => intro n; rw [List.drop_nil, List.drop_nil]; exact .nil
  | cons r t ih =>
    intro n
    cases n with
    | zero => exact .cons r t
    | succ n => exact ih n
theorem ptake {α β : Type} {R : α → β → Prop} {l : List α} {m : List β} (h : Paired R l m) : ∀ n, Paired R (l.take n) (m.take n) := by
  induction h with
  | nil => intro n; rw [List.take_nil, List.take_nil]; exact .nil
  | cons r t ih =>
    intro n
    cases n with
    | zero => exact .nil
    | succ n => exact .cons r (ih n)
end
end My

namespace My
open PySem L2 Mth
section
variable {K : PySem.W.Frag} {α : Type}
theorem tk_filter {β : Type} (p : β → Bool) {l : List β} {i : Nat} {x : β} (h : l[i]? = some x) : (l.take (i + 1)).filter p = (l.take i).filter p ++ (if p x = true then [x] else []) := by
  rw [take_more h, List.filter_append]
  congr 1
  by_cases c : p x = true
  · rw [if_pos c]; simp [c]
  · rw [if_neg c]; simp [c]
theorem tk_map {β γ : Type} (f : β → γ) {l : List β} {i : Nat} {x : β} (h : l[i]? = some x) : (l.take (i + 1)).map f = (l.take i).map f ++ [f x] := by
  rw [take_more h, List.map_append]; rfl
/-! ### what a comprehension draws, of any kind -/
def KeepsI (I : Hp → V → α → Prop) : Prop := ∀ (H H' : Hp) (v : V) (x : α) (e : Addr) (ys : List V), I H v x → H e = some (.lst ys) → Keep e H H' → I H' v x
def DrawnG (I : Hp → V → α → Prop) (G : α → Prop) (d L : Addr) (H H' : Hp) (n : Nat) : Prop := ∃ st vs xs, Keep d H H' ∧ H' d = some (.lst (encD st)) ∧ SrcOk st ∧ H' L = some (.lst vs) ∧ vs.length = n ∧ Paired (I H') vs xs ∧ ∀ x ∈ xs, G x
theorem drawnG_start {I : Hp → V → α → Prop} {G : α → Prop} {d L : Addr} {H : Hp} {st : Src} (hd : H d = some (.lst (encD st))) (ok : SrcOk st) (hL : H L = none) : DrawnG I G d L H (upd H L (.lst [])) 0 :=
  ⟨st, [], [], Keep.of (same_new hL _), (same_new hL _) _ _ hd, ok, upd_same, rfl, .nil, fun c hc => by cases hc⟩
theorem drawnG_more {I : Hp → V → α → Prop} {G : α → Prop} (kI : KeepsI I) {d L : Addr} {H H1 H2 : Hp} {n : Nat} {st st2 : Src} {v : V} {x : α} {vs : List V} {xs : List α} (hL : H L = none) (hdL : L ≠ d) (k1 : Keep d H H1) (hd1 : H1 d = some (.lst (encD st))) (h1 : H1 L = some (.lst vs)) (hn : vs.length = n) (a : Paired (I H1) vs xs) (g : ∀ x ∈ xs, G x)
    (k2 : Keep d H1 H2) (hd2 : H2 d = some (.lst (encD st2))) (ok2 : SrcOk st2) (i : I H2 v x) (ix : G x) : DrawnG I G d L H (upd H2 L (.lst (vs ++ [v]))) (n + 1) := by
  have h2 : H2 L = some (.lst vs) := k2 _ _ hdL h1
  refine ⟨st2, vs ++ [v], xs ++ [x], fun b o nb e => ?_, ?_, ok2, upd_same, by rw [List.length_append, hn]; rfl, papp (pimp (fun p t q => kI _ _ _ _ _ _ (kI _ _ _ _ _ _ q hd1 k2) h2 keep_upd) a) (.cons (kI _ _ _ _ _ _ i h2 keep_upd) .nil), fun y hy => ?_⟩
  · rw [upd_ne (ne_of_none e hL)]
    exact k2 _ _ nb (k1 _ _ nb e)
  · rw [upd_ne (Ne.symm hdL)]; exact hd2
  · rcases List.mem_append.mp hy with h | h
    · exact g y h
    · rw [List.mem_singleton.mp h]; exact ix
theorem keepsT : KeepsI (IsT K) := fun _ _ _ _ _ _ i hd k => i.keep hd k
theorem turn4' : ∀ t ∈ [((1, 0, 1) : T3), (-1, 0, 1), (0, 1, 1), (3, 4, 5)], TurnIn t := fun t ht => turns_in t (by
  have h : ∀ t ∈ [((1, 0, 1) : T3), (-1, 0, 1), (0, 1, 1), (3, 4, 5)], t ∈ turns13 := by decide +kernel
  exact h t ht)
end
end My

namespace My
open PySem L2 Mth
abbrev s_is_stroke : Stmt := topS 32
theorem sc_is_stroke : FnScope ["value", "spot", "start", "end"] ["value"] (defScope s_is_stroke) := ⟨rfl, rfl, rfl, by decide +kernel, rfl, by decide +kernel, by decide +kernel⟩
abbrev s_parts_of : Stmt := topS 31
theorem sc_parts_of : FnScope ["stroke"] ["stroke"] (defScope s_parts_of) := ⟨rfl, rfl, rfl, by decide +kernel, rfl, by decide +kernel, by decide +kernel⟩
section
variable {P : Program} {w : World} {K : PySem.W.Frag} {mg : Str → Option Value} {base : Heap}
/-! ### strokes -/
def PairsOf (K : PySem.W.Frag) (H : Hp) (us ps : List V) : Prop := ps.length = us.length - 1 ∧ ∀ (j : Nat) x y, us[j]? = some x → us[j + 1]? = some y → ∃ T, ps[j]? = some (.ref T) ∧ SqT K H T [x, y]
theorem PairsOf.same {H H' : Hp} {us ps : List V} (h : PairsOf K H us ps) (s : Same H H') : PairsOf K H' us ps := ⟨h.1, fun j x y e1 e2 => by
  obtain ⟨T, a, b⟩ := h.2 j x y e1 e2
  exact ⟨T, a, same_T s b⟩⟩
def sp_parts (K : PySem.W.Frag) : Sp := fun vs H Q _ => ∃ t us, vs = [.ref t] ∧ SqT K H t us ∧ 1 ≤ us.length ∧ ∀ H' L ps, Same H H' → H L = none → H' L = some (.lst ps) → PairsOf K H' us ps → Q (.ref L) H'
theorem ok_parts_of {f : Addr} {fd : FuncData} (b_list : mg "list" = none) (b_zip : mg "zip" = none) (F : Fun K "parts_of" "parts_of" s_parts_of f fd) : FnOk P w K mg base CX0 1 f fd ["stroke"] (sp_parts K) := by
  refine F.ok sc_parts_of (fun vs H Q E h => ?_) (fun cdv A outer s H vs Q E hr h => ?_)
  · obtain ⟨t, us, rfl, _⟩ := h
    rfl
  obtain ⟨t, us, rfl, hT, hl, q⟩ := h
  refine ⟨_, (pss_one (ps_ret (pe_listZip rfl (by rfl) b_list (by rfl) b_zip (pa_cons (pv 0) (pa_cons (pe_slice (r := rSlT K) sl_tup (pv 0) (po_some pe_int) po_none) pa_nil))))), ?_⟩
  have e1 : HT.sIx us.length 0 (some (1 : Int)) = 1 := by
    rw [show (1 : Int) = ((1 : Nat) : Int) from rfl, HT.sIx_nat]
    omega
  have ec : cutV us (some (1 : Int)) none = us.drop 1 := by
    unfold cutV
    rw [e1, HT.sIx_none, List.take_of_length_le (by rw [List.length_drop]; omega)]
  refine ⟨_, rfl, _, rfl, 1, rfl, t, us, rfl, hT, (fun z => absurd (e1.symm.trans z.1) (by decide)), fun p hp => ?_⟩
  rw [ec]
  have s1 := same_new hp (.tup (us.drop 1))
  refine ⟨t, p, us, us.drop 1, rfl, same_T s1 hT, .inl (.inl upd_same), fun H2 L ps s2 hL h2 hlen hps => ?_⟩
  refine q H2 L ps (s1.trans s2) (s1.free hL) h2 ⟨by rw [hlen, List.length_drop]; omega, fun j x y ex ey => ?_⟩
  obtain ⟨T, a, _, b⟩ := hps j x y ex (by rw [List.getElem?_drop, Nat.add_comm]; exact ey)
  exact ⟨T, a, .inl (.inl b)⟩
theorem pgt {α β : Type} {R : α → β → Prop} : ∀ {ps : List α} {ts : List β}, Paired R ps ts → ∀ {i : Nat} {p : α}, ps[i]? = some p → ∃ t, ts[i]? = some t ∧ R p t
  | _, _, .nil, i, p, h => by simp at h
  | _, _, .cons r t, 0, p, h => by
    cases h
    exact ⟨_, rfl, r⟩
  | _, _, .cons r t, i + 1, p, h => pgt t h
def IsSt (K : PySem.W.Frag) (H : Hp) (v : V) (zs : List T3) : Prop := ∃ t us, v = .ref t ∧ SqT K H t us ∧ Paired (IsT K H) us zs
theorem IsSt.same {H H' : Hp} {v : V} {zs : List T3} (h : IsSt K H v zs) (s : Same H H') : IsSt K H' v zs := by
  obtain ⟨t, us, rfl, a, b⟩ := h
  exact ⟨t, us, rfl, same_T s a, L2.Paired.mapP b (fun _ _ i => i.same s)⟩
theorem IsSt.keep {H H' : Hp} {v : V} {zs : List T3} {d : Addr} {ys : List V} (h : IsSt K H v zs) (hd : H d = some (.lst ys)) (s : Keep d H H') : IsSt K H' v zs := by
  obtain ⟨t, us, rfl, a, b⟩ := h
  exact ⟨t, us, rfl, keep_T a hd s, L2.Paired.mapP b (fun _ _ i => i.keep hd s)⟩
/-- a stroke -/
structure StOk (zs : List T3) : Prop where
  lo : 1 ≤ zs.length
  hi : zs.length ≤ 12
  ok : ∀ z ∈ zs, Ok z
  ne : ∀ (j : Nat) x y, zs[j]? = some x → zs[j + 1]? = some y → x ≠ y
def sp_isst (K : PySem.W.Frag) : Sp := fun vs H Q _ => ∃ v zs, vs = [v] ∧ IsSt K H v zs ∧ StOk zs ∧ ∀ H', Same H H' → Q (.bl true) H'
theorem ok_is_stroke {f : Addr} {fd : FuncData} {tk : Tok} (b_isinstance : mg "isinstance" = none) (b_tuple : mg "tuple" = none) (b_len : mg "len" = none) (b_all : mg "all" = none) (m_MOST_SPOTS : mg "MOST_SPOTS" = some (.int 12 tk)) (d_is_spot : D P w K mg base "is_spot" 2 (sp_isspot K)) (d_parts_of : D P w K mg base "parts_of" 1 (sp_parts K))
    (F : Fun K "is_stroke" "is_stroke" s_is_stroke f fd) : FnOk P w K mg base CX0 3 f fd ["value"] (sp_isst K) := by
  refine F.ok sc_is_stroke (fun vs H Q E h => ?_) (fun cdv A outer s H vs Q E hr h => ?_)
  · obtain ⟨v, zs, rfl, _⟩ := h
    rfl
  obtain ⟨v, zs, rfl, ⟨t, us, rfl, hT, hA⟩, ok, q⟩ := h
  refine ⟨_, (pss_cons (ps_if (PW.pt (pw_or (pt_not (pt_val (pe_callB (r := rIsi K) call_isi (by rfl) b_isinstance (by decide +kernel) (pa_cons (pv 0) (pa_cons (pe_bltn (v := .ty "tuple") (by rfl) b_tuple (by decide +kernel) rfl) pa_nil))))) (pw_or1 (pt_not (pt_chain op_le op_le pe_int (pe_callB call_len_seq (by rfl) b_len PySem.boot_len (pa_cons (pv 0) pa_nil)) (pe_glob (v := .int 12) (by rfl) m_MOST_SPOTS ⟨_, rfl⟩)))))) (pss_one (ps_ret pe_bl)) pss_nil)
    (pss_cons (ps_if (pt_not (pt_val (pe_callB (cr_all rfl) (by rfl) b_all (by decide +kernel) (pa_cons (pe_lc (own := [("spot", 1)]) (g := gName 1) (tt := tYes) (by rfl) sc_is_stroke.nd (pi_tup (pv 0)) (blkOk_by (own := [("spot", 1)]) (N := ["value", "spot", "start", "end"]) (sc := defScope s_is_stroke) (by decide +kernel)) (fun _ _ _ _ _ => (pg_name (i := 1) sc_is_stroke.nd rfl (by first | exact Or.inl rfl | exact Or.inr rfl))) (fun _ _ _ _ _ => pts_nil) (fun _ _ _ _ _ => (pc d_is_spot (hr.mono (by decide)) (pa_cons (pv 1) pa_nil)))) pa_nil)))) (pss_one (ps_ret pe_bl)) pss_nil)
    (pss_one (ps_ret (pe_callB (cr_all rfl) (by rfl) b_all (by decide +kernel) (pa_cons (pe_lc (own := [("start", 2), ("end", 3)]) (g := gTup K 2 (gCons (gName 2) (gCons (gName 3) gNil))) (tt := tYes) (by rfl) sc_is_stroke.nd (pi_list (pc d_parts_of (hr.mono (by decide)) (pa_cons (pv 0) pa_nil))) (blkOk_by (own := [("start", 2), ("end", 3)]) (N := ["value", "spot", "start", "end"]) (sc := defScope s_is_stroke) (by decide +kernel)) (fun _ _ _ _ _ => (pg_tup rfl (pgs_cons (pg_name (i := 2) sc_is_stroke.nd rfl (by first | exact Or.inl rfl | exact Or.inr rfl)) (pgs_cons (pg_name (i := 3) sc_is_stroke.nd rfl (by first | exact Or.inl rfl | exact Or.inr rfl)) pgs_nil)))) (fun _ _ _ _ _ => pts_nil) (fun _ _ _ _ _ => (pe_cmpR (r := rNeD K) (op_neD hr.units) (pv 2) (pv 3) (nomark _)))) pa_nil)))))), ?_⟩
  have hlen := Paired.length hA
  have lo := ok.lo
  have hi := ok.hi
  refine ⟨_, rfl, _, _, _, _, _, rfl, .ty _, ty_T hT, kit_ty (by decide +kernel), true, rfl, ?_⟩
  refine iteF ?_
  refine ⟨_, rfl, _, _, rfl, .inr hT, _, _, rfl, rfl, _, rfl, ?_⟩
  rw [decide_eq_true (show (1 : Int) ≤ (us.length : Int) by omega)]
  refine iteT ?_
  refine ⟨_, _, rfl, rfl, _, rfl, ?_⟩
  rw [decide_eq_true (show (us.length : Int) ≤ 12 by omega)]
  refine iteF ?_
  refine ⟨_, rfl, _, rfl, ⟨_, hT⟩, fun L hL => lc_tup (K := K) (a := t) (xs := us) (fun i H' => ∃ acc : List V, Same H H' ∧ H' L = some (.lst acc) ∧ acc = (List.replicate i true).map V.bl) ⟨[], same_new hL _, upd_same, rfl⟩ ?_ ?_ ?_⟩
  · rintro i H' hi ⟨acc, s', _⟩
    exact same_T s' hT
  · rintro i x H' hx ⟨acc, s', hb, ea⟩
    obtain ⟨z, ez, iz⟩ := pgt hA hx
    refine ⟨rfl, ?_⟩
    refine yes_of ?_
    refine ⟨_, rfl, _, z, rfl, iz.same s', ok.ok z (List.mem_of_getElem? ez), fun H2 s2 => ?_⟩
    have hb2 := s2 _ _ hb
    refine ⟨acc, hb2, ?_, acc ++ [.bl true], fun b o e => ?_, upd_same, ?_⟩
    · have := (List.getElem?_eq_some_iff.mp hx).1
      rw [ea, List.length_map, List.length_replicate]
      exact small1000 (by omega)
    · rw [upd_ne (ne_of_none e hL)]
      exact s2 _ _ (s' _ _ e)
    · rw [ea, List.replicate_succ', List.map_append]
      rfl
  rintro H1 ⟨acc, s1, hb, ea⟩
  refine ⟨_, List.replicate us.length true, rfl, .inl (.inl ?_), ?_⟩
  · rw [ea] at hb; exact hb
  refine ⟨_, rfl, ?_⟩
  rw [show (List.replicate us.length true).all id = true from List.all_eq_true.mpr fun b hb => List.eq_of_mem_replicate hb]
  refine iteF ?_
  refine ⟨_, rfl, t, us, rfl, same_T s1 hT, by omega, fun H2 Lp ps s2 hLp h2 hps => ?_⟩
  refine ⟨Lp, rfl, ⟨_, .inl (.inl h2)⟩, fun L3 hL3 => lc_list (K := K) (a := Lp) (xs := ps) (fun i H' => ∃ acc : List V, Same H2 H' ∧ H' L3 = some (.lst acc) ∧ acc = (List.replicate i true).map V.bl) ⟨[], same_new hL3 _, upd_same, rfl⟩ ?_ ?_ ?_⟩
  · rintro i H' hi ⟨acc, s', _⟩
    exact .inl (.inl (s' _ _ h2))
  · rintro i x H' hx ⟨acc, s', hb, ea⟩
    have li := (List.getElem?_eq_some_iff.mp hx).1
    have lp := hps.1
    obtain ⟨u, eu⟩ : ∃ u, us[i]? = some u := ⟨us[i]'(by omega), by simp⟩
    obtain ⟨v, ev⟩ : ∃ v, us[i + 1]? = some v := ⟨us[i + 1]'(by omega), by simp⟩
    obtain ⟨T, eT, hTT⟩ := hps.2 i u v eu ev
    obtain ⟨a, ez, pa, rfl, ia⟩ := pgt hA eu
    obtain ⟨b, ez2, pb, rfl, ib⟩ := pgt hA ev
    rw [eT] at hx
    cases hx
    have s02 := (s1.trans s2).trans s'
    refine ⟨T, _, rfl, same_T s' hTT, rfl, _, _, rfl, _, _, rfl, rfl, rfl, ?_⟩
    refine yes_of ?_
    refine ⟨_, rfl, _, rfl, _, _, Dp3 (same_T s02 ia), Dp3 (same_T s02 ib), shaped3 _, shaped3 _, ?_⟩
    rw [eqv3, decide_eq_false (ok.ne i a b ez ez2)]
    refine ⟨acc, hb, ?_, acc ++ [.bl true], fun b o e => ?_, upd_same, ?_⟩
    · rw [ea, List.length_map, List.length_replicate]
      exact small1000 (by omega)
    · rw [upd_ne (ne_of_none e hL3)]
      exact s' _ _ e
    · rw [ea, List.replicate_succ', List.map_append]
      rfl
  rintro H3 ⟨acc3, s3, hb3, ea3⟩
  refine ⟨_, List.replicate ps.length true, rfl, .inl (.inl ?_), ?_⟩
  · rw [ea3] at hb3; exact hb3
  rw [show (List.replicate ps.length true).all id = true from List.all_eq_true.mpr fun b hb => List.eq_of_mem_replicate hb]
  exact q _ ((s1.trans s2).trans s3)
end
end My

namespace My
open PySem L2 Mth LamX
section
variable {P : Program} {w : World} {K : PySem.W.Frag} {mg : Str → Option Value} {base : Heap}
def NotW (v : V) : Prop := v = .non ∨ (∃ b, v = .bl b) ∨ ∃ s, v = .str s
/-- is_whole of an int, a bool, None, a text -/
def sp_wholeA : Sp := fun vs H Q _ => ∃ v, vs = [v] ∧ ((∃ i, v = .int i ∧ Q (.bl true) H) ∨ (NotW v ∧ Q (.bl false) H))
theorem ok_is_wholeA {f : Addr} {fd : FuncData} (b_isinstance : mg "isinstance" = none) (b_int : mg "int" = none) (b_bool : mg "bool" = none) (F : Fun K "is_whole" "is_whole" s_is_whole f fd) : FnOk P w K mg base CX0 1 f fd ["value"] sp_wholeA := by
  refine F.ok sc_is_whole (fun vs H Q E h => ?_) (fun cdv A outer s H vs Q E hr h => ?_)
  · obtain ⟨v, rfl, _⟩ := h
    rfl
  obtain ⟨v, rfl, h⟩ := h
  refine ⟨_, (pss_one (ps_ret (pe_and (pe_callB (r := rIsi K) call_isi (by rfl) b_isinstance (by decide +kernel) (pa_cons (pv 0) (pa_cons (pe_bltn (v := .ty "int") (by rfl) b_int (by decide +kernel) rfl) pa_nil))) (pe_one (pe_not (pe_callB (r := rIsi K) call_isi (by rfl) b_isinstance (by decide +kernel) (pa_cons (pv 0) (pa_cons (pe_bltn (v := .ty "bool") (by rfl) b_bool (by decide +kernel) rfl) pa_nil)))))))), ?_⟩
  rcases h with ⟨i, rfl, q⟩ | ⟨rfl | ⟨b, rfl⟩ | ⟨x, rfl⟩, q⟩
  · refine ⟨_, rfl, _, _, _, _, _, rfl, .ty _, .base (.int i), kit_ty (by decide +kernel), true, rfl, iteT ?_⟩
    exact ⟨_, rfl, _, _, _, _, _, rfl, .ty _, .base (.int i), kit_ty (by decide +kernel), false, rfl, q⟩
  · exact ⟨_, rfl, _, _, _, _, _, rfl, .ty _, .base .non, kit_ty (by decide +kernel), false, rfl, iteF q⟩
  · refine ⟨_, rfl, _, _, _, _, _, rfl, .ty _, .base (.bl b), kit_ty (by decide +kernel), true, rfl, iteT ?_⟩
    exact ⟨_, rfl, _, _, _, _, _, rfl, .ty _, .base (.bl b), kit_ty (by decide +kernel), true, rfl, q⟩
  · exact ⟨_, rfl, _, _, _, _, _, rfl, .ty _, .base (.str x), kit_ty (by decide +kernel), false, rfl, iteF q⟩
/-- an own class over ValueError, to be raised -/
structure ExX (K : PySem.W.Frag) (mg : Str → Option Value) (x : Str) (C : Addr) : Prop where
  q : PySem.W.excIn K C [.type "ValueError", .type "Exception", .type "BaseException", .type "object"] "ValueError.__new__" = true
  k : PySem.W.keepIn K (.ref C) = true
  b : PySem.W.subIn K (.ref C) (.type "BaseException") = some true
  t : PySem.W.typeIn K (.ref C) = some (.type "type")
  g : mg x = some (.ref C)
end
end My

namespace My
open PySem L2 Mth LamX

section
variable {P : Program} {w : World} {K : PySem.W.Frag} {mg : Str → Option Value} {base : Heap}
/-! ### what is no spot -/
theorem D.or {x : Str} {k : Nat} {sp1 sp2 : Sp} (d1 : D P w K mg base x k sp1) (d2 : D P w K mg base x k sp2) : D P w K mg base x k (fun vs H Q E => sp1 vs H Q E ∨ sp2 vs H Q E) := by
  obtain ⟨f, F1, hk, hm⟩ := d1.ex
  obtain ⟨g, F2, _, hm'⟩ := d2.ex
  rw [hm] at hm'
  cases hm'
  exact ⟨f, fun A outer s H us vs Q E hr e0 r h => h.elim (F1 A outer s H us vs Q E hr e0 r) (F2 A outer s H us vs Q E hr e0 r), hk, hm⟩
inductive BadS : List V → Prop
  | len {xs : List V} (h : xs.length ≠ 3) (hl : xs.length ≤ 100) : BadS xs
  | num {x y d : Int} (h : ¬ (1 ≤ d ∧ g3 x y d = 1)) : BadS [.int x, .int y, .int d]
  | kind {a b c : V} (h : ∀ x ∈ [a, b, c], (∃ i, x = .int i) ∨ NotW x) (e : ∃ x ∈ [a, b, c], NotW x) : BadS [a, b, c]
def sp_isspotX (K : PySem.W.Frag) : Sp := fun vs H Q _ => ∃ p xs, vs = [.ref p] ∧ SqT K H p xs ∧ BadS xs ∧ ∀ H', Same H H' → Q (.bl false) H'
def wh (x : V) : Bool := match x with
  | .int _ => true
  | _ => false
theorem ok_is_spotX {f : Addr} {fd : FuncData} (b_isinstance : mg "isinstance" = none) (b_tuple : mg "tuple" = none) (b_len : mg "len" = none) (b_all : mg "all" = none) (d_common_divisor : D P w K mg base "common_divisor" 1 sp_gcd) (d_is_whole : D P w K mg base "is_whole" 1 sp_wholeA)
    (F : Fun K "is_spot" "is_spot" s_is_spot f fd) : FnOk P w K mg base CX0 2 f fd ["value"] (sp_isspotX K) := by
  refine F.ok sc_is_spot (fun vs H Q E h => ?_) (fun cdv A outer s H vs Q E hr h => ?_)
  · obtain ⟨p, xs, rfl, _⟩ := h
    rfl
  obtain ⟨p, xs, rfl, ta, bad, q⟩ := h
  refine ⟨_, (pss_cons (ps_if (PW.pt (pw_or (pt_not (pt_val (pe_callB (r := rIsi K) call_isi (by rfl) b_isinstance (by decide +kernel) (pa_cons (pv 0) (pa_cons (pe_bltn (v := .ty "tuple") (by rfl) b_tuple (by decide +kernel) rfl) pa_nil))))) (pw_or1 (pt_cmpR (op_ne) (pe_callB call_len_seq (by rfl) b_len PySem.boot_len (pa_cons (pv 0) pa_nil)) pe_int (nomark _))))) (pss_one (ps_ret pe_bl)) pss_nil)
    (pss_cons (ps_if (pt_not (pt_val (pe_callB (cr_all rfl) (by rfl) b_all (by decide +kernel) (pa_cons (pe_lc (own := [("number", 1)]) (g := gName 1) (tt := tYes) (by rfl) sc_is_spot.nd (pi_tup (pv 0)) (blkOk_by (own := [("number", 1)]) (N := ["value", "number", "x", "y", "d"]) (sc := defScope s_is_spot) (by decide +kernel)) (fun _ _ _ _ _ => (pg_name (i := 1) sc_is_spot.nd rfl (by first | exact Or.inl rfl | exact Or.inr rfl))) (fun _ _ _ _ _ => pts_nil) (fun _ _ _ _ _ => (pc d_is_whole (hr.mono (by decide)) (pa_cons (pv 1) pa_nil)))) pa_nil)))) (pss_one (ps_ret pe_bl)) pss_nil)
    (pss_cons (ps_asg (pv 0) (pg_tup rfl (pgs_cons (pg_name (i := 2) sc_is_spot.nd rfl (by first | exact Or.inl rfl | exact Or.inr rfl)) (pgs_cons (pg_name (i := 3) sc_is_spot.nd rfl (by first | exact Or.inl rfl | exact Or.inr rfl)) (pgs_cons (pg_name (i := 4) sc_is_spot.nd rfl (by first | exact Or.inl rfl | exact Or.inr rfl)) pgs_nil)))))
    (pss_one (ps_ret (pe_and (pe_cmpR (op_ge) (pv 4) pe_int (nomark _)) (pe_one (pe_cmpR (op_eq) (pc d_common_divisor (hr.mono (by decide)) (pa_cons (pc d_common_divisor (hr.mono (by decide)) (pa_cons (pv 2) (pa_cons (pv 3) pa_nil))) (pa_cons (pv 4) pa_nil))) pe_int (nomark _))))))))), ?_⟩
  refine ⟨_, rfl, _, _, _, _, _, rfl, .ty _, ty_T ta, kit_ty (by decide +kernel), true, rfl, ?_⟩
  refine iteF ?_
  refine ⟨_, rfl, _, _, rfl, .inr ta, rfl, _, rfl, ?_⟩
  by_cases hl : ¬ xs.length = 3
  · rw [decide_eq_false (fun z => hl (by have := V.int.inj z; omega))]
    exact iteT (q _ (Same.refl _))
  have hl : xs.length = 3 := Decidable.not_not.mp hl
  rw [show V.int (xs.length : Int) = V.int 3 by rw [hl]; rfl, decide_eq_true rfl]
  refine iteF ?_
  have items : ∀ x ∈ xs, (∃ i, x = .int i) ∨ NotW x := fun x hx => by
    cases bad with
    | len h => exact absurd hl h
    | num h =>
      simp only [List.mem_cons, List.mem_nil_iff, or_false] at hx
      rcases hx with rfl | rfl | rfl <;> exact .inl ⟨_, rfl⟩
    | kind h e => exact h x hx
  refine ⟨_, rfl, _, rfl, ⟨_, ta⟩, fun L hL => lc_tup (K := K) (a := p) (xs := xs) (fun i H' => ∃ acc : List V, H' = upd H L (.lst acc) ∧ acc = ((xs.take i).map wh).map V.bl) ⟨[], rfl, rfl⟩ ?_ ?_ ?_⟩
  · rintro i H' hi ⟨acc, rfl, _⟩
    exact same_T (same_new hL _) ta
  · rintro i x H' hx ⟨acc, rfl, ea⟩
    refine ⟨rfl, ?_⟩
    refine yes_of ?_
    have fin : ∃ acc', upd H L (.lst acc) L = some (.lst acc') ∧ acc'.length < sizeLine ∧ ∃ acc'', upd (upd H L (.lst acc)) L (.lst (acc' ++ [.bl (wh x)])) = upd H L (.lst acc'') ∧ acc'' = ((xs.take (i + 1)).map wh).map V.bl := by
      refine ⟨acc, upd_same, ?_, acc ++ [.bl (wh x)], upd_upd, ?_⟩
      · rw [ea, List.length_map, List.length_map, List.length_take]; exact small1000 (by omega)
      · rw [tk_map wh hx, List.map_append, ea]; rfl
    rcases items x (List.mem_of_getElem? hx) with ⟨i', rfl⟩ | nw
    · exact ⟨_, rfl, _, rfl, .inl ⟨i', rfl, fin⟩⟩
    · have ew : wh x = false := by rcases nw with rfl | ⟨b, rfl⟩ | ⟨t, rfl⟩ <;> rfl
      rw [ew] at fin
      exact ⟨_, rfl, _, rfl, .inr ⟨nw, fin⟩⟩
  · rintro H' ⟨acc, rfl, ea⟩
    rw [List.take_length] at ea
    refine ⟨_, xs.map wh, rfl, .inl (.inl ?_), ?_⟩
    · rw [ea]; exact upd_same
    refine ⟨_, rfl, ?_⟩
    have s1 := same_new hL (.lst acc)
    cases bad with
    | len h => exact absurd hl h
    | kind h e =>
      obtain ⟨x, hx, nw⟩ := e
      have ew : wh x = false := by rcases nw with rfl | ⟨b, rfl⟩ | ⟨t, rfl⟩ <;> rfl
      rw [show (([_, _, _] : List V).map wh).all id = false from List.all_eq_false.mpr ⟨wh x, List.mem_map.mpr ⟨x, hx, rfl⟩, by rw [ew]; decide⟩]
      exact iteT (q _ s1)
    | @num x y d h =>
      refine iteF ?_
      refine ⟨_, rfl, _, _, rfl, same_T s1 ta, rfl, _, _, rfl, _, _, rfl, _, _, rfl, rfl, ?_⟩
      refine ⟨_, rfl, _, _, rfl, rfl, _, rfl, ?_⟩
      by_cases hd : (1 : Int) ≤ d
      · rw [decide_eq_true hd]
        refine iteT ?_
        refine ⟨_, rfl, _, rfl, _, _, rfl, _, rfl, _, _, rfl, rfl, ?_⟩
        have e : ¬ V.int ((Int.gcd ((Int.gcd x y : Nat) : Int) d : Nat) : Int) = V.int 1 := fun z => h ⟨hd, V.int.inj z⟩
        show Q (.bl (decide (V.int ((Int.gcd ((Int.gcd x y : Nat) : Int) d : Nat) : Int) = V.int 1))) _
        rw [decide_eq_false e]
        exact q _ s1
      · rw [decide_eq_false hd]
        exact iteF (q _ s1)
/-- a def that may raise -/
structure DX (P : Program) (w : World) (K : PySem.W.Frag) (mg : Str → Option Value) (base : Heap) (x : Str) (k : Nat) (sp : Sp) : Prop where
  ex : ∃ f, FnR P w K mg base (L2.CX P w) k f sp ∧ PySem.W.keepIn K (.ref f) = true ∧ mg x = some (.ref f)
def tClX (sp : Sp) (E : XK) (t : TA) : TE := fun σ H Q => t σ H fun vs H1 => sp vs H1 Q E
theorem pcX {X : Cx} {k : Nat} {sp : Sp} {x : Str} {e : Expr} {es : List Expr} {t : TA} {p pos : Pos} {E : XK} (d : DX X.prog X.w X.K X.mg X.base x k sp) (hr : Room k X.A) (hx : Passes (L2.CX X.prog X.w) X E) (ha : PA X (e :: es) t) (hg : Gl X x := by rfl) (hd : (x == ("__debug__" : Str)) = false := by decide)
    (he : starEach (e :: es) X.env = (false, eval e X.env) :: starEach es X.env := by rfl) (hpl : (backTo pos (starEach es X.env)).any (·.1) = false := by rfl) :
    PE X (.Call (.Name x p) (e :: es) [] pos) (tClX sp E t) := by
  obtain ⟨f, F, hk, hm⟩ := d.ex
  refine ⟨fun pins s σ H Q I h => ?_⟩
  refine wpAny_Call_Name_kw (ld_glob I hg hm ?_ hd)
  refine PySem.W.callWith_K (h₀ := X.base) I.ok.mod.kin hk (thn (ha.run pos pins s σ H _ I h) fun us s1 ⟨vs, H1, I1, r, q⟩ => ⟨I1.kIn, ?_⟩) he hpl
  exact wpAny_call (run_fnR F hr hx I1 r q)
theorem rOfX {k : Nat} {f : Addr} {fd : FuncData} {ps : List Str} {sp : Sp} (F : FnOk P w K mg base (L2.CX P w) k f fd ps sp) (b : Binds K fd ps []) : FnR P w K mg base (L2.CX P w) k f sp := rOf F b
def sp_isspotB (K : PySem.W.Frag) : Sp := fun vs H Q E => sp_isspot K vs H Q E ∨ sp_isspotX K vs H Q E
def sp_checkB (K : PySem.W.Frag) (CT : Addr) : Sp := fun vs H Q E => ∃ v, vs = [v] ∧ ((∃ a, IsT K H v a ∧ Ok a ∧ ∀ H', Same H H' → Q .non H') ∨ ∃ p xs, v = .ref p ∧ SqT K H p xs ∧ BadS xs ∧ ∀ H', Same H H' → E (.ref CT) none H')
end
end My

namespace My
open PySem L2 Mth LamX TL
abbrev s_is_numeral : Stmt := topS 43
theorem sc_is_numeral : FnScope ["word", "most", "sign"] ["word", "most"] (defScope s_is_numeral) := ⟨rfl, rfl, rfl, by decide +kernel, rfl, by decide +kernel, by decide +kernel⟩
abbrev s_number_from : Stmt := topS 44
theorem sc_number_from : FnScope ["word"] ["word"] (defScope s_number_from) := ⟨rfl, rfl, rfl, by decide +kernel, rfl, by decide +kernel, by decide +kernel⟩
abbrev s_spot_from : Stmt := topS 45
theorem sc_spot_from : FnScope ["word", "numbers", "part", "spot"] ["word"] (defScope s_spot_from) := ⟨rfl, rfl, rfl, by decide +kernel, rfl, by decide +kernel, by decide +kernel⟩
section
variable {P : Program} {w : World} {K : PySem.W.Frag} {mg : Str → Option Value} {base : Heap}
/-! ### words of numbers, of spots -/
theorem lc_str {x : Str} {g : TG} {tt : TT} {te : TE} {vs : List Nat} {σ : L2.St} {H1 : Hp} {D : Addr} {Qd : Hp → Prop} (Pv : Nat → Hp → Prop) (h0 : Pv 0 (upd H1 D (.lst [])))
    (hs : ∀ i c H, (tl x)[i]? = some c → Pv i H → g (.str ⟨#[c]⟩) (wipe σ vs) H fun σ2 H2 => wipe σ2 vs = wipe σ vs ∧ tt σ2 H2 fun b H3 =>
      if b = true then te σ2 H3 fun y H4 => ∃ acc, H4 D = some (.lst acc) ∧ acc.length < sizeLine ∧ Pv (i + 1) (upd H4 D (.lst (acc ++ [y]))) else Pv (i + 1) H3) (hd : ∀ H, Pv (tl x).length H → Qd H) :
    ∃ W : Nat → Nat → Hp → Prop, (∃ m, W 0 m (upd H1 D (.lst []))) ∧ ∀ i m H, W i m H →
      ((Its x).stop i H ∧ Qd H) ∨ ((Its x).go i H ∧ ∃ Nx : Hp → Prop, (∀ H', Nx H' → ∃ m', m' < m ∧ W (i + 1) m' H') ∧ ∀ v H', (Its x).yld i H v H' → g v (wipe σ vs) H' fun σ2 H2 => wipe σ2 vs = wipe σ vs ∧ tt σ2 H2 fun b H3 =>
        if b = true then te σ2 H3 fun y H4 => ∃ acc, H4 D = some (.lst acc) ∧ acc.length < sizeLine ∧ Nx (upd H4 D (.lst (acc ++ [y]))) else Nx H3) := by
  have hsz : (tl x).length = x.cps.size := Array.length_toList
  refine ⟨fun i m H => m = (tl x).length - i ∧ i ≤ (tl x).length ∧ Pv i H, ⟨_, rfl, Nat.zero_le _, h0⟩, ?_⟩
  rintro i m H ⟨rfl, hi, p⟩
  by_cases lt : i < (tl x).length
  · refine .inr ⟨by show i < x.cps.size; omega, Pv (i + 1), fun H' p' => ⟨_, by omega, rfl, lt, p'⟩, ?_⟩
    rintro v H' ⟨rfl, c, ec, rfl⟩
    exact hs i c _ (by rw [Array.getElem?_toList]; exact ec) p
  · obtain rfl : i = (tl x).length := by omega
    exact .inl ⟨by show x.cps.size ≤ _; omega, hd H p⟩
theorem dg_in (c : Nat) : decide (c ∈ ("0123456789" : Str).cps.toList) = dgB c := by
  rw [show ("0123456789" : Str).cps.toList = [48, 49, 50, 51, 52, 53, 54, 55, 56, 57] from by decide +kernel, Bool.eq_iff_iff, decide_eq_true_iff]
  unfold dgB
  rw [Bool.and_eq_true, decide_eq_true_iff, decide_eq_true_iff]
  simp only [List.mem_cons, List.not_mem_nil, or_false]
  omega
theorem str_eq {x : Str} {l : List Nat} {y : Str} (e : tl y = l) : decide (V.str x = V.str y) = decide (tl x = l) := by
  rw [Bool.eq_iff_iff, decide_eq_true_iff, decide_eq_true_iff]
  constructor
  · intro h; rw [V.str.inj h]; exact e
  · intro h; rw [ext_tl (h.trans e.symm)]
def sp_nml : Sp := fun vs H Q _ => ∃ (x : Str) (m : Nat), vs = [.str x, .int (m : Int)] ∧ x.length ≤ 100000 ∧ ∀ H', Same H H' → Q (.bl (nmB m (tl x))) H'
theorem ok_is_numeral {f : Addr} {fd : FuncData} {tk : Tok} (b_len : mg "len" = none) (b_all : mg "all" = none) (m_DIGITS : mg "DIGITS" = some (.str "0123456789" tk))
    (F : Fun K "is_numeral" "is_numeral" s_is_numeral f fd) : FnOk P w K mg base CX0 1 f fd ["word", "most"] sp_nml := by
  refine F.ok sc_is_numeral (fun vs H Q E h => ?_) (fun cdv A outer s H vs Q E hr h => ?_)
  · obtain ⟨x, m, rfl, _⟩ := h
    rfl
  obtain ⟨x, m, rfl, hl, q⟩ := h
  refine ⟨_, (pss_cons (ps_if (PW.pt (pw_or (pt_not (pt_chain op_le op_le pe_int (pe_callB call_len_str (by rfl) b_len PySem.boot_len (pa_cons (pv 0) pa_nil)) (pv 1))) (pw_or1 (pt_not (pt_val (pe_callB (cr_all rfl) (by rfl) b_all (by decide +kernel) (pa_cons (pe_lc (own := [("sign", 2)]) (g := gName 2) (tt := tYes) (by rfl) sc_is_numeral.nd (pi_str (pv 0)) (blkOk_by (own := [("sign", 2)]) (N := ["word", "most", "sign"]) (sc := defScope s_is_numeral) (by decide +kernel)) (fun _ _ _ _ _ => (pg_name (i := 2) sc_is_numeral.nd rfl (by first | exact Or.inl rfl | exact Or.inr rfl))) (fun _ _ _ _ _ => pts_nil) (fun _ _ _ _ _ => (pe_cmpR op_in_sign (pv 2) (pe_glob (v := .str "0123456789") (by rfl) m_DIGITS ⟨_, rfl⟩) (by with_unfolding_all rfl)))) pa_nil))))))) (pss_one (ps_ret pe_bl)) pss_nil)
    (pss_one (ps_ret (pe_or (pe_cmpR (op_eq) (pv 0) pe_str (nomark _)) (pe_one (pe_cmpR (op_ne) (pe_ix ix_str (pv 0) pe_int (fun _ _ => rfl)) pe_str (nomark _))))))), ?_⟩
  have hx := len_tl x
  have key : nmB m (tl x) = (decide (1 ≤ (tl x).length) && decide ((tl x).length ≤ m) && (tl x).all dgB && (decide (tl x = [48]) || !decide ((tl x).head? = some 48))) := rfl
  have q' : ∀ H' b, Same H H' → b = nmB m (tl x) → Q (.bl b) H' := fun H' b s e => by rw [e]; exact q H' s
  have sz : x.length ≤ sizeLine := Nat.le_trans hl (by decide)
  refine ⟨_, rfl, _, rfl, sz, _, _, rfl, rfl, ?_⟩
  by_cases h1 : 1 ≤ x.length
  · refine ⟨true, congrArg V.bl (decide_eq_true (by omega)), iteT ⟨_, rfl, _, _, rfl, rfl, ?_⟩⟩
    by_cases h2 : x.length ≤ m
    · refine ⟨true, congrArg V.bl (decide_eq_true (by omega)), iteF ?_⟩
      refine ⟨_, rfl, x, rfl, fun L hL => lc_str (x := x) (fun i H' => ∃ acc, H' = upd H L (.lst acc) ∧ acc = (((tl x).take i).map dgB).map V.bl) ⟨[], rfl, rfl⟩ ?_ ?_⟩
      · rintro i c H' ec ⟨acc, rfl, ea⟩
        refine ⟨rfl, yes_of ?_⟩
        have lt := (List.getElem?_eq_some_iff.mp ec).1
        refine ⟨_, rfl, c, "0123456789", rfl, rfl, acc, upd_same, ?_, acc ++ [.bl (dgB c)], ?_, ?_⟩
        · rw [ea, List.length_map, List.length_map, List.length_take]
          exact Nat.lt_of_le_of_lt (Nat.le_trans (Nat.min_le_right _ _) (by omega : _ ≤ 100000)) (by decide)
        · rw [dg_in, upd_upd]
        · rw [ea, take_more ec, List.map_append, List.map_append]
          rfl
      rintro H' ⟨acc, rfl, ea⟩
      rw [List.take_length] at ea
      have s1 := same_new hL (.lst acc)
      refine ⟨L, (tl x).map dgB, rfl, .inl (.inl (by rw [← ea]; exact upd_same)), ?_⟩
      rw [List.all_map, show (id ∘ dgB) = dgB from rfl]
      refine ⟨_, rfl, ?_⟩
      by_cases h3 : (tl x).all dgB = true
      · rw [h3]
        refine iteF ?_
        have pre : nmB m (tl x) = (decide (tl x = [48]) || !decide ((tl x).head? = some 48)) := by
          rw [key, h3, decide_eq_true (show 1 ≤ (tl x).length by omega), decide_eq_true (show (tl x).length ≤ m by omega)]
          rfl
        refine ⟨_, rfl, rfl, _, congrArg V.bl (str_eq (l := [48]) (by decide +kernel)), ?_⟩
        refine ite2 (fun h => ?_) (fun h => ?_)
        · refine q' _ _ s1 ?_
          rw [pre, h]
          rfl
        · obtain ⟨c, t, ex⟩ : ∃ c t, tl x = c :: t := by
            cases hh : tl x with
            | nil => rw [hh] at hx; simp at hx; omega
            | cons c t => exact ⟨c, t, rfl⟩
          refine ⟨_, rfl, x, 0, c, rfl, rfl, sz, atI_nat (j := 0) (by show (tl x)[0]? = some c; rw [ex]; rfl), rfl, ?_⟩
          refine q' _ _ s1 ?_
          rw [pre, Bool.eq_false_iff.mpr h, Bool.false_or, str_eq (x := ⟨#[c]⟩) (l := [48]) (by decide +kernel), ex]
          congr 1
          rw [Bool.eq_iff_iff, decide_eq_true_iff, decide_eq_true_iff]
          show [c] = [48] ↔ some c = some 48
          constructor
          · intro h; rw [(List.cons.inj h).1]
          · intro h; rw [Option.some.inj h]
      · rw [Bool.eq_false_iff.mpr h3]
        refine iteT (q' _ _ s1 ?_)
        rw [key, Bool.eq_false_iff.mpr h3, Bool.and_false, Bool.false_and]
    · refine ⟨false, congrArg V.bl (decide_eq_false (by omega)), iteT (q' _ _ (Same.refl _) ?_)⟩
      rw [key, decide_eq_false (show ¬ (tl x).length ≤ m by omega), Bool.and_false, Bool.false_and, Bool.false_and]
  · refine ⟨false, congrArg V.bl (decide_eq_false (by omega)), iteF ⟨false, rfl, iteT (q' _ _ (Same.refl _) ?_)⟩⟩
    rw [key, decide_eq_false (show ¬ 1 ≤ (tl x).length by omega), Bool.false_and, Bool.false_and, Bool.false_and]
def numV : Option Int → V
  | none => .non
  | some n => .int n
def sp_nfr : Sp := fun vs H Q _ => ∃ x : Str, vs = [.str x] ∧ x.length ≤ 100000 ∧ ∀ H', Same H H' → Q (numV (numF (tl x))) H'
theorem ok_number_from {f : Addr} {fd : FuncData} {tk : Tok} (b_int : mg "int" = none) (m_MOST_DIGITS : mg "MOST_DIGITS" = some (.int 9 tk)) (d_is_numeral : D P w K mg base "is_numeral" 1 sp_nml)
    (F : Fun K "number_from" "number_from" s_number_from f fd) : FnOk P w K mg base CX0 2 f fd ["word"] sp_nfr := by
  refine F.ok sc_number_from (fun vs H Q E h => ?_) (fun cdv A outer s H vs Q E hr h => ?_)
  · obtain ⟨x, rfl, _⟩ := h
    rfl
  obtain ⟨x, rfl, hl, q⟩ := h
  refine ⟨_, (pss_cons (ps_if (PW.pt (pw_or (pt_cmpR (op_eq) (pv 0) pe_str (nomark _)) (pw_or1 (pt_not (pt_val (pc d_is_numeral (hr.mono (by decide)) (pa_cons (pe_m1 PySem.F.slot_str_removeprefix PySem.F.type_str_removeprefix mt_removeprefix (pv 0) pe_str) (pa_cons (pe_glob (v := .int 9) (by rfl) m_MOST_DIGITS ⟨_, rfl⟩) pa_nil)))))))) (pss_one (ps_ret pe_non)) pss_nil)
    (pss_one (ps_ret (pe_callTy call_int_str (by rfl) b_int (by decide +kernel) (pa_cons (pv 0) pa_nil))))), ?_⟩
  have hx := len_tl x
  have nn : ∀ y : Str, tl y = [45, 48] → decide (V.str x = V.str y) = decide (tl x = [45, 48]) := fun y e => str_eq e
  have sz : x.length ≤ sizeLine := Nat.le_trans hl (by decide)
  refine ⟨_, rfl, rfl, ?_⟩
  refine ⟨_, congrArg V.bl (nn _ (by decide +kernel)), ite2 (fun h => ?_) (fun h => ?_)⟩
  · have h := of_decide_eq_true h
    have e : numF (tl x) = none := by unfold numF; rw [if_pos (.inl h)]
    have q' := q H (Same.refl _)
    rw [e] at q'
    exact q'
  have h : ¬ tl x = [45, 48] := fun z => h (decide_eq_true z)
  have lr : (Txt.removeprefix x "-").length ≤ x.length := by
    rw [len_tl, len_tl, show ("-" : Str) = ⟨#[45]⟩ from by decide +kernel, rm_tl]
    unfold unM
    split
    · rw [List.length_tail]; omega
    · exact Nat.le_refl _
  refine ⟨_, rfl, ⟨_, rfl⟩, x, "-", rfl, rfl, sz, ?_⟩
  have er : tl (Txt.removeprefix x "-") = unM (tl x) := by rw [show ("-" : Str) = ⟨#[45]⟩ from by decide +kernel, rm_tl]
  refine ⟨_, 9, rfl, by omega, fun H1 s1 => ?_⟩
  rw [er]
  refine ⟨_, rfl, ?_⟩
  have q1 := q H1 s1
  cases e : nmB 9 (unM (tl x)) with
  | false =>
    have en : numF (tl x) = none := by unfold numF; rw [if_pos (.inr e)]
    rw [en] at q1
    exact iteT q1
  | true =>
    have en : numF (tl x) = some (valF (tl x)) := by
      unfold numF
      rw [if_neg]
      rintro (z | z)
      · exact h z
      · rw [e] at z; cases z
    rw [en] at q1
    obtain ⟨e1, e2⟩ := int_numF en
    exact iteF ⟨_, rfl, x, _, rfl, e1, by omega, q1⟩
/-! ### None, or a spot -/
def dN : Option Int → PyData
  | none => .none
  | some n => .int n
theorem dpNs {H : Hp} : ∀ ns : List (Option Int), DpAll K H (ns.map numV) (ns.map dN)
  | [] => .nil
  | none :: ns => .cons .non (dpNs ns)
  | some n :: ns => .cons (.int n) (dpNs ns)
theorem inNone {H : Hp} {Q : VK} {L : Addr} {ns : List (Option Int)} (hL : H L = some (.lst (ns.map numV))) (q : Q (.bl (decide (none ∈ ns))) H) : rInE K .non (.ref L) H Q := by
  refine ⟨.none, ns.map dN, .non, .inl (.lst (.inl (.inl hL)) (dpNs ns)), rfl, shapedL fun d hd => ?_, ?_⟩
  · obtain ⟨n, _, rfl⟩ := List.mem_map.mp hd
    cases n <;> exact ⟨rfl, by simp [dN, PyData.depth]⟩
  · have : ((ns.map dN).any fun z => PyData.eqv z .none) = decide (none ∈ ns) := by
      rw [List.any_map, Bool.eq_iff_iff, List.any_eq_true, decide_eq_true_iff]
      constructor
      · rintro ⟨x, hx, e⟩
        cases x with
        | none => exact hx
        | some n => cases e
      · intro h
        exact ⟨none, h, rfl⟩
    rw [this]
    exact q
theorem somes : ∀ {ns : List (Option Int)}, none ∉ ns → ns = (ns.filterMap id).map some
  | [], _ => rfl
  | none :: ns, h => absurd (.head _) h
  | some n :: ns, h => by
    have ih := somes (ns := ns) fun z => h (.tail _ z)
    show some n :: ns = some n :: (ns.filterMap id).map some
    rw [← ih]
def IsOz (K : PySem.W.Frag) (H : Hp) (v : V) : Option T3 → Prop
  | none => v = .non
  | some z => IsT K H v z
def sp_sfr (K : PySem.W.Frag) : Sp := fun vs H Q _ => ∃ x : Str, vs = [.str x] ∧ x.length ≤ 90 ∧ ∀ H' v, Same H H' → IsOz K H' v (spotF (tl x)) → Q v H'
theorem ok_spot_from {f : Addr} {fd : FuncData} (b_len : mg "len" = none) (b_tuple : mg "tuple" = none) (d_number_from : D P w K mg base "number_from" 2 sp_nfr) (d_is_spot : D P w K mg base "is_spot" 2 (sp_isspotB K))
    (F : Fun K "spot_from" "spot_from" s_spot_from f fd) : FnOk P w K mg base CX0 3 f fd ["word"] (sp_sfr K) := by
  refine F.ok sc_spot_from (fun vs H Q E h => ?_) (fun cdv A outer s H vs Q E hr h => ?_)
  · obtain ⟨x, rfl, _⟩ := h
    rfl
  obtain ⟨x, rfl, hl, q⟩ := h
  refine ⟨_, (pss_cons (ps_setLc (i := 1) (own := [("part", 2)]) (g := gName 2) (tt := tYes) (by rfl) sc_spot_from.nd rfl rfl (sw_true rfl rfl rfl (by decide +kernel)) (pi_list (pe_split (pv 0) pe_str)) (blkOk_by (own := [("part", 2)]) (N := ["word", "numbers", "part", "spot"]) (sc := defScope s_spot_from) (by decide +kernel)) (fun _ _ _ _ _ => (pg_name (i := 2) sc_spot_from.nd rfl (by first | exact Or.inl rfl | exact Or.inr rfl))) (fun _ _ _ _ _ => pts_nil) (fun _ _ _ _ _ => (pc d_number_from (hr.mono (by decide)) (pa_cons (pv 2) pa_nil))))
    (pss_cons (ps_if (pt_cmpR (r := rInE K) (op_inE (u65 hr)) pe_non (pv 1) (by with_unfolding_all rfl)) (pss_one (ps_ret pe_non)) pss_nil)
    (pss_cons (ps_if (pt_cmpR (op_eq) (pe_callB call_len_seq (by rfl) b_len PySem.boot_len (pa_cons (pv 1) pa_nil)) pe_int (nomark _)) (pss_one (ps_ret (pe_tup (pa_cons (pe_ix (r := rIxL K) ix_list (pv 1) pe_int (fun _ _ => rfl)) (pa_cons (pe_ix (r := rIxL K) ix_list (pv 1) pe_int (fun _ _ => rfl)) (pa_cons pe_int pa_nil)))))) pss_nil)
    (pss_cons (ps_set (i := 3) sc_spot_from.nd rfl (by first | exact Or.inl rfl | exact Or.inr rfl) (pe_callTy call_tuple_of (by rfl) b_tuple (by decide +kernel) (pa_cons (pv 1) pa_nil)))
    (pss_one (ps_ret (pe_ifExp (PW.pt (pw_and (pt_val (pc d_is_spot (hr.mono (by decide)) (pa_cons (pv 3) pa_nil))) (pw_and1 (pt_cmpR (op_ne) (pe_ix (r := rIxT K) ix_tup (pv 3) pe_int (fun _ _ => rfl)) pe_int (nomark _))))) (pv 3) pe_non))))))), ?_⟩
  obtain ⟨c1, c2⟩ := split_one (x := x) (y := ",") (s := 44) (by decide +kernel) (by decide)
  have ews := split_ws x
  refine ⟨_, rfl, ⟨_, rfl⟩, x, ",", rfl, rfl, by decide +kernel, Nat.le_trans (by omega : x.length + 2 ≤ 1000) (by decide), fun p hp => ?_⟩
  have s1 := same_new hp (.lst ((Txt.split x ",").map V.str))
  refine ⟨p, rfl, ⟨_, .inl (.inl upd_same)⟩, fun L hL => lc_list (K := K) (a := p) (xs := (Txt.split x ",").map V.str) (fun i H' => ∃ acc, Same (upd H p (.lst ((Txt.split x ",").map V.str))) H' ∧ H' L = some (.lst acc) ∧ acc = (((Txt.split x ",").take i).map fun y => numF (tl y)).map numV) ⟨[], same_new hL _, upd_same, rfl⟩ ?_ ?_ ?_⟩
  · rintro i H' _ ⟨_, s', _⟩
    exact .inl (.inl (s' _ _ upd_same))
  · rintro i y H' hy ⟨acc, s', hw, ea⟩
    rw [List.getElem?_map] at hy
    obtain ⟨z, ez, rfl⟩ : ∃ z, (Txt.split x ",")[i]? = some z ∧ V.str z = y := by
      cases e : (Txt.split x ",")[i]? with
      | none => rw [e] at hy; cases hy
      | some z => rw [e] at hy; exact ⟨z, rfl, Option.some.inj hy⟩
    have hz := c2 z (List.mem_of_getElem? ez)
    have la : acc.length ≤ 91 := by rw [ea, List.length_map, List.length_map, List.length_take]; omega
    refine ⟨rfl, yes_of ?_⟩
    refine ⟨_, rfl, z, rfl, by omega, fun H3 s3 => ⟨acc, s3 _ _ hw, small1000 (by omega), acc ++ [numV (numF (tl z))], fun b o h => ?_, upd_same, ?_⟩⟩
    · rw [upd_ne (ne_of_none h hL)]; exact s3 _ _ (s' _ _ h)
    · rw [ea, take_more ez, List.map_append, List.map_append]
      rfl
  rintro H1 ⟨acc, s2, hw, ea⟩
  rw [List.length_map, List.take_length, show ((Txt.split x ",").map fun y => numF (tl y)) = (wsF (tl x)).map numF from by rw [← ews, List.map_map]; rfl] at ea
  have s12 := s1.trans s2
  have lns : ((wsF (tl x)).map numF).length ≤ 91 := by rw [List.length_map, ← ews, List.length_map]; omega
  have sfe : spotF (tl x) = if none ∈ (wsF (tl x)).map numF then none else spF (((wsF (tl x)).map numF).filterMap id) := rfl
  generalize (wsF (tl x)).map numF = ns at *
  subst ea
  refine gn_of ?_
  refine ⟨_, rfl, inNone hw ⟨_, rfl, ?_⟩⟩
  refine ite2 (fun h => ?_) (fun h => ?_)
  · rw [if_pos (of_decide_eq_true h)] at sfe
    exact q _ _ s12 (by rw [sfe]; rfl)
  have h : none ∉ ns := fun z => h (decide_eq_true z)
  rw [if_neg h] at sfe
  have ens := somes h
  generalize ns.filterMap id = is at *
  subst ens
  rw [List.length_map] at lns
  rw [show (is.map some).map numV = is.map V.int from by rw [List.map_map]; rfl] at hw
  dsimp only [tNext]
  refine ⟨_, rfl, L, is.map V.int, rfl, .inl (.inl (.inl hw)), rfl, _, rfl, ?_⟩
  rw [List.length_map]
  refine ite2 (fun h2 => ?_) (fun h2 => ?_)
  · have h2 : is.length = 2 := by have := V.int.inj (of_decide_eq_true h2); omega
    obtain ⟨a, b, rfl⟩ : ∃ a b, is = [a, b] := by
      match is, h2 with
      | [a, b], _ => exact ⟨a, b, rfl⟩
    refine ⟨_, rfl, L, _, 0, _, rfl, rfl, .inl (.inl hw), rfl, _, rfl, L, _, 1, _, rfl, rfl, .inl (.inl hw), rfl, (by show 3 ≤ sizeLine; decide), fun p3 hp3 => ?_⟩
    refine q _ _ (s12.trans (same_new hp3 _)) ?_
    rw [sfe]
    exact ⟨p3, rfl, .inl (.inl upd_same)⟩
  have h2 : is.length ≠ 2 := fun z => h2 (decide_eq_true (by rw [z]; rfl))
  dsimp only [tNext]
  refine ⟨_, rfl, L, _, rfl, .inl ⟨.inl (.inl hw), fun p3 hp3 => gn_of ?_⟩⟩
  have s3 := same_new hp3 (.tup (is.map V.int))
  have s13 := s12.trans s3
  have hT : SqT K (upd H1 p3 (.tup (is.map V.int))) p3 (is.map V.int) := .inl (.inl upd_same)
  generalize upd H1 p3 (.tup (is.map V.int)) = H3 at *
  dsimp only
  by_cases hs : ∃ a b c, is = [a, b, c] ∧ 1 ≤ c ∧ g3 a b c = 1
  · obtain ⟨a, b, c, rfl, hc, hg⟩ := hs
    refine ⟨_, rfl, .inl ⟨_, (a, b, c), rfl, ⟨p3, rfl, hT⟩, ⟨by show 0 < c; omega, hg⟩, fun H4 s4 => ?_⟩⟩
    refine ⟨_, rfl, iteT ?_⟩
    refine ⟨_, rfl, p3, _, 2, _, rfl, rfl, same_T s4 hT, rfl, rfl, _, rfl, ?_⟩
    by_cases e1 : c = 1
    · rw [decide_eq_true (show V.int c = V.int 1 by rw [e1])]
      refine iteF (q _ _ (s13.trans s4) ?_)
      rw [sfe]
      show IsOz K H4 .non (if 1 ≤ c ∧ g3 a b c = 1 ∧ c ≠ 1 then some (a, b, c) else none)
      rw [if_neg (fun z => z.2.2 e1)]
      rfl
    · rw [decide_eq_false (show ¬ V.int c = V.int 1 from fun z => e1 (V.int.inj z))]
      refine iteT ⟨_, rfl, q _ _ (s13.trans s4) ?_⟩
      rw [sfe]
      show IsOz K H4 (.ref p3) (if 1 ≤ c ∧ g3 a b c = 1 ∧ c ≠ 1 then some (a, b, c) else none)
      rw [if_pos ⟨hc, hg, e1⟩]
      exact ⟨p3, rfl, same_T s4 hT⟩
  · have hb : BadS (is.map V.int) ∧ spF is = none := by
      match is, hs, h2 with
      | [], _, _ => exact ⟨.len (by simp) (by simp), rfl⟩
      | [_], _, _ => exact ⟨.len (by simp) (by simp), rfl⟩
      | [_, _], _, h2 => exact absurd rfl h2
      | [a, b, c], hs, _ =>
        have hn : ¬ (1 ≤ c ∧ g3 a b c = 1) := fun z => hs ⟨a, b, c, rfl, z.1, z.2⟩
        refine ⟨.num hn, ?_⟩
        show (if 1 ≤ c ∧ g3 a b c = 1 ∧ c ≠ 1 then some (a, b, c) else none) = none
        rw [if_neg fun z => hn ⟨z.1, z.2.1⟩]
      | a :: b :: c :: d :: l, _, _ => exact ⟨.len (by simp) (by rw [List.length_map]; omega), rfl⟩
    refine ⟨_, rfl, .inr ⟨p3, _, rfl, hT, hb.1, fun H4 s4 => ⟨_, rfl, iteF (iteF ?_)⟩⟩⟩
    refine q _ _ (s13.trans s4) ?_
    rw [sfe, hb.2]
    rfl
end
end My

namespace My
open PySem L2 Mth LamX TL
abbrev s_first_wrong_word : Stmt := topS 46
theorem sc_first_wrong_word : FnScope ["words", "is_spot_next", "index", "word"] ["words"] (defScope s_first_wrong_word) := ⟨rfl, rfl, rfl, by decide +kernel, rfl, by decide +kernel, by decide +kernel⟩
abbrev s_strokes_from : Stmt := topS 47
theorem sc_strokes_from : FnScope ["words", "strokes", "spots", "word"] ["words"] (defScope s_strokes_from) := ⟨rfl, rfl, rfl, by decide +kernel, rfl, by decide +kernel, by decide +kernel⟩
section
variable {P : Program} {w : World} {K : PySem.W.Frag} {mg : Str → Option Value} {base : Heap}
/-! ### the words of a text -/
theorem pa_starW {X : Cx} {e : Expr} {es : List Expr} {te : TE} {t : TA} {p : Pos} (hK : X.K = K) (he : PE X e te) (ha : PA X es t) (hs : starEach (e.Starred p :: es) X.env = (true, eval e X.env) :: starEach es X.env := by rfl) : PA X (e.Starred p :: es) (StX.tStar K te t) := by
  subst hK
  exact StX.pa_star he ha hs

theorem for_enumW {a : Addr} {xs : List V} {g : TG} {tb : TS} {D : Ends} {σ : L2.St} {H : Hp} (Pv : Nat → L2.St → Hp → Prop) (h0 : Pv 0 σ H) (hT : ∀ i σ H, i ≤ xs.length → Pv i σ H → SqL K H a xs)
    (hs : ∀ i x σ H T, xs[i]? = some x → Pv i σ H → H T = none → g (.ref T) σ (upd H T (.tup [.int (i : Nat), x])) fun σ2 H2 => tb { D with nx := Pv (i + 1), ct := Pv (i + 1), bk := D.nx } σ2 H2) (hd : ∀ σ H, Pv xs.length σ H → D.nx σ H) :
    ∃ W : Nat → Nat → L2.St → Hp → Prop, (∃ m, W 0 m σ H) ∧ ∀ i m σ H, W i m σ H →
      ((Ite K a).stop i H ∧ D.nx σ H) ∨ ((Ite K a).go i H ∧ ∃ N : L2.St → Hp → Prop, (∀ σ' H', N σ' H' → ∃ m', m' < m ∧ W (i + 1) m' σ' H') ∧ ∀ x H', (Ite K a).yld i H x H' → g x σ H' fun σ2 H2 => tb { D with nx := N, ct := N, bk := D.nx } σ2 H2) := by
  refine ⟨fun i m σ H => m = xs.length - i ∧ i ≤ xs.length ∧ Pv i σ H, ⟨_, rfl, Nat.zero_le _, h0⟩, ?_⟩
  rintro i m σ H ⟨rfl, hi, p⟩
  have t := hT i σ H hi p
  by_cases lt : i < xs.length
  · refine .inr ⟨⟨xs, xs[i], t, List.getElem?_eq_getElem lt⟩, Pv (i + 1), fun σ' H' p' => ⟨_, by omega, rfl, lt, p'⟩, ?_⟩
    rintro v H' ⟨T, x, rfl, n, rfl, hx⟩
    exact hs i x σ H T (hx xs t) p n
  · obtain rfl : i = xs.length := by omega
    exact .inl ⟨⟨xs, t, Nat.le_refl _⟩, hd σ H p⟩
def rTupW (K : PySem.W.Frag) : List V → Hp → VK → Prop := fun xs H Q => ∃ p ys, xs = [V.ref p] ∧ ((SqL K H p ys ∧ ∀ l, H l = none → Q (.ref l) (upd H l (.tup ys))) ∨ (SqT K H p ys ∧ Q (.ref p) H))
theorem pe_tupW {X : Cx} {e : Expr} {es : List Expr} {t : TA} {p pos : Pos} (hK : X.K = K) (hg : Gl X "tuple") (hm : X.mg "tuple" = none) (ha : PA X (e :: es) t)
    (he : starEach (e :: es) X.env = (false, eval e X.env) :: starEach es X.env := by rfl) (hpl : (backTo pos (starEach es X.env)).any (·.1) = false := by rfl) : PE X (.Call (.Name "tuple" p) (e :: es) [] pos) (tCB (rTupW K) t) := by
  subst hK
  exact pe_callTy call_tuple_of hg hm (by decide +kernel) ha (by decide) (by decide) he hpl
def fwF : List (List Nat) → Nat → Bool → Option Nat
  | [], n, b => if b = true then some n else none
  | w :: ws, n, b => if w = [47] ∧ b = false then fwF ws (n + 1) true else if spotF w = none then some n else fwF ws (n + 1) false
def natV : Option Nat → V
  | none => .non
  | some n => .int (n : Int)
def sp_fww (K : PySem.W.Frag) : Sp := fun vs H Q _ => ∃ (L : Addr) (ws : List Str), vs = [.ref L] ∧ SqL K H L (ws.map V.str) ∧ (∀ x ∈ ws, x.length ≤ 90) ∧ ws.length ≤ 1000 ∧ ∀ H', Same H H' → Q (natV (fwF (ws.map tl) 0 true)) H'
theorem ok_first_wrong_word {f : Addr} {fd : FuncData} (b_len : mg "len" = none) (b_enumerate : mg "enumerate" = none) (d_spot_from : D P w K mg base "spot_from" 3 (sp_sfr K))
    (F : Fun K "first_wrong_word" "first_wrong_word" s_first_wrong_word f fd) : FnOk P w K mg base CX0 4 f fd ["words"] (sp_fww K) := by
  refine F.ok sc_first_wrong_word (fun vs H Q E h => ?_) (fun cdv A outer s H vs Q E hr h => ?_)
  · obtain ⟨L, ws, rfl, _⟩ := h
    rfl
  obtain ⟨L, ws, rfl, hL, hw, hn, q⟩ := h
  refine ⟨_, (pss_cons (ps_set (i := 1) sc_first_wrong_word.nd rfl (by first | exact Or.inl rfl | exact Or.inr rfl) pe_bl)
    (pss_cons (ps_for PassesOwn.never rfl (pi_enum (by rfl) b_enumerate (pa_cons (pv 0) pa_nil)) (pg_tup rfl (pgs_cons (pg_name (i := 2) sc_first_wrong_word.nd rfl (by first | exact Or.inl rfl | exact Or.inr rfl)) (pgs_cons (pg_name (i := 3) sc_first_wrong_word.nd rfl (by first | exact Or.inl rfl | exact Or.inr rfl)) pgs_nil))) (pss_one (ps_if (PW.pt (pw_and (pt_cmpR (op_eq) (pv 3) pe_str (nomark _)) (pw_and1 (pt_not (pt_val (pv 1)))))) (pss_one (ps_set (i := 1) sc_first_wrong_word.nd rfl (by first | exact Or.inl rfl | exact Or.inr rfl) pe_bl)) (pss_one (ps_if (pt_cmpR (op_isN) (pc d_spot_from (hr.mono (by decide)) (pa_cons (pv 3) pa_nil)) pe_non (nomark _)) (pss_one (ps_ret (pv 2))) (pss_one (ps_set (i := 1) sc_first_wrong_word.nd rfl (by first | exact Or.inl rfl | exact Or.inr rfl) pe_bl)))))))
    (pss_one (ps_ret (pe_ifExp (pt_val (pv 1)) (pe_callB call_len_seq (by rfl) b_len PySem.boot_len (pa_cons (pv 0) pa_nil)) pe_non))))), ?_⟩
  refine gn_of ?_
  have lws : (ws.map V.str).length = ws.length := List.length_map _
  have sl : tl ("/" : Str) = [47] := by decide +kernel
  refine ⟨_, rfl, L, ws.map V.str, rfl, hL, for_enumW (K := K) (a := L) (xs := ws.map V.str) (fun i σ H' => ∃ b x2 x3, σ = [some (.ref L), some (.bl b), x2, x3] ∧ Same H H' ∧ fwF (ws.map tl) 0 true = fwF ((ws.drop i).map tl) i b) ⟨true, none, none, rfl, Same.refl _, rfl⟩ ?_ ?_ ?_⟩
  · rintro i σ H' _ ⟨_, _, _, _, s', _⟩
    exact s'.seq hL
  · rintro i x σ H' T hx ⟨b, x2, x3, rfl, s', ef⟩ hT
    rw [List.getElem?_map] at hx
    obtain ⟨z, ez, rfl⟩ : ∃ z, ws[i]? = some z ∧ V.str z = x := by
      cases e : ws[i]? with
      | none => rw [e] at hx; cases hx
      | some z => rw [e] at hx; exact ⟨z, rfl, Option.some.inj hx⟩
    have s1 := s'.trans (same_new hT (.tup [.int (i : Nat), .str z]))
    have hz := hw z (List.mem_of_getElem? ez)
    have lt := (List.getElem?_eq_some_iff.mp ez).1
    have ed : ws.drop i = z :: ws.drop (i + 1) := by
      rw [List.drop_eq_getElem_cons lt, (List.getElem?_eq_some_iff.mp ez).2]
    have ef2 : fwF (ws.map tl) 0 true = if tl z = [47] ∧ b = false then fwF ((ws.drop (i + 1)).map tl) (i + 1) true else if spotF (tl z) = none then some i else fwF ((ws.drop (i + 1)).map tl) (i + 1) false := by
      rw [ef, ed]; rfl
    refine ⟨T, _, rfl, .inl (.inl upd_same), rfl, _, _, rfl, _, _, rfl, rfl, ?_⟩
    by_cases hc : tl z = [47] ∧ b = false
    · rw [if_pos hc] at ef2
      obtain ⟨h, rfl⟩ := hc
      refine ⟨_, rfl, rfl, true, congrArg V.bl ((str_eq sl).trans (decide_eq_true h)), iteT ⟨_, rfl, false, rfl, iteT (gn_of ?_)⟩⟩
      exact ⟨true, _, _, rfl, s1, ef2⟩
    · rw [if_neg hc] at ef2
      by_cases h : tl z = [47]
      · obtain rfl : b = true := by
          cases b with
          | true => rfl
          | false => exact absurd ⟨h, rfl⟩ hc
        refine ⟨_, rfl, rfl, true, congrArg V.bl ((str_eq sl).trans (decide_eq_true h)), iteT ⟨_, rfl, true, rfl, iteF ?_⟩⟩
        refine ⟨_, rfl, z, rfl, hz, fun H2 v s2 iv => ?_⟩
        refine ⟨rfl, decide (v = V.non), rfl, ?_⟩
        cases e : spotF (tl z) with
        | none =>
          rw [e] at iv ef2
          rw [if_pos rfl] at ef2
          rw [decide_eq_true (show v = V.non from iv)]
          refine iteT ⟨_, rfl, ?_⟩
          have q1 := q H2 (s1.trans s2)
          rw [ef2] at q1
          exact q1
        | some t =>
          rw [e] at iv ef2
          rw [if_neg (by intro z; cases z)] at ef2
          obtain ⟨pt, rfl, _⟩ := iv
          rw [decide_eq_false (show ¬ V.ref pt = V.non from fun z => by cases z)]
          refine iteF (gn_of ?_)
          exact ⟨false, _, _, rfl, s1.trans s2, ef2⟩
      · refine ⟨_, rfl, rfl, false, congrArg V.bl ((str_eq sl).trans (decide_eq_false h)), iteF (iteF ?_)⟩
        refine ⟨_, rfl, z, rfl, hz, fun H2 v s2 iv => ?_⟩
        refine ⟨rfl, decide (v = V.non), rfl, ?_⟩
        cases e : spotF (tl z) with
        | none =>
          rw [e] at iv ef2
          rw [if_pos rfl] at ef2
          rw [decide_eq_true (show v = V.non from iv)]
          refine iteT ⟨_, rfl, ?_⟩
          have q1 := q H2 (s1.trans s2)
          rw [ef2] at q1
          exact q1
        | some t =>
          rw [e] at iv ef2
          rw [if_neg (by intro z; cases z)] at ef2
          obtain ⟨pt, rfl, _⟩ := iv
          rw [decide_eq_false (show ¬ V.ref pt = V.non from fun z => by cases z)]
          refine iteF (gn_of ?_)
          exact ⟨false, _, _, rfl, s1.trans s2, ef2⟩
  rintro σ H' ⟨b, x2, x3, rfl, s', ef⟩
  rw [lws, List.drop_length] at ef
  have ef : fwF (ws.map tl) 0 true = if b = true then some ws.length else none := ef
  have q1 := q H' s'
  cases b with
  | true =>
    rw [ef, if_pos rfl] at q1
    refine ⟨_, rfl, true, rfl, iteT ⟨_, rfl, L, ws.map V.str, rfl, .inl (s'.seq hL), ?_⟩⟩
    rw [lws]
    exact q1
  | false =>
    rw [ef, if_neg (by decide)] at q1
    exact ⟨_, rfl, false, rfl, iteF q1⟩
/-! ### the strokes that words tell -/
def stH : List (List Nat) → List T3 → List (List T3)
  | [], _ => []
  | w :: ws, cur => if w = [47] then cur :: stH ws [] else stH ws (cur ++ [(spotF w).getD (0, 0, 1)])
def stF (ws : List (List Nat)) : List (List T3) := stH (ws ++ [[47]]) []
def sp_stf (K : PySem.W.Frag) : Sp := fun vs H Q _ => ∃ (L : Addr) (ws : List Str), vs = [.ref L] ∧ SqL K H L (ws.map V.str) ∧ (∀ x ∈ ws, x.length ≤ 90) ∧ ws.length ≤ 900 ∧ (∀ x ∈ ws, tl x = [47] ∨ spotF (tl x) ≠ none) ∧
  ∀ H' p us, Same H H' → H p = none → H' p = some (.lst us) → Paired (IsSt K H') us (stF (ws.map tl)) → Q (.ref p) H'
theorem ok_strokes_from {f : Addr} {fd : FuncData} (b_tuple : mg "tuple" = none) (d_spot_from : D P w K mg base "spot_from" 3 (sp_sfr K))
    (F : Fun K "strokes_from" "strokes_from" s_strokes_from f fd) : FnOk P w K mg base CX0 4 f fd ["words"] (sp_stf K) := by
  refine F.ok sc_strokes_from (fun vs H Q E h => ?_) (fun cdv A outer s H vs Q E hr h => ?_)
  · obtain ⟨L, ws, rfl, _⟩ := h
    rfl
  obtain ⟨L, ws, rfl, hL, hw, hn, hv, q⟩ := h
  refine ⟨_, (pss_cons (ps_set (i := 1) sc_strokes_from.nd rfl (by first | exact Or.inl rfl | exact Or.inr rfl) (pe_lst pa_nil))
    (pss_cons (ps_set (i := 2) sc_strokes_from.nd rfl (by first | exact Or.inl rfl | exact Or.inr rfl) (pe_lst pa_nil))
    (pss_cons (ps_for PassesOwn.never rfl (pi_list (pe_lst (pa_starW (K := K) rfl (pv 0) (pa_cons pe_str pa_nil)))) (pg_name (i := 3) sc_strokes_from.nd rfl (by first | exact Or.inl rfl | exact Or.inr rfl)) (pss_one (ps_if (pt_cmpR (op_eq) (pv 3) pe_str (nomark _)) (pss_cons (ps_expr (pe_bm PySem.F.plainAttrs_list PySem.F.slot_list_append PySem.F.type_list_append mt_append (pv 1) (pa_cons (pe_tupW (K := K) rfl (by rfl) b_tuple (pa_cons (pv 2) pa_nil)) pa_nil)))
    (pss_one (ps_set (i := 2) sc_strokes_from.nd rfl (by first | exact Or.inl rfl | exact Or.inr rfl) (pe_lst pa_nil)))) (pss_one (ps_expr (pe_bm PySem.F.plainAttrs_list PySem.F.slot_list_append PySem.F.type_list_append mt_append (pv 2) (pa_cons (pc d_spot_from (hr.mono (by decide)) (pa_cons (pv 3) pa_nil)) pa_nil)))))))
    (pss_one (ps_ret (pv 1)))))), ?_⟩
  have sl : tl ("/" : Str) = [47] := by decide +kernel
  refine ⟨(by show 0 ≤ sizeLine; decide), fun Ls hLs => gn_of ?_⟩
  have s1 := same_new hLs (.lst [])
  refine ⟨(by show 0 ≤ sizeLine; decide), fun Lp hLp => gn_of ?_⟩
  have s2 := same_new hLp (.lst [])
  have s12 := s1.trans s2
  refine ⟨_, rfl, L, _, rfl, .inr (s12.seq hL), ?_⟩
  dsimp only [tNil]
  have hle : (ws.map V.str ++ [V.str "/"]).length ≤ 1000 := by rw [List.length_append, List.length_map]; show ws.length + 1 ≤ 1000; omega
  refine ⟨small hle, fun Lw hLw => ?_⟩
  have s3 := same_new hLw (.lst (ws.map V.str ++ [V.str "/"]))
  have s13 := s12.trans s3
  have nps : Ls ≠ Lp := fun e => by rw [← e, upd_same] at hLp; cases hLp
  have nsw : Ls ≠ Lw := fun e => by rw [← e, s2 _ _ (upd_same (H := H) (a := Ls) (o := .lst []))] at hLw; cases hLw
  have npw : Lp ≠ Lw := fun e => by rw [← e, upd_same] at hLw; cases hLw
  have hLp0 : H Lp = none := by
    cases e : H Lp with
    | none => rfl
    | some o => rw [s1 _ _ e] at hLp; cases hLp
  have h1 := s3 _ _ (s2 _ _ (upd_same (H := H) (a := Ls) (o := .lst [])))
  have h2 := s3 _ _ (upd_same (H := upd H Ls (.lst [])) (a := Lp) (o := .lst []))
  have hwl : (upd (upd (upd H Ls (.lst [])) Lp (.lst [])) Lw (.lst (ws.map V.str ++ [V.str "/"]))) Lw = some (.lst (ws.map V.str ++ [V.str "/"])) := upd_same
  generalize upd (upd (upd H Ls (.lst [])) Lp (.lst [])) Lw (.lst (ws.map V.str ++ [V.str "/"])) = HB at *
  clear s1 s2 s12 s3 hLp hLw
  have exs : ws.map V.str ++ [V.str "/"] = (ws ++ [("/" : Str)]).map V.str := by rw [List.map_append]; rfl
  have eWS : (ws ++ [("/" : Str)]).map tl = ws.map tl ++ [[47]] := by rw [List.map_append]; rw [← sl]; rfl
  have hall : ∀ x ∈ ws ++ [("/" : Str)], x.length ≤ 90 ∧ (tl x = [47] ∨ spotF (tl x) ≠ none) := fun x hx => by
    rcases List.mem_append.mp hx with hx | hx
    · exact ⟨hw x hx, hv x hx⟩
    · rw [List.mem_singleton.mp hx]; exact ⟨by decide +kernel, .inl sl⟩
  rw [exs] at hwl hle
  have est : stF (ws.map tl) = stH ((ws ++ [("/" : Str)]).map tl) [] := by rw [eWS]; rfl
  generalize ws ++ [("/" : Str)] = WS at *
  rw [List.length_map] at hle
  clear exs eWS
  refine ⟨Lw, rfl, ⟨_, .inl (.inl hwl)⟩, for_list (K := K) (a := Lw) (xs := WS.map V.str) (D := { nx := tRet (tVar 1) { nx := fun x H' => Q V.non H', rt := Q }, rt := Q }) (fun i σ H' => ∃ Lp d c us vs x3, σ = [some (.ref L), some (.ref Ls), some (.ref Lp), x3] ∧ Same H H' ∧ H Lp = none ∧ Ls ≠ Lp ∧ Lp ≠ Lw ∧ H' Ls = some (.lst us) ∧ H' Lp = some (.lst vs) ∧ H' Lw = some (.lst (WS.map V.str)) ∧ Paired (IsSt K H') us d ∧ Paired (IsT K H') vs c ∧ us.length ≤ i ∧ vs.length ≤ i ∧ d ++ stH ((WS.drop i).map tl) c = stF (ws.map tl)) ⟨Lp, [], [], [], [], none, rfl, s13, hLp0, nps, npw, h1, h2, hwl, .nil, .nil, Nat.le_refl _, Nat.le_refl _, est.symm⟩ ?_ ?_ ?_⟩
  · rintro i σ H' _ ⟨_, _, _, _, _, _, _, _, _, _, _, _, _, h, _⟩
    exact .inl (.inl h)
  · rintro i x σ H' hx ⟨Lp, d, c, us, vs, x3, rfl, s', n0, n1, n2, g1, g2, g3, p1, p2, l1, l2, ef⟩
    rw [List.getElem?_map] at hx
    obtain ⟨z, ez, rfl⟩ : ∃ z, WS[i]? = some z ∧ V.str z = x := by
      cases e : WS[i]? with
      | none => rw [e] at hx; cases hx
      | some z => rw [e] at hx; exact ⟨z, rfl, Option.some.inj hx⟩
    obtain ⟨hz, hzv⟩ := hall z (List.mem_of_getElem? ez)
    have lt := (List.getElem?_eq_some_iff.mp ez).1
    have ed : WS.drop i = z :: WS.drop (i + 1) := by
      rw [List.drop_eq_getElem_cons lt, (List.getElem?_eq_some_iff.mp ez).2]
    have ef2 : d ++ (if tl z = [47] then c :: stH ((WS.drop (i + 1)).map tl) [] else stH ((WS.drop (i + 1)).map tl) (c ++ [(spotF (tl z)).getD (0, 0, 1)])) = stF (ws.map tl) := by
      rw [← ef, ed]; rfl
    refine gn_of ?_
    refine ⟨_, rfl, rfl, _, congrArg V.bl (str_eq sl), ite2 (fun h => ?_) (fun h => ?_)⟩
    · have h := of_decide_eq_true h
      rw [if_pos h] at ef2
      refine ⟨_, rfl, .inl ⟨rfl, _, .inl (.inl g1)⟩, _, rfl, Lp, vs, rfl, .inl ⟨.inl (.inl g2), fun p hp => ?_⟩⟩
      have s4 := same_new hp (.tup vs)
      have g1' := s4 _ _ g1
      refine ⟨Ls, us, _, rfl, rfl, g1', small1000 (by omega), ?_⟩
      have kk := keep_upd (d := Ls) (H := upd H' p (.tup vs)) (o := .lst (us ++ [.ref p]))
      have s5 : Same H (upd (upd H' p (.tup vs)) Ls (.lst (us ++ [.ref p]))) := fun b o h => by
        rw [upd_ne (ne_of_none h hLs)]; exact s4 _ _ (s' _ _ h)
      have ip : IsSt K (upd (upd H' p (.tup vs)) Ls (.lst (us ++ [.ref p]))) (.ref p) c := IsSt.keep (H := upd H' p (.tup vs)) ⟨p, vs, rfl, .inl (.inl upd_same), pimp (fun _ _ i => IsT.same i s4) p2⟩ g1' kk
      have p1' := papp (pimp (fun _ _ i => IsSt.keep (IsSt.same i s4) g1' kk) p1) (.cons ip .nil)
      have g3' := kk _ _ nsw.symm (s4 _ _ g3)
      have g1'' : (upd (upd H' p (.tup vs)) Ls (.lst (us ++ [.ref p]))) Ls = some (.lst (us ++ [.ref p])) := upd_same
      generalize upd (upd H' p (.tup vs)) Ls (.lst (us ++ [.ref p])) = H5 at *
      refine ⟨(by show 0 ≤ sizeLine; decide), fun Ln hLn => gn_of ?_⟩
      have s6 := same_new hLn (.lst [])
      have hn0 : H Ln = none := by
        cases e : H Ln with
        | none => rfl
        | some o => rw [s5 _ _ e] at hLn; cases hLn
      have n3 : Ls ≠ Ln := fun e => by rw [← e, g1''] at hLn; cases hLn
      have n4 : Ln ≠ Lw := fun e => by rw [e, g3'] at hLn; cases hLn
      refine ⟨Ln, d ++ [c], [], us ++ [.ref p], [], _, rfl, s5.trans s6, hn0, n3, n4, s6 _ _ g1'', upd_same, s6 _ _ g3', pimp (fun _ _ i => IsSt.same i s6) p1', .nil, by rw [List.length_append]; show us.length + 1 ≤ i + 1; omega, Nat.zero_le _, by rw [List.append_assoc]; exact ef2⟩
    · have h : ¬ tl z = [47] := fun e => h (decide_eq_true e)
      rw [if_neg h] at ef2
      refine ⟨_, rfl, .inl ⟨rfl, _, .inl (.inl g2)⟩, _, rfl, z, rfl, hz, fun H2 v s4 iv => ?_⟩
      obtain ⟨t, et⟩ := Option.ne_none_iff_exists'.mp (hzv.resolve_left h)
      rw [et] at iv ef2
      have iv : IsT K H2 v t := iv
      have g2' := s4 _ _ g2
      have kk := keep_upd (d := Lp) (H := H2) (o := .lst (vs ++ [v]))
      refine ⟨Lp, vs, _, rfl, rfl, g2', small1000 (by omega), ?_⟩
      refine ⟨Lp, d, c ++ [t], us, vs ++ [v], _, rfl, fun b o h => ?_, n0, n1, n2, kk _ _ n1 (s4 _ _ g1), upd_same, kk _ _ n2.symm (s4 _ _ g3), pimp (fun _ _ i => IsSt.keep (IsSt.same i s4) g2' kk) p1, papp (pimp (fun _ _ i => IsT.keep (IsT.same i s4) g2' kk) p2) (.cons (IsT.keep iv g2' kk) .nil), by omega, by rw [List.length_append]; show vs.length + 1 ≤ i + 1; omega, ef2⟩
      rw [upd_ne (ne_of_none h n0)]
      exact s4 _ _ (s' _ _ h)
  rintro σ H' ⟨Lp, d, c, us, vs, x3, rfl, s', n0, n1, n2, g1, g2, g3, p1, p2, l1, l2, ef⟩
  rw [List.length_map, List.drop_length] at ef
  have ef : d = stF (ws.map tl) := by rw [← ef]; exact (List.append_nil d).symm
  rw [ef] at p1
  exact ⟨_, rfl, q H' Ls us s' hLs g1 p1⟩
end
end My

namespace My
open PySem L2 Mth LamX
section
/-! ### a comprehension within a comprehension -/
theorem relabel_names {scO : Scope} {env : Env} {y : Str} (h : scO.names.lookup y = some .cell ∨ scO.names.lookup y = some .free) : (relabel scO env).names.lookup y = some .cell ∨ (relabel scO env).names.lookup y = some .free := by
  unfold relabel
  dsimp only
  generalize scO.names = names at h ⊢
  induction names with
  | nil => rcases h with h | h <;> cases h
  | cons p names ih =>
    obtain ⟨n, k⟩ := p
    rw [List.map_cons]
    rw [List.lookup_cons] at h
    cases e : (y == n) with
    | true =>
      rw [e] at h
      dsimp only
      split
      · rw [List.lookup_cons, e]; exact .inl rfl
      · rw [List.lookup_cons, e]; exact h
    | false =>
      rw [e] at h
      dsimp only
      split
      · rw [List.lookup_cons, e]; exact ih h
      · rw [List.lookup_cons, e]; exact ih h
theorem blkOk_nest {N : List Str} {scO scope : Scope} {env : Env} {own : List (Str × Nat)} (h : BlkOk N scO scope own) : BlkOk N (relabel scO env) scope own :=
  ⟨h.kind, h.uniq, h.ix, fun y hy e => relabel_names (h.free y hy e), h.own⟩
end
end My

namespace My
open PySem L2 Mth
abbrev s_Drawing___init__ : Stmt := inClass (topS 30) 0
theorem sc_Drawing___init__ : FnScope ["self", "strokes"] ["self", "strokes"] (defScope s_Drawing___init__) := ⟨rfl, rfl, rfl, by decide +kernel, rfl, by decide +kernel, by decide +kernel⟩
abbrev s_check_strokes : Stmt := topS 33
theorem sc_check_strokes : FnScope ["strokes", "index", "stroke"] ["strokes"] (defScope s_check_strokes) := ⟨rfl, rfl, rfl, by decide +kernel, rfl, by decide +kernel, by decide +kernel⟩
section
variable {P : Program} {w : World} {K : PySem.W.Frag} {mg : Str → Option Value} {base : Heap}
/-! ### drawings -/
def AllSt (K : PySem.W.Frag) (H : Hp) (vs : List V) (zss : List (List T3)) : Prop := Paired (IsSt K H) vs zss
theorem AllSt.same {H H' : Hp} {vs : List V} {zss : List (List T3)} (h : AllSt K H vs zss) (s : Same H H') : AllSt K H' vs zss := pimp (fun _ _ i => i.same s) h
theorem AllSt.keep {H H' : Hp} {vs : List V} {zss : List (List T3)} {d : Addr} {ys : List V} (h : AllSt K H vs zss) (hd : H d = some (.lst ys)) (k : Keep d H H') : AllSt K H' vs zss := pimp (fun _ _ i => i.keep hd k) h
structure DrOk (zss : List (List T3)) : Prop where
  len : zss.length ≤ 12
  ok : ∀ zs ∈ zss, StOk zs
def sp_chk (K : PySem.W.Frag) : Sp := fun vs H Q _ => ∃ t us zss, vs = [.ref t] ∧ SqT K H t us ∧ AllSt K H us zss ∧ DrOk zss ∧ ∀ H', Same H H' → Q .non H'
theorem ok_check_strokes {f : Addr} {fd : FuncData} {tk : Tok} (b_enumerate : mg "enumerate" = none) (b_len : mg "len" = none) (m_MOST_STROKES : mg "MOST_STROKES" = some (.int 12 tk)) (d_is_stroke : D P w K mg base "is_stroke" 3 (sp_isst K))
    (F : Fun K "check_strokes" "check_strokes" s_check_strokes f fd) : FnOk P w K mg base CX0 4 f fd ["strokes"] (sp_chk K) := by
  refine F.ok sc_check_strokes (fun vs H Q E h => ?_) (fun cdv A outer s H vs Q E hr h => ?_)
  · obtain ⟨t, us, zss, rfl, _⟩ := h
    rfl
  obtain ⟨t, us, zss, rfl, hT, ha, ok, q⟩ := h
  refine ⟨_, (pss_cons (ps_for PassesOwn.never rfl (pi_enumT (by rfl) b_enumerate (pa_cons (pv 0) pa_nil)) (pg_tup rfl (pgs_cons (pg_name (i := 1) sc_check_strokes.nd rfl (by first | exact Or.inl rfl | exact Or.inr rfl)) (pgs_cons (pg_name (i := 2) sc_check_strokes.nd rfl (by first | exact Or.inl rfl | exact Or.inr rfl)) pgs_nil))) (pss_one (ps_if (pt_not (pt_val (pc d_is_stroke (hr.mono (by decide)) (pa_cons (pv 2) pa_nil)))) (pss_one (ps_never)) pss_nil)))
    (pss_one (ps_if (pt_cmpR (op_gt) (pe_callB call_len_seq (by rfl) b_len PySem.boot_len (pa_cons (pv 0) pa_nil)) (pe_glob (v := .int 12) (by rfl) m_MOST_STROKES ⟨_, rfl⟩) (nomark _)) (pss_one (ps_never)) pss_nil))), ?_⟩
  have hl := Paired.length ha
  refine ⟨_, rfl, t, us, rfl, hT, for_enumT (K := K) (a := t) (xs := us) (fun i σ H' => (∃ x y, σ = [some (.ref t), x, y]) ∧ Same H H') ⟨⟨none, none, rfl⟩, Same.refl _⟩ ?_ ?_ ?_⟩
  · rintro i σ H' _ ⟨_, s'⟩
    exact same_T s' hT
  · rintro i x σ H' T hx ⟨⟨y, z, rfl⟩, s'⟩ hn
    obtain ⟨zs, h1, h2⟩ := pget ha hx
    have sn := same_new hn (.tup [.int (i : Nat), x])
    refine ⟨T, _, rfl, .inl (.inl upd_same), rfl, _, _, rfl, _, _, rfl, rfl, ?_⟩
    refine ⟨_, rfl, _, zs, rfl, h2.same (s'.trans sn), ok.ok zs (List.mem_of_getElem? h1), fun H2 s2 => ⟨_, rfl, iteF ⟨⟨_, _, rfl⟩, s'.trans (sn.trans s2)⟩⟩⟩
  · rintro σ H' ⟨⟨y, z, rfl⟩, s'⟩
    refine ⟨_, rfl, t, us, rfl, .inr (same_T s' hT), _, _, rfl, rfl, _, rfl, ?_⟩
    rw [decide_eq_false (show ¬ ((12 : Int) < (us.length : Int)) by have := ok.len; omega)]
    exact iteF (q _ s')
def wf (a0 : Addr) : List (Str × V) := [("held", .ref a0)]
theorem wf_put {a0 : Addr} : putF "held" (.ref a0) ([]) = wf a0 := by
  simp only [putF, ]
  rfl
theorem wf_held {a0 : Addr} : (wf a0).lookup ("held" : Str) = some (.ref a0) := by
  unfold wf
  simp only [List.lookup, beq_self_eq_true]
structure WTxt (K : PySem.W.Frag) (C : Addr) : Prop where
  cl : Cls K C
  nH : NoAttr K C "held"
/-- a drawing as an object -/
def IsW (K : PySem.W.Frag) (CW : Addr) (H : Hp) (v : V) (zss : List (List T3)) : Prop := ∃ p dx t us, v = .ref p ∧ H p = some (.ins CW dx (wf t)) ∧ SqT K H t us ∧ AllSt K H us zss
theorem IsW.same {CW : Addr} {H H' : Hp} {v : V} {zss : List (List T3)} (h : IsW K CW H v zss) (e : Same H H') : IsW K CW H' v zss := by
  obtain ⟨p, dx, t, us, rfl, h1, h2, h3⟩ := h
  exact ⟨p, dx, t, us, rfl, e _ _ h1, same_T e h2, h3.same e⟩
theorem IsW.keep {CW : Addr} {H H' : Hp} {v : V} {zss : List (List T3)} {d : Addr} {ys : List V} (h : IsW K CW H v zss) (hd : H d = some (.lst ys)) (e : Keep d H H') : IsW K CW H' v zss := by
  obtain ⟨p, dx, t, us, rfl, h1, h2, h3⟩ := h
  exact ⟨p, dx, t, us, rfl, e _ _ (ne_of h1 hd (by intro z; cases z)) h1, keep_T h2 hd e, h3.keep hd e⟩
theorem IsSt.keepI {p dx CD : Addr} {fs : List (Str × V)} {H H' : Hp} {v : V} {zs : List T3} (h : IsSt K H v zs) (hd : H p = some (.ins CD dx fs)) (e : Keep p H H') : IsSt K H' v zs := by
  obtain ⟨t, us, rfl, h1, h2⟩ := h
  exact ⟨t, us, rfl, keepI_T h1 hd e, pimp (fun _ _ ⟨q, e', g⟩ => ⟨q, e', keepI_T g hd e⟩) h2⟩
def sp_win (K : PySem.W.Frag) (CW : Addr) : Sp := fun vs H Q _ => ∃ (H0 : Hp) (p dx t : Addr) (us : List V) (zss : List (List T3)), vs = [.ref p, .ref t] ∧ Same H0 H ∧ H0 p = none ∧ H p = some (.ins CW dx []) ∧ SqT K H t us ∧ AllSt K H0 us zss ∧ DrOk zss ∧ ∀ H', Same H0 H' → IsW K CW H' (.ref p) zss → Q .non H'
def sp_winit (K : PySem.W.Frag) (CW : Addr) : Sp := fun vs H Q E => ∃ ws rest, vs = ws ++ rest ∧ ws.length = (["self"] : List Str).length ∧ rest.length ≤ sizeLine ∧ ∀ p, H p = Option.none → sp_win K CW (ws ++ [V.ref p]) (upd H p (.tup rest)) Q E
theorem ok_winit {f CW : Addr} {fd : FuncData} (T : WTxt K CW) (d_check_strokes : D P w K mg base "check_strokes" 4 (sp_chk K))
    (F : Fun K "__init__" "Drawing.__init__" s_Drawing___init__ f fd) : FnR P w K mg base CX0 5 f (sp_winit K CW) := by
  refine fun_star (ps := ["self"]) (pv := "strokes") (sp := sp_win K CW) F sc_Drawing___init__ (fun kV doc pm an cdv ct => StX.bind_star1 (B := fun us => bindArgs (PySem.W.fnOf "__init__" "Drawing.__init__" (defArgs s_Drawing___init__) (defBody s_Drawing___init__) (defScope s_Drawing___init__) .none kV doc pm an cdv ct) ⟨us, []⟩) (fun a => rfl) (fun a r rs => rfl)) (fun cdv A outer s H vs Q E hr h => ?_)
  obtain ⟨H0, p, dx, t, us, zss, rfl, s0, p0, hp, hT, ha, ok, q⟩ := h
  refine ⟨_, (pss_cons (ps_expr (pc d_check_strokes (hr.mono (by decide)) (pa_cons (pv 1) pa_nil)))
    (pss_one (ps_fld (pv 0) (pv 1) rfl))), ?_⟩
  refine ⟨_, rfl, t, us, zss, rfl, hT, ha.same s0, ok, fun H1 s1 => ?_⟩
  have hp1 := s1 _ _ hp
  refine ⟨_, rfl, _, rfl, p, CW, dx, _, rfl, hp1, T.cl, T.nH, (by show 0 < 1000; decide), ?_⟩
  have k1 := keep_upd (d := p) (H := H1) (o := .ins CW dx (putF "held" (.ref t) []))
  refine q _ (fun y o e => ?_) ⟨p, dx, t, us, rfl, by rw [upd_same, wf_put], keepI_T (same_T s1 hT) hp1 k1, pimp (fun _ _ i => (i.same (s0.trans s1)).keepI hp1 k1) ha⟩
  have nc : y ≠ p := fun z => by rw [z, p0] at e; cases e
  rw [upd_ne nc]
  exact s1 _ _ (s0 _ _ e)
/-- the class as its users see it -/
structure DrawI (P : Program) (w : World) (K : PySem.W.Frag) (mg : Str → Option Value) (base : Heap) (CW f : Addr) : Prop where
  tx : WTxt K CW
  mkC : Mk K CW f
  ok : FnR P w K mg base CX0 5 f (sp_winit K CW)
  mgC : mg "Drawing" = some (.ref CW)
theorem mkw_of2 {CW : Addr} {H : Hp} {Qf : Addr → VK} {us : List V} {zss : List (List T3)} (ha : AllSt K H us zss) (ok : DrOk zss) (q : ∀ H' x, Same H H' → IsW K CW H' (.ref x) zss → Qf x .non H') :
    ∀ x dx, H x = none → H dx = none → dx ≠ x → sp_winit K CW (.ref x :: us) (upd (upd H dx (.own x)) x (.ins CW dx [])) (Qf x) E0 := by
  intro x dx hx hd _
  refine ⟨[.ref x], us, rfl, rfl, small (by have := Paired.length ha; have := ok.len; omega), fun t ht => ?_⟩
  have nt : x ≠ t := fun z => by rw [← z, upd_same] at ht; cases ht
  refine ⟨H, x, dx, t, us, zss, rfl, fun c o e => ?_, hx, by rw [upd_ne nt]; exact upd_same, .inl (.inl upd_same), ha, ok, fun H' s' i => q _ _ s' i⟩
  have e2 : upd (upd H dx (.own x)) x (.ins CW dx []) c = some o := by
    rw [upd_ne (ne_of_none e hx), upd_ne (ne_of_none e hd)]
    exact e
  rw [upd_ne (ne_of_none e2 ht)]
  exact e2
theorem mkw_of {CW : Addr} {H : Hp} {Q : VK} {us : List V} {zss : List (List T3)} (ha : AllSt K H us zss) (ok : DrOk zss) (q : ∀ H' r, Same H H' → IsW K CW H' r zss → Q r H') :
    ∀ x dx, H x = none → H dx = none → dx ≠ x → sp_winit K CW (.ref x :: us) (upd (upd H dx (.own x)) x (.ins CW dx [])) (fun v H2 => v = .non ∧ Q (.ref x) H2) E0 :=
  mkw_of2 (Qf := fun x v H2 => v = .non ∧ Q (.ref x) H2) ha ok fun H' x s i => ⟨rfl, q _ _ s i⟩
theorem drNil : DrOk [] := ⟨by decide, fun zs h => by cases h⟩
end
end My

namespace My
open PySem L2 Mth
section
variable {K : PySem.W.Frag}
/-! ### strokes as data -/
def dSt (zs : List T3) : PyData := .tuple (zs.map d3)
theorem dps3 {H : Hp} : ∀ {us : List V} {zs : List T3}, Paired (IsT K H) us zs → DpAll K H us (zs.map d3)
  | _, _, .nil => .nil
  | _, _, .cons ⟨p, e, h⟩ t => by
    subst e
    exact .cons (Dp3 h) (dps3 t)
theorem dps_st {H : Hp} : ∀ {us : List V} {zss : List (List T3)}, AllSt K H us zss → DpAll K H us (zss.map dSt)
  | _, _, .nil => .nil
  | _, _, .cons ⟨p, ys, e, h1, h2⟩ t => by
    subst e
    exact .cons (.tup h1 (dps3 h2)) (dps_st t)
theorem can_st (zs : List T3) : (dSt zs).canLay0 = true ∧ (dSt zs).depth ≤ 60 := by
  constructor
  · show PyData.canLayAll0 (zs.map d3) = true
    refine canAll fun x hx => ?_
    obtain ⟨z, _, rfl⟩ := List.mem_map.mp hx
    rfl
  · show PyData.depthAll (zs.map d3) + 1 ≤ 60
    have := depAll (n := 5) (xs := zs.map d3) fun x hx => by
      obtain ⟨z, _, rfl⟩ := List.mem_map.mp hx
      show PyData.depth (d3 z) ≤ 5
      simp [d3, PyData.depth, PyData.depthAll]
    omega
theorem sh_st (zss : List (List T3)) : SeqAt.shaped (.tuple (zss.map dSt)) = true := by
  show (PyData.canLayAll0 (zss.map dSt) && decide (PyData.depthAll (zss.map dSt) + 1 ≤ 64)) = true
  rw [canAll (xs := zss.map dSt) (fun x hx => by obtain ⟨z, _, rfl⟩ := List.mem_map.mp hx; exact (can_st z).1), decide_eq_true (by have := depAll (n := 60) (xs := zss.map dSt) (fun x hx => by obtain ⟨z, _, rfl⟩ := List.mem_map.mp hx; exact (can_st z).2); omega)]
  rfl
theorem eqvT : ∀ (xs : List PyData), PyData.eqv (.tuple xs) (.tuple []) = xs.isEmpty
  | [] => rfl
  | _ :: _ => rfl
theorem eqvMap {α : Type} [DecidableEq α] {g : α → PyData} (h : ∀ a b, PyData.eqv (g a) (g b) = decide (a = b)) : ∀ as bs : List α, PyData.eqvAll (as.map g) (bs.map g) = decide (as = bs)
  | [], [] => rfl
  | [], _ :: _ => rfl
  | _ :: _, [] => rfl
  | a :: as, b :: bs => by
    show (PyData.eqv (g a) (g b) && PyData.eqvAll (as.map g) (bs.map g)) = _
    rw [h, eqvMap h as bs, ← Bool.decide_and]
    simp
theorem eqvSt (as bs : List T3) : PyData.eqv (dSt as) (dSt bs) = decide (as = bs) := eqvMap eqv3 as bs
theorem eqvSS (as bs : List (List T3)) : PyData.eqv (.tuple (as.map dSt)) (.tuple (bs.map dSt)) = decide (as = bs) := eqvMap eqvSt as bs
end
end My

namespace My
open PySem L2 Mth LamX TL
abbrev s_law_text : Stmt := topS 59
theorem sc_law_text : FnScope ["_law_strokes_here", "_law_spot_here", "_law_stroke_here"] ["_law_strokes_here"] (defScope s_law_text) := ⟨rfl, rfl, rfl, by decide +kernel, rfl, by decide +kernel, by decide +kernel⟩
abbrev s_law_word : Stmt := topS 58
theorem sc_law_word : FnScope ["_law_spot_here", "_law_number"] ["_law_spot_here"] (defScope s_law_word) := ⟨rfl, rfl, rfl, by decide +kernel, rfl, by decide +kernel, by decide +kernel⟩
abbrev s_format_drawing : Stmt := topS 39
theorem sc_format_drawing : FnScope ["drawing", "spot", "stroke"] ["drawing"] (defScope s_format_drawing) := ⟨rfl, rfl, rfl, by decide +kernel, rfl, by decide +kernel, by decide +kernel⟩
abbrev s_numeral : Stmt := topS 42
theorem sc_numeral : FnScope ["number", "blocks", "rest"] ["number"] (defScope s_numeral) := ⟨rfl, rfl, rfl, by decide +kernel, rfl, by decide +kernel, by decide +kernel⟩
abbrev s_word_of : Stmt := topS 41
theorem sc_word_of : FnScope ["spot", "numbers", "number"] ["spot"] (defScope s_word_of) := ⟨rfl, rfl, rfl, by decide +kernel, rfl, by decide +kernel, by decide +kernel⟩
section
variable {P : Program} {w : World} {K : PySem.W.Frag} {mg : Str → Option Value} {base : Heap}
/-! ### texts of drawings -/
def rJoin (K : PySem.W.Frag) : V → List V → Hp → VK → Prop := fun x xs H Q => ∃ a p, ∃ ys : List Str, x = .str a ∧ xs = [V.ref p] ∧ (SqL K H p (ys.map V.str) ∨ SqT K H p (ys.map V.str)) ∧ (ys.map (·.length)).sum + ys.length * a.length ≤ 16777216 ∧ Q (V.str (Txt.join a ys)) H
theorem pe_joinK {X : Cx} {o e : Expr} {to te : TE} {apos pos : Pos} (hK : X.K = K) (ho : PE X o to) (he : PE X e te) (hs : starEach [e] X.env = [(false, eval e X.env)] := by rfl) (hbase : attributeBase o "join" X.env (eval o X.env) = eval o X.env := by rfl) (hline : (apos.endLine == pos.line) = true := by rfl) :
    PE X (.Call (.Attribute o "join" apos) [e] [] pos) (tM1 (rJoin K) to te) := by
  subst hK
  exact pe_join ho he hs hbase hline
def strI (i : Int) : Str := Str.ofString (toString i)
def sp_num : Sp := fun vs H Q _ => ∃ i : Int, vs = [.int i] ∧ i.natAbs < 1000000000000000000 ∧ ∀ H', Same H H' → Q (.str (strI i)) H'
theorem ok_numeral {f : Addr} {fd : FuncData} {tk : Tok} (b_abs : mg "abs" = none) (b_str : mg "str" = none) (m_BLOCK : mg "BLOCK" = some (.int 1000000000000000000 tk))
    (F : Fun K "numeral" "numeral" s_numeral f fd) : FnOk P w K mg base CX0 1 f fd ["number"] sp_num := by
  refine F.ok sc_numeral (fun vs H Q E h => ?_) (fun cdv A outer s H vs Q E hr h => ?_)
  · obtain ⟨i, rfl, _⟩ := h
    rfl
  obtain ⟨i, rfl, hi, q⟩ := h
  refine ⟨_, (pss_cons (ps_set (i := 1) sc_numeral.nd rfl (by first | exact Or.inl rfl | exact Or.inr rfl) (pe_lst pa_nil))
    (pss_cons (ps_set (i := 2) sc_numeral.nd rfl (by first | exact Or.inl rfl | exact Or.inr rfl) (pe_callB call_abs (by rfl) b_abs (by decide +kernel) (pa_cons (pv 0) pa_nil)))
    (pss_cons (ps_while PassesOwn.never (pt_cmpR (op_ge) (pv 2) (pe_glob (v := .int 1000000000000000000) (by rfl) m_BLOCK ⟨_, rfl⟩) (nomark _)) (pss_cons (ps_never)
    (pss_one (ps_never))))
    (pss_cons (ps_expr (pe_bm PySem.F.plainAttrs_list PySem.F.slot_list_append PySem.F.type_list_append mt_append (pv 1) (pa_cons (pe_callTy call_str_int (by rfl) b_str (by decide +kernel) (pa_cons (pv 2) pa_nil)) pa_nil)))
    (pss_one (ps_ret (pe_op op_add_str (pe_ifExp (pt_cmpR (op_lt) (pv 0) pe_int (nomark _)) pe_str pe_str) (pe_join pe_str (pe_revL (pv 1)))))))))), ?_⟩
  have lg : i.natAbs.log2 < 1920 := by
    by_cases h : i.natAbs = 0
    · rw [h]; decide
    · exact (Nat.log2_lt h).mpr (Nat.lt_of_lt_of_le hi (Nat.le_trans (by decide : 1000000000000000000 ≤ 2 ^ 60) (Nat.pow_le_pow_right (by decide) (by decide))))
  have eabs : (if i < 0 then -i else i) = (i.natAbs : Int) := by split <;> omega
  refine ⟨(by show 0 ≤ sizeLine; decide), fun L hL => gn_of ?_⟩
  have s1 := same_new hL (.lst [])
  refine ⟨_, rfl, i, rfl, gn_of ?_⟩
  rw [eabs]
  dsimp only
  refine ⟨fun _ σ H' => σ = [some (.int i), some (.ref L), some (.int (i.natAbs : Int))] ∧ H' = upd H L (.lst []), ⟨0, rfl, rfl⟩, ?_⟩
  rintro m σ H' ⟨rfl, rfl⟩
  refine ⟨_, rfl, _, _, rfl, rfl, false, congrArg V.bl (decide_eq_false (by omega)), iteF ?_⟩
  refine ⟨_, rfl, .inl ⟨rfl, _, .inl (.inl upd_same)⟩, _, rfl, _, rfl, (by rw [Int.natAbs_natCast]; exact lg), L, [], _, rfl, rfl, upd_same, by decide, ?_⟩
  rw [upd_upd]
  have s2 := same_new hL (.lst [V.str (strI (i.natAbs : Int))])
  have fin : ∀ (y : Str) (H' : Hp), Same H H' → y ++ strI (i.natAbs : Int) = strI i → Q (.str (y ++ strI (i.natAbs : Int))) H' := fun y H' s e => by rw [e]; exact q H' s
  have jn : ∀ x : Str, Txt.join "" [x] = x := fun x => by rw [join_eq]; rfl
  have lb : (strI (i.natAbs : Int)).length ≤ 18 := by
    rw [len_tl]
    unfold strI
    rw [tl_int]
    exact numL_len (by decide) hi
  dsimp only
  by_cases hneg : i < 0
  · refine ⟨_, rfl, _, _, rfl, rfl, true, congrArg V.bl (decide_eq_true hneg), iteT ?_⟩
    refine ⟨⟨_, rfl⟩, _, rfl, L, _, rfl, .inl (.inl upd_same), fun p hp => ⟨"", p, [strI (i.natAbs : Int)], rfl, rfl, .inl (.inl (.inl upd_same)), ?_, ?_⟩⟩
    · show (strI (i.natAbs : Int)).length + 0 + 1 * 0 ≤ 16777216
      omega
    · rw [jn]
      refine ⟨"-", _, rfl, rfl, Nat.le_trans (by rw [show ("-" : Str).length = 1 from by decide +kernel]; omega : _ ≤ 1000) (by decide), ?_⟩
      refine fin "-" _ (s2.trans (same_new hp _)) (ext_tl ?_)
      rw [tl_append]
      unfold strI
      rw [tl_int, tl_int, show tl ("-" : Str) = [45] from by decide +kernel]
      cases i with
      | ofNat n => exact absurd hneg (Int.not_lt.mpr (Int.natCast_nonneg n))
      | negSucc n => rfl
  · refine ⟨_, rfl, _, _, rfl, rfl, false, congrArg V.bl (decide_eq_false hneg), iteF ?_⟩
    refine ⟨⟨_, rfl⟩, _, rfl, L, _, rfl, .inl (.inl upd_same), fun p hp => ⟨"", p, [strI (i.natAbs : Int)], rfl, rfl, .inl (.inl (.inl upd_same)), ?_, ?_⟩⟩
    · show (strI (i.natAbs : Int)).length + 0 + 1 * 0 ≤ 16777216
      omega
    · rw [jn]
      refine ⟨"", _, rfl, rfl, Nat.le_trans (by rw [show ("" : Str).length = 0 from by decide +kernel]; omega : _ ≤ 1000) (by decide), ?_⟩
      refine fin "" _ (s2.trans (same_new hp _)) (ext_tl ?_)
      rw [tl_append, show tl ("" : Str) = [] from by decide +kernel, List.nil_append, show ((i.natAbs : Nat) : Int) = i from by omega]
theorem slToN {H : Hp} {Q : VK} {t : Addr} {us : List V} {n : Nat} (h : SqT K H t us) (q : ∀ H' p, Same H H' → SqT K H' p (us.take n) → Q (.ref p) H') : rSlA K (.ref t) none (some (n : Int)) H Q := by
  have e : cutV us none (some (n : Int)) = us.take n := by
    unfold cutV
    rw [HT.sIx_none, HT.sIx_nat, List.drop_zero, Nat.sub_zero]
    by_cases h : n ≤ us.length
    · rw [Nat.min_eq_left h]
    · rw [Nat.min_eq_right (by omega), List.take_length, List.take_of_length_le (by omega)]
  refine ⟨t, us, rfl, h, fun ⟨h1, h2⟩ => ?_, fun _ p hp => ?_⟩
  · rw [HT.sIx_nat] at h2
    refine q H t (Same.refl H) ?_
    rw [List.take_of_length_le (by omega)]
    exact h
  · rw [e]
    exact q _ p (same_new hp _) (.inl (.inl upd_same))
def wordS (z : T3) : Str := Txt.join "," ((pts z).map strI)
def sp_wrd (K : PySem.W.Frag) : Sp := fun vs H Q _ => ∃ v z, vs = [v] ∧ IsT K H v z ∧ B 59 z ∧ ∀ H', Same H H' → Q (.str (wordS z)) H'
theorem ok_word_of {f : Addr} {fd : FuncData} (d_numeral : D P w K mg base "numeral" 1 sp_num)
    (F : Fun K "word_of" "word_of" s_word_of f fd) : FnOk P w K mg base CX0 2 f fd ["spot"] (sp_wrd K) := by
  refine F.ok sc_word_of (fun vs H Q E h => ?_) (fun cdv A outer s H vs Q E hr h => ?_)
  · obtain ⟨v, z, rfl, _⟩ := h
    rfl
  obtain ⟨v, z, rfl, iz, bz, q⟩ := h
  refine ⟨_, (pss_cons (ps_set (i := 1) sc_word_of.nd rfl (by first | exact Or.inl rfl | exact Or.inr rfl) (pe_ifExp (pt_cmpR (op_eq) (pe_ix (r := rIxT K) ix_tup (pv 0) pe_int (fun _ _ => rfl)) pe_int (nomark _)) (pe_slice (r := rSlA K) sl_tupA (pv 0) po_none (po_some pe_int)) (pv 0)))
    (pss_one (ps_ret (pe_join pe_str (pe_lc (own := [("number", 2)]) (g := gName 2) (tt := tYes) (by rfl) sc_word_of.nd (pi_tup (pv 1)) (blkOk_by (own := [("number", 2)]) (N := ["spot", "numbers", "number"]) (sc := defScope s_word_of) (by decide +kernel)) (fun _ _ _ _ _ => (pg_name (i := 2) sc_word_of.nd rfl (by first | exact Or.inl rfl | exact Or.inr rfl))) (fun _ _ _ _ _ => pts_nil) (fun _ _ _ _ _ => (pc d_numeral (hr.mono (by decide)) (pa_cons (pv 2) pa_nil)))))))), ?_⟩
  obtain ⟨b1, b2, b3⟩ := bz
  have e59 : (2 : Nat) ^ 59 = 576460752303423488 := by decide
  obtain ⟨p, rfl, hp⟩ := iz
  have rest : ∀ (H1 : Hp) (p1 : Addr) (is : List Int), Same H H1 → SqT K H1 p1 (is.map V.int) → is = pts z → (∀ i ∈ is, i.natAbs < 1000000000000000000) → is.length ≤ 3 → 
      tRet (tM1 (fun x xs H_1 Q => ∃ a p, ∃ ys : List Str, x = V.str a ∧ xs = [V.ref p] ∧ (SqL K H_1 p (ys.map V.str) ∨ SqT K H_1 p (ys.map V.str)) ∧ (ys.map (·.length)).sum + ys.length * a.length ≤ 16777216 ∧ Q (V.str (Txt.join a ys)) H_1) (tC (V.str ",")) (tLc (iTup K (tVar 1)) (gName 2) tYes (tCl sp_num (tCons (tVar 2) tNil)) [2])) { nx := fun x H' => Q V.non H', rt := Q } [some (.ref p), some (.ref p1), none] H1 := fun H1 p1 is s1 h1 ei hb hl => by
    refine ⟨⟨_, rfl⟩, _, rfl, p1, rfl, ⟨_, h1⟩, fun L hL => lc_tup (K := K) (a := p1) (xs := is.map V.int) (fun i H' => ∃ acc, Same H1 H' ∧ H' L = some (.lst acc) ∧ acc = ((is.take i).map strI).map V.str) ⟨[], same_new hL _, upd_same, rfl⟩ ?_ ?_ ?_⟩
    · rintro i H' _ ⟨_, s', _⟩
      exact same_T s' h1
    · rintro i y H' hy ⟨acc, s', hw, ea⟩
      rw [List.getElem?_map] at hy
      obtain ⟨k, ek, rfl⟩ : ∃ k, is[i]? = some k ∧ V.int k = y := by
        cases e : is[i]? with
        | none => rw [e] at hy; cases hy
        | some k => rw [e] at hy; exact ⟨k, rfl, Option.some.inj hy⟩
      have la : acc.length ≤ 3 := by rw [ea, List.length_map, List.length_map, List.length_take]; omega
      refine ⟨rfl, yes_of ?_⟩
      refine ⟨_, rfl, k, rfl, hb k (List.mem_of_getElem? ek), fun H3 s3 => ⟨acc, s3 _ _ hw, small1000 (by omega), acc ++ [.str (strI k)], fun b o h => ?_, upd_same, ?_⟩⟩
      · rw [upd_ne (ne_of_none h hL)]; exact s3 _ _ (s' _ _ h)
      · rw [ea, take_more ek, List.map_append, List.map_append]; rfl
    rintro H2 ⟨acc, s2, hw, ea⟩
    rw [List.length_map, List.take_length] at ea
    subst ea
    refine ⟨",", L, is.map strI, rfl, rfl, .inl (.inl (.inl hw)), ?_, ?_⟩
    · have hlen : ∀ i ∈ is, (strI i).length ≤ 19 := fun i hi => by
        rw [len_tl]
        unfold strI
        rw [tl_int]
        have hb := hb i hi
        cases i with
        | ofNat n => exact Nat.le_trans (numL_len (k := 18) (by decide) hb) (by decide)
        | negSucc n =>
          have := numL_len (n := n + 1) (k := 18) (by decide) hb
          show (45 :: numL (n + 1)).length ≤ 19
          rw [List.length_cons]; omega
      have hs : ∀ l : List Int, (∀ i ∈ l, (strI i).length ≤ 19) → ((l.map strI).map (·.length)).sum ≤ 19 * l.length := by
        intro l
        induction l with
        | nil => intro _; exact Nat.le_refl _
        | cons i l ih =>
          intro h
          have := ih fun j hj => h j (.tail _ hj)
          have := h i (.head _)
          simp only [List.map_cons, List.sum_cons, List.length_cons] at *
          omega
      have := hs is hlen
      rw [List.length_map, show ("," : Str).length = 1 from by decide +kernel]
      omega
    · have q1 := q H2 (s1.trans s2)
      unfold wordS at q1
      rw [← ei] at q1
      exact q1
  refine ⟨_, rfl, p, _, 2, _, rfl, rfl, hp, rfl, rfl, ?_⟩
  by_cases c : z.2.2 = 1
  · refine ⟨true, congrArg V.bl (decide_eq_true (by rw [c])), iteT ⟨_, rfl, 2, rfl, slToN (n := 2) hp fun H1 p1 s1 h1 => gn_of ?_⟩⟩
    exact rest H1 p1 [z.1, z.2.1] s1 h1 (by unfold pts; rw [if_pos c]) (fun i hi => by
      simp only [List.mem_cons, List.not_mem_nil, or_false] at hi
      rcases hi with rfl | rfl <;> omega) (by simp)
  · refine ⟨false, congrArg V.bl (decide_eq_false fun e => c (V.int.inj e)), iteF ⟨_, rfl, gn_of ?_⟩⟩
    exact rest H p [z.1, z.2.1, z.2.2] (Same.refl _) hp (by unfold pts; rw [if_neg c]) (fun i hi => by
      simp only [List.mem_cons, List.not_mem_nil, or_false] at hi
      rcases hi with rfl | rfl | rfl <;> omega) (by simp)
theorem tl_wordS (z : T3) : tl (wordS z) = wordL z := by
  unfold wordS wordL
  rw [join_eq, tl_join, show tl ("," : Str) = [44] from by decide +kernel, List.map_map]
  congr 1
  exact List.map_congr_left fun i _ => tl_int i
/-- a list of texts, made of a tuple's items -/
def lineS (zs : List T3) : Str := Txt.join " " (zs.map wordS)
def textS (zss : List (List T3)) : Str := Txt.join " / " (zss.map lineS)
theorem wordS_len {z : T3} (b : B 59 z) : (wordS z).length ≤ 60 := by
  rw [len_tl, tl_wordS]
  exact wordL_len b
theorem lineS_len {zs : List T3} (b : ∀ z ∈ zs, B 59 z) : (lineS zs).length ≤ 61 * zs.length := by
  have h := joinL_len [32] ((zs.map wordS).map tl)
  have h2 : (((zs.map wordS).map tl).map (·.length)).sum ≤ 60 * zs.length := by
    rw [List.map_map, List.map_map]
    exact sum_le fun z hz => by show (tl (wordS z)).length ≤ 60; rw [← len_tl]; exact wordS_len (b z hz)
  rw [len_tl]
  unfold lineS
  rw [join_eq, tl_join, show tl (" " : Str) = [32] from by decide +kernel]
  rw [List.length_map, List.length_map, List.length_singleton] at h
  omega
def sp_fmt (K : PySem.W.Frag) (CW : Addr) : Sp := fun vs H Q _ => ∃ v zss, vs = [v] ∧ IsW K CW H v zss ∧ zss.length ≤ 300 ∧ (∀ zs ∈ zss, zs.length ≤ 12 ∧ ∀ z ∈ zs, B 59 z) ∧ ∀ H', Same H H' → Q (.str (textS zss)) H'
theorem ok_format_drawing {f CW : Addr} {fd : FuncData} (m_W_strokes : MPf P w K mg base CW "strokes" "held") (d_word_of : D P w K mg base "word_of" 2 (sp_wrd K))
    (F : Fun K "format_drawing" "format_drawing" s_format_drawing f fd) : FnOk P w K mg base CX0 3 f fd ["drawing"] (sp_fmt K CW) := by
  refine F.ok sc_format_drawing (fun vs H Q E h => ?_) (fun cdv A outer s H vs Q E hr h => ?_)
  · obtain ⟨v, zss, rfl, _⟩ := h
    rfl
  obtain ⟨v, zss, rfl, iw, hl, hb, q⟩ := h
  refine ⟨_, (pss_one (ps_ret (pe_join pe_str (pe_lc (own := [("stroke", 2)]) (g := gName 2) (tt := tYes) (by rfl) sc_format_drawing.nd (pi_tup (pe_pf m_W_strokes (hr.mono (by decide)) (pv 0))) (blkOk_by (own := [("stroke", 2)]) (N := ["drawing", "spot", "stroke"]) (sc := defScope s_format_drawing) (by decide +kernel)) (fun _ _ _ _ _ => (pg_name (i := 2) sc_format_drawing.nd rfl (by first | exact Or.inl rfl | exact Or.inr rfl))) (fun _ _ _ _ _ => pts_nil) (fun _ _ _ _ _ => (pe_joinK (K := K) rfl pe_str (pe_lc (own := [("spot", 1)]) (wi := iTup K (tVar 2)) (g := gName 1) (tt := tYes) (by rfl) sc_format_drawing.nd (pi_tup (pv 2)) (blkOk_nest (blkOk_by (own := [("spot", 1)]) (N := ["drawing", "spot", "stroke"]) (by decide +kernel))) (fun _ _ _ _ _ => (pg_name (i := 1) sc_format_drawing.nd rfl (by first | exact Or.inl rfl | exact Or.inr rfl))) (fun _ _ _ _ _ => pts_nil) (fun _ _ _ _ _ => (pc d_word_of (hr.mono (by decide)) (pa_cons (pv 1) pa_nil)))))))))), ?_⟩
  obtain ⟨pw, dxw, t, us, rfl, h1, ht, aS⟩ := iw
  have lus := Paired.length aS
  refine ⟨⟨_, rfl⟩, _, rfl, pf_of h1 wf_held ⟨t, rfl, ⟨_, ht⟩, fun L hL => lc_tup (K := K) (a := t) (xs := us) (fun i H' => ∃ acc, Same H H' ∧ H' L = some (.lst acc) ∧ acc = ((zss.take i).map lineS).map V.str) ⟨[], same_new hL _, upd_same, rfl⟩ ?_ ?_ ?_⟩⟩
  · rintro i H' _ ⟨_, s', _⟩
    exact same_T s' ht
  · rintro i x H' hx ⟨acc, s', hw, ea⟩
    obtain ⟨zs, ez, ps, vs, rfl, hs, hvs⟩ := pgt aS hx
    obtain ⟨l12, hz⟩ := hb zs (List.mem_of_getElem? ez)
    have la : acc.length ≤ 300 := by rw [ea, List.length_map, List.length_map, List.length_take]; omega
    have lvs := Paired.length hvs
    refine ⟨rfl, yes_of ?_⟩
    refine ⟨⟨_, rfl⟩, _, rfl, ps, rfl, ⟨_, same_T s' hs⟩, fun L2 hL2 => lc_tup (K := K) (a := ps) (xs := vs) (fun j H2 => ∃ ac2, Same H' H2 ∧ H2 L2 = some (.lst ac2) ∧ ac2 = ((zs.take j).map wordS).map V.str) ⟨[], same_new hL2 _, upd_same, rfl⟩ ?_ ?_ ?_⟩
    · rintro j H2 _ ⟨_, s2, _⟩
      exact same_T s2 (same_T s' hs)
    · rintro j y H2 hy ⟨ac2, s2, hw2, ea2⟩
      obtain ⟨z, ezz, iz⟩ := pgt hvs hy
      have la2 : ac2.length ≤ 12 := by rw [ea2, List.length_map, List.length_map, List.length_take]; omega
      refine ⟨rfl, yes_of ?_⟩
      refine ⟨_, rfl, _, z, rfl, (iz.same s').same s2, hz z (List.mem_of_getElem? ezz), fun H3 s3 => ⟨ac2, s3 _ _ hw2, small1000 (by omega), ac2 ++ [.str (wordS z)], fun b o h => ?_, upd_same, ?_⟩⟩
      · rw [upd_ne (ne_of_none h hL2)]; exact s3 _ _ (s2 _ _ h)
      · rw [ea2, take_more ezz, List.map_append, List.map_append]; rfl
    rintro H2 ⟨ac2, s2, hw2, ea2⟩
    rw [lvs, List.take_length] at ea2
    subst ea2
    refine ⟨" ", L2, zs.map wordS, rfl, rfl, .inl (.inl (.inl hw2)), ?_, acc, s2 _ _ hw, small1000 (by omega), acc ++ [.str (lineS zs)], fun b o h => ?_, upd_same, ?_⟩
    · have := sum_le (f := (·.length)) (k := 60) (l := zs.map wordS) fun x hx => by
        obtain ⟨z, hz2, rfl⟩ := List.mem_map.mp hx
        exact wordS_len (hz z hz2)
      rw [List.length_map] at this ⊢
      rw [show (" " : Str).length = 1 from by decide +kernel]
      omega
    · rw [upd_ne (ne_of_none h hL)]; exact s2 _ _ (s' _ _ h)
    · rw [ea, take_more ez, List.map_append, List.map_append]; rfl
  rintro H1 ⟨acc, s1, hw, ea⟩
  rw [lus, List.take_length] at ea
  subst ea
  refine ⟨" / ", L, zss.map lineS, rfl, rfl, .inl (.inl (.inl hw)), ?_, q H1 s1⟩
  have := sum_le (f := (·.length)) (k := 800) (l := zss.map lineS) fun x hx => by
    obtain ⟨zs, hz2, rfl⟩ := List.mem_map.mp hx
    have h1 := lineS_len (hb zs hz2).2
    have h2 := (hb zs hz2).1
    exact Nat.le_trans h1 (by omega)
  rw [List.length_map] at this ⊢
  rw [show (" / " : Str).length = 3 from by decide +kernel]
  omega
/-! ### the law's own texts -/
def sp_lwrd (K : PySem.W.Frag) : Sp := fun vs H Q _ => ∃ v z, vs = [v] ∧ IsT K H v z ∧ Ok z ∧ B 59 z ∧ ∀ H', Same H H' → Q (.str (wordS z)) H'
theorem ok_law_word {f : Addr} {fd : FuncData} (b_str : mg "str" = none)
    (F : Fun K "_law_word" "_law_word" s_law_word f fd) : FnOk P w K mg base CX0 1 f fd ["_law_spot_here"] (sp_lwrd K) := by
  refine F.ok sc_law_word (fun vs H Q E h => ?_) (fun cdv A outer s H vs Q E hr h => ?_)
  · obtain ⟨v, z, rfl, _⟩ := h
    rfl
  obtain ⟨v, z, rfl, iz, oz, bz, q⟩ := h
  refine ⟨_, (pss_one (ps_ret (pe_join pe_str (pe_lc (own := [("_law_number", 1)]) (g := gName 1) (tt := tYes) (by rfl) sc_law_word.nd (pi_tup (pe_ifExp (pt_cmpR (op_gt) (pe_ix (r := rIxT K) ix_tup (pv 0) pe_int (fun _ _ => rfl)) pe_int (nomark _)) (pv 0) (pe_slice (r := rSlA K) sl_tupA (pv 0) po_none (po_some pe_int)))) (blkOk_by (own := [("_law_number", 1)]) (N := ["_law_spot_here", "_law_number"]) (sc := defScope s_law_word) (by decide +kernel)) (fun _ _ _ _ _ => (pg_name (i := 1) sc_law_word.nd rfl (by first | exact Or.inl rfl | exact Or.inr rfl))) (fun _ _ _ _ _ => pts_nil) (fun _ _ _ _ _ => (pe_callTy call_str_int (by rfl) b_str (by decide +kernel) (pa_cons (pv 1) pa_nil))))))), ?_⟩
  obtain ⟨p, rfl, hp⟩ := iz
  have hl60 := wordS_len bz
  have bi := pts_B bz
  have li := pts_len z
  refine ⟨⟨_, rfl⟩, _, rfl, p, _, 2, _, rfl, rfl, hp, rfl, _, _, rfl, rfl, ?_⟩
  obtain ⟨o1, _⟩ := oz
  by_cases c : z.2.2 = 1
  · refine ⟨false, congrArg V.bl (decide_eq_false (by omega)), iteF ⟨_, rfl, 2, rfl, slToN (n := 2) hp fun H1 p1 s1 h1 => ?_⟩⟩
    have ei : [z.1, z.2.1] = pts z := by unfold pts; rw [if_pos c]
    have h1 : SqT K H1 p1 ((pts z).map V.int) := by rw [← ei]; exact h1
    refine ⟨p1, rfl, ⟨_, h1⟩, fun L hL => lc_tup (K := K) (a := p1) (xs := (pts z).map V.int) (fun i H' => ∃ acc, Same H1 H' ∧ H' L = some (.lst acc) ∧ acc = (((pts z).take i).map strI).map V.str) ⟨[], same_new hL _, upd_same, rfl⟩ ?_ ?_ ?_⟩
    · rintro i H' _ ⟨_, s', _⟩
      exact same_T s' h1
    · rintro i y H' hy ⟨acc, s', hw, ea⟩
      rw [List.getElem?_map] at hy
      obtain ⟨k, ek, rfl⟩ : ∃ k, (pts z)[i]? = some k ∧ V.int k = y := by
        cases e : (pts z)[i]? with
        | none => rw [e] at hy; cases hy
        | some k => rw [e] at hy; exact ⟨k, rfl, Option.some.inj hy⟩
      have la : acc.length ≤ 3 := by rw [ea, List.length_map, List.length_map, List.length_take]; omega
      have hk := bi k (List.mem_of_getElem? ek)
      have lg : k.natAbs.log2 < 1920 := by
        by_cases h : k.natAbs = 0
        · rw [h]; decide
        · exact (Nat.log2_lt h).mpr (Nat.lt_of_lt_of_le hk (Nat.le_trans (by decide : 1000000000000000000 ≤ 2 ^ 60) (Nat.pow_le_pow_right (by decide) (by decide))))
      refine ⟨rfl, yes_of ?_⟩
      refine ⟨_, rfl, k, rfl, lg, acc, hw, small1000 (by omega), acc ++ [.str (strI k)], fun b o h => ?_, upd_same, ?_⟩
      · rw [upd_ne (ne_of_none h hL)]; exact s' _ _ h
      · rw [ea, take_more ek, List.map_append, List.map_append]; rfl
    rintro H2 ⟨acc, s2, hw, ea⟩
    rw [List.length_map, List.take_length] at ea
    subst ea
    refine ⟨",", L, (pts z).map strI, rfl, rfl, .inl (.inl (.inl hw)), ?_, q H2 (s1.trans s2)⟩
    have := sum_le (f := (·.length)) (k := 19) (l := (pts z).map strI) fun x hx => by
      obtain ⟨i, hi, rfl⟩ := List.mem_map.mp hx
      rw [len_tl]
      unfold strI
      rw [tl_int]
      exact intL_len (bi i hi)
    rw [List.length_map] at this ⊢
    rw [show ("," : Str).length = 1 from by decide +kernel]
    omega
  · refine ⟨true, congrArg V.bl (decide_eq_true (by omega)), iteT ⟨_, rfl, ?_⟩⟩
    have ei : [z.1, z.2.1, z.2.2] = pts z := by unfold pts; rw [if_neg c]
    have h1 : SqT K H p ((pts z).map V.int) := by rw [← ei]; exact hp
    refine ⟨p, rfl, ⟨_, h1⟩, fun L hL => lc_tup (K := K) (a := p) (xs := (pts z).map V.int) (fun i H' => ∃ acc, Same H H' ∧ H' L = some (.lst acc) ∧ acc = (((pts z).take i).map strI).map V.str) ⟨[], same_new hL _, upd_same, rfl⟩ ?_ ?_ ?_⟩
    · rintro i H' _ ⟨_, s', _⟩
      exact same_T s' h1
    · rintro i y H' hy ⟨acc, s', hw, ea⟩
      rw [List.getElem?_map] at hy
      obtain ⟨k, ek, rfl⟩ : ∃ k, (pts z)[i]? = some k ∧ V.int k = y := by
        cases e : (pts z)[i]? with
        | none => rw [e] at hy; cases hy
        | some k => rw [e] at hy; exact ⟨k, rfl, Option.some.inj hy⟩
      have la : acc.length ≤ 3 := by rw [ea, List.length_map, List.length_map, List.length_take]; omega
      have hk := bi k (List.mem_of_getElem? ek)
      have lg : k.natAbs.log2 < 1920 := by
        by_cases h : k.natAbs = 0
        · rw [h]; decide
        · exact (Nat.log2_lt h).mpr (Nat.lt_of_lt_of_le hk (Nat.le_trans (by decide : 1000000000000000000 ≤ 2 ^ 60) (Nat.pow_le_pow_right (by decide) (by decide))))
      refine ⟨rfl, yes_of ?_⟩
      refine ⟨_, rfl, k, rfl, lg, acc, hw, small1000 (by omega), acc ++ [.str (strI k)], fun b o h => ?_, upd_same, ?_⟩
      · rw [upd_ne (ne_of_none h hL)]; exact s' _ _ h
      · rw [ea, take_more ek, List.map_append, List.map_append]; rfl
    rintro H2 ⟨acc, s2, hw, ea⟩
    rw [List.length_map, List.take_length] at ea
    subst ea
    refine ⟨",", L, (pts z).map strI, rfl, rfl, .inl (.inl (.inl hw)), ?_, q H2 ((Same.refl _).trans s2)⟩
    have := sum_le (f := (·.length)) (k := 19) (l := (pts z).map strI) fun x hx => by
      obtain ⟨i, hi, rfl⟩ := List.mem_map.mp hx
      rw [len_tl]
      unfold strI
      rw [tl_int]
      exact intL_len (bi i hi)
    rw [List.length_map] at this ⊢
    rw [show ("," : Str).length = 1 from by decide +kernel]
    omega
def sp_ltxt (K : PySem.W.Frag) : Sp := fun vs H Q _ => ∃ t us zss, vs = [.ref t] ∧ SqT K H t us ∧ AllSt K H us zss ∧ zss.length ≤ 300 ∧ (∀ zs ∈ zss, zs.length ≤ 12 ∧ ∀ z ∈ zs, B 59 z ∧ Ok z) ∧ ∀ H', Same H H' → Q (.str (textS zss)) H'
theorem ok_law_text {f : Addr} {fd : FuncData} (d_law_word : D P w K mg base "_law_word" 1 (sp_lwrd K))
    (F : Fun K "_law_text" "_law_text" s_law_text f fd) : FnOk P w K mg base CX0 2 f fd ["_law_strokes_here"] (sp_ltxt K) := by
  refine F.ok sc_law_text (fun vs H Q E h => ?_) (fun cdv A outer s H vs Q E hr h => ?_)
  · obtain ⟨t, us, zss, rfl, _⟩ := h
    rfl
  obtain ⟨t, us, zss, rfl, ht, aS, hl, hb', q⟩ := h
  have hb : ∀ zs ∈ zss, zs.length ≤ 12 ∧ ∀ z ∈ zs, B 59 z := fun zs m => ⟨(hb' zs m).1, fun z mz => ((hb' zs m).2 z mz).1⟩
  have lus := Paired.length aS
  refine ⟨_, (pss_one (ps_ret (pe_join pe_str (pe_lc (own := [("_law_stroke_here", 2)]) (g := gName 2) (tt := tYes) (by rfl) sc_law_text.nd (pi_tup (pv 0)) (blkOk_by (own := [("_law_stroke_here", 2)]) (N := ["_law_strokes_here", "_law_spot_here", "_law_stroke_here"]) (sc := defScope s_law_text) (by decide +kernel)) (fun _ _ _ _ _ => (pg_name (i := 2) sc_law_text.nd rfl (by first | exact Or.inl rfl | exact Or.inr rfl))) (fun _ _ _ _ _ => pts_nil) (fun _ _ _ _ _ => (pe_joinK (K := K) rfl pe_str (pe_lc (own := [("_law_spot_here", 1)]) (wi := iTup K (tVar 2)) (g := gName 1) (tt := tYes) (by rfl) sc_law_text.nd (pi_tup (pv 2)) (blkOk_nest (blkOk_by (own := [("_law_spot_here", 1)]) (N := ["_law_strokes_here", "_law_spot_here", "_law_stroke_here"]) (by decide +kernel))) (fun _ _ _ _ _ => (pg_name (i := 1) sc_law_text.nd rfl (by first | exact Or.inl rfl | exact Or.inr rfl))) (fun _ _ _ _ _ => pts_nil) (fun _ _ _ _ _ => (pc d_law_word (hr.mono (by decide)) (pa_cons (pv 1) pa_nil)))))))))), ?_⟩
  refine ⟨⟨_, rfl⟩, _, rfl, t, rfl, ⟨_, ht⟩, fun L hL => lc_tup (K := K) (a := t) (xs := us) (fun i H' => ∃ acc, Same H H' ∧ H' L = some (.lst acc) ∧ acc = ((zss.take i).map lineS).map V.str) ⟨[], same_new hL _, upd_same, rfl⟩ ?_ ?_ ?_⟩
  · rintro i H' _ ⟨_, s', _⟩
    exact same_T s' ht
  · rintro i x H' hx ⟨acc, s', hw, ea⟩
    obtain ⟨zs, ez, ps, vs, rfl, hs, hvs⟩ := pgt aS hx
    obtain ⟨l12, hz⟩ := hb zs (List.mem_of_getElem? ez)
    have la : acc.length ≤ 300 := by rw [ea, List.length_map, List.length_map, List.length_take]; omega
    have lvs := Paired.length hvs
    refine ⟨rfl, yes_of ?_⟩
    refine ⟨⟨_, rfl⟩, _, rfl, ps, rfl, ⟨_, same_T s' hs⟩, fun L2 hL2 => lc_tup (K := K) (a := ps) (xs := vs) (fun j H2 => ∃ ac2, Same H' H2 ∧ H2 L2 = some (.lst ac2) ∧ ac2 = ((zs.take j).map wordS).map V.str) ⟨[], same_new hL2 _, upd_same, rfl⟩ ?_ ?_ ?_⟩
    · rintro j H2 _ ⟨_, s2, _⟩
      exact same_T s2 (same_T s' hs)
    · rintro j y H2 hy ⟨ac2, s2, hw2, ea2⟩
      obtain ⟨z, ezz, iz⟩ := pgt hvs hy
      have la2 : ac2.length ≤ 12 := by rw [ea2, List.length_map, List.length_map, List.length_take]; omega
      refine ⟨rfl, yes_of ?_⟩
      refine ⟨_, rfl, _, z, rfl, (iz.same s').same s2, ((hb' zs (List.mem_of_getElem? ez)).2 z (List.mem_of_getElem? ezz)).2, hz z (List.mem_of_getElem? ezz), fun H3 s3 => ⟨ac2, s3 _ _ hw2, small1000 (by omega), ac2 ++ [.str (wordS z)], fun b o h => ?_, upd_same, ?_⟩⟩
      · rw [upd_ne (ne_of_none h hL2)]; exact s3 _ _ (s2 _ _ h)
      · rw [ea2, take_more ezz, List.map_append, List.map_append]; rfl
    rintro H2 ⟨ac2, s2, hw2, ea2⟩
    rw [lvs, List.take_length] at ea2
    subst ea2
    refine ⟨" ", L2, zs.map wordS, rfl, rfl, .inl (.inl (.inl hw2)), ?_, acc, s2 _ _ hw, small1000 (by omega), acc ++ [.str (lineS zs)], fun b o h => ?_, upd_same, ?_⟩
    · have := sum_le (f := (·.length)) (k := 60) (l := zs.map wordS) fun x hx => by
        obtain ⟨z, hz2, rfl⟩ := List.mem_map.mp hx
        exact wordS_len (hz z hz2)
      rw [List.length_map] at this ⊢
      rw [show (" " : Str).length = 1 from by decide +kernel]
      omega
    · rw [upd_ne (ne_of_none h hL)]; exact s2 _ _ (s' _ _ h)
    · rw [ea, take_more ez, List.map_append, List.map_append]; rfl
  rintro H1 ⟨acc, s1, hw, ea⟩
  rw [lus, List.take_length] at ea
  subst ea
  refine ⟨" / ", L, zss.map lineS, rfl, rfl, .inl (.inl (.inl hw)), ?_, q H1 s1⟩
  have := sum_le (f := (·.length)) (k := 800) (l := zss.map lineS) fun x hx => by
    obtain ⟨zs, hz2, rfl⟩ := List.mem_map.mp hx
    have h1 := lineS_len (hb zs hz2).2
    have h2 := (hb zs hz2).1
    exact Nat.le_trans h1 (by omega)
  rw [List.length_map] at this ⊢
  rw [show (" / " : Str).length = 3 from by decide +kernel]
  omega
end
end My

namespace My
open PySem L2 Mth LamX TL
abbrev s_law_is_digits : Stmt := topS 63
theorem sc_law_is_digits : FnScope ["_law_word_here", "_law_most", "_law_sign"] ["_law_word_here", "_law_most"] (defScope s_law_is_digits) := ⟨rfl, rfl, rfl, by decide +kernel, rfl, by decide +kernel, by decide +kernel⟩
abbrev s_law_is_spot : Stmt := topS 64
theorem sc_law_is_spot : FnScope ["_law_word_here", "_law_parts", "_law_part", "_law_digits", "_law_numbers"] ["_law_word_here"] (defScope s_law_is_spot) := ⟨rfl, rfl, rfl, by decide +kernel, rfl, by decide +kernel, by decide +kernel⟩
abbrev s_law_read : Stmt := topS 66
theorem sc_law_read : FnScope ["_law_word_here", "_law_numbers", "_law_part"] ["_law_word_here"] (defScope s_law_read) := ⟨rfl, rfl, rfl, by decide +kernel, rfl, by decide +kernel, by decide +kernel⟩
abbrev s_law_read_strokes : Stmt := topS 67
theorem sc_law_read_strokes : FnScope ["_law_words", "_law_strokes_here", "_law_word_here"] ["_law_words"] (defScope s_law_read_strokes) := ⟨rfl, rfl, rfl, by decide +kernel, rfl, by decide +kernel, by decide +kernel⟩
section
variable {P : Program} {w : World} {K : PySem.W.Frag} {mg : Str → Option Value} {base : Heap}
/-! ### the law's own words -/
theorem ok_law_is_digits {f : Addr} {fd : FuncData} (b_len : mg "len" = none)
    (F : Fun K "_law_is_digits" "_law_is_digits" s_law_is_digits f fd) : FnOk P w K mg base CX0 1 f fd ["_law_word_here", "_law_most"] sp_nml := by
  refine F.ok sc_law_is_digits (fun vs H Q E h => ?_) (fun cdv A outer s H vs Q E hr h => ?_)
  · obtain ⟨x, m, rfl, _⟩ := h
    rfl
  obtain ⟨x, m, rfl, hl, q⟩ := h
  refine ⟨_, (pss_cons (ps_if (PW.pt (pw_or (pt_not (pt_chain op_le op_le pe_int (pe_callB call_len_str (by rfl) b_len PySem.boot_len (pa_cons (pv 0) pa_nil)) (pv 1))) (pw_or1 (pt_cmpR (r := rNeE K) (op_neE (u0 hr)) (pe_lc (own := [("_law_sign", 2)]) (g := gName 2) (by rfl) sc_law_is_digits.nd (pi_str (pv 0)) (blkOk_by (own := [("_law_sign", 2)]) (N := ["_law_word_here", "_law_most", "_law_sign"]) (sc := defScope s_law_is_digits) (by decide +kernel)) (fun _ _ _ _ _ => (pg_name (i := 2) sc_law_is_digits.nd rfl (by first | exact Or.inl rfl | exact Or.inr rfl))) (fun _ _ _ _ _ => (pts_one (pt_cmpR op_notIn_sign (pv 2) pe_str (by with_unfolding_all rfl)))) (fun _ _ _ _ _ => (pv 2))) (pe_lst pa_nil) (nomark _))))) (pss_one (ps_ret pe_bl)) pss_nil)
    (pss_one (ps_ret (pe_or (pe_cmpR (op_eq) (pv 0) pe_str (nomark _)) (pe_one (pe_cmpR (op_ne) (pe_ix ix_str (pv 0) pe_int (fun _ _ => rfl)) pe_str (nomark _))))))), ?_⟩
  have hx := len_tl x
  have key : nmB m (tl x) = (decide (1 ≤ (tl x).length) && decide ((tl x).length ≤ m) && (tl x).all dgB && (decide (tl x = [48]) || !decide ((tl x).head? = some 48))) := rfl
  have q' : ∀ H' b, Same H H' → b = nmB m (tl x) → Q (.bl b) H' := fun H' b s e => by rw [e]; exact q H' s
  have sz : x.length ≤ sizeLine := Nat.le_trans hl (by decide)
  refine ⟨_, rfl, _, rfl, sz, _, _, rfl, rfl, ?_⟩
  by_cases h1 : 1 ≤ x.length
  · refine ⟨true, congrArg V.bl (decide_eq_true (by omega)), iteT ⟨_, rfl, _, _, rfl, rfl, ?_⟩⟩
    by_cases h2 : x.length ≤ m
    · refine ⟨true, congrArg V.bl (decide_eq_true (by omega)), iteF ?_⟩
      refine ⟨_, rfl, x, rfl, fun L hL => lc_str (x := x) (fun i H' => ∃ acc, H' = upd H L (.lst acc) ∧ acc = (((tl x).take i).filter fun c => !dgB c).map fun c => V.str ⟨#[c]⟩) ⟨[], rfl, rfl⟩ ?_ ?_⟩
      · rintro i c H' ec ⟨acc, rfl, ea⟩
        refine ⟨rfl, ?_⟩
        have lt := (List.getElem?_eq_some_iff.mp ec).1
        have la : acc.length ≤ 100000 := by
          rw [ea, List.length_map]
          refine Nat.le_trans (List.length_filter_le _ _) ?_
          rw [List.length_take]; omega
        refine ⟨_, rfl, c, "0123456789", rfl, rfl, !dgB c, congrArg V.bl (by rw [dg_in]), ite2 (fun hd => ?_) (fun hd => ?_)⟩
        · refine ⟨_, rfl, acc, upd_same, Nat.lt_of_le_of_lt la (by decide), acc ++ [.str ⟨#[c]⟩], upd_upd, ?_⟩
          rw [ea, take_more ec, List.filter_append, List.filter_cons, if_pos hd, List.filter_nil, List.map_append]
          rfl
        · refine ⟨acc, rfl, ?_⟩
          rw [ea, take_more ec, List.filter_append, List.filter_cons, if_neg hd, List.filter_nil, List.append_nil]
      rintro H' ⟨acc, rfl, ea⟩
      rw [List.take_length] at ea
      have s1 := same_new hL (.lst acc)
      refine ⟨(by show 0 ≤ sizeLine; decide), fun Ln hLn => ?_⟩
      have s2 := same_new hLn (.lst [])
      have s1 := s1.trans s2
      refine ⟨L, Ln, acc, rfl, rfl, .inl (.inl (s2 _ _ upd_same)), .inl (.inl upd_same), ?_⟩
      have ee : (!acc.isEmpty) = !(tl x).all dgB := by
        rw [ea]
        cases g : (tl x).all dgB with
        | true =>
          have : ((tl x).filter fun c => !dgB c) = [] := List.filter_eq_nil_iff.mpr fun c hc => by rw [List.all_eq_true.mp g c hc]; decide
          rw [this]; rfl
        | false =>
          obtain ⟨c, hc, hd⟩ := List.all_eq_false.mp g
          have : c ∈ (tl x).filter fun c => !dgB c := List.mem_filter.mpr ⟨hc, by simpa using hd⟩
          cases hh : (tl x).filter fun c => !dgB c with
          | nil => rw [hh] at this; cases this
          | cons _ _ => rfl
      rw [ee]
      refine ⟨_, rfl, ?_⟩
      by_cases h3 : (tl x).all dgB = true
      · rw [h3]
        refine iteF ?_
        have pre : nmB m (tl x) = (decide (tl x = [48]) || !decide ((tl x).head? = some 48)) := by
          rw [key, h3, decide_eq_true (show 1 ≤ (tl x).length by omega), decide_eq_true (show (tl x).length ≤ m by omega)]
          rfl
        refine ⟨_, rfl, rfl, _, congrArg V.bl (str_eq (l := [48]) (by decide +kernel)), ?_⟩
        refine ite2 (fun h => ?_) (fun h => ?_)
        · refine q' _ _ s1 ?_
          rw [pre, h]
          rfl
        · obtain ⟨c, t, ex⟩ : ∃ c t, tl x = c :: t := by
            cases hh : tl x with
            | nil => rw [hh] at hx; simp at hx; omega
            | cons c t => exact ⟨c, t, rfl⟩
          refine ⟨_, rfl, x, 0, c, rfl, rfl, sz, atI_nat (j := 0) (by show (tl x)[0]? = some c; rw [ex]; rfl), rfl, ?_⟩
          refine q' _ _ s1 ?_
          rw [pre, Bool.eq_false_iff.mpr h, Bool.false_or, str_eq (x := ⟨#[c]⟩) (l := [48]) (by decide +kernel), ex]
          congr 1
          rw [Bool.eq_iff_iff, decide_eq_true_iff, decide_eq_true_iff]
          show [c] = [48] ↔ some c = some 48
          constructor
          · intro h; rw [(List.cons.inj h).1]
          · intro h; rw [Option.some.inj h]
      · rw [Bool.eq_false_iff.mpr h3]
        refine iteT (q' _ _ s1 ?_)
        rw [key, Bool.eq_false_iff.mpr h3, Bool.and_false, Bool.false_and]
    · refine ⟨false, congrArg V.bl (decide_eq_false (by omega)), iteT (q' _ _ (Same.refl _) ?_)⟩
      rw [key, decide_eq_false (show ¬ (tl x).length ≤ m by omega), Bool.and_false, Bool.false_and, Bool.false_and]
  · refine ⟨false, congrArg V.bl (decide_eq_false (by omega)), iteF ⟨false, rfl, iteT (q' _ _ (Same.refl _) ?_)⟩⟩
    rw [key, decide_eq_false (show ¬ 1 ≤ (tl x).length by omega), Bool.false_and, Bool.false_and, Bool.false_and]
theorem strShaped {c : Str} (h : ∀ y ∈ tl c, y < 1114112) : SeqAt.shaped (PyData.str c) = true := by
  have : PyData.strOk c = true := by
    unfold PyData.strOk
    rw [← Array.all_toList, List.all_eq_true]
    intro y hy
    exact decide_eq_true (h y hy)
  show (PyData.strOk c && decide (_ ≤ 64)) = true
  rw [this]
  rfl
theorem eqvI (x y : Int) : PyData.eqv (.int x) (.int y) = decide (x = y) := by
  show (x == y) = _
  rw [Bool.eq_iff_iff, beq_iff_eq, decide_eq_true_iff]
theorem eqvS (x y : Str) : PyData.eqv (.str x) (.str y) = decide (x = y) := by
  show (x == y) = _
  rw [Bool.eq_iff_iff, beq_iff_eq, decide_eq_true_iff]
/-- the numbers that parts tell -/
def sp_lisp : Sp := fun vs H Q _ => ∃ x : Str, vs = [.str x] ∧ x.length ≤ 90 ∧ ∀ H', Same H H' → Q (.bl (spotF (tl x)).isSome) H'
theorem ok_law_is_spot {f : Addr} {fd : FuncData} (b_len : mg "len" = none) (b_int : mg "int" = none) (b_tuple : mg "tuple" = none) (d_law_is_digits : D P w K mg base "_law_is_digits" 1 sp_nml) (d_law_lowest : D P w K mg base "_law_lowest" 2 (sp_low K))
    (F : Fun K "_law_is_spot" "_law_is_spot" s_law_is_spot f fd) : FnOk P w K mg base CX0 3 f fd ["_law_word_here"] sp_lisp := by
  refine F.ok sc_law_is_spot (fun vs H Q E h => ?_) (fun cdv A outer s H vs Q E hr h => ?_)
  · obtain ⟨x, rfl, _⟩ := h
    rfl
  obtain ⟨x, rfl, hl, q⟩ := h
  refine ⟨_, (pss_cons (ps_set (i := 1) sc_law_is_spot.nd rfl (by first | exact Or.inl rfl | exact Or.inr rfl) (pe_split (pv 0) pe_str))
    (pss_cons (ps_if (PW.pt (pw_or (pt_cmpR (r := rNotInD K) (op_notInD (u65 hr)) (pe_callB call_len_seq (by rfl) b_len PySem.boot_len (pa_cons (pv 1) pa_nil)) (pe_lst (pa_cons pe_int (pa_cons pe_int pa_nil))) (by with_unfolding_all rfl)) (pw_or1 (PW.pt (pw_and (pt_cmpR (op_eq) (pe_callB call_len_seq (by rfl) b_len PySem.boot_len (pa_cons (pv 1) pa_nil)) pe_int (nomark _)) (pw_and1 (PW.pt (pw_or (pt_not (pt_val (pc d_law_is_digits (hr.mono (by decide)) (pa_cons (pe_ix (r := rIxL K) ix_list (pv 1) pe_int (fun _ _ => rfl)) (pa_cons pe_int pa_nil))))) (pw_or1 (pt_cmpR (r := rInE K) (op_inE (u65 hr)) (pe_ix (r := rIxL K) ix_list (pv 1) pe_int (fun _ _ => rfl)) (pe_lst (pa_cons pe_str (pa_cons pe_str pa_nil))) (by with_unfolding_all rfl))))))))))) (pss_one (ps_ret pe_bl)) pss_nil)
    (pss_cons (ps_for PassesOwn.never rfl (pi_list (pe_slice (r := rSlL K) sl_list (pv 1) po_none (po_some pe_int))) (pg_name (i := 2) sc_law_is_spot.nd rfl (by first | exact Or.inl rfl | exact Or.inr rfl)) (pss_cons (ps_set (i := 3) sc_law_is_spot.nd rfl (by first | exact Or.inl rfl | exact Or.inr rfl) (pe_ifExp (pt_cmpR (op_eq) (pe_slice (r := rSlS) sl_str (pv 2) po_none (po_some pe_int)) pe_str (nomark _)) (pe_slice (r := rSlS) sl_str (pv 2) (po_some pe_int) po_none) (pv 2)))
    (pss_one (ps_if (PW.pt (pw_or (pt_not (pt_val (pc d_law_is_digits (hr.mono (by decide)) (pa_cons (pv 3) (pa_cons pe_int pa_nil))))) (pw_or1 (pt_cmpR (op_eq) (pv 2) pe_str (nomark _))))) (pss_one (ps_ret pe_bl)) pss_nil))))
    (pss_cons (ps_set (i := 4) sc_law_is_spot.nd rfl (by first | exact Or.inl rfl | exact Or.inr rfl) (pe_op op_cat (pe_lc (own := [("_law_part", 2)]) (g := gName 2) (tt := tYes) (by rfl) sc_law_is_spot.nd (pi_list (pv 1)) (blkOk_by (own := [("_law_part", 2)]) (N := ["_law_word_here", "_law_parts", "_law_part", "_law_digits", "_law_numbers"]) (sc := defScope s_law_is_spot) (by decide +kernel)) (fun _ _ _ _ _ => (pg_name (i := 2) sc_law_is_spot.nd rfl (by first | exact Or.inl rfl | exact Or.inr rfl))) (fun _ _ _ _ _ => pts_nil) (fun _ _ _ _ _ => (pe_callTy call_int_str (by rfl) b_int (by decide +kernel) (pa_cons (pv 2) pa_nil)))) (pe_op op_rep (pe_lst (pa_cons pe_int pa_nil)) (pe_op op_sub pe_int (pe_callB call_len_seq (by rfl) b_len PySem.boot_len (pa_cons (pv 1) pa_nil))))))
    (pss_one (ps_ret (pe_cmpR (r := rEqD K) (op_eqD hr.units) (pc d_law_lowest (hr.mono (by decide)) (pa_cons (pe_ix (r := rIxL K) ix_list (pv 4) pe_int (fun _ _ => rfl)) (pa_cons (pe_ix (r := rIxL K) ix_list (pv 4) pe_int (fun _ _ => rfl)) (pa_cons (pe_ix (r := rIxL K) ix_list (pv 4) pe_int (fun _ _ => rfl)) pa_nil)))) (pe_tupW (K := K) rfl (by rfl) b_tuple (pa_cons (pv 4) pa_nil)) (nomark _)))))))), ?_⟩
  obtain ⟨c1, c2⟩ := split_one (x := x) (y := ",") (s := 44) (by decide +kernel) (by decide)
  have ews := split_ws x
  refine ⟨_, rfl, ⟨_, rfl⟩, x, ",", rfl, rfl, by decide +kernel, Nat.le_trans (by omega : x.length + 2 ≤ 1000) (by decide), fun p hp => gn_of ?_⟩
  have s1 := same_new hp (.lst ((Txt.split x ",").map V.str))
  have hP : (upd H p (.lst ((Txt.split x ",").map V.str))) p = some (.lst ((Txt.split x ",").map V.str)) := upd_same
  generalize upd H p (.lst ((Txt.split x ",").map V.str)) = H1 at *
  have key : ∀ H' , Same H1 H' → ∀ {b : Bool}, b = (spotF (tl x)).isSome → Q (.bl b) H' := fun H' s {b} e => by rw [e]; exact q H' (s1.trans s)
  generalize Txt.split x "," = ps at *
  have lps : (ps.map V.str).length = ps.length := List.length_map _
  dsimp only
  refine seq_join (fun σ' H' => σ' = [some (.str x), some (.ref p), none, none, none] ∧ Same H1 H' ∧ ((∃ a b, ps = [a, b]) ∨ ∃ a b c, ps = [a, b, c] ∧ nmB 9 (tl c) = true ∧ tl c ≠ [48] ∧ tl c ≠ [49])) ?_ ?_
  rotate_left
  · intro D' hD' hk
    have key' : ∀ H' , Same H1 H' → ∀ {b : Bool}, b = (spotF (tl x)).isSome → D'.rt (.bl b) H' := fun H' s {b} e => by rw [hD']; exact key H' s e
    have eqn : ∀ n : Nat, (!(([PyData.int 2, .int 3] : List PyData).any fun z => PyData.eqv z (.int (n : Int)))) = !(decide (n = 2) || decide (n = 3)) := fun n => by
      simp only [List.any_cons, List.any_nil, eqvI, Bool.or_false]
      congr 1
      congr 1 <;> rw [Bool.eq_iff_iff, decide_eq_true_iff, decide_eq_true_iff] <;> omega
    refine ⟨_, rfl, p, _, rfl, .inl (.inl (.inl hP)), (by show 2 ≤ sizeLine; decide), fun L2 hL2 => ?_⟩
    have s2 := same_new hL2 (.lst [V.int 2, .int 3])
    refine ⟨.int ((ps.map V.str).length : Int), [.int 2, .int 3], .int _, .lst (.inl (.inl upd_same)) (.cons (.int 2) (.cons (.int 3) .nil)), rfl, by decide +kernel, ?_⟩
    rw [lps, eqn]
    refine ⟨_, rfl, ?_⟩
    have hP2 := s2 _ _ hP
    generalize upd H1 L2 (.lst [V.int 2, .int 3]) = H2 at *
    by_cases n2 : ps.length = 2
    · rw [decide_eq_true n2]
      refine iteF ?_
      refine ⟨_, rfl, p, _, rfl, .inl (.inl (.inl hP2)), rfl, false, congrArg V.bl (decide_eq_false (by rw [lps, n2]; intro z; cases z)), iteF (iteF ?_)⟩
      refine hk _ _ ⟨rfl, s2, .inl ?_⟩
      match ps, n2 with
      | [a, b], _ => exact ⟨a, b, rfl⟩
    · by_cases n3 : ps.length = 3
      · rw [decide_eq_false n2, decide_eq_true n3]
        refine iteF ?_
        refine ⟨_, rfl, p, _, rfl, .inl (.inl (.inl hP2)), rfl, true, congrArg V.bl (decide_eq_true (by rw [lps, n3]; rfl)), iteT ?_⟩
        obtain ⟨a, b, c, rfl⟩ : ∃ a b c, ps = [a, b, c] := by
          match ps, n3 with
          | [a, b, c], _ => exact ⟨a, b, c, rfl⟩
        have lc := c2 c (by simp)
        refine ⟨_, rfl, p, _, 2, _, rfl, rfl, .inl (.inl hP2), rfl, c, 9, rfl, by omega, fun H3 s3 => ?_⟩
        have ew : wsF (tl x) = [tl a, tl b, tl c] := ews.symm
        refine ⟨_, rfl, ?_⟩
        cases e : nmB 9 (tl c) with
        | false =>
          refine iteT (iteT ?_)
          refine key' _ (s2.trans s3) ?_
          rw [spw_third ew (.inl e)]
          rfl
        | true =>
          refine iteF ?_
          have hP3 := s3 _ _ hP2
          refine ⟨_, rfl, p, _, 2, _, rfl, rfl, .inl (.inl hP3), rfl, (by show 2 ≤ sizeLine; decide), fun L4 hL4 => ?_⟩
          have s4 := same_new hL4 (.lst [V.str "0", .str "1"])
          refine ⟨.str c, [.str "0", .str "1"], .str _, .inl (.lst (.inl (.inl upd_same)) (.cons (.str _) (.cons (.str _) .nil))), ?_, by decide +kernel, ?_⟩
          · exact strShaped fun y hy => by have := (nm_digits e).1 y hy; omega
          have eqs : (([PyData.str "0", .str "1"] : List PyData).any fun z => PyData.eqv z (.str c)) = (decide (tl c = [48]) || decide (tl c = [49])) := by
            simp only [List.any_cons, List.any_nil, eqvS, Bool.or_false]
            congr 1 <;> rw [Bool.eq_iff_iff, decide_eq_true_iff, decide_eq_true_iff]
            · constructor
              · intro h; rw [← h]; decide +kernel
              · intro h; exact ext_tl (Eq.trans (by decide +kernel) h.symm)
            · constructor
              · intro h; rw [← h]; decide +kernel
              · intro h; exact ext_tl (Eq.trans (by decide +kernel) h.symm)
          rw [eqs]
          refine ⟨_, rfl, ite2 (fun h => ?_) (fun h => ?_)⟩
          · refine key' _ (s2.trans (s3.trans s4)) ?_
            rw [Bool.or_eq_true, decide_eq_true_iff, decide_eq_true_iff] at h
            rw [spw_third ew (.inr h)]
            rfl
          · refine hk _ _ ⟨rfl, s2.trans (s3.trans s4), .inr ⟨a, b, c, rfl, e, fun z => h ?_, fun z => h ?_⟩⟩
            · rw [z]; rfl
            · rw [z]; decide
      · rw [decide_eq_false n2, decide_eq_false n3]
        refine iteT (iteT (key' _ s2 ?_))
        rw [spw_len (by rw [← ews, List.length_map]; exact n2) (by rw [← ews, List.length_map]; exact n3)]
        rfl
  rintro σ H2 ⟨rfl, s2, hcase⟩
  have hP2 := s2 _ _ hP
  refine ⟨_, rfl, 2, rfl, p, _, rfl, .inl (.inl hP2), fun L2 hL2 => ?_⟩
  have ecut : cutV (ps.map V.str) none (some 2) = (ps.take 2).map V.str := by
    show cutV (ps.map V.str) none (some ((2 : Nat) : Int)) = _
    unfold cutV
    rw [HT.sIx_none, HT.sIx_nat, List.drop_zero, Nat.sub_zero, ← List.map_take, lps, Nat.min_eq_left (by rcases hcase with ⟨a, b, rfl⟩ | ⟨a, b, c, rfl, _⟩ <;> simp)]
  rw [ecut]
  have s3 := same_new hL2 (.lst ((ps.take 2).map V.str))
  have hP3 := s3 _ _ hP2
  have hL3 : (upd H2 L2 (.lst ((ps.take 2).map V.str))) L2 = some (.lst ((ps.take 2).map V.str)) := upd_same
  have s13 := s2.trans s3
  generalize upd H2 L2 (.lst ((ps.take 2).map V.str)) = H3 at *
  have tk : ∀ y ∈ ps.take 2, tl y ∈ wsF (tl x) ∧ y.length ≤ x.length := fun y hy => by
    have := List.mem_of_mem_take hy
    exact ⟨by rw [← ews]; exact List.mem_map.mpr ⟨y, this, rfl⟩, c2 y this⟩
  refine ⟨L2, rfl, ⟨_, .inl (.inl hL3)⟩, for_list (K := K) (a := L2) (xs := (ps.take 2).map V.str) (fun i σ H' => ∃ x2 x3, σ = [some (.str x), some (.ref p), x2, x3, none] ∧ Same H3 H' ∧ ∀ y ∈ (ps.take 2).take i, numF (tl y) ≠ none) ⟨none, none, rfl, Same.refl _, fun y hy => by rw [List.take_zero] at hy; cases hy⟩ ?_ ?_ ?_⟩
  · rintro i σ H' _ ⟨_, _, _, s', _⟩
    exact .inl (.inl (s' _ _ hL3))
  · rintro i y σ H' hy ⟨x2, x3, rfl, s', gd⟩
    rw [List.getElem?_map] at hy
    obtain ⟨z, ez, rfl⟩ : ∃ z, (ps.take 2)[i]? = some z ∧ V.str z = y := by
      cases e : (ps.take 2)[i]? with
      | none => rw [e] at hy; cases hy
      | some z => rw [e] at hy; exact ⟨z, rfl, Option.some.inj hy⟩
    obtain ⟨mz, lz⟩ := tk z (List.mem_of_getElem? ez)
    have sz : z.length ≤ sizeLine := Nat.le_trans (by omega : z.length ≤ 1000) (by decide)
    have t1 : decide (V.str (cutS z none (some 1)) = V.str "-") = decide ((tl z).head? = some 45) := by
      rw [str_eq (l := [45]) (by decide +kernel), cut_to1]
      cases tl z with
      | nil => rfl
      | cons c t =>
        rw [Bool.eq_iff_iff, decide_eq_true_iff, decide_eq_true_iff]
        show [c] = [45] ↔ some c = some 45
        constructor
        · intro h; rw [(List.cons.inj h).1]
        · intro h; rw [Option.some.inj h]
    refine gn_of ?_
    refine ⟨_, rfl, 1, rfl, z, rfl, sz, rfl, _, congrArg V.bl t1, ite2 (fun hm => ?_) (fun hm => ?_)⟩
    · have hm := of_decide_eq_true hm
      refine ⟨_, rfl, 1, rfl, z, rfl, sz, gn_of ?_⟩
      have et : tl (cutS z (some 1) none) = unM (tl z) := by rw [cut_from1]; unfold unM; rw [if_pos hm]
      have lc := cutS_length z (some 1) none
      refine ⟨_, rfl, _, 9, rfl, by omega, fun H5 s5 => ?_⟩
      rw [et]
      refine ⟨_, rfl, ?_⟩
      cases e : nmB 9 (unM (tl z)) with
      | false =>
        refine iteT ?_
        refine key _ (s13.trans (s'.trans s5)) ?_
        rw [spw_part (a := tl z) mz (by unfold numF; rw [if_pos (.inr e)])]
        rfl
      | true =>
        refine iteF ⟨_, rfl, rfl, decide (tl z = [45, 48]), congrArg V.bl (str_eq (by decide +kernel)), ite2 (fun h => ?_) (fun h => ?_)⟩
        · refine key _ (s13.trans (s'.trans s5)) ?_
          rw [spw_part (a := tl z) mz (by unfold numF; rw [if_pos (.inl (of_decide_eq_true h))])]
          rfl
        · refine ⟨_, _, rfl, s'.trans s5, ?_⟩
          rw [take_more ez]
          intro y hy
          rcases List.mem_append.mp hy with hy | hy
          · exact gd y hy
          · rw [List.mem_singleton.mp hy]
            unfold numF
            rw [if_neg]
            · intro z; cases z
            · rintro (g | g)
              · exact h (decide_eq_true g)
              · rw [e] at g; cases g
    · have hm : ¬ (tl z).head? = some 45 := fun e => hm (decide_eq_true e)
      refine ⟨_, rfl, gn_of ?_⟩
      have et : tl z = unM (tl z) := by unfold unM; rw [if_neg hm]
      refine ⟨_, rfl, _, 9, rfl, by omega, fun H5 s5 => ?_⟩
      rw [show nmB 9 (tl z) = nmB 9 (unM (tl z)) from by rw [← et]]
      refine ⟨_, rfl, ?_⟩
      cases e : nmB 9 (unM (tl z)) with
      | false =>
        refine iteT ?_
        refine key _ (s13.trans (s'.trans s5)) ?_
        rw [spw_part (a := tl z) mz (by unfold numF; rw [if_pos (.inr e)])]
        rfl
      | true =>
        refine iteF ⟨_, rfl, rfl, decide (tl z = [45, 48]), congrArg V.bl (str_eq (by decide +kernel)), ite2 (fun h => ?_) (fun h => ?_)⟩
        · refine key _ (s13.trans (s'.trans s5)) ?_
          rw [spw_part (a := tl z) mz (by unfold numF; rw [if_pos (.inl (of_decide_eq_true h))])]
          rfl
        · refine ⟨_, _, rfl, s'.trans s5, ?_⟩
          rw [take_more ez]
          intro y hy
          rcases List.mem_append.mp hy with hy | hy
          · exact gd y hy
          · rw [List.mem_singleton.mp hy]
            unfold numF
            rw [if_neg]
            · intro z; cases z
            · rintro (g | g)
              · exact h (decide_eq_true g)
              · rw [e] at g; cases g
  rintro σ H4 ⟨x2, x3, rfl, s4, gd⟩
  rw [List.length_map, List.take_length] at gd
  have s14 := s13.trans s4
  have hP4 := s4 _ _ hP3
  obtain ⟨is, eis, va, vb, vc, eus, v0, vB, vS⟩ : ∃ is : List Int, (ps.map fun y => numF (tl y)) = is.map some ∧ ∃ va vb vc : Int, is.map V.int ++ (List.replicate (3 - (ps.length : Int)).toNat [V.int 1]).flatten = [.int va, .int vb, .int vc] ∧ vc ≠ 0 ∧ vc.natAbs < 1000000000 ∧ decide (low va vb vc = (va, vb, vc)) = (spotF (tl x)).isSome := by
    rcases hcase with ⟨a, b, rfl⟩ | ⟨a, b, c, rfl, nc, n0, n1⟩
    · obtain ⟨va, ha⟩ := Option.ne_none_iff_exists'.mp (gd a (by simp))
      obtain ⟨vb, hb⟩ := Option.ne_none_iff_exists'.mp (gd b (by simp))
      refine ⟨[va, vb], by simp [ha, hb], va, vb, 1, rfl, by decide, by decide, ?_⟩
      rw [spw_two ews.symm ha hb, low_self ⟨by show (0 : Int) < 1; decide, g3_one va vb⟩, decide_eq_true rfl]
      rfl
    · obtain ⟨va, ha⟩ := Option.ne_none_iff_exists'.mp (gd a (by simp))
      obtain ⟨vb, hb⟩ := Option.ne_none_iff_exists'.mp (gd b (by simp))
      obtain ⟨q, hq, q2, es⟩ := spw_third_ok ews.symm ha hb nc n0 n1
      refine ⟨[va, vb, q], by simp [ha, hb, hq], va, vb, q, rfl, by omega, numF_B hq, ?_⟩
      rw [es]
      by_cases g : g3 va vb q = 1
      · rw [if_pos g, low_self ⟨by show 0 < q; omega, g⟩, decide_eq_true rfl]
        rfl
      · rw [if_neg g, decide_eq_false]
        · rfl
        · intro e
          have := low_ok (x := va) (y := vb) (d := q) (by omega)
          rw [e] at this
          exact g this.2
  have lis : is.length = ps.length := by
    have := congrArg List.length eis
    rw [List.length_map, List.length_map] at this
    exact this.symm
  have l3 : ps.length ≤ 3 := by rcases hcase with ⟨a, b, rfl⟩ | ⟨a, b, c, rfl, _⟩ <;> simp
  dsimp only
  refine ⟨_, rfl, p, rfl, ⟨_, .inl (.inl hP4)⟩, fun L5 hL5 => lc_list (K := K) (a := p) (xs := ps.map V.str) (fun i H' => ∃ acc, Same H4 H' ∧ H' L5 = some (.lst acc) ∧ acc = (is.take i).map V.int) ⟨[], same_new hL5 _, upd_same, rfl⟩ ?_ ?_ ?_⟩
  · rintro i H' _ ⟨_, s', _⟩
    exact .inl (.inl (s' _ _ hP4))
  · rintro i y H' hy ⟨acc, s', hw, ea⟩
    rw [List.getElem?_map] at hy
    obtain ⟨z, ez, rfl⟩ : ∃ z, ps[i]? = some z ∧ V.str z = y := by
      cases e : ps[i]? with
      | none => rw [e] at hy; cases hy
      | some z => rw [e] at hy; exact ⟨z, rfl, Option.some.inj hy⟩
    have en := congrArg (fun l => l[i]?) eis
    try dsimp only at en
    rw [List.getElem?_map, List.getElem?_map, ez] at en
    obtain ⟨n, en1, en2⟩ : ∃ n, is[i]? = some n ∧ numF (tl z) = some n := by
      cases e : is[i]? with
      | none => rw [e] at en; cases en
      | some n => rw [e] at en; exact ⟨n, rfl, Option.some.inj en⟩
    obtain ⟨i1, i2⟩ := int_numF en2
    have la : acc.length ≤ 3 := by rw [ea, List.length_map, List.length_take]; omega
    refine ⟨rfl, yes_of ?_⟩
    refine ⟨_, rfl, z, n, rfl, i1, by omega, acc, hw, small1000 (by omega), acc ++ [.int n], fun b o h => ?_, upd_same, ?_⟩
    · rw [upd_ne (ne_of_none h hL5)]; exact s' _ _ h
    · rw [ea, take_more en1, List.map_append]; rfl
  rintro H5 ⟨acc, s5, hw5, ea⟩
  rw [lps, ← lis, List.take_length] at ea
  subst ea
  have hP5 := s5 _ _ hP4
  refine ⟨(by show 1 ≤ sizeLine; decide), fun L6 hL6 => ?_⟩
  have s6 := same_new hL6 (.lst [V.int 1])
  refine ⟨_, rfl, p, _, rfl, .inl (.inl (.inl (s6 _ _ hP5))), _, _, rfl, rfl, ?_⟩
  rw [lps]
  refine ⟨L6, _, [V.int 1], rfl, rfl, upd_same, by omega, by omega, Nat.le_trans (by show 1 * (3 - (ps.length : Int)).toNat ≤ 3; omega) (by decide), fun L7 hL7 => ?_⟩
  have s7 := same_new hL7 (.lst (List.replicate (3 - (ps.length : Int)).toNat [V.int 1]).flatten)
  refine ⟨L5, L7, _, _, rfl, rfl, s7 _ _ (s6 _ _ hw5), upd_same, ?_, fun L8 hL8 => gn_of ?_⟩
  · rw [← List.length_append, eus]
    show 3 ≤ sizeLine
    decide
  rw [eus]
  have s8 := same_new hL8 (.lst [V.int va, .int vb, .int vc])
  have hL : (upd (upd (upd H5 L6 (.lst [V.int 1])) L7 (.lst (List.replicate (3 - (ps.length : Int)).toNat [V.int 1]).flatten)) L8 (.lst [V.int va, .int vb, .int vc])) L8 = some (.lst [V.int va, .int vb, .int vc]) := upd_same
  have s18 := s14.trans (s5.trans (s6.trans (s7.trans s8)))
  generalize upd (upd (upd H5 L6 (.lst [V.int 1])) L7 (.lst (List.replicate (3 - (ps.length : Int)).toNat [V.int 1]).flatten)) L8 (.lst [V.int va, .int vb, .int vc]) = H8 at *
  refine ⟨_, rfl, L8, _, 0, _, rfl, rfl, .inl (.inl hL), rfl, _, rfl, L8, _, 1, _, rfl, rfl, .inl (.inl hL), rfl, _, rfl, L8, _, 2, _, rfl, rfl, .inl (.inl hL), rfl, va, vb, vc, rfl, v0, Nat.lt_of_lt_of_le vB (Nat.le_trans (by decide : 1000000000 ≤ 2 ^ 30) (Nat.pow_le_pow_right (by decide) (by decide))), fun H9 r s9 ir => ?_⟩
  refine ⟨_, rfl, L8, _, rfl, .inl ⟨.inl (.inl (s9 _ _ hL)), fun pt hpt => ?_⟩⟩
  have s10 := same_new hpt (.tup [V.int va, .int vb, .int vc])
  obtain ⟨pr, rfl, hpr⟩ := ir
  refine ⟨d3 (low va vb vc), d3 (va, vb, vc), .tup (same_T s10 hpr) (.cons (.int _) (.cons (.int _) (.cons (.int _) .nil))), .tup (.inl (.inl upd_same)) (.cons (.int _) (.cons (.int _) (.cons (.int _) .nil))), rfl, rfl, ?_⟩
  rw [eqv3, vS]
  exact key _ (s18.trans (s9.trans s10)) rfl
/-! ### the spot of a word, the strokes of words -/
def sp_lrd (K : PySem.W.Frag) : Sp := fun vs H Q _ => ∃ x z, vs = [.str x] ∧ x.length ≤ 90 ∧ spotF (tl x) = some z ∧ ∀ H' v, Same H H' → IsT K H' v z → Q v H'
theorem ok_law_read {f : Addr} {fd : FuncData} (b_len : mg "len" = none) (b_int : mg "int" = none) (b_tuple : mg "tuple" = none)
    (F : Fun K "_law_read" "_law_read" s_law_read f fd) : FnOk P w K mg base CX0 1 f fd ["_law_word_here"] (sp_lrd K) := by
  refine F.ok sc_law_read (fun vs H Q E h => ?_) (fun cdv A outer s H vs Q E hr h => ?_)
  · obtain ⟨x, z, rfl, _⟩ := h
    rfl
  obtain ⟨x, z, rfl, hl, es, q⟩ := h
  refine ⟨_, (pss_cons (ps_setLc (i := 1) (own := [("_law_part", 2)]) (g := gName 2) (tt := tYes) (by rfl) sc_law_read.nd rfl rfl (sw_true rfl rfl rfl (by decide +kernel)) (pi_list (pe_split (pv 0) pe_str)) (blkOk_by (own := [("_law_part", 2)]) (N := ["_law_word_here", "_law_numbers", "_law_part"]) (sc := defScope s_law_read) (by decide +kernel)) (fun _ _ _ _ _ => (pg_name (i := 2) sc_law_read.nd rfl (by first | exact Or.inl rfl | exact Or.inr rfl))) (fun _ _ _ _ _ => pts_nil) (fun _ _ _ _ _ => (pe_callTy call_int_str (by rfl) b_int (by decide +kernel) (pa_cons (pv 2) pa_nil))))
    (pss_one (ps_ret (pe_tupW (K := K) rfl (by rfl) b_tuple (pa_cons (pe_op op_cat (pv 1) (pe_op op_rep (pe_lst (pa_cons pe_int pa_nil)) (pe_op op_sub pe_int (pe_callB call_len_seq (by rfl) b_len PySem.boot_len (pa_cons (pv 1) pa_nil))))) pa_nil))))), ?_⟩
  obtain ⟨c1, c2⟩ := split_one (x := x) (y := ",") (s := 44) (by decide +kernel) (by decide)
  have ews := split_ws x
  obtain ⟨is, e1, e2, l3⟩ := spw_nums es
  refine ⟨_, rfl, ⟨_, rfl⟩, x, ",", rfl, rfl, by decide +kernel, Nat.le_trans (by omega : x.length + 2 ≤ 1000) (by decide), fun p hp => ?_⟩
  have s1 := same_new hp (.lst ((Txt.split x ",").map V.str))
  have hP : (upd H p (.lst ((Txt.split x ",").map V.str))) p = some (.lst ((Txt.split x ",").map V.str)) := upd_same
  generalize upd H p (.lst ((Txt.split x ",").map V.str)) = H1 at *
  generalize Txt.split x "," = ps at *
  have lps : (ps.map V.str).length = ps.length := List.length_map _
  have eis : (ps.map fun y => numF (tl y)) = is.map some := by rw [← e1, ← ews, List.map_map]; rfl
  have lis : is.length = ps.length := by
    have := congrArg List.length eis
    rw [List.length_map, List.length_map] at this
    exact this.symm
  refine ⟨p, rfl, ⟨_, .inl (.inl hP)⟩, fun L5 hL5 => lc_list (K := K) (a := p) (xs := ps.map V.str) (fun i H' => ∃ acc, Same H1 H' ∧ H' L5 = some (.lst acc) ∧ acc = (is.take i).map V.int) ⟨[], same_new hL5 _, upd_same, rfl⟩ ?_ ?_ ?_⟩
  · rintro i H' _ ⟨_, s', _⟩
    exact .inl (.inl (s' _ _ hP))
  · rintro i y H' hy ⟨acc, s', hw, ea⟩
    rw [List.getElem?_map] at hy
    obtain ⟨z, ez, rfl⟩ : ∃ z, ps[i]? = some z ∧ V.str z = y := by
      cases e : ps[i]? with
      | none => rw [e] at hy; cases hy
      | some z => rw [e] at hy; exact ⟨z, rfl, Option.some.inj hy⟩
    have en := congrArg (fun l => l[i]?) eis
    try dsimp only at en
    rw [List.getElem?_map, List.getElem?_map, ez] at en
    obtain ⟨n, en1, en2⟩ : ∃ n, is[i]? = some n ∧ numF (tl z) = some n := by
      cases e : is[i]? with
      | none => rw [e] at en; cases en
      | some n => rw [e] at en; exact ⟨n, rfl, Option.some.inj en⟩
    obtain ⟨i1, i2⟩ := int_numF en2
    have la : acc.length ≤ 3 := by rw [ea, List.length_map, List.length_take]; omega
    refine ⟨rfl, yes_of ?_⟩
    refine ⟨_, rfl, z, n, rfl, i1, by omega, acc, hw, small1000 (by omega), acc ++ [.int n], fun b o h => ?_, upd_same, ?_⟩
    · rw [upd_ne (ne_of_none h hL5)]; exact s' _ _ h
    · rw [ea, take_more en1, List.map_append]; rfl
  rintro H5 ⟨acc, s5, hw5, ea⟩
  rw [lps, ← lis, List.take_length] at ea
  subst ea
  refine gn_of ?_
  refine ⟨_, rfl, (by show 1 ≤ sizeLine; decide), fun L6 hL6 => ?_⟩
  have s6 := same_new hL6 (.lst [V.int 1])
  refine ⟨_, rfl, L5, _, rfl, .inl (.inl (.inl (s6 _ _ hw5))), _, _, rfl, rfl, ?_⟩
  have lim : (is.map V.int).length = is.length := List.length_map _
  rw [lim]
  refine ⟨L6, _, [V.int 1], rfl, rfl, upd_same, by omega, by omega, Nat.le_trans (by show 1 * (3 - (is.length : Int)).toNat ≤ 3; omega) (by decide), fun L7 hL7 => ?_⟩
  have s7 := same_new hL7 (.lst (List.replicate (3 - (is.length : Int)).toNat [V.int 1]).flatten)
  have eus : is.map V.int ++ (List.replicate (3 - (is.length : Int)).toNat [V.int 1]).flatten = [.int z.1, .int z.2.1, .int z.2.2] := by
    have := congrArg (List.map V.int) e2
    rw [List.map_append, List.map_replicate] at this
    rw [show (3 - (is.length : Int)).toNat = 3 - is.length by omega, show ∀ k : Nat, (List.replicate k [V.int 1]).flatten = List.replicate k (V.int 1) from fun k => by
      induction k with
      | zero => rfl
      | succ k ih => rw [List.replicate_succ, List.flatten_cons, ih, List.replicate_succ]; rfl]
    exact this
  refine ⟨L5, L7, _, _, rfl, rfl, s7 _ _ (s6 _ _ hw5), upd_same, ?_, fun L8 hL8 => ?_⟩
  · rw [← List.length_append, eus]
    show 3 ≤ sizeLine
    decide
  rw [eus]
  have s8 := same_new hL8 (.lst [V.int z.1, .int z.2.1, .int z.2.2])
  dsimp only [tNil]
  refine ⟨L8, _, rfl, .inl ⟨.inl (.inl upd_same), fun pt hpt => ?_⟩⟩
  have s10 := same_new hpt (.tup [V.int z.1, .int z.2.1, .int z.2.2])
  refine q _ _ (s1.trans (s5.trans (s6.trans (s7.trans (s8.trans s10))))) ⟨pt, rfl, .inl (.inl upd_same)⟩
theorem catW_of {H : Hp} {Q : VK} {t1 t2 : Addr} {us ws : List V} (h1 : SqT K H t1 us) (h2 : SqT K H t2 ws) (hl : us.length + ws.length ≤ 1000) (q : ∀ H' p, Same H H' → SqT K H' p (us ++ ws) → Q (.ref p) H') : rCatA K (.ref t1) (.ref t2) H Q := by
  refine ⟨t1, t2, us, ws, rfl, rfl, h1, h2, small hl, fun e => ?_, fun e1 e2 => ?_, fun _ _ p hp => q _ p (same_new hp _) (.inl (.inl upd_same))⟩
  · subst e
    exact q H t2 (Same.refl _) h2
  · subst e2
    exact q H t1 (Same.refl _) (by rw [List.append_nil]; exact h1)
def sp_lrs (K : PySem.W.Frag) : Sp := fun vs H Q _ => ∃ (L : Addr) (ws : List Str), vs = [.ref L] ∧ SqL K H L (ws.map V.str) ∧ (∀ x ∈ ws, x.length ≤ 90) ∧ ws.length ≤ 900 ∧ (∀ x ∈ ws, tl x = [47] ∨ spotF (tl x) ≠ none) ∧
  ∀ H' p us, Same H H' → SqT K H' p us → Paired (IsSt K H') us (stF (ws.map tl)) → Q (.ref p) H'
theorem ok_law_read_strokes {f : Addr} {fd : FuncData} (b_tuple : mg "tuple" = none) (d_law_read : D P w K mg base "_law_read" 1 (sp_lrd K))
    (F : Fun K "_law_read_strokes" "_law_read_strokes" s_law_read_strokes f fd) : FnOk P w K mg base CX0 2 f fd ["_law_words"] (sp_lrs K) := by
  refine F.ok sc_law_read_strokes (fun vs H Q E h => ?_) (fun cdv A outer s H vs Q E hr h => ?_)
  · obtain ⟨L, ws, rfl, _⟩ := h
    rfl
  obtain ⟨L, ws, rfl, hL, hw, hn, hv, q⟩ := h
  refine ⟨_, (pss_cons (ps_set (i := 1) sc_law_read_strokes.nd rfl (by first | exact Or.inl rfl | exact Or.inr rfl) (pe_lst (pa_cons (pe_tup pa_nil) pa_nil)))
    (pss_cons (ps_for PassesOwn.never rfl (pi_list (pv 0)) (pg_name (i := 2) sc_law_read_strokes.nd rfl (by first | exact Or.inl rfl | exact Or.inr rfl)) (pss_one (ps_if (pt_cmpR (op_eq) (pv 2) pe_str (nomark _)) (pss_one (ps_expr (pe_bm PySem.F.plainAttrs_list PySem.F.slot_list_append PySem.F.type_list_append mt_append (pv 1) (pa_cons (pe_tup pa_nil) pa_nil)))) (pss_one (ps_asg (pe_op (r := rCatA K) op_catA (pe_ix (r := rIxL K) ix_list (pv 1) (pe_un un_neg pe_int) (fun _ _ => rfl)) (pe_tup (pa_cons (pc d_law_read (hr.mono (by decide)) (pa_cons (pv 2) pa_nil)) pa_nil))) (pg_sub (pv 1) (pe_un un_neg pe_int) set_list))))))
    (pss_one (ps_ret (pe_tupW (K := K) rfl (by rfl) b_tuple (pa_cons (pv 1) pa_nil)))))), ?_⟩
  have sl : tl ("/" : Str) = [47] := by decide +kernel
  refine ⟨(by show 0 ≤ sizeLine; decide), fun t0 ht0 => ?_⟩
  have s1 := same_new ht0 (.tup [])
  dsimp only [tNil]
  refine ⟨(by show 1 ≤ sizeLine; decide), fun Ls hLs => gn_of ?_⟩
  have s2 := same_new hLs (.lst [V.ref t0])
  have hLs0 : H Ls = none := by
    cases e : H Ls with
    | none => rfl
    | some o => rw [s1 _ _ e] at hLs; cases hLs
  have g0 : (upd (upd H t0 (.tup [])) Ls (.lst [V.ref t0])) Ls = some (.lst ([] ++ [V.ref t0])) := upd_same
  have i0 : IsSt K (upd (upd H t0 (.tup [])) Ls (.lst [V.ref t0])) (.ref t0) [] := ⟨t0, [], rfl, same_T s2 (.inl (.inl upd_same)), .nil⟩
  have s12 := s1.trans s2
  generalize upd (upd H t0 (.tup [])) Ls (.lst [V.ref t0]) = HB at *
  clear s1 s2 ht0 hLs
  have lws : (ws.map V.str).length = ws.length := List.length_map _
  refine ⟨_, rfl, L, rfl, ⟨_, s12.seq hL⟩, for_list (K := K) (a := L) (xs := ws.map V.str) (D := { nx := tRet (tCB (rTupW K) (tCons (tVar 1) tNil)) { nx := fun x H' => Q V.non H', rt := Q }, rt := Q }) (fun i σ H' => ∃ d c us v x2, σ = [some (.ref L), some (.ref Ls), x2] ∧ Same H H' ∧ H' Ls = some (.lst (us ++ [v])) ∧ Paired (IsSt K H') us d ∧ IsSt K H' v c ∧ us.length ≤ i ∧ c.length ≤ i ∧ d ++ stH ((ws.drop i).map tl ++ [[47]]) c = stF (ws.map tl)) ⟨[], [], [], .ref t0, none, rfl, s12, g0, .nil, i0, Nat.le_refl _, Nat.le_refl _, rfl⟩ ?_ ?_ ?_⟩
  · rintro i σ H' _ ⟨_, _, _, _, _, _, s', _⟩
    exact s'.seq hL
  · rintro i x σ H' hx ⟨d, c, us, v, x2, rfl, s', g1, p1, ic, l1, l2, ef⟩
    rw [List.getElem?_map] at hx
    obtain ⟨z, ez, rfl⟩ : ∃ z, ws[i]? = some z ∧ V.str z = x := by
      cases e : ws[i]? with
      | none => rw [e] at hx; cases hx
      | some z => rw [e] at hx; exact ⟨z, rfl, Option.some.inj hx⟩
    have hz := hw z (List.mem_of_getElem? ez)
    have hzv := hv z (List.mem_of_getElem? ez)
    have lt := (List.getElem?_eq_some_iff.mp ez).1
    have ed : ws.drop i = z :: ws.drop (i + 1) := by
      rw [List.drop_eq_getElem_cons lt, (List.getElem?_eq_some_iff.mp ez).2]
    have ef2 : d ++ (if tl z = [47] then c :: stH ((ws.drop (i + 1)).map tl ++ [[47]]) [] else stH ((ws.drop (i + 1)).map tl ++ [[47]]) (c ++ [(spotF (tl z)).getD (0, 0, 1)])) = stF (ws.map tl) := by
      rw [← ef, ed]; rfl
    refine gn_of ?_
    refine ⟨_, rfl, rfl, _, congrArg V.bl (str_eq sl), ite2 (fun h => ?_) (fun h => ?_)⟩
    · have h := of_decide_eq_true h
      rw [if_pos h] at ef2
      refine ⟨_, rfl, .inl ⟨rfl, _, .inl (.inl g1)⟩, (by show 0 ≤ sizeLine; decide), fun p hp => ?_⟩
      have s4 := same_new hp (.tup [])
      have g1' := s4 _ _ g1
      dsimp only [tNil]
      refine ⟨Ls, us ++ [v], _, rfl, rfl, g1', small1000 (by rw [List.length_append]; show us.length + 1 ≤ 1000; omega), ?_⟩
      have kk := keep_upd (d := Ls) (H := upd H' p (.tup [])) (o := .lst ((us ++ [v]) ++ [.ref p]))
      refine ⟨d ++ [c], [], us ++ [v], .ref p, _, rfl, fun b o h => ?_, upd_same, papp (pimp (fun _ _ i => IsSt.keep (IsSt.same i s4) g1' kk) p1) (.cons (IsSt.keep (IsSt.same ic s4) g1' kk) .nil), IsSt.keep (H := upd H' p (.tup [])) ⟨p, [], rfl, .inl (.inl upd_same), .nil⟩ g1' kk, by rw [List.length_append]; show us.length + 1 ≤ i + 1; omega, Nat.zero_le _, by rw [List.append_assoc]; exact ef2⟩
      rw [upd_ne (ne_of_none h hLs0)]
      exact s4 _ _ (s' _ _ h)
    · have h : ¬ tl z = [47] := fun e => h (decide_eq_true e)
      rw [if_neg h] at ef2
      obtain ⟨t, et⟩ := Option.ne_none_iff_exists'.mp (hzv.resolve_left h)
      rw [et] at ef2
      obtain ⟨tv, xs, rfl, hxs, pxs⟩ := id ic
      have lxs := Paired.length pxs
      refine ⟨_, rfl, 1, rfl, Ls, us ++ [.ref tv], -1, .ref tv, rfl, rfl, .inl (.inl g1), atI_last _ _, ?_⟩
      refine ⟨_, rfl, z, t, rfl, hz, et, fun H2 vt s4 it => ?_⟩
      dsimp only [tNil]
      refine ⟨(by show 1 ≤ sizeLine; decide), fun p5 hp5 => ?_⟩
      have s5 := same_new hp5 (.tup [vt])
      refine catW_of (same_T (s4.trans s5) hxs) (.inl (.inl upd_same)) (by show xs.length + 1 ≤ 1000; omega) fun H6 p6 s6 h6 => ?_
      have s46 := s4.trans (s5.trans s6)
      have g1' := s46 _ _ g1
      refine ⟨_, rfl, 1, rfl, Ls, _, -1, us.length, rfl, rfl, g1', ?_, ?_⟩
      · unfold ixN
        rw [List.length_append, if_neg (by decide), if_pos (by show _ ≤ _; simp; omega)]
        congr 1
        simp
        omega
      rw [show (us ++ [V.ref tv]).set us.length (.ref p6) = us ++ [.ref p6] from by simp]
      have kk := keep_upd (d := Ls) (H := H6) (o := .lst (us ++ [.ref p6]))
      have it6 : IsT K H6 vt t := (it.same s5).same s6
      refine ⟨d, c ++ [t], us, .ref p6, _, rfl, fun b o h => ?_, upd_same, pimp (fun _ _ i => IsSt.keep (IsSt.same i s46) g1' kk) p1, IsSt.keep (H := H6) ⟨p6, _, rfl, h6, papp (pimp (fun _ _ i => IsT.same i s46) pxs) (.cons it6 .nil)⟩ g1' kk, by omega, by rw [List.length_append]; show c.length + 1 ≤ i + 1; omega, ef2⟩
      rw [upd_ne (ne_of_none h hLs0)]
      exact s46 _ _ (s' _ _ h)
  rintro σ H' ⟨d, c, us, v, x2, rfl, s', g1, p1, ic, l1, l2, ef⟩
  rw [lws, List.drop_length] at ef
  have ef : d ++ [c] = stF (ws.map tl) := ef
  refine ⟨_, rfl, Ls, _, rfl, .inl ⟨.inl (.inl g1), fun pt hpt => ?_⟩⟩
  have s10 := same_new hpt (.tup (us ++ [v]))
  refine q _ _ _ (s'.trans s10) (.inl (.inl upd_same)) ?_
  rw [← ef]
  exact papp (pimp (fun _ _ i => IsSt.same i s10) p1) (.cons (IsSt.same ic s10) .nil)
end
end My

namespace My
open PySem L2 Mth
abbrev s_BadText___init__ : Stmt := inClass (topS 15) 0
theorem sc_BadText___init__ : FnScope ["self", "row", "word"] ["self", "row", "word"] (defScope s_BadText___init__) := ⟨rfl, rfl, rfl, by decide +kernel, rfl, by decide +kernel, by decide +kernel⟩
section
variable {P : Program} {w : World} {K : PySem.W.Frag} {mg : Str → Option Value} {base : Heap}
/-! ### BadText(i, j) -/
def btF (x y : V) : List (Str × V) := [("word", y), ("row", x)]
def sp_btx (C : Addr) : Sp := fun vs H Q _ => ∃ a x y, vs = [.ref a, x, y] ∧ H a = some (exo a C none) ∧ ∀ dx, H dx = none → dx ≠ a → Q .non (upd (upd (upd H dx (exd dx [("row", x)])) a (exo a C (some dx))) dx (exd dx (btF x y)))
structure NoF2 (K : PySem.W.Frag) (C : Addr) : Prop where
  n1 : PySem.W.findIn K (.ref C) "row" = some none
  n2 : PySem.W.findIn K (.ref C) "word" = some none
theorem ok_btx {f C : Addr} {fd : FuncData} (T : OexC K C) (hno : NoF2 K C) (F : Fun K "__init__" "BadText.__init__" s_BadText___init__ f fd) : FnOk P w K mg base CX0 1 f fd ["self", "row", "word"] (sp_btx C) := by
  refine F.ok sc_BadText___init__ (fun vs H Q E h => ?_) (fun cdv A outer s H vs Q E hr h => ?_)
  · obtain ⟨a, x, y, rfl, _⟩ := h
    rfl
  obtain ⟨a, x, y, rfl, ha, q⟩ := h
  refine ⟨_, (pss_cons (ps_ost (pv 0) (pv 1))
    (pss_one (ps_ost (pv 0) (pv 2)))), ?_⟩
  refine ⟨_, rfl, _, rfl, a, C, rfl, T, hno.n1, .inl ⟨ha, fun dx n ne => ?_⟩⟩
  exact ⟨_, rfl, _, rfl, a, C, rfl, T, hno.n2, .inr ⟨dx, _, upd_same, by rw [upd_ne ne]; exact upd_same, by show 1 ≤ 900; decide, q dx n ne⟩⟩
/-- what raises BadText asks -/
structure BtxS (P : Program) (w : World) (K : PySem.W.Frag) (mg : Str → Option Value) (base : Heap) (C : Addr) : Prop where
  T : OexC K C
  gl : mg "BadText" = some (.ref C)
  ex : ∃ fI fd, PySem.W.findIn K (.ref C) "__init__" = some (some (.ref fI)) ∧ PySem.W.typeIn K (.ref fI) = some (.type "function") ∧ FnOk P w K mg base CX0 1 fI fd ["self", "row", "word"] (sp_btx C) ∧ Binds K fd ["self", "row", "word"] []
theorem pmk_btx {X : Cx} {C : Addr} {e : Expr} {es : List Expr} {ta : TA} {p pos : Pos} (T : BtxS X.prog X.w X.K X.mg X.base C) (hr : Room 2 X.A) (hx : Passes CX0 X (fun _ _ _ => False)) (ha : PA X (e :: es) ta) (hg : Gl X "BadText" := by rfl)
    (he : starEach (e :: es) X.env = (false, eval e X.env) :: starEach es X.env := by rfl) (hpl : (backTo pos (starEach es X.env)).any (·.1) = false := by rfl) : PMk X (.Call (.Name "BadText" p) (e :: es) [] pos) (tMkO C (sp_btx C) [] ta) := by
  obtain ⟨fI, fd, iC, tI, F1, hb⟩ := T.ex
  exact pmk_oex (p := p) (pos := pos) T.T iC tI F1 hr hb (dvs := []) .nil hx hg T.gl ha (by decide) he hpl
theorem btx_of {H1 : Hp} {C : Addr} {x y : V} {Q : XK} (q : ∀ H' d, Same H1 H' → H1 d = none → H' d = some (.xd (btF x y)) → Q (.ref C) (some d) H') :
    [x, y].length ≤ 1000 ∧ ∀ a, H1 a = none → sp_btx C (.ref a :: ([x, y] ++ [])) (upd H1 a (exo a C none)) (fun v H2 => v = .non ∧ ∃ (d : Addr) (fs : List (Str × V)), H2 a = some (exo a C (some d)) ∧ H2 d = some (exd d fs) ∧ H1 d = none ∧ Q (.ref C) (some d) (upd (del H2 a) d (.xd fs))) (fun _ _ _ => False) := by
  refine ⟨by show 2 ≤ 1000; decide, fun a ha => ⟨a, x, y, rfl, upd_same, fun dx n ne => ?_⟩⟩
  have hd : H1 dx = none := by rw [upd_ne ne] at n; exact n
  refine ⟨rfl, dx, btF x y, by rw [upd_ne ne.symm]; exact upd_same, upd_same, hd, q _ dx (fun b o e => ?_) hd upd_same⟩
  have b1 : b ≠ dx := ne_of_none e hd
  have b2 : b ≠ a := ne_of_none e ha
  rw [upd_ne b1, del_ne b2, upd_ne b1, upd_ne b2, upd_ne b1, upd_ne b2]
  exact e
end
end My

namespace My
open PySem L2 Mth LamX
abbrev s_law_error_of : Stmt := topS 65
theorem sc_law_error_of : FnScope ["_law_call", "e", "_law_kinds", "_law_names", "_law_name"] ["_law_call"] (defScope s_law_error_of) := ⟨rfl, rfl, rfl, by decide +kernel, rfl, by decide +kernel, by decide +kernel⟩
def eCls : List Str := ["InvalidSpot", "InvalidTurn", "InvalidTimes", "TooFew", "InvalidStroke", "OpenStroke", "InvalidReach", "OutOfReach", "TooMany", "InvalidSize", "InvalidBox", "Contradiction", "BadText", "BadRow", "UnknownName", "InvalidName", "InvalidCode", "UnknownArm", "NotFree", "InvalidOperation"]
def eNms : List Str := ["spot", "turn", "times", "few", "stroke", "open", "reach", "out", "many", "size", "box", "contra", "text", "row", "unknown", "name", "code", "arm", "free", "operation"]
/-- the errors at the places Is of the list, none with a value of its own -/
structure Errs (K : PySem.W.Frag) (mg : Str → Option Value) (CB : Addr) (Cs : Nat → Addr) (Is : List Nat) : Prop where
  mg : ∀ j x, eCls[j]? = some x → mg x = some (.ref (Cs j))
  ec : ∀ n, n ∈ Is → ExcC K (Cs n)
  kit : ∀ n j, n ∈ Is → j < 20 → PySem.W.kitOne K (.ref (Cs n)) (.ref (Cs j)) = some (decide (j = n))
  val : ∀ n, n ∈ Is → PySem.W.kitOne K (.ref (Cs n)) (.type "ValueError") = some true
  exm : ∀ n, n ∈ Is → PySem.W.exmOne K (.ref (Cs n)) (.ref CB) = some true
  pln : ∀ n, n ∈ Is → n ∈ [0, 1, 2, 3, 5, 6, 8, 9, 10, 11, 14, 15, 17, 18]
abbrev errSuite : List Stmt := match defBody s_law_error_of with
  | .Try _ [.ExceptHandler _ _ b _] _ _ _ :: _ => b
  | _ => []
theorem kinds_step {a : Addr} {bs cs : List Bool} {l : Addr} {H : Hp} {D : Ends} {x0 x3 x4 : Option V} (h : H l = some (.lst (cs.map V.bl))) (hn : cs.length + bs.length ≤ 20)
    (k : ∀ H2 p, Same H H2 → H2 p = some (.lst ((cs ++ bs).map V.bl)) → D.nx [x0, some (.ref a), some (.ref p), x3, x4] H2) :
    tAsg (tOp rCat (tVar 2) (tLst (tIs a 1 bs))) (gName 2) D [x0, some (.ref a), some (.ref l), x3, x4] H := by
  refine ⟨_, rfl, rfl, ?_, fun l2 hl2 => ?_⟩
  · exact small (by rw [List.length_map]; omega)
  have s2 := same_new hl2 (.lst (bs.map V.bl))
  refine ⟨l, l2, _, _, rfl, rfl, s2 _ _ h, upd_same, small (by rw [List.length_map, List.length_map]; omega), fun p hp => ?_⟩
  refine k _ p (s2.trans (same_new hp _)) ?_
  rw [List.map_append]
  exact upd_same
def tw (n : Nat) : List Bool := (List.range 20).map fun j => decide (j = n)
theorem tw_flat (n : Nat) : ((tw n).map V.bl).all flatV = true := by
  rw [List.all_eq_true]
  intro x hx
  obtain ⟨b, _, rfl⟩ := List.mem_map.mp hx
  rfl
theorem tw_count : ∀ n, n ∈ [0, 1, 2, 3, 5, 6, 8, 9, 10, 11, 14, 15, 17, 18] → ((tw n).map V.bl).countP (fun z => eqV z (.bl true)) = 1 := by decide +kernel
theorem tw_at : ∀ n, n ∈ [0, 1, 2, 3, 5, 6, 8, 9, 10, 11, 14, 15, 17, 18] → ((tw n).map V.bl)[n]? = some (.bl true) := by
  decide +kernel
theorem nm_at : ∀ n, n ∈ [0, 1, 2, 3, 5, 6, 8, 9, 10, 11, 14, 15, 17, 18] → atI (eNms.map V.str) ((n : Nat) : Int) = some (.str (eNms.getD n Str.empty)) := by
  decide +kernel
theorem nm_ne : ∀ n, n ∈ [0, 1, 2, 3, 5, 6, 8, 9, 10, 11, 14, 15, 17, 18] → ∀ x : Str, x ∈ [("stroke" : Str), "out", "text", "row"] → ¬ decide (V.str (eNms.getD n Str.empty) = V.str x) = true := by
  decide +kernel
theorem nm_in : ∀ n, n ∈ [0, 1, 2, 3, 5, 6, 8, 9, 10, 11, 14, 15, 17, 18] → ¬ (if false = true then !inV (V.str (eNms.getD n Str.empty)) [V.str "code", V.str "operation"] else inV (V.str (eNms.getD n Str.empty)) [V.str "code", V.str "operation"]) = true := by
  decide +kernel
theorem tw_no {n m : Nat} {z : V} (h : m < n) (hz : ((tw n).map V.bl)[m]? = some z) : eqV z (.bl true) = false := by
  unfold tw at hz
  rw [List.map_map, List.getElem?_map] at hz
  obtain ⟨w', h1, h2⟩ := Option.map_eq_some_iff.mp hz
  have h3 : w' = m := by
    obtain ⟨h4, h5⟩ := List.getElem?_eq_some_iff.mp h1
    rw [List.getElem_range] at h5
    exact h5.symm
  subst h3
  rw [← h2]
  show (decide (w' = n) == true) = false
  rw [decide_eq_false (by omega)]
  rfl
section
variable {X : Cx} {CB : Addr} {Cs : Nat → Addr} {Is : List Nat}
abbrev ZC (X : Cx) (g : Addr) (cdg : Value) (s : Shared) (H : Hp) : Cx := (cxOf C8.CX0 X.prog X.w X.K X.mg X.base ["_law_call", "e", "_law_kinds", "_law_names", "_law_name"] "_law_error_of" (defScope s_law_error_of) g cdg X.A X.stack s H C8.E0).nox
theorem err_suite {a g : Addr} {cdg : Value} {s : Shared} {H0 : Hp} {oe : Obj} {pn : List (Addr × Obj)} {n : Nat} (b_isinstance : X.mg "isinstance" = none) (b_ValueError : X.mg "ValueError" = none) (ER : Errs X.K X.mg CB Cs Is) (hn : n ∈ Is) (hz : Zc (.ref (Cs n)) none oe) (hf : ∃ vs, oe.data = .fields vs) :
    ∃ t, PSs ((ZC X g cdg s H0).suite a ((a, oe) :: pn)) errSuite t ∧ ∀ (D : Ends) (σ : L2.St) (H : Hp), σ.length = 5 → σ[1]? = some (some (.ref a)) → (∀ H' p, Same H H' → H' p = some (.tup [.str (eNms.getD n Str.empty), .int 0]) → D.rt (.ref p) H') → t D σ H := by
  have EC := ER.ec n hn
  refine ⟨_, (pss_cons (ps_set (i := 2) sc_law_error_of.nd rfl (by first | exact Or.inl rfl | exact Or.inr rfl) (pe_lst (paIs (C := Cs 0) (n := "e") (i := 1) EC hz hf (ER.kit n 0 hn (by decide)) (ER.mg 0 "InvalidSpot" rfl) b_isinstance (by rfl) (by rfl) (by decide) (by rfl) (Or.inl (by rfl)) (by decide) (by decide) (paIs (C := Cs 1) (n := "e") (i := 1) EC hz hf (ER.kit n 1 hn (by decide)) (ER.mg 1 "InvalidTurn" rfl) b_isinstance (by rfl) (by rfl) (by decide) (by rfl) (Or.inl (by rfl)) (by decide) (by decide) (paIs (C := Cs 2) (n := "e") (i := 1) EC hz hf (ER.kit n 2 hn (by decide)) (ER.mg 2 "InvalidTimes" rfl) b_isinstance (by rfl) (by rfl) (by decide) (by rfl) (Or.inl (by rfl)) (by decide) (by decide) paIs0)))))
    (pss_cons (ps_set (i := 2) sc_law_error_of.nd rfl (by first | exact Or.inl rfl | exact Or.inr rfl) (pe_op op_cat (pv 2) (pe_lst (paIs (C := Cs 3) (n := "e") (i := 1) EC hz hf (ER.kit n 3 hn (by decide)) (ER.mg 3 "TooFew" rfl) b_isinstance (by rfl) (by rfl) (by decide) (by rfl) (Or.inl (by rfl)) (by decide) (by decide) (paIs (C := Cs 4) (n := "e") (i := 1) EC hz hf (ER.kit n 4 hn (by decide)) (ER.mg 4 "InvalidStroke" rfl) b_isinstance (by rfl) (by rfl) (by decide) (by rfl) (Or.inl (by rfl)) (by decide) (by decide) (paIs (C := Cs 5) (n := "e") (i := 1) EC hz hf (ER.kit n 5 hn (by decide)) (ER.mg 5 "OpenStroke" rfl) b_isinstance (by rfl) (by rfl) (by decide) (by rfl) (Or.inl (by rfl)) (by decide) (by decide) paIs0))))))
    (pss_cons (ps_set (i := 2) sc_law_error_of.nd rfl (by first | exact Or.inl rfl | exact Or.inr rfl) (pe_op op_cat (pv 2) (pe_lst (paIs (C := Cs 6) (n := "e") (i := 1) EC hz hf (ER.kit n 6 hn (by decide)) (ER.mg 6 "InvalidReach" rfl) b_isinstance (by rfl) (by rfl) (by decide) (by rfl) (Or.inl (by rfl)) (by decide) (by decide) (paIs (C := Cs 7) (n := "e") (i := 1) EC hz hf (ER.kit n 7 hn (by decide)) (ER.mg 7 "OutOfReach" rfl) b_isinstance (by rfl) (by rfl) (by decide) (by rfl) (Or.inl (by rfl)) (by decide) (by decide) (paIs (C := Cs 8) (n := "e") (i := 1) EC hz hf (ER.kit n 8 hn (by decide)) (ER.mg 8 "TooMany" rfl) b_isinstance (by rfl) (by rfl) (by decide) (by rfl) (Or.inl (by rfl)) (by decide) (by decide) paIs0))))))
    (pss_cons (ps_set (i := 2) sc_law_error_of.nd rfl (by first | exact Or.inl rfl | exact Or.inr rfl) (pe_op op_cat (pv 2) (pe_lst (paIs (C := Cs 9) (n := "e") (i := 1) EC hz hf (ER.kit n 9 hn (by decide)) (ER.mg 9 "InvalidSize" rfl) b_isinstance (by rfl) (by rfl) (by decide) (by rfl) (Or.inl (by rfl)) (by decide) (by decide) (paIs (C := Cs 10) (n := "e") (i := 1) EC hz hf (ER.kit n 10 hn (by decide)) (ER.mg 10 "InvalidBox" rfl) b_isinstance (by rfl) (by rfl) (by decide) (by rfl) (Or.inl (by rfl)) (by decide) (by decide) (paIs (C := Cs 11) (n := "e") (i := 1) EC hz hf (ER.kit n 11 hn (by decide)) (ER.mg 11 "Contradiction" rfl) b_isinstance (by rfl) (by rfl) (by decide) (by rfl) (Or.inl (by rfl)) (by decide) (by decide) paIs0))))))
    (pss_cons (ps_set (i := 2) sc_law_error_of.nd rfl (by first | exact Or.inl rfl | exact Or.inr rfl) (pe_op op_cat (pv 2) (pe_lst (paIs (C := Cs 12) (n := "e") (i := 1) EC hz hf (ER.kit n 12 hn (by decide)) (ER.mg 12 "BadText" rfl) b_isinstance (by rfl) (by rfl) (by decide) (by rfl) (Or.inl (by rfl)) (by decide) (by decide) (paIs (C := Cs 13) (n := "e") (i := 1) EC hz hf (ER.kit n 13 hn (by decide)) (ER.mg 13 "BadRow" rfl) b_isinstance (by rfl) (by rfl) (by decide) (by rfl) (Or.inl (by rfl)) (by decide) (by decide) (paIs (C := Cs 14) (n := "e") (i := 1) EC hz hf (ER.kit n 14 hn (by decide)) (ER.mg 14 "UnknownName" rfl) b_isinstance (by rfl) (by rfl) (by decide) (by rfl) (Or.inl (by rfl)) (by decide) (by decide) paIs0))))))
    (pss_cons (ps_set (i := 2) sc_law_error_of.nd rfl (by first | exact Or.inl rfl | exact Or.inr rfl) (pe_op op_cat (pv 2) (pe_lst (paIs (C := Cs 15) (n := "e") (i := 1) EC hz hf (ER.kit n 15 hn (by decide)) (ER.mg 15 "InvalidName" rfl) b_isinstance (by rfl) (by rfl) (by decide) (by rfl) (Or.inl (by rfl)) (by decide) (by decide) (paIs (C := Cs 16) (n := "e") (i := 1) EC hz hf (ER.kit n 16 hn (by decide)) (ER.mg 16 "InvalidCode" rfl) b_isinstance (by rfl) (by rfl) (by decide) (by rfl) (Or.inl (by rfl)) (by decide) (by decide) (paIs (C := Cs 17) (n := "e") (i := 1) EC hz hf (ER.kit n 17 hn (by decide)) (ER.mg 17 "UnknownArm" rfl) b_isinstance (by rfl) (by rfl) (by decide) (by rfl) (Or.inl (by rfl)) (by decide) (by decide) paIs0))))))
    (pss_cons (ps_set (i := 2) sc_law_error_of.nd rfl (by first | exact Or.inl rfl | exact Or.inr rfl) (pe_op op_cat (pv 2) (pe_lst (paIs (C := Cs 18) (n := "e") (i := 1) EC hz hf (ER.kit n 18 hn (by decide)) (ER.mg 18 "NotFree" rfl) b_isinstance (by rfl) (by rfl) (by decide) (by rfl) (Or.inl (by rfl)) (by decide) (by decide) (paIs (C := Cs 19) (n := "e") (i := 1) EC hz hf (ER.kit n 19 hn (by decide)) (ER.mg 19 "InvalidOperation" rfl) b_isinstance (by rfl) (by rfl) (by decide) (by rfl) (Or.inl (by rfl)) (by decide) (by decide) paIs0)))))
    (pss_cons (ps_if (PW.pt (pw_or (pt_cmpR (op_ne) (pe_bm PySem.F.plainAttrs_list PySem.F.slot_list_count PySem.F.type_list_count mt_count (pv 2) (pa_cons pe_bl pa_nil)) pe_int (nomark _)) (pw_or1 (pt_not (pt_val (pe_callB (call_isE (X := ZC X g cdg s H0) EC hz hf) (by rfl) b_isinstance (by decide +kernel) (pa_cons (pv 1) (pa_cons (pe_bltn (v := .ty "ValueError") (by rfl) b_ValueError (by decide +kernel) rfl) pa_nil)))))))) (pss_one (ps_ret (pe_tup (pa_cons pe_str (pa_cons pe_int pa_nil))))) pss_nil)
    (pss_cons (ps_set (i := 3) sc_law_error_of.nd rfl (by first | exact Or.inl rfl | exact Or.inr rfl) (pe_lst (pa_cons pe_str (pa_cons pe_str (pa_cons pe_str (pa_cons pe_str (pa_cons pe_str (pa_cons pe_str (pa_cons pe_str (pa_cons pe_str (pa_cons pe_str (pa_cons pe_str (pa_cons pe_str (pa_cons pe_str pa_nil))))))))))))))
    (pss_cons (ps_set (i := 3) sc_law_error_of.nd rfl (by first | exact Or.inl rfl | exact Or.inr rfl) (pe_op op_cat (pv 3) (pe_lst (pa_cons pe_str (pa_cons pe_str (pa_cons pe_str (pa_cons pe_str (pa_cons pe_str (pa_cons pe_str (pa_cons pe_str (pa_cons pe_str pa_nil)))))))))))
    (pss_cons (ps_set (i := 4) sc_law_error_of.nd rfl (by first | exact Or.inl rfl | exact Or.inr rfl) (pe_ix (r := rIxL X.K) ix_list (pv 3) (pe_bm PySem.F.plainAttrs_list PySem.F.slot_list_index PySem.F.type_list_index mt_index (pv 2) (pa_cons pe_bl pa_nil)) (fun _ _ => rfl)))
    (pss_cons (ps_if (pt_cmpR (op_eq) (pv 4) pe_str (nomark _)) (pss_one (ps_never)) pss_nil)
    (pss_cons (ps_if (pt_cmpR (op_eq) (pv 4) pe_str (nomark _)) (pss_one (ps_never)) pss_nil)
    (pss_cons (ps_if (pt_cmpR (op_eq) (pv 4) pe_str (nomark _)) (pss_one (ps_never)) pss_nil)
    (pss_cons (ps_if (pt_cmpR (op_eq) (pv 4) pe_str (nomark _)) (pss_one (ps_never)) pss_nil)
    (pss_one (ps_ret (pe_tup (pa_cons (pv 4) (pa_cons (pe_ifExp (pt_cmpR (op_in_seq) (pv 4) (pe_lst (pa_cons pe_str (pa_cons pe_str pa_nil))) (by rfl)) (pe_nev) pe_int) pa_nil)))))))))))))))))))), ?_⟩
  intro D σ H hl h1 q
  obtain ⟨x0, x2, x3, x4, rfl⟩ : ∃ x0 x2 x3 x4, σ = [x0, some (.ref a), x2, x3, x4] := by
    match σ, hl, h1 with
    | [y0, y1, y2, y3, y4], _, h => exact ⟨y0, y2, y3, y4, by rw [show y1 = some (.ref a) from Option.some.inj h]⟩
  have pl := ER.pln n hn
  refine ⟨rfl, (by show 3 ≤ sizeLine; decide), fun l1 hl1 => gn_of ?_⟩
  have s1 := same_new hl1 (.lst ([decide (0 = n), decide (1 = n), decide (2 = n)].map V.bl))
  refine kinds_step upd_same (by show 6 ≤ 20; decide) fun H2 p2 s2 k2 => ?_
  refine kinds_step k2 (by show 9 ≤ 20; decide) fun H3 p3 s3 k3 => ?_
  refine kinds_step k3 (by show 12 ≤ 20; decide) fun H4 p4 s4 k4 => ?_
  refine kinds_step k4 (by show 15 ≤ 20; decide) fun H5 p5 s5 k5 => ?_
  refine kinds_step k5 (by show 18 ≤ 20; decide) fun H6 p6 s6 k6 => ?_
  refine kinds_step k6 (by show 20 ≤ 20; decide) fun H7 p7 s7 k7 => ?_
  have sx := s1.trans (s2.trans (s3.trans (s4.trans (s5.trans (s6.trans s7)))))
  have k8 : H7 p7 = some (.lst ((tw n).map V.bl)) := k7
  clear k7 k6 k5 k4 k3 k2
  have sq : SqL X.K H7 p7 ((tw n).map V.bl) := .inl (.inl k8)
  refine ⟨_, rfl, .inl ⟨rfl, _, sq⟩, p7, _, _, rfl, rfl, sq, rfl, tw_flat n, ?_⟩
  rw [tw_count n pl]
  refine ⟨rfl, _, rfl, ?_⟩
  refine (if_neg (by decide)).mpr ?_
  refine ⟨_, rfl, .ty "ValueError", .type "ValueError", true, rfl, fun u r => r, ER.val n hn, true, rfl, ?_⟩
  refine iteF ?_
  refine ⟨(by show 12 ≤ sizeLine; decide), fun l9 hl9 => gn_of ?_⟩
  have s9 := same_new hl9 (.lst ((eNms.take 12).map V.str))
  refine ⟨_, rfl, (by show 8 ≤ sizeLine; decide), fun l10 hl10 => ?_⟩
  have s10 := same_new hl10 (.lst ((eNms.drop 12).map V.str))
  refine ⟨l9, l10, _, _, rfl, rfl, s10 _ _ upd_same, upd_same, (by show 20 ≤ sizeLine; decide), fun l11 hl11 => gn_of ?_⟩
  have s11 := same_new hl11 (.lst (eNms.map V.str))
  have k11 := s11 _ _ (s10 _ _ (s9 _ _ k8))
  have s7x := s9.trans (s10.trans s11)
  have kn : upd (upd (upd H7 l9 (.lst ((eNms.take 12).map V.str))) l10 (.lst ((eNms.drop 12).map V.str))) l11 (.lst (eNms.map V.str)) l11 = some (.lst (eNms.map V.str)) := upd_same
  refine ⟨_, rfl, _, rfl, .inl ⟨rfl, _, .inl (.inl k11)⟩, p7, _, _, n, .bl true, rfl, rfl, .inl (.inl k11), rfl, tw_flat n, tw_at n pl, rfl, fun m z hm hz => tw_no hm hz, l11, _, _, _, rfl, rfl, .inl (.inl upd_same), nm_at n pl, gn_of ?_⟩
  refine ⟨_, rfl, rfl, _, rfl, (if_neg (nm_ne n pl _ (.head _))).mpr ?_⟩
  refine ⟨_, rfl, rfl, _, rfl, (if_neg (nm_ne n pl _ (.tail _ (.head _)))).mpr ?_⟩
  refine ⟨_, rfl, rfl, _, rfl, (if_neg (nm_ne n pl _ (.tail _ (.tail _ (.head _))))).mpr ?_⟩
  refine ⟨_, rfl, rfl, _, rfl, (if_neg (nm_ne n pl _ (.tail _ (.tail _ (.tail _ (.head _)))))).mpr ?_⟩
  refine ⟨_, rfl, _, rfl, (by show 2 ≤ sizeLine; decide), fun l12 hl12 => ?_⟩
  have s12 := same_new hl12 (.lst [V.str "code", V.str "operation"])
  refine ⟨l12, _, rfl, .inl (.inl (.inl upd_same)), rfl, rfl, _, rfl, (if_neg (nm_in n pl)).mpr ?_⟩
  refine ⟨(by show 2 ≤ sizeLine; decide), fun p13 hp13 => ?_⟩
  exact q _ _ (sx.trans (s7x.trans (s12.trans (same_new hp13 _)))) upd_same
/-- what is made of the lambda's reading: nothing for a call that ends, the error's name otherwise -/
def TErr (Cs : Nat → Addr) (Is : List Nat) : (XK → Hp → VK → Prop) → Hp → VK → Prop := fun tl H Q =>
  tl (fun cls d H' => ∃ n, n ∈ Is ∧ cls = .ref (Cs n) ∧ d = none ∧ ∀ H'' p, Same H' H'' → H'' p = some (.tup [.str (eNms.getD n Str.empty), .int 0]) → Q (.ref p) H'') H (fun _ H' => Q .non H')
theorem err_gives {g : Addr} {cdg : Value} {q : Str} (b_isinstance : X.mg "isinstance" = none) (b_ValueError : X.mg "ValueError" = none) (m_B : X.mg "CopyError" = some (.ref CB)) (ER : Errs X.K X.mg CB Cs Is) :
    GivesTo X ["_law_call", "e", "_law_kinds", "_law_names", "_law_name"] "_law_error_of" (defScope s_law_error_of) g cdg (defBody s_law_error_of) "_law_call" q (TErr Cs Is) := by
  intro f c' s H Q tl act hc h
  refine ⟨_, pss_cons (ps_try_as (X := ZC X g cdg s H) (n := "e") (i := 1) (c := .ref CB)
      (tb := fun W D σ H => ∃ Ech : XK, (∀ cls d σ' H', Ech cls d H' → W cls d σ' H') ∧ σ[0]? = some (some (.ref f)) ∧ H c' = some (CodeO c' q) ∧ tl Ech H (fun _ H1 => D.nx σ H1))
      (ts := fun a cls d D σ H => σ.length = 5 → ∃ n, n ∈ Is ∧ cls = .ref (Cs n) ∧ d = none ∧ σ[1]? = some (some (.ref a)) ∧ ∀ H'' p, Same H H'' → H'' p = some (.tup [.str (eNms.getD n Str.empty), .int 0]) → D.rt (.ref p) H'')
      rfl rfl sc_law_error_of.nd (by rfl) (by rfl) ⟨by rfl, by decide, .inl m_B⟩ LamX.takes0 (fun W pn xe tk _ => ?_) (fun a oe cls d pn hz hf => ?_)) (pss_one (ps_ret pe_non)), ?_⟩
  · refine ⟨fun pins s' σ H' D I h' => ?_⟩
    obtain ⟨Ech, hW, h1, h2, h3⟩ := h'
    exact PSs.run (pss_one (ps_expr (act W pn xe Ech _ _ tk hW) (by rfl))) pins s' σ H' D I ⟨h1, h2, h3⟩
  · refine ⟨fun pins s' σ H' D I h' => ?_⟩
    obtain ⟨n, hn, rfl, rfl, h1, h2⟩ := h' I.len
    obtain ⟨t, ht, hq⟩ := err_suite (X := X) (g := g) (cdg := cdg) (s := s) (H0 := H) (a := a) (pn := pn) b_isinstance b_ValueError ER hn hz hf
    exact ht.run pins s' σ H' D I (hq D σ H' I.len h1 h2)
  · refine ⟨_, ?_, rfl, hc, h⟩
    rintro cls d σ' H' ⟨n, hn, rfl, rfl, h2⟩
    refine ⟨true, ER.exm n hn, fun _ a _ hl => ⟨n, hn, rfl, rfl, ?_, h2⟩, fun z => by cases z⟩
    rw [List.length_set] at hl
    rw [List.getElem?_set_self (by omega)]
end
end My

namespace My
open PySem L2 Mth LamX

/-- InvalidStroke as a caught error, its own value -/
structure ErrV (K : PySem.W.Frag) (mg : Str → Option Value) (CB : Addr) (Cs : Nat → Addr) : Prop where
  mg : ∀ j x, eCls[j]? = some x → mg x = some (.ref (Cs j))
  ec : ExcC K (Cs 4)
  kit : ∀ j, j < 20 → PySem.W.kitOne K (.ref (Cs 4)) (.ref (Cs j)) = some (decide (j = 4))
  val : PySem.W.kitOne K (.ref (Cs 4)) (.type "ValueError") = some true
  exm : PySem.W.exmOne K (.ref (Cs 4)) (.ref CB) = some true
  xf : XfC K (Cs 4)
  no : PySem.W.findIn K (.ref (Cs 4)) "index" = some none
theorem kinds_stepV {a dd : Addr} {bs cs : List Bool} {l : Addr} {H : Hp} {D : Ends} {x0 x3 x4 : Option V} {fs : List (Str × V)} (hx : H dd = some (.xd fs)) (h : H l = some (.lst (cs.map V.bl))) (hn : cs.length + bs.length ≤ 20)
    (k : ∀ H2 p, Same H H2 → H2 p = some (.lst ((cs ++ bs).map V.bl)) → D.nx [x0, some (.ref a), some (.ref p), x3, x4] H2) :
    tAsg (tOp rCat (tVar 2) (tLst (tIsV a dd 1 bs))) (gName 2) D [x0, some (.ref a), some (.ref l), x3, x4] H := by
  refine ⟨_, rfl, rfl, ⟨fs, hx⟩, ?_, fun l2 hl2 => ?_⟩
  · exact small (by rw [List.length_map]; omega)
  have s2 := same_new hl2 (.lst (bs.map V.bl))
  refine ⟨l, l2, _, _, rfl, rfl, s2 _ _ h, upd_same, small (by rw [List.length_map, List.length_map]; omega), fun p hp => ?_⟩
  refine k _ p (s2.trans (same_new hp _)) ?_
  rw [List.map_append]
  exact upd_same
theorem tw4_count : ((tw 4).map V.bl).countP (fun z => eqV z (.bl true)) = 1 := by decide +kernel
theorem tw4_at : ((tw 4).map V.bl)[4]? = some (.bl true) := by decide +kernel
theorem nm4_at : atI (eNms.map V.str) ((4 : Nat) : Int) = some (.str "stroke") := by decide +kernel
section
variable {X : Cx} {CB : Addr} {Cs : Nat → Addr}
theorem err_suiteV {a g dd : Addr} {cdg : Value} {s : Shared} {H0 : Hp} {oe : Obj} {pn : List (Addr × Obj)} (b_isinstance : X.mg "isinstance" = none) (b_ValueError : X.mg "ValueError" = none) (EV : ErrV X.K X.mg CB Cs) (hz : Zc (.ref (Cs 4)) (some dd) oe) (hf : ∃ vs, oe.data = .fields vs) :
    ∃ t, PSs ((ZC X g cdg s H0).suite a ((a, oe) :: pn)) errSuite t ∧ ∀ (D : Ends) (σ : L2.St) (H : Hp) (i : Int), σ.length = 5 → σ[1]? = some (some (.ref a)) → H dd = some (.xd [("index", .int i)]) → (∀ H' p, Same H H' → H' p = some (.tup [.str "stroke", .int i]) → D.rt (.ref p) H') → t D σ H := by
  have EC := EV.ec
  refine ⟨_, (pss_cons (ps_set (i := 2) sc_law_error_of.nd rfl (by first | exact Or.inl rfl | exact Or.inr rfl) (pe_lst (paIsV (C := Cs 0) (n := "e") (i := 1) EC hz hf (EV.kit 0 (by decide)) (EV.mg 0 "InvalidSpot" rfl) b_isinstance (by rfl) (by rfl) (by decide) (by rfl) (Or.inl (by rfl)) (by decide) (by decide) (paIsV (C := Cs 1) (n := "e") (i := 1) EC hz hf (EV.kit 1 (by decide)) (EV.mg 1 "InvalidTurn" rfl) b_isinstance (by rfl) (by rfl) (by decide) (by rfl) (Or.inl (by rfl)) (by decide) (by decide) (paIsV (C := Cs 2) (n := "e") (i := 1) EC hz hf (EV.kit 2 (by decide)) (EV.mg 2 "InvalidTimes" rfl) b_isinstance (by rfl) (by rfl) (by decide) (by rfl) (Or.inl (by rfl)) (by decide) (by decide) paIsV0)))))
    (pss_cons (ps_set (i := 2) sc_law_error_of.nd rfl (by first | exact Or.inl rfl | exact Or.inr rfl) (pe_op op_cat (pv 2) (pe_lst (paIsV (C := Cs 3) (n := "e") (i := 1) EC hz hf (EV.kit 3 (by decide)) (EV.mg 3 "TooFew" rfl) b_isinstance (by rfl) (by rfl) (by decide) (by rfl) (Or.inl (by rfl)) (by decide) (by decide) (paIsV (C := Cs 4) (n := "e") (i := 1) EC hz hf (EV.kit 4 (by decide)) (EV.mg 4 "InvalidStroke" rfl) b_isinstance (by rfl) (by rfl) (by decide) (by rfl) (Or.inl (by rfl)) (by decide) (by decide) (paIsV (C := Cs 5) (n := "e") (i := 1) EC hz hf (EV.kit 5 (by decide)) (EV.mg 5 "OpenStroke" rfl) b_isinstance (by rfl) (by rfl) (by decide) (by rfl) (Or.inl (by rfl)) (by decide) (by decide) paIsV0))))))
    (pss_cons (ps_set (i := 2) sc_law_error_of.nd rfl (by first | exact Or.inl rfl | exact Or.inr rfl) (pe_op op_cat (pv 2) (pe_lst (paIsV (C := Cs 6) (n := "e") (i := 1) EC hz hf (EV.kit 6 (by decide)) (EV.mg 6 "InvalidReach" rfl) b_isinstance (by rfl) (by rfl) (by decide) (by rfl) (Or.inl (by rfl)) (by decide) (by decide) (paIsV (C := Cs 7) (n := "e") (i := 1) EC hz hf (EV.kit 7 (by decide)) (EV.mg 7 "OutOfReach" rfl) b_isinstance (by rfl) (by rfl) (by decide) (by rfl) (Or.inl (by rfl)) (by decide) (by decide) (paIsV (C := Cs 8) (n := "e") (i := 1) EC hz hf (EV.kit 8 (by decide)) (EV.mg 8 "TooMany" rfl) b_isinstance (by rfl) (by rfl) (by decide) (by rfl) (Or.inl (by rfl)) (by decide) (by decide) paIsV0))))))
    (pss_cons (ps_set (i := 2) sc_law_error_of.nd rfl (by first | exact Or.inl rfl | exact Or.inr rfl) (pe_op op_cat (pv 2) (pe_lst (paIsV (C := Cs 9) (n := "e") (i := 1) EC hz hf (EV.kit 9 (by decide)) (EV.mg 9 "InvalidSize" rfl) b_isinstance (by rfl) (by rfl) (by decide) (by rfl) (Or.inl (by rfl)) (by decide) (by decide) (paIsV (C := Cs 10) (n := "e") (i := 1) EC hz hf (EV.kit 10 (by decide)) (EV.mg 10 "InvalidBox" rfl) b_isinstance (by rfl) (by rfl) (by decide) (by rfl) (Or.inl (by rfl)) (by decide) (by decide) (paIsV (C := Cs 11) (n := "e") (i := 1) EC hz hf (EV.kit 11 (by decide)) (EV.mg 11 "Contradiction" rfl) b_isinstance (by rfl) (by rfl) (by decide) (by rfl) (Or.inl (by rfl)) (by decide) (by decide) paIsV0))))))
    (pss_cons (ps_set (i := 2) sc_law_error_of.nd rfl (by first | exact Or.inl rfl | exact Or.inr rfl) (pe_op op_cat (pv 2) (pe_lst (paIsV (C := Cs 12) (n := "e") (i := 1) EC hz hf (EV.kit 12 (by decide)) (EV.mg 12 "BadText" rfl) b_isinstance (by rfl) (by rfl) (by decide) (by rfl) (Or.inl (by rfl)) (by decide) (by decide) (paIsV (C := Cs 13) (n := "e") (i := 1) EC hz hf (EV.kit 13 (by decide)) (EV.mg 13 "BadRow" rfl) b_isinstance (by rfl) (by rfl) (by decide) (by rfl) (Or.inl (by rfl)) (by decide) (by decide) (paIsV (C := Cs 14) (n := "e") (i := 1) EC hz hf (EV.kit 14 (by decide)) (EV.mg 14 "UnknownName" rfl) b_isinstance (by rfl) (by rfl) (by decide) (by rfl) (Or.inl (by rfl)) (by decide) (by decide) paIsV0))))))
    (pss_cons (ps_set (i := 2) sc_law_error_of.nd rfl (by first | exact Or.inl rfl | exact Or.inr rfl) (pe_op op_cat (pv 2) (pe_lst (paIsV (C := Cs 15) (n := "e") (i := 1) EC hz hf (EV.kit 15 (by decide)) (EV.mg 15 "InvalidName" rfl) b_isinstance (by rfl) (by rfl) (by decide) (by rfl) (Or.inl (by rfl)) (by decide) (by decide) (paIsV (C := Cs 16) (n := "e") (i := 1) EC hz hf (EV.kit 16 (by decide)) (EV.mg 16 "InvalidCode" rfl) b_isinstance (by rfl) (by rfl) (by decide) (by rfl) (Or.inl (by rfl)) (by decide) (by decide) (paIsV (C := Cs 17) (n := "e") (i := 1) EC hz hf (EV.kit 17 (by decide)) (EV.mg 17 "UnknownArm" rfl) b_isinstance (by rfl) (by rfl) (by decide) (by rfl) (Or.inl (by rfl)) (by decide) (by decide) paIsV0))))))
    (pss_cons (ps_set (i := 2) sc_law_error_of.nd rfl (by first | exact Or.inl rfl | exact Or.inr rfl) (pe_op op_cat (pv 2) (pe_lst (paIsV (C := Cs 18) (n := "e") (i := 1) EC hz hf (EV.kit 18 (by decide)) (EV.mg 18 "NotFree" rfl) b_isinstance (by rfl) (by rfl) (by decide) (by rfl) (Or.inl (by rfl)) (by decide) (by decide) (paIsV (C := Cs 19) (n := "e") (i := 1) EC hz hf (EV.kit 19 (by decide)) (EV.mg 19 "InvalidOperation" rfl) b_isinstance (by rfl) (by rfl) (by decide) (by rfl) (Or.inl (by rfl)) (by decide) (by decide) paIsV0)))))
    (pss_cons (ps_if (PW.pt (pw_or (pt_cmpR (op_ne) (pe_bm PySem.F.plainAttrs_list PySem.F.slot_list_count PySem.F.type_list_count mt_count (pv 2) (pa_cons pe_bl pa_nil)) pe_int (nomark _)) (pw_or1 (pt_not (pt_val (pe_callB (call_isV (X := ZC X g cdg s H0) EC hz hf) (by rfl) b_isinstance (by decide +kernel) (pa_cons (pv 1) (pa_cons (pe_bltn (v := .ty "ValueError") (by rfl) b_ValueError (by decide +kernel) rfl) pa_nil)))))))) (pss_one (ps_ret (pe_tup (pa_cons pe_str (pa_cons pe_int pa_nil))))) pss_nil)
    (pss_cons (ps_set (i := 3) sc_law_error_of.nd rfl (by first | exact Or.inl rfl | exact Or.inr rfl) (pe_lst (pa_cons pe_str (pa_cons pe_str (pa_cons pe_str (pa_cons pe_str (pa_cons pe_str (pa_cons pe_str (pa_cons pe_str (pa_cons pe_str (pa_cons pe_str (pa_cons pe_str (pa_cons pe_str (pa_cons pe_str pa_nil))))))))))))))
    (pss_cons (ps_set (i := 3) sc_law_error_of.nd rfl (by first | exact Or.inl rfl | exact Or.inr rfl) (pe_op op_cat (pv 3) (pe_lst (pa_cons pe_str (pa_cons pe_str (pa_cons pe_str (pa_cons pe_str (pa_cons pe_str (pa_cons pe_str (pa_cons pe_str (pa_cons pe_str pa_nil)))))))))))
    (pss_cons (ps_set (i := 4) sc_law_error_of.nd rfl (by first | exact Or.inl rfl | exact Or.inr rfl) (pe_ix (r := rIxL X.K) ix_list (pv 3) (pe_bm PySem.F.plainAttrs_list PySem.F.slot_list_index PySem.F.type_list_index mt_index (pv 2) (pa_cons pe_bl pa_nil)) (fun _ _ => rfl)))
    (pss_cons (ps_if (pt_cmpR (op_eq) (pv 4) pe_str (nomark _)) (pss_one (ps_ret (pe_tup (pa_cons (pv 4) (pa_cons (pe_xf (X := ZC X g cdg s H0) EV.xf EV.no hz hf (pv 1)) pa_nil))))) pss_nil)
    (pss_cons (ps_if (pt_cmpR (op_eq) (pv 4) pe_str (nomark _)) (pss_one (ps_never)) pss_nil)
    (pss_cons (ps_if (pt_cmpR (op_eq) (pv 4) pe_str (nomark _)) (pss_one (ps_never)) pss_nil)
    (pss_cons (ps_if (pt_cmpR (op_eq) (pv 4) pe_str (nomark _)) (pss_one (ps_never)) pss_nil)
    (pss_one (ps_ret (pe_tup (pa_cons (pv 4) (pa_cons (pe_ifExp (pt_cmpR (op_in_seq) (pv 4) (pe_lst (pa_cons pe_str (pa_cons pe_str pa_nil))) (by rfl)) (pe_nev) pe_int) pa_nil)))))))))))))))))))), ?_⟩
  intro D σ H i hl h1 hx q
  obtain ⟨x0, x2, x3, x4, rfl⟩ : ∃ x0 x2 x3 x4, σ = [x0, some (.ref a), x2, x3, x4] := by
    match σ, hl, h1 with
    | [y0, y1, y2, y3, y4], _, h => exact ⟨y0, y2, y3, y4, by rw [show y1 = some (.ref a) from Option.some.inj h]⟩
  refine ⟨rfl, ⟨_, hx⟩, (by show 3 ≤ sizeLine; decide), fun l1 hl1 => gn_of ?_⟩
  have s1 := same_new hl1 (.lst ([decide (0 = 4), decide (1 = 4), decide (2 = 4)].map V.bl))
  refine kinds_stepV (s1 _ _ hx) upd_same (by show 6 ≤ 20; decide) fun H2 p2 s2 k2 => ?_
  have x2 := s2 _ _ (s1 _ _ hx)
  refine kinds_stepV x2 k2 (by show 9 ≤ 20; decide) fun H3 p3 s3 k3 => ?_
  have x3 := s3 _ _ x2
  refine kinds_stepV x3 k3 (by show 12 ≤ 20; decide) fun H4 p4 s4 k4 => ?_
  have x4 := s4 _ _ x3
  refine kinds_stepV x4 k4 (by show 15 ≤ 20; decide) fun H5 p5 s5 k5 => ?_
  have x5 := s5 _ _ x4
  refine kinds_stepV x5 k5 (by show 18 ≤ 20; decide) fun H6 p6 s6 k6 => ?_
  have x6 := s6 _ _ x5
  refine kinds_stepV x6 k6 (by show 20 ≤ 20; decide) fun H7 p7 s7 k7 => ?_
  have x7 := s7 _ _ x6
  have sx := s1.trans (s2.trans (s3.trans (s4.trans (s5.trans (s6.trans s7)))))
  have k8 : H7 p7 = some (.lst ((tw 4).map V.bl)) := k7
  clear k7 k6 k5 k4 k3 k2
  have sq : SqL X.K H7 p7 ((tw 4).map V.bl) := .inl (.inl k8)
  refine ⟨_, rfl, .inl ⟨rfl, _, sq⟩, p7, _, _, rfl, rfl, sq, rfl, tw_flat 4, ?_⟩
  rw [tw4_count]
  refine ⟨rfl, _, rfl, ?_⟩
  refine (if_neg (by decide)).mpr ?_
  refine ⟨_, rfl, .ty "ValueError", .type "ValueError", true, _, rfl, x7, fun u r => r, EV.val, true, rfl, ?_⟩
  refine iteF ?_
  refine ⟨(by show 12 ≤ sizeLine; decide), fun l9 hl9 => gn_of ?_⟩
  have s9 := same_new hl9 (.lst ((eNms.take 12).map V.str))
  refine ⟨_, rfl, (by show 8 ≤ sizeLine; decide), fun l10 hl10 => ?_⟩
  have s10 := same_new hl10 (.lst ((eNms.drop 12).map V.str))
  refine ⟨l9, l10, _, _, rfl, rfl, s10 _ _ upd_same, upd_same, (by show 20 ≤ sizeLine; decide), fun l11 hl11 => gn_of ?_⟩
  have s11 := same_new hl11 (.lst (eNms.map V.str))
  have k11 := s11 _ _ (s10 _ _ (s9 _ _ k8))
  have s7x := s9.trans (s10.trans s11)
  have x11 := s7x _ _ x7
  refine ⟨_, rfl, _, rfl, .inl ⟨rfl, _, .inl (.inl k11)⟩, p7, _, _, 4, .bl true, rfl, rfl, .inl (.inl k11), rfl, tw_flat 4, tw4_at, rfl, fun m z hm hz => tw_no hm hz, l11, _, _, _, rfl, rfl, .inl (.inl upd_same), nm4_at, gn_of ?_⟩
  refine ⟨_, rfl, rfl, _, rfl, iteT ?_⟩
  refine ⟨_, rfl, _, rfl, rfl, rfl, dd, _, .int i, rfl, x11, rfl, (by show 2 ≤ sizeLine; decide), fun p13 hp13 => ?_⟩
  exact q _ _ (sx.trans (s7x.trans (same_new hp13 _))) upd_same
/-- what is made of the lambda's reading: nothing for a call that ends, the error's name otherwise, an InvalidStroke with its index -/
def TErrV (Cs : Nat → Addr) (Is : List Nat) : (XK → Hp → VK → Prop) → Hp → VK → Prop := fun tl H Q =>
  tl (fun cls d H' => (∃ n, n ∈ Is ∧ cls = .ref (Cs n) ∧ d = none ∧ ∀ H'' p, Same H' H'' → H'' p = some (.tup [.str (eNms.getD n Str.empty), .int 0]) → Q (.ref p) H'') ∨
    (∃ dd i, cls = .ref (Cs 4) ∧ d = some dd ∧ H' dd = some (.xd [("index", .int i)]) ∧ ∀ H'' p, Same H' H'' → H'' p = some (.tup [.str "stroke", .int i]) → Q (.ref p) H'')) H (fun _ H' => Q .non H')
theorem err_givesV {Is : List Nat} {g : Addr} {cdg : Value} {q : Str} (b_isinstance : X.mg "isinstance" = none) (b_ValueError : X.mg "ValueError" = none) (m_B : X.mg "CopyError" = some (.ref CB)) (ER : Errs X.K X.mg CB Cs Is) (EV : ErrV X.K X.mg CB Cs) :
    GivesTo X ["_law_call", "e", "_law_kinds", "_law_names", "_law_name"] "_law_error_of" (defScope s_law_error_of) g cdg (defBody s_law_error_of) "_law_call" q (TErrV Cs Is) := by
  intro f c' s H Q tl act hc h
  refine ⟨_, pss_cons (ps_try_as (X := ZC X g cdg s H) (n := "e") (i := 1) (c := .ref CB)
      (tb := fun W D σ H => ∃ Ech : XK, (∀ cls d σ' H', Ech cls d H' → W cls d σ' H') ∧ σ[0]? = some (some (.ref f)) ∧ H c' = some (CodeO c' q) ∧ tl Ech H (fun _ H1 => D.nx σ H1))
      (ts := fun a cls d D σ H => σ.length = 5 → ((∃ n, n ∈ Is ∧ cls = .ref (Cs n) ∧ d = none ∧ σ[1]? = some (some (.ref a)) ∧ ∀ H'' p, Same H H'' → H'' p = some (.tup [.str (eNms.getD n Str.empty), .int 0]) → D.rt (.ref p) H'') ∨
        (∃ dd i, cls = .ref (Cs 4) ∧ d = some dd ∧ σ[1]? = some (some (.ref a)) ∧ H dd = some (.xd [("index", .int i)]) ∧ ∀ H'' p, Same H H'' → H'' p = some (.tup [.str "stroke", .int i]) → D.rt (.ref p) H'')))
      rfl rfl sc_law_error_of.nd (by rfl) (by rfl) ⟨by rfl, by decide, .inl m_B⟩ LamX.takes0 (fun W pn xe tk _ => ?_) (fun a oe cls d pn hz hf => ?_)) (pss_one (ps_ret pe_non)), ?_⟩
  · refine ⟨fun pins s' σ H' D I h' => ?_⟩
    obtain ⟨Ech, hW, h1, h2, h3⟩ := h'
    exact PSs.run (pss_one (ps_expr (act W pn xe Ech _ _ tk hW) (by rfl))) pins s' σ H' D I ⟨h1, h2, h3⟩
  · refine ⟨fun pins s' σ H' D I h' => ?_⟩
    rcases h' I.len with ⟨n, hn, rfl, rfl, h1, h2⟩ | ⟨dd, i, rfl, rfl, h1, hx, h2⟩
    · obtain ⟨t, ht, hq⟩ := err_suite (X := X) (g := g) (cdg := cdg) (s := s) (H0 := H) (a := a) (pn := pn) b_isinstance b_ValueError ER hn hz hf
      exact ht.run pins s' σ H' D I (hq D σ H' I.len h1 h2)
    · obtain ⟨t, ht, hq⟩ := err_suiteV (X := X) (g := g) (cdg := cdg) (s := s) (H0 := H) (a := a) (pn := pn) b_isinstance b_ValueError EV hz hf
      exact ht.run pins s' σ H' D I (hq D σ H' i I.len h1 hx h2)
  · refine ⟨_, ?_, rfl, hc, h⟩
    rintro cls d σ' H' (⟨n, hn, rfl, rfl, h2⟩ | ⟨dd, i, rfl, rfl, hx, h2⟩)
    · refine ⟨true, ER.exm n hn, fun _ a _ hl => .inl ⟨n, hn, rfl, rfl, ?_, h2⟩, fun z => by cases z⟩
      rw [List.length_set] at hl
      rw [List.getElem?_set_self (by omega)]
    · refine ⟨true, EV.exm, fun _ a _ hl => .inr ⟨dd, i, rfl, rfl, ?_, hx, h2⟩, fun z => by cases z⟩
      rw [List.length_set] at hl
      rw [List.getElem?_set_self (by omega)]
end
end My

namespace My
open PySem L2 Mth LamX

/-- BadText as a caught error, its own values -/
structure ErrT (K : PySem.W.Frag) (mg : Str → Option Value) (CB : Addr) (Cs : Nat → Addr) : Prop where
  mg : ∀ j x, eCls[j]? = some x → mg x = some (.ref (Cs j))
  ec : ExcC K (Cs 12)
  kit : ∀ j, j < 20 → PySem.W.kitOne K (.ref (Cs 12)) (.ref (Cs j)) = some (decide (j = 12))
  val : PySem.W.kitOne K (.ref (Cs 12)) (.type "ValueError") = some true
  exm : PySem.W.exmOne K (.ref (Cs 12)) (.ref CB) = some true
  xf : XfC K (Cs 12)
  no : NoF2 K (Cs 12)
theorem tw12_count : ((tw 12).map V.bl).countP (fun z => eqV z (.bl true)) = 1 := by decide +kernel
theorem tw12_at : ((tw 12).map V.bl)[12]? = some (.bl true) := by decide +kernel
theorem nm12_at : atI (eNms.map V.str) ((12 : Nat) : Int) = some (.str "text") := by decide +kernel
section
variable {X : Cx} {CB : Addr} {Cs : Nat → Addr}
theorem err_suiteT {a g dd : Addr} {cdg : Value} {s : Shared} {H0 : Hp} {oe : Obj} {pn : List (Addr × Obj)} (b_isinstance : X.mg "isinstance" = none) (b_ValueError : X.mg "ValueError" = none) (EV : ErrT X.K X.mg CB Cs) (hz : Zc (.ref (Cs 12)) (some dd) oe) (hf : ∃ vs, oe.data = .fields vs) :
    ∃ t, PSs ((ZC X g cdg s H0).suite a ((a, oe) :: pn)) errSuite t ∧ ∀ (D : Ends) (σ : L2.St) (H : Hp) (i j : Int), σ.length = 5 → σ[1]? = some (some (.ref a)) → H dd = some (.xd (btF (.int i) (.int j))) → (∀ H' p m, Same H H' → H' p = some (.tup [.str "text", .ref m]) → H' m = some (.tup [.int i, .int j]) → D.rt (.ref p) H') → t D σ H := by
  have EC := EV.ec
  refine ⟨_, (pss_cons (ps_set (i := 2) sc_law_error_of.nd rfl (by first | exact Or.inl rfl | exact Or.inr rfl) (pe_lst (paIsV (C := Cs 0) (n := "e") (i := 1) EC hz hf (EV.kit 0 (by decide)) (EV.mg 0 "InvalidSpot" rfl) b_isinstance (by rfl) (by rfl) (by decide) (by rfl) (Or.inl (by rfl)) (by decide) (by decide) (paIsV (C := Cs 1) (n := "e") (i := 1) EC hz hf (EV.kit 1 (by decide)) (EV.mg 1 "InvalidTurn" rfl) b_isinstance (by rfl) (by rfl) (by decide) (by rfl) (Or.inl (by rfl)) (by decide) (by decide) (paIsV (C := Cs 2) (n := "e") (i := 1) EC hz hf (EV.kit 2 (by decide)) (EV.mg 2 "InvalidTimes" rfl) b_isinstance (by rfl) (by rfl) (by decide) (by rfl) (Or.inl (by rfl)) (by decide) (by decide) paIsV0)))))
    (pss_cons (ps_set (i := 2) sc_law_error_of.nd rfl (by first | exact Or.inl rfl | exact Or.inr rfl) (pe_op op_cat (pv 2) (pe_lst (paIsV (C := Cs 3) (n := "e") (i := 1) EC hz hf (EV.kit 3 (by decide)) (EV.mg 3 "TooFew" rfl) b_isinstance (by rfl) (by rfl) (by decide) (by rfl) (Or.inl (by rfl)) (by decide) (by decide) (paIsV (C := Cs 4) (n := "e") (i := 1) EC hz hf (EV.kit 4 (by decide)) (EV.mg 4 "InvalidStroke" rfl) b_isinstance (by rfl) (by rfl) (by decide) (by rfl) (Or.inl (by rfl)) (by decide) (by decide) (paIsV (C := Cs 5) (n := "e") (i := 1) EC hz hf (EV.kit 5 (by decide)) (EV.mg 5 "OpenStroke" rfl) b_isinstance (by rfl) (by rfl) (by decide) (by rfl) (Or.inl (by rfl)) (by decide) (by decide) paIsV0))))))
    (pss_cons (ps_set (i := 2) sc_law_error_of.nd rfl (by first | exact Or.inl rfl | exact Or.inr rfl) (pe_op op_cat (pv 2) (pe_lst (paIsV (C := Cs 6) (n := "e") (i := 1) EC hz hf (EV.kit 6 (by decide)) (EV.mg 6 "InvalidReach" rfl) b_isinstance (by rfl) (by rfl) (by decide) (by rfl) (Or.inl (by rfl)) (by decide) (by decide) (paIsV (C := Cs 7) (n := "e") (i := 1) EC hz hf (EV.kit 7 (by decide)) (EV.mg 7 "OutOfReach" rfl) b_isinstance (by rfl) (by rfl) (by decide) (by rfl) (Or.inl (by rfl)) (by decide) (by decide) (paIsV (C := Cs 8) (n := "e") (i := 1) EC hz hf (EV.kit 8 (by decide)) (EV.mg 8 "TooMany" rfl) b_isinstance (by rfl) (by rfl) (by decide) (by rfl) (Or.inl (by rfl)) (by decide) (by decide) paIsV0))))))
    (pss_cons (ps_set (i := 2) sc_law_error_of.nd rfl (by first | exact Or.inl rfl | exact Or.inr rfl) (pe_op op_cat (pv 2) (pe_lst (paIsV (C := Cs 9) (n := "e") (i := 1) EC hz hf (EV.kit 9 (by decide)) (EV.mg 9 "InvalidSize" rfl) b_isinstance (by rfl) (by rfl) (by decide) (by rfl) (Or.inl (by rfl)) (by decide) (by decide) (paIsV (C := Cs 10) (n := "e") (i := 1) EC hz hf (EV.kit 10 (by decide)) (EV.mg 10 "InvalidBox" rfl) b_isinstance (by rfl) (by rfl) (by decide) (by rfl) (Or.inl (by rfl)) (by decide) (by decide) (paIsV (C := Cs 11) (n := "e") (i := 1) EC hz hf (EV.kit 11 (by decide)) (EV.mg 11 "Contradiction" rfl) b_isinstance (by rfl) (by rfl) (by decide) (by rfl) (Or.inl (by rfl)) (by decide) (by decide) paIsV0))))))
    (pss_cons (ps_set (i := 2) sc_law_error_of.nd rfl (by first | exact Or.inl rfl | exact Or.inr rfl) (pe_op op_cat (pv 2) (pe_lst (paIsV (C := Cs 12) (n := "e") (i := 1) EC hz hf (EV.kit 12 (by decide)) (EV.mg 12 "BadText" rfl) b_isinstance (by rfl) (by rfl) (by decide) (by rfl) (Or.inl (by rfl)) (by decide) (by decide) (paIsV (C := Cs 13) (n := "e") (i := 1) EC hz hf (EV.kit 13 (by decide)) (EV.mg 13 "BadRow" rfl) b_isinstance (by rfl) (by rfl) (by decide) (by rfl) (Or.inl (by rfl)) (by decide) (by decide) (paIsV (C := Cs 14) (n := "e") (i := 1) EC hz hf (EV.kit 14 (by decide)) (EV.mg 14 "UnknownName" rfl) b_isinstance (by rfl) (by rfl) (by decide) (by rfl) (Or.inl (by rfl)) (by decide) (by decide) paIsV0))))))
    (pss_cons (ps_set (i := 2) sc_law_error_of.nd rfl (by first | exact Or.inl rfl | exact Or.inr rfl) (pe_op op_cat (pv 2) (pe_lst (paIsV (C := Cs 15) (n := "e") (i := 1) EC hz hf (EV.kit 15 (by decide)) (EV.mg 15 "InvalidName" rfl) b_isinstance (by rfl) (by rfl) (by decide) (by rfl) (Or.inl (by rfl)) (by decide) (by decide) (paIsV (C := Cs 16) (n := "e") (i := 1) EC hz hf (EV.kit 16 (by decide)) (EV.mg 16 "InvalidCode" rfl) b_isinstance (by rfl) (by rfl) (by decide) (by rfl) (Or.inl (by rfl)) (by decide) (by decide) (paIsV (C := Cs 17) (n := "e") (i := 1) EC hz hf (EV.kit 17 (by decide)) (EV.mg 17 "UnknownArm" rfl) b_isinstance (by rfl) (by rfl) (by decide) (by rfl) (Or.inl (by rfl)) (by decide) (by decide) paIsV0))))))
    (pss_cons (ps_set (i := 2) sc_law_error_of.nd rfl (by first | exact Or.inl rfl | exact Or.inr rfl) (pe_op op_cat (pv 2) (pe_lst (paIsV (C := Cs 18) (n := "e") (i := 1) EC hz hf (EV.kit 18 (by decide)) (EV.mg 18 "NotFree" rfl) b_isinstance (by rfl) (by rfl) (by decide) (by rfl) (Or.inl (by rfl)) (by decide) (by decide) (paIsV (C := Cs 19) (n := "e") (i := 1) EC hz hf (EV.kit 19 (by decide)) (EV.mg 19 "InvalidOperation" rfl) b_isinstance (by rfl) (by rfl) (by decide) (by rfl) (Or.inl (by rfl)) (by decide) (by decide) paIsV0)))))
    (pss_cons (ps_if (PW.pt (pw_or (pt_cmpR (op_ne) (pe_bm PySem.F.plainAttrs_list PySem.F.slot_list_count PySem.F.type_list_count mt_count (pv 2) (pa_cons pe_bl pa_nil)) pe_int (nomark _)) (pw_or1 (pt_not (pt_val (pe_callB (call_isV (X := ZC X g cdg s H0) EC hz hf) (by rfl) b_isinstance (by decide +kernel) (pa_cons (pv 1) (pa_cons (pe_bltn (v := .ty "ValueError") (by rfl) b_ValueError (by decide +kernel) rfl) pa_nil)))))))) (pss_one (ps_ret (pe_tup (pa_cons pe_str (pa_cons pe_int pa_nil))))) pss_nil)
    (pss_cons (ps_set (i := 3) sc_law_error_of.nd rfl (by first | exact Or.inl rfl | exact Or.inr rfl) (pe_lst (pa_cons pe_str (pa_cons pe_str (pa_cons pe_str (pa_cons pe_str (pa_cons pe_str (pa_cons pe_str (pa_cons pe_str (pa_cons pe_str (pa_cons pe_str (pa_cons pe_str (pa_cons pe_str (pa_cons pe_str pa_nil))))))))))))))
    (pss_cons (ps_set (i := 3) sc_law_error_of.nd rfl (by first | exact Or.inl rfl | exact Or.inr rfl) (pe_op op_cat (pv 3) (pe_lst (pa_cons pe_str (pa_cons pe_str (pa_cons pe_str (pa_cons pe_str (pa_cons pe_str (pa_cons pe_str (pa_cons pe_str (pa_cons pe_str pa_nil)))))))))))
    (pss_cons (ps_set (i := 4) sc_law_error_of.nd rfl (by first | exact Or.inl rfl | exact Or.inr rfl) (pe_ix (r := rIxL X.K) ix_list (pv 3) (pe_bm PySem.F.plainAttrs_list PySem.F.slot_list_index PySem.F.type_list_index mt_index (pv 2) (pa_cons pe_bl pa_nil)) (fun _ _ => rfl)))
    (pss_cons (ps_if (pt_cmpR (op_eq) (pv 4) pe_str (nomark _)) (pss_one (ps_never)) pss_nil)
    (pss_cons (ps_if (pt_cmpR (op_eq) (pv 4) pe_str (nomark _)) (pss_one (ps_never)) pss_nil)
    (pss_cons (ps_if (pt_cmpR (op_eq) (pv 4) pe_str (nomark _)) (pss_one (ps_ret (pe_tup (pa_cons (pv 4) (pa_cons (pe_tup (pa_cons (pe_xf (X := ZC X g cdg s H0) EV.xf EV.no.n1 hz hf (pv 1)) (pa_cons (pe_xf (X := ZC X g cdg s H0) EV.xf EV.no.n2 hz hf (pv 1)) pa_nil))) pa_nil))))) pss_nil)
    (pss_cons (ps_if (pt_cmpR (op_eq) (pv 4) pe_str (nomark _)) (pss_one (ps_never)) pss_nil)
    (pss_one (ps_ret (pe_tup (pa_cons (pv 4) (pa_cons (pe_ifExp (pt_cmpR (op_in_seq) (pv 4) (pe_lst (pa_cons pe_str (pa_cons pe_str pa_nil))) (by rfl)) (pe_nev) pe_int) pa_nil)))))))))))))))))))), ?_⟩
  intro D σ H i j hl h1 hx q
  obtain ⟨x0, x2, x3, x4, rfl⟩ : ∃ x0 x2 x3 x4, σ = [x0, some (.ref a), x2, x3, x4] := by
    match σ, hl, h1 with
    | [y0, y1, y2, y3, y4], _, h => exact ⟨y0, y2, y3, y4, by rw [show y1 = some (.ref a) from Option.some.inj h]⟩
  refine ⟨rfl, ⟨_, hx⟩, (by show 3 ≤ sizeLine; decide), fun l1 hl1 => gn_of ?_⟩
  have s1 := same_new hl1 (.lst ([decide (0 = 12), decide (1 = 12), decide (2 = 12)].map V.bl))
  refine kinds_stepV (s1 _ _ hx) upd_same (by show 6 ≤ 20; decide) fun H2 p2 s2 k2 => ?_
  have x2 := s2 _ _ (s1 _ _ hx)
  refine kinds_stepV x2 k2 (by show 9 ≤ 20; decide) fun H3 p3 s3 k3 => ?_
  have x3 := s3 _ _ x2
  refine kinds_stepV x3 k3 (by show 12 ≤ 20; decide) fun H4 p4 s4 k4 => ?_
  have x4 := s4 _ _ x3
  refine kinds_stepV x4 k4 (by show 15 ≤ 20; decide) fun H5 p5 s5 k5 => ?_
  have x5 := s5 _ _ x4
  refine kinds_stepV x5 k5 (by show 18 ≤ 20; decide) fun H6 p6 s6 k6 => ?_
  have x6 := s6 _ _ x5
  refine kinds_stepV x6 k6 (by show 20 ≤ 20; decide) fun H7 p7 s7 k7 => ?_
  have x7 := s7 _ _ x6
  have sx := s1.trans (s2.trans (s3.trans (s4.trans (s5.trans (s6.trans s7)))))
  have k8 : H7 p7 = some (.lst ((tw 12).map V.bl)) := k7
  clear k7 k6 k5 k4 k3 k2
  have sq : SqL X.K H7 p7 ((tw 12).map V.bl) := .inl (.inl k8)
  refine ⟨_, rfl, .inl ⟨rfl, _, sq⟩, p7, _, _, rfl, rfl, sq, rfl, tw_flat 12, ?_⟩
  rw [tw12_count]
  refine ⟨rfl, _, rfl, ?_⟩
  refine (if_neg (by decide)).mpr ?_
  refine ⟨_, rfl, .ty "ValueError", .type "ValueError", true, _, rfl, x7, fun u r => r, EV.val, true, rfl, ?_⟩
  refine iteF ?_
  refine ⟨(by show 12 ≤ sizeLine; decide), fun l9 hl9 => gn_of ?_⟩
  have s9 := same_new hl9 (.lst ((eNms.take 12).map V.str))
  refine ⟨_, rfl, (by show 8 ≤ sizeLine; decide), fun l10 hl10 => ?_⟩
  have s10 := same_new hl10 (.lst ((eNms.drop 12).map V.str))
  refine ⟨l9, l10, _, _, rfl, rfl, s10 _ _ upd_same, upd_same, (by show 20 ≤ sizeLine; decide), fun l11 hl11 => gn_of ?_⟩
  have s11 := same_new hl11 (.lst (eNms.map V.str))
  have k11 := s11 _ _ (s10 _ _ (s9 _ _ k8))
  have s7x := s9.trans (s10.trans s11)
  have x11 := s7x _ _ x7
  refine ⟨_, rfl, _, rfl, .inl ⟨rfl, _, .inl (.inl k11)⟩, p7, _, _, 12, .bl true, rfl, rfl, .inl (.inl k11), rfl, tw_flat 12, tw12_at, rfl, fun m z hm hz => tw_no hm hz, l11, _, _, _, rfl, rfl, .inl (.inl upd_same), nm12_at, gn_of ?_⟩
  refine ⟨_, rfl, rfl, _, rfl, (if_neg (by decide +kernel)).mpr ?_⟩
  refine ⟨_, rfl, rfl, _, rfl, (if_neg (by decide +kernel)).mpr ?_⟩
  refine ⟨_, rfl, rfl, _, rfl, iteT ?_⟩
  refine ⟨_, rfl, _, rfl, rfl, rfl, dd, _, .int i, rfl, x11, rfl, _, rfl, rfl, rfl, dd, _, .int j, rfl, x11, rfl, (by show 2 ≤ sizeLine; decide), fun m hm => ?_⟩
  have sm := same_new hm (.tup [.int i, .int j])
  refine ⟨(by show 2 ≤ sizeLine; decide), fun p13 hp13 => ?_⟩
  have sp := same_new hp13 (.tup [.str "text", .ref m])
  exact q _ _ m (sx.trans (s7x.trans (sm.trans sp))) upd_same (sp _ _ upd_same)
/-- what is made of the lambda's reading: a BadText with its places, an InvalidStroke with its index -/
def TErrT (Cs : Nat → Addr) : (XK → Hp → VK → Prop) → Hp → VK → Prop := fun tl H Q =>
  tl (fun cls d H' => (∃ dd i j, cls = .ref (Cs 12) ∧ d = some dd ∧ H' dd = some (.xd (btF (.int i) (.int j))) ∧ ∀ H'' p m, Same H' H'' → H'' p = some (.tup [.str "text", .ref m]) → H'' m = some (.tup [.int i, .int j]) → Q (.ref p) H'') ∨
    (∃ dd i, cls = .ref (Cs 4) ∧ d = some dd ∧ H' dd = some (.xd [("index", .int i)]) ∧ ∀ H'' p, Same H' H'' → H'' p = some (.tup [.str "stroke", .int i]) → Q (.ref p) H'')) H (fun _ H' => Q .non H')
theorem err_givesT {g : Addr} {cdg : Value} {q : Str} (b_isinstance : X.mg "isinstance" = none) (b_ValueError : X.mg "ValueError" = none) (m_B : X.mg "CopyError" = some (.ref CB)) (EC : ErrT X.K X.mg CB Cs) (EV : ErrV X.K X.mg CB Cs) :
    GivesTo X ["_law_call", "e", "_law_kinds", "_law_names", "_law_name"] "_law_error_of" (defScope s_law_error_of) g cdg (defBody s_law_error_of) "_law_call" q (TErrT Cs) := by
  intro f c' s H Q tl act hc h
  refine ⟨_, pss_cons (ps_try_as (X := ZC X g cdg s H) (n := "e") (i := 1) (c := .ref CB)
      (tb := fun W D σ H => ∃ Ech : XK, (∀ cls d σ' H', Ech cls d H' → W cls d σ' H') ∧ σ[0]? = some (some (.ref f)) ∧ H c' = some (CodeO c' q) ∧ tl Ech H (fun _ H1 => D.nx σ H1))
      (ts := fun a cls d D σ H => σ.length = 5 → ((∃ dd i j, cls = .ref (Cs 12) ∧ d = some dd ∧ σ[1]? = some (some (.ref a)) ∧ H dd = some (.xd (btF (.int i) (.int j))) ∧ ∀ H'' p m, Same H H'' → H'' p = some (.tup [.str "text", .ref m]) → H'' m = some (.tup [.int i, .int j]) → D.rt (.ref p) H'') ∨
        (∃ dd i, cls = .ref (Cs 4) ∧ d = some dd ∧ σ[1]? = some (some (.ref a)) ∧ H dd = some (.xd [("index", .int i)]) ∧ ∀ H'' p, Same H H'' → H'' p = some (.tup [.str "stroke", .int i]) → D.rt (.ref p) H'')))
      rfl rfl sc_law_error_of.nd (by rfl) (by rfl) ⟨by rfl, by decide, .inl m_B⟩ LamX.takes0 (fun W pn xe tk _ => ?_) (fun a oe cls d pn hz hf => ?_)) (pss_one (ps_ret pe_non)), ?_⟩
  · refine ⟨fun pins s' σ H' D I h' => ?_⟩
    obtain ⟨Ech, hW, h1, h2, h3⟩ := h'
    exact PSs.run (pss_one (ps_expr (act W pn xe Ech _ _ tk hW) (by rfl))) pins s' σ H' D I ⟨h1, h2, h3⟩
  · refine ⟨fun pins s' σ H' D I h' => ?_⟩
    rcases h' I.len with ⟨dd, i, j, rfl, rfl, h1, hx, h2⟩ | ⟨dd, i, rfl, rfl, h1, hx, h2⟩
    · obtain ⟨t, ht, hq⟩ := err_suiteT (X := X) (g := g) (cdg := cdg) (s := s) (H0 := H) (a := a) (pn := pn) b_isinstance b_ValueError EC hz hf
      exact ht.run pins s' σ H' D I (hq D σ H' i j I.len h1 hx h2)
    · obtain ⟨t, ht, hq⟩ := err_suiteV (X := X) (g := g) (cdg := cdg) (s := s) (H0 := H) (a := a) (pn := pn) b_isinstance b_ValueError EV hz hf
      exact ht.run pins s' σ H' D I (hq D σ H' i I.len h1 hx h2)
  · refine ⟨_, ?_, rfl, hc, h⟩
    rintro cls d σ' H' (⟨dd, i, j, rfl, rfl, hx, h2⟩ | ⟨dd, i, rfl, rfl, hx, h2⟩)
    · refine ⟨true, EC.exm, fun _ a _ hl => .inl ⟨dd, i, j, rfl, rfl, ?_, hx, h2⟩, fun z => by cases z⟩
      rw [List.length_set] at hl
      rw [List.getElem?_set_self (by omega)]
    · refine ⟨true, EV.exm, fun _ a _ hl => .inr ⟨dd, i, rfl, rfl, ?_, hx, h2⟩, fun z => by cases z⟩
      rw [List.length_set] at hl
      rw [List.getElem?_set_self (by omega)]
end
end My

namespace My
open PySem L2 Mth
abbrev s_Drawing___add__ : Stmt := inClass (topS 30) 5
theorem sc_Drawing___add__ : FnScope ["self", "other", "strokes"] ["self", "other"] (defScope s_Drawing___add__) := ⟨rfl, rfl, rfl, by decide +kernel, rfl, by decide +kernel, by decide +kernel⟩
section
variable {P : Program} {w : World} {K : PySem.W.Frag} {mg : Str → Option Value} {base : Heap}
def sp_wadd (K : PySem.W.Frag) (CW : Addr) : Sp := fun vs H Q _ => ∃ va as vb bs, vs = [va, vb] ∧ IsW K CW H va as ∧ IsW K CW H vb bs ∧ DrOk (as ++ bs) ∧ ∀ H' r, Same H H' → IsW K CW H' r (as ++ bs) → Q r H'
theorem ok_wadd {f fI CW : Addr} {fd : FuncData} (TW : DrawI P w K mg base CW fI) (F : Fun K "__add__" "Drawing.__add__" s_Drawing___add__ f fd) : FnOk P w K mg base CX0 7 f fd ["self", "other"] (sp_wadd K CW) := by
  refine F.ok sc_Drawing___add__ (fun vs H Q E h => ?_) (fun cdv A outer s H vs Q E hr h => ?_)
  · obtain ⟨va, as, vb, bs, rfl, _⟩ := h
    rfl
  obtain ⟨va, as, vb, bs, rfl, ⟨p, dx, t, us, rfl, h1, h2, h3⟩, ⟨p', dx', t', us', rfl, k1, k2, k3⟩, ok, q⟩ := h
  have T := TW.tx
  refine ⟨_, (pss_cons (ps_set (i := 2) sc_Drawing___add__.nd rfl (by first | exact Or.inl rfl | exact Or.inr rfl) (pe_lst (StX.pa_star (pe_fld (pv 0) rfl) (StX.pa_star (pe_fld (pv 1) rfl) pa_nil))))
    (pss_one (ps_ret (pe_makeS TW.mkC TW.ok (hr.mono (by decide)) (by rfl) TW.mgC (pv 2))))), ?_⟩
  have hl := Paired.length h3
  have hl' := Paired.length k3
  have ol := ok.len
  rw [List.length_append] at ol
  refine ⟨_, rfl, p, CW, dx, _, _, rfl, h1, T.cl, T.nH, wf_held, t, us, rfl, .inl h2, _, rfl, p', CW, dx', _, _, rfl, k1, T.cl, T.nH, wf_held, t', us', rfl, .inl k2, small (by simp only [List.length_append, List.length_nil]; omega), fun l hl => ?_⟩
  have s1 := same_new hl (.lst (us ++ (us' ++ [])))
  refine ⟨_, rfl, l, _, rfl, .inr (.inl (.inl upd_same)), ?_⟩
  rw [List.append_nil]
  rw [List.append_nil] at s1
  exact mkw_of (papp (h3.same s1) (k3.same s1)) ok fun H2 r2 s2 i2 => q _ _ (s1.trans s2) i2
structure MWa (P : Program) (w : World) (K : PySem.W.Frag) (mg : Str → Option Value) (base : Heap) (CW : Addr) : Prop where
  sf : PySem.W.selfFirst K CW = true
  ex : ∃ f, FnR P w K mg base CX0 7 f (sp_wadd K CW) ∧ PySem.W.findIn K (.ref CW) "__add__" = some (some (.ref f)) ∧ PySem.W.isFn K (.ref f) = true
theorem op_wadd {X : Cx} {CW : Addr} (M : MWa X.prog X.w X.K X.mg X.base CW) (hr : Room 7 X.A) : OpR X (binaryOp .Add) (rOwn2 CW (sp_wadd X.K CW)) := by
  obtain ⟨f, F, h1, h2⟩ := M.ex
  exact op_own (op := .Add) F hr M.sf h1 h2
theorem wadd_of {CW : Addr} {H : Hp} {Q : VK} {x y : V} {as bs : List (List T3)} (ix : IsW K CW H x as) (iy : IsW K CW H y bs) (ok : DrOk (as ++ bs)) (q : ∀ H' r, Same H H' → IsW K CW H' r (as ++ bs) → Q r H') : rOwn2 CW (sp_wadd K CW) x y H Q := by
  obtain ⟨p, dx, _, _, rfl, h1, _⟩ := id ix
  obtain ⟨p', dx', _, _, rfl, h1', _⟩ := id iy
  exact ⟨p, p', dx, _, dx', _, rfl, rfl, h1, h1', _, as, _, bs, rfl, ix, iy, ok, q⟩
end
end My

namespace My
open PySem L2 Mth LamX TL
abbrev s_parse_drawing : Stmt := topS 40
theorem sc_parse_drawing : FnScope ["text", "words", "wrong", "strokes"] ["text"] (defScope s_parse_drawing) := ⟨rfl, rfl, rfl, by decide +kernel, rfl, by decide +kernel, by decide +kernel⟩
section
variable {P : Program} {w : World} {K : PySem.W.Frag} {mg : Str → Option Value} {base : Heap}
/-! ### the drawing of a text -/
theorem fw_all : ∀ (ws : List (List Nat)) (n : Nat) (b : Bool), fwF ws n b = none → ∀ w ∈ ws, w = [47] ∨ spotF w ≠ none
  | [], _, _, _, w, h => by cases h
  | v :: ws, n, b, e, w, h => by
    have e : (if v = [47] ∧ b = false then fwF ws (n + 1) true else if spotF v = none then some n else fwF ws (n + 1) false) = none := e
    by_cases c : v = [47] ∧ b = false
    · rw [if_pos c] at e
      rcases List.mem_cons.mp h with rfl | h
      · exact .inl c.1
      · exact fw_all ws _ _ e w h
    · rw [if_neg c] at e
      by_cases s : spotF v = none
      · rw [if_pos s] at e; cases e
      · rw [if_neg s] at e
        rcases List.mem_cons.mp h with rfl | h
        · exact .inr s
        · exact fw_all ws _ _ e w h
theorem splitS {x : Str} : (Txt.split x " ").length ≤ x.length + 1 := (split_one (y := " ") (s := 32) (by decide +kernel) (by decide)).1
def sp_prs (K : PySem.W.Frag) (CW : Addr) : Sp := fun vs H Q _ => ∃ x : Str, vs = [.str x] ∧ x.length ≤ 100000 ∧ ((x = "" ∧ ∀ H' v, Same H H' → IsW K CW H' v [] → Q v H') ∨
  (x ≠ "" ∧ (∀ y ∈ Txt.split x " ", y.length ≤ 90) ∧ (Txt.split x " ").length ≤ 900 ∧ fwF ((Txt.split x " ").map tl) 0 true = none ∧ DrOk (stF ((Txt.split x " ").map tl)) ∧ ∀ H' v, Same H H' → IsW K CW H' v (stF ((Txt.split x " ").map tl)) → Q v H'))
theorem ok_parse_drawing {f fI CW : Addr} {fd : FuncData} (TW : DrawI P w K mg base CW fI) (d_first_wrong_word : D P w K mg base "first_wrong_word" 4 (sp_fww K)) (d_strokes_from : D P w K mg base "strokes_from" 4 (sp_stf K))
    (F : Fun K "parse_drawing" "parse_drawing" s_parse_drawing f fd) : FnOk P w K mg base CX0 8 f fd ["text"] (sp_prs K CW) := by
  refine F.ok sc_parse_drawing (fun vs H Q E h => ?_) (fun cdv A outer s H vs Q E hr h => ?_)
  · obtain ⟨x, rfl, _⟩ := h
    rfl
  obtain ⟨x, rfl, hl, q⟩ := h
  refine ⟨_, (pss_cons (ps_if (pt_cmpR (op_eq) (pv 0) pe_str (nomark _)) (pss_one (ps_ret (pe_makeR0 TW.mkC TW.ok (hr.mono (by decide)) (by rfl) TW.mgC))) pss_nil)
    (pss_cons (ps_set (i := 1) sc_parse_drawing.nd rfl (by first | exact Or.inl rfl | exact Or.inr rfl) (pe_split (pv 0) pe_str))
    (pss_cons (ps_set (i := 2) sc_parse_drawing.nd rfl (by first | exact Or.inl rfl | exact Or.inr rfl) (pc d_first_wrong_word (hr.mono (by decide)) (pa_cons (pv 1) pa_nil)))
    (pss_cons (ps_if (pt_cmpR (op_notN) (pv 2) pe_non (nomark _)) (pss_one (ps_never)) pss_nil)
    (pss_cons (ps_set (i := 3) sc_parse_drawing.nd rfl (by first | exact Or.inl rfl | exact Or.inr rfl) (pc d_strokes_from (hr.mono (by decide)) (pa_cons (pv 1) pa_nil)))
    (pss_one (ps_ret (pe_makeS TW.mkC TW.ok (hr.mono (by decide)) (by rfl) TW.mgC (pv 3))))))))), ?_⟩
  rcases q with ⟨rfl, q⟩ | ⟨hne, h90, h900, hf, dr, q⟩
  · refine ⟨_, rfl, rfl, true, congrArg V.bl (decide_eq_true rfl), iteT ?_⟩
    exact mkw_of (us := []) (zss := []) .nil drNil fun H' r s i => q H' r s i
  refine ⟨_, rfl, rfl, false, congrArg V.bl (decide_eq_false fun e => hne (V.str.inj e)), iteF ?_⟩
  dsimp only [tNext]
  refine ⟨_, rfl, ⟨_, rfl⟩, x, " ", rfl, rfl, by decide +kernel, Nat.le_trans (by omega : x.length + 2 ≤ 200000) (by decide), fun p hp => gn_of ?_⟩
  have s1 := same_new hp (.lst ((Txt.split x " ").map V.str))
  have hP : (upd H p (.lst ((Txt.split x " ").map V.str))) p = some (.lst ((Txt.split x " ").map V.str)) := upd_same
  generalize upd H p (.lst ((Txt.split x " ").map V.str)) = H1 at *
  refine ⟨_, rfl, p, _, rfl, .inl (.inl hP), h90, by omega, fun H2 s2 => gn_of ?_⟩
  rw [hf]
  refine ⟨_, rfl, rfl, false, rfl, iteF ?_⟩
  dsimp only [tNext]
  have hv : ∀ y ∈ Txt.split x " ", tl y = [47] ∨ spotF (tl y) ≠ none := fun y hy => fw_all _ _ _ hf (tl y) (List.mem_map.mpr ⟨y, hy, rfl⟩)
  refine ⟨_, rfl, p, _, rfl, .inl (.inl (s2 _ _ hP)), h90, h900, hv, fun H3 L us s3 nL hL pL => gn_of ?_⟩
  refine ⟨_, rfl, L, us, rfl, .inr (.inl (.inl hL)), ?_⟩
  exact mkw_of pL dr fun H4 v s4 i4 => q _ _ (s1.trans (s2.trans (s3.trans s4))) i4
end
end My

namespace My
open PySem L2 Mth LamX

section
variable {P : Program} {w : World} {K : PySem.W.Frag} {mg : Str → Option Value} {base : Heap}
/-! ### what is no stroke -/
def Item (K : PySem.W.Frag) (H : Hp) (u : V) (g : Bool) : Prop := (g = true ∧ ∃ z, IsT K H u z ∧ Ok z) ∨ (g = false ∧ ∃ p xs, u = .ref p ∧ SqT K H p xs ∧ BadS xs)
theorem Item.same {H H' : Hp} {u : V} {g : Bool} (h : Item K H u g) (s : Same H H') : Item K H' u g := by
  rcases h with ⟨e, z, i, o⟩ | ⟨e, p, xs, e2, h, b⟩
  · exact .inl ⟨e, z, i.same s, o⟩
  · exact .inr ⟨e, p, xs, e2, same_T s h, b⟩
inductive BadSt (K : PySem.W.Frag) (H : Hp) : List V → Prop
  | len {us : List V} (h : us.length = 0 ∨ 12 < us.length) : BadSt K H us
  | item {us : List V} {gs : List Bool} (l1 : 1 ≤ us.length) (l2 : us.length ≤ 12) (h : Paired (Item K H) us gs) (b : false ∈ gs) : BadSt K H us
  | two {us : List V} {zs : List T3} (l1 : 1 ≤ us.length) (l2 : us.length ≤ 12) (h : Paired (IsT K H) us zs) (ok : ∀ z ∈ zs, Ok z) (b : ∃ (j : Nat) (x : T3), zs[j]? = some x ∧ zs[j + 1]? = some x) : BadSt K H us
def nb (zs : List T3) (i : Nat) : List Bool := (List.range i).map fun j => !decide (zs[j]? = zs[j + 1]?)
theorem nb_len {zs : List T3} {i : Nat} : (nb zs i).length = i := by unfold nb; rw [List.length_map, List.length_range]
theorem nb_more {zs : List T3} {i : Nat} {a b : T3} (h1 : zs[i]? = some a) (h2 : zs[i + 1]? = some b) : nb zs (i + 1) = nb zs i ++ [!decide (a = b)] := by
  unfold nb
  rw [List.range_succ, List.map_append]
  show _ ++ [!decide (zs[i]? = zs[i + 1]?)] = _
  rw [h1, h2]
  by_cases h : a = b
  · subst h; simp
  · simp [h]
theorem nb_false {zs : List T3} {j n : Nat} {x : T3} (h1 : zs[j]? = some x) (h2 : zs[j + 1]? = some x) (hj : j < n) : (nb zs n).all id = false := by
  refine List.all_eq_false.mpr ⟨false, List.mem_map.mpr ⟨j, List.mem_range.mpr hj, ?_⟩, by decide⟩
  rw [h1, h2]
  simp
def sp_isstX (K : PySem.W.Frag) : Sp := fun vs H Q _ => ∃ t us, vs = [.ref t] ∧ SqT K H t us ∧ BadSt K H us ∧ ∀ H', Same H H' → Q (.bl false) H'
def sp_isstB (K : PySem.W.Frag) : Sp := fun vs H Q E => sp_isst K vs H Q E ∨ sp_isstX K vs H Q E
theorem ok_is_strokeX {f : Addr} {fd : FuncData} {tk : Tok} (b_isinstance : mg "isinstance" = none) (b_tuple : mg "tuple" = none) (b_len : mg "len" = none) (b_all : mg "all" = none) (m_MOST_SPOTS : mg "MOST_SPOTS" = some (.int 12 tk)) (d_is_spot : D P w K mg base "is_spot" 2 (sp_isspotB K)) (d_parts_of : D P w K mg base "parts_of" 1 (sp_parts K))
    (F : Fun K "is_stroke" "is_stroke" s_is_stroke f fd) : FnOk P w K mg base CX0 3 f fd ["value"] (sp_isstX K) := by
  refine F.ok sc_is_stroke (fun vs H Q E h => ?_) (fun cdv A outer s H vs Q E hr h => ?_)
  · obtain ⟨t, us, rfl, _⟩ := h
    rfl
  obtain ⟨t, us, rfl, hT, bad, q⟩ := h
  refine ⟨_, (pss_cons (ps_if (PW.pt (pw_or (pt_not (pt_val (pe_callB (r := rIsi K) call_isi (by rfl) b_isinstance (by decide +kernel) (pa_cons (pv 0) (pa_cons (pe_bltn (v := .ty "tuple") (by rfl) b_tuple (by decide +kernel) rfl) pa_nil))))) (pw_or1 (pt_not (pt_chain op_le op_le pe_int (pe_callB call_len_seq (by rfl) b_len PySem.boot_len (pa_cons (pv 0) pa_nil)) (pe_glob (v := .int 12) (by rfl) m_MOST_SPOTS ⟨_, rfl⟩)))))) (pss_one (ps_ret pe_bl)) pss_nil)
    (pss_cons (ps_if (pt_not (pt_val (pe_callB (cr_all rfl) (by rfl) b_all (by decide +kernel) (pa_cons (pe_lc (own := [("spot", 1)]) (g := gName 1) (tt := tYes) (by rfl) sc_is_stroke.nd (pi_tup (pv 0)) (blkOk_by (own := [("spot", 1)]) (N := ["value", "spot", "start", "end"]) (sc := defScope s_is_stroke) (by decide +kernel)) (fun _ _ _ _ _ => (pg_name (i := 1) sc_is_stroke.nd rfl (by first | exact Or.inl rfl | exact Or.inr rfl))) (fun _ _ _ _ _ => pts_nil) (fun _ _ _ _ _ => (pc d_is_spot (hr.mono (by decide)) (pa_cons (pv 1) pa_nil)))) pa_nil)))) (pss_one (ps_ret pe_bl)) pss_nil)
    (pss_one (ps_ret (pe_callB (cr_all rfl) (by rfl) b_all (by decide +kernel) (pa_cons (pe_lc (own := [("start", 2), ("end", 3)]) (g := gTup K 2 (gCons (gName 2) (gCons (gName 3) gNil))) (tt := tYes) (by rfl) sc_is_stroke.nd (pi_list (pc d_parts_of (hr.mono (by decide)) (pa_cons (pv 0) pa_nil))) (blkOk_by (own := [("start", 2), ("end", 3)]) (N := ["value", "spot", "start", "end"]) (sc := defScope s_is_stroke) (by decide +kernel)) (fun _ _ _ _ _ => (pg_tup rfl (pgs_cons (pg_name (i := 2) sc_is_stroke.nd rfl (by first | exact Or.inl rfl | exact Or.inr rfl)) (pgs_cons (pg_name (i := 3) sc_is_stroke.nd rfl (by first | exact Or.inl rfl | exact Or.inr rfl)) pgs_nil)))) (fun _ _ _ _ _ => pts_nil) (fun _ _ _ _ _ => (pe_cmpR (r := rNeD K) (op_neD hr.units) (pv 2) (pv 3) (nomark _)))) pa_nil)))))), ?_⟩
  refine ⟨_, rfl, _, _, _, _, _, rfl, .ty _, ty_T hT, kit_ty (by decide +kernel), true, rfl, ?_⟩
  refine iteF ?_
  refine ⟨_, rfl, _, _, rfl, .inr hT, _, _, rfl, rfl, _, rfl, ?_⟩
  by_cases hl : us.length = 0 ∨ 12 < us.length
  · by_cases h1 : (1 : Int) ≤ (us.length : Int)
    · rw [decide_eq_true h1]
      refine iteT ⟨_, _, rfl, rfl, _, rfl, ?_⟩
      rw [decide_eq_false (show ¬ (us.length : Int) ≤ 12 by omega)]
      exact iteT (q _ (Same.refl _))
    · rw [decide_eq_false h1]
      exact iteF ⟨_, rfl, iteT (q _ (Same.refl _))⟩
  have l1 : 1 ≤ us.length := by omega
  have l2 : us.length ≤ 12 := by omega
  rw [decide_eq_true (show (1 : Int) ≤ (us.length : Int) by omega)]
  refine iteT ?_
  refine ⟨_, _, rfl, rfl, _, rfl, ?_⟩
  rw [decide_eq_true (show (us.length : Int) ≤ 12 by omega)]
  refine iteF ?_
  obtain ⟨gs, hG, hW⟩ : ∃ gs, Paired (Item K H) us gs ∧ (false ∈ gs ∨ ∃ zs, Paired (IsT K H) us zs ∧ ∃ (j : Nat) (x : T3), zs[j]? = some x ∧ zs[j + 1]? = some x) := by
    cases bad with
    | len h => exact absurd h hl
    | item _ _ h b => exact ⟨_, h, .inl b⟩
    | @two zs _ _ h ok b =>
      have key : ∀ {us : List V} {zs : List T3}, Paired (IsT K H) us zs → (∀ z ∈ zs, Ok z) → Paired (Item K H) us (zs.map fun _ => true) := fun {us zs} h => by
        induction h with
        | nil => exact fun _ => .nil
        | cons a _ ih => exact fun ok => .cons (.inl ⟨rfl, _, a, ok _ (List.mem_cons_self ..)⟩) (ih fun z hz => ok z (List.mem_cons_of_mem _ hz))
      exact ⟨_, key h ok, .inr ⟨zs, h, b⟩⟩
  have lg := Paired.length hG
  refine ⟨_, rfl, _, rfl, ⟨_, hT⟩, fun L hL => lc_tup (K := K) (a := t) (xs := us) (fun i H' => ∃ acc : List V, Same H H' ∧ H' L = some (.lst acc) ∧ acc = (gs.take i).map V.bl) ⟨[], same_new hL _, upd_same, rfl⟩ ?_ ?_ ?_⟩
  · rintro i H' hi ⟨acc, s', _⟩
    exact same_T s' hT
  · rintro i x H' hx ⟨acc, s', hb, ea⟩
    obtain ⟨g, eg, ig⟩ := pgt hG hx
    refine ⟨rfl, ?_⟩
    refine yes_of ?_
    have fin : ∀ H2, Same H' H2 → ∃ acc', H2 L = some (.lst acc') ∧ acc'.length < sizeLine ∧ ∃ acc'', Same H (upd H2 L (.lst (acc' ++ [.bl g]))) ∧ upd H2 L (.lst (acc' ++ [.bl g])) L = some (.lst acc'') ∧ acc'' = (gs.take (i + 1)).map V.bl := fun H2 s2 => by
      refine ⟨acc, s2 _ _ hb, ?_, acc ++ [.bl g], fun b o e => ?_, upd_same, ?_⟩
      · have := (List.getElem?_eq_some_iff.mp hx).1
        rw [ea, List.length_map, List.length_take]
        exact small1000 (by omega)
      · rw [upd_ne (ne_of_none e hL)]
        exact s2 _ _ (s' _ _ e)
      · rw [tk_map V.bl eg, ea]
    rcases ig.same s' with ⟨rfl, z, iz, oz⟩ | ⟨rfl, p, xs, rfl, hp, bp⟩
    · exact ⟨_, rfl, .inl ⟨_, z, rfl, iz, oz, fun H2 s2 => fin H2 s2⟩⟩
    · exact ⟨_, rfl, .inr ⟨p, xs, rfl, hp, bp, fun H2 s2 => fin H2 s2⟩⟩
  rintro H1 ⟨acc, s1, hb, ea⟩
  rw [lg, List.take_length] at ea
  refine ⟨_, gs, rfl, .inl (.inl ?_), ?_⟩
  · rw [ea] at hb; exact hb
  refine ⟨_, rfl, ?_⟩
  by_cases hg : gs.all id = true
  · rw [hg]
    refine iteF ?_
    rcases hW with hW | ⟨zs, hA, j0, x0, e0, e1⟩
    · exact absurd (List.all_eq_true.mp hg false hW) (by decide)
    have hlen := Paired.length hA
    refine ⟨_, rfl, t, us, rfl, same_T s1 hT, by omega, fun H2 Lp ps s2 hLp h2 hps => ?_⟩
    have lp := hps.1
    refine ⟨Lp, rfl, ⟨_, .inl (.inl h2)⟩, fun L3 hL3 => lc_list (K := K) (a := Lp) (xs := ps) (fun i H' => ∃ acc : List V, Same H2 H' ∧ H' L3 = some (.lst acc) ∧ acc = (nb zs i).map V.bl) ⟨[], same_new hL3 _, upd_same, rfl⟩ ?_ ?_ ?_⟩
    · rintro i H' hi ⟨acc, s', _⟩
      exact .inl (.inl (s' _ _ h2))
    · rintro i x H' hx ⟨acc, s', hb, ea⟩
      have li := (List.getElem?_eq_some_iff.mp hx).1
      obtain ⟨u, eu⟩ : ∃ u, us[i]? = some u := ⟨us[i]'(by omega), by simp⟩
      obtain ⟨v, ev⟩ : ∃ v, us[i + 1]? = some v := ⟨us[i + 1]'(by omega), by simp⟩
      obtain ⟨T, eT, hTT⟩ := hps.2 i u v eu ev
      obtain ⟨a, ez, pa, rfl, ia⟩ := pgt hA eu
      obtain ⟨b, ez2, pb, rfl, ib⟩ := pgt hA ev
      rw [eT] at hx
      cases hx
      have s02 := (s1.trans s2).trans s'
      refine ⟨T, _, rfl, same_T s' hTT, rfl, _, _, rfl, _, _, rfl, rfl, rfl, ?_⟩
      refine yes_of ?_
      refine ⟨_, rfl, _, rfl, _, _, Dp3 (same_T s02 ia), Dp3 (same_T s02 ib), shaped3 _, shaped3 _, ?_⟩
      rw [eqv3]
      refine ⟨acc, hb, ?_, acc ++ [.bl (!decide (a = b))], fun b o e => ?_, upd_same, ?_⟩
      · rw [ea, List.length_map, nb_len]
        exact small1000 (by omega)
      · rw [upd_ne (ne_of_none e hL3)]
        exact s' _ _ e
      · rw [ea, nb_more ez ez2, List.map_append]
        rfl
    rintro H3 ⟨acc3, s3, hb3, ea3⟩
    refine ⟨_, nb zs ps.length, rfl, .inl (.inl ?_), ?_⟩
    · rw [ea3] at hb3; exact hb3
    have lj := (List.getElem?_eq_some_iff.mp e1).1
    rw [nb_false e0 e1 (by omega)]
    exact q _ ((s1.trans s2).trans s3)
  · rw [show gs.all id = false from Bool.eq_false_iff.mpr hg]
    exact iteT (q _ s1)
end
end My

namespace My
open PySem L2 Mth
/-! ### what is asked of the class of an error that has a value, as one question -/
def oexB (K : PySem.W.Frag) (C : Addr) : Bool := match K.lookup C with
  | some ⟨.type "type", _, .cls cd, sl⟩ => (match cd.mro, sl.toList with
    | .ref C' :: bm, [_, _, _, _, some (.builtin n), _] => C' == C && (n == "ValueError.__new__" && (!cd.hasDel && (cd.hasDict && PySem.HandSPX.refsVE bm)))
    | _, _ => false)
  | _ => false
theorem oex_of {K : PySem.W.Frag} {C : Addr} (q : oexB K C = true) (sa : PySem.W.findIn K (.ref C) "__setattr__" = some (some (.builtin "object.__setattr__"))) (exC : PySem.W.subIn K (.ref C) (.type "BaseException") = some true) (tyC : PySem.W.typeIn K (.ref C) = some (.type "type")) (kC : PySem.W.keepIn K (.ref C) = true) : OexC K C := by
  refine ⟨?_, sa, exC, tyC, kC⟩
  unfold oexB at q
  split at q
  · rename_i dd cd sl ho
    split at q
    · rename_i C' bm k0 k1 k2 k3 n k5 hm hs
      simp only [Bool.and_eq_true, beq_iff_eq, Bool.not_eq_true'] at q
      obtain ⟨rfl, rfl, hdel, hdict, ht⟩ := q
      obtain ⟨nm, bs, mro, ns, qn, hd, sn, sub, ab, col, del⟩ := cd
      dsimp only at hm hdel hdict
      subst hm hdel hdict
      have hsl : sl = #[k0, k1, k2, k3, some (.builtin "ValueError.__new__"), k5] := by
        obtain ⟨l⟩ := sl
        simp only at hs
        rw [hs]
      subst hsl
      exact ⟨nm, qn, ns, bs, bm, sn, sub, ab, col, dd, k0, k1, k2, k3, k5, ho, ht⟩
    · cases q
  · cases q
end My

namespace My
open PySem L2 Mth LamX
section
/-! ### making and adding that raise; == with an int -/
def tMakeSX (K : PySem.W.Frag) (C : Addr) (sp : Sp) (E : XK) (te : TE) : TE := fun σ H Q => te σ H fun y H1 => ∃ a xs, y = V.ref a ∧ (SqT K H1 a xs ∨ SqL K H1 a xs) ∧ ∀ x dx, H1 x = none → H1 dx = none → dx ≠ x → sp (.ref x :: xs) (upd (upd H1 dx (.own x)) x (.ins C dx [])) (fun v H2 => v = .non ∧ Q (.ref x) H2) E
theorem pe_makeSX {X : Cx} {k : Nat} {f C : Addr} {sp : Sp} {E : XK} {x : Str} {p pos sp_ : Pos} {e : Expr} {te : TE} (M : Mk X.K C f) (F : FnR X.prog X.w X.K X.mg X.base (L2.CX X.prog X.w) k f sp) (hr : Room (k + 1) X.A) (hg : Gl X x) (hm : X.mg x = some (.ref C)) (hx : Passes (L2.CX X.prog X.w) X E) (he : PE X e te) (hdb : (x == ("__debug__" : Str)) = false := by decide)
    (hst : starEach [.Starred e sp_] X.env = [(true, eval e X.env)] := by rfl) : PE X (.Call (.Name x p) [.Starred e sp_] [] pos) (tMakeSX X.K C sp E te) := by
  refine ⟨fun pins s σ H Q I h => ?_⟩
  refine wpAny_Call_Name_kw (ld_glob I hg hm ?_ hdb)
  refine PySem.W.callWith_S (h₀ := X.base) I.ok.mod.kin M.kp (thn (he.run pins s σ H _ I h) fun v s1 ⟨y, H1, I1, ry, a, xs, ey, hxs, q⟩ => ?_) hst
  subst ey
  obtain rfl : v = Value.ref a := ry
  exact StX.star_any I1 hxs fun us s2 I2 rv => ⟨I2.kIn, StX.run_makeR M F hr hx I2 rv q⟩
def rOwn2X (C : Addr) (sp : Sp) (E : XK) : R2 := fun x y H Q => ∃ a b dx fs dy gs, x = .ref a ∧ y = .ref b ∧ H a = some (.ins C dx fs) ∧ H b = some (.ins C dy gs) ∧ sp [.ref a, .ref b] H Q E
def rOwnI (C : Addr) (sp : Sp) : R2 := fun x y H Q => ∃ a dx fs i, x = .ref a ∧ y = .int i ∧ H a = some (.ins C dx fs) ∧ sp [.ref a, .int i] H Q E0
end
end My

namespace My
open PySem L2 Mth
abbrev s_InvalidStroke___init__ : Stmt := inClass (topS 7) 0
theorem sc_InvalidStroke___init__ : FnScope ["self", "index"] ["self", "index"] (defScope s_InvalidStroke___init__) := ⟨rfl, rfl, rfl, by decide +kernel, rfl, by decide +kernel, by decide +kernel⟩
section
variable {P : Program} {w : World} {K : PySem.W.Frag} {mg : Str → Option Value} {base : Heap}
/-! ### InvalidStroke(i) -/
def sp_ivs (C : Addr) : Sp := fun vs H Q _ => ∃ a v, vs = [.ref a, v] ∧ H a = some (exo a C none) ∧ ∀ dx, H dx = none → dx ≠ a → Q .non (upd (upd H dx (exd dx [("index", v)])) a (exo a C (some dx)))
theorem ok_ivs {f C : Addr} {fd : FuncData} (T : OexC K C) (hno : PySem.W.findIn K (.ref C) "index" = some none) (F : Fun K "__init__" "InvalidStroke.__init__" s_InvalidStroke___init__ f fd) : FnOk P w K mg base CX0 1 f fd ["self", "index"] (sp_ivs C) := by
  refine F.ok sc_InvalidStroke___init__ (fun vs H Q E h => ?_) (fun cdv A outer s H vs Q E hr h => ?_)
  · obtain ⟨a, v, rfl, _⟩ := h
    rfl
  obtain ⟨a, v, rfl, ha, q⟩ := h
  refine ⟨_, (pss_one (ps_ost (pv 0) (pv 1))), ?_⟩
  exact ⟨_, rfl, _, rfl, a, C, rfl, T, hno, .inl ⟨ha, fun dx n ne => q dx n ne⟩⟩
/-- what raises InvalidStroke asks -/
structure IvS (P : Program) (w : World) (K : PySem.W.Frag) (mg : Str → Option Value) (base : Heap) (C : Addr) : Prop where
  T : OexC K C
  gl : mg "InvalidStroke" = some (.ref C)
  ex : ∃ fI fd, PySem.W.findIn K (.ref C) "__init__" = some (some (.ref fI)) ∧ PySem.W.typeIn K (.ref fI) = some (.type "function") ∧ FnOk P w K mg base CX0 1 fI fd ["self", "index"] (sp_ivs C) ∧ Binds K fd ["self", "index"] []
theorem pmk_ivs {X : Cx} {C : Addr} {e : Expr} {ta : TA} {p pos : Pos} (T : IvS X.prog X.w X.K X.mg X.base C) (hr : Room 2 X.A) (hx : Passes CX0 X (fun _ _ _ => False)) (ha : PA X [e] ta) (hg : Gl X "InvalidStroke" := by rfl)
    (he : starEach [e] X.env = (false, eval e X.env) :: starEach [] X.env := by rfl) : PMk X (.Call (.Name "InvalidStroke" p) [e] [] pos) (tMkO C (sp_ivs C) [] ta) := by
  obtain ⟨fI, fd, iC, tI, F1, hb⟩ := T.ex
  exact pmk_oex (p := p) (pos := pos) T.T iC tI F1 hr hb (dvs := []) .nil hx hg T.gl ha (by decide) he rfl
theorem ivs_of {H1 : Hp} {C : Addr} {v : V} {Q : XK} (q : ∀ H' d, Same H1 H' → H1 d = none → H' d = some (.xd [("index", v)]) → Q (.ref C) (some d) H') :
    [v].length ≤ 1000 ∧ ∀ a, H1 a = none → sp_ivs C (.ref a :: ([v] ++ [])) (upd H1 a (exo a C none)) (fun v H2 => v = .non ∧ ∃ (d : Addr) (fs : List (Str × V)), H2 a = some (exo a C (some d)) ∧ H2 d = some (exd d fs) ∧ H1 d = none ∧ Q (.ref C) (some d) (upd (del H2 a) d (.xd fs))) (fun _ _ _ => False) := by
  refine ⟨by show 1 ≤ 1000; decide, fun a ha => ⟨a, v, rfl, upd_same, fun dx n ne => ?_⟩⟩
  have hd : H1 dx = none := by rw [upd_ne ne] at n; exact n
  refine ⟨rfl, dx, [("index", v)], upd_same, ?_, hd, q _ dx (fun b o e => ?_) hd upd_same⟩
  · rw [upd_ne ne]
    exact upd_same
  · have b1 : b ≠ dx := ne_of_none e hd
    have b2 : b ≠ a := ne_of_none e ha
    rw [upd_ne b1, del_ne b2, upd_ne b2, upd_ne b1, upd_ne b2]
    exact e
end
end My

namespace My
open PySem L2 Mth LamX

section
variable {P : Program} {w : World} {K : PySem.W.Frag} {mg : Str → Option Value} {base : Heap}
/-! ### drawings that cannot be made -/
/-- at i stands what is no stroke, ahead of it only strokes; or there are too many -/
def BadDr (K : PySem.W.Frag) (C4 C8 : Addr) (H : Hp) (us : List V) (E : XK) : Prop :=
  (∃ (i : Nat) (zss : List (List T3)) (t : Addr) (bs : List V), AllSt K H (us.take i) zss ∧ (∀ zs ∈ zss, StOk zs) ∧ us[i]? = some (.ref t) ∧ SqT K H t bs ∧ BadSt K H bs ∧ ∀ H' d, Same H H' → H d = none → H' d = some (.xd [("index", .int (i : Nat))]) → E (.ref C4) (some d) H') ∨
  ∃ zss : List (List T3), AllSt K H us zss ∧ (∀ zs ∈ zss, StOk zs) ∧ 12 < us.length ∧ ∀ H', Same H H' → E (.ref C8) none H'
def sp_chkX (K : PySem.W.Frag) (C4 C8 : Addr) : Sp := fun vs H Q E => ∃ t us, vs = [.ref t] ∧ SqT K H t us ∧ BadDr K C4 C8 H us E
theorem Item.keepS {H H' : Hp} {u : V} {g : Bool} (h : Item K H u g) (s : Same H H') : Item K H' u g := h.same s
theorem BadSt.same {H H' : Hp} {us : List V} (h : BadSt K H us) (s : Same H H') : BadSt K H' us := by
  cases h with
  | len h => exact .len h
  | item l1 l2 h b => exact .item l1 l2 (pimp (fun _ _ i => i.same s) h) b
  | two l1 l2 h ok b => exact .two l1 l2 (pimp (fun _ _ i => i.same s) h) ok b
theorem BadDr.same {C4 C8 : Addr} {H H' : Hp} {us : List V} {E : XK} (h : BadDr K C4 C8 H us E) (s : Same H H') : BadDr K C4 C8 H' us E := by
  rcases h with ⟨i, zss, t, bs, a, b, c, d, e, f⟩ | ⟨zss, a, b, c, f⟩
  · exact .inl ⟨i, zss, t, bs, a.same s, b, c, same_T s d, e.same s, fun H2 x s2 n hx => f H2 x (s.trans s2) (s.free n) hx⟩
  · exact .inr ⟨zss, a.same s, b, c, fun H2 s2 => f H2 (s.trans s2)⟩
theorem ok_check_strokesX {f C4 C8 : Addr} {fd : FuncData} {tk : Tok} (b_enumerate : mg "enumerate" = none) (b_len : mg "len" = none) (m_MOST_STROKES : mg "MOST_STROKES" = some (.int 12 tk)) (IV : IvS P w K mg base C4) (XM : ExX K mg "TooMany" C8) (d_is_stroke : D P w K mg base "is_stroke" 3 (sp_isstB K))
    (F : Fun K "check_strokes" "check_strokes" s_check_strokes f fd) : FnOk P w K mg base (L2.CX P w) 4 f fd ["strokes"] (sp_chkX K C4 C8) := by
  refine F.okX sc_check_strokes (fun vs H Q E h => ?_) (fun cdv A outer s H vs Q E hr h => ?_)
  · obtain ⟨t, us, rfl, _⟩ := h
    rfl
  obtain ⟨t, us, rfl, hT, bad⟩ := h
  refine ⟨_, (pss_cons (ps_for (passes_of rfl) rfl (pi_enumT (by rfl) b_enumerate (pa_cons (pv 0) pa_nil)) (pg_tup rfl (pgs_cons (pg_name (i := 1) sc_check_strokes.nd rfl (by first | exact Or.inl rfl | exact Or.inr rfl)) (pgs_cons (pg_name (i := 2) sc_check_strokes.nd rfl (by first | exact Or.inl rfl | exact Or.inr rfl)) pgs_nil))) (pss_one (ps_if (pt_not (pt_val (pc d_is_stroke (hr.mono (by decide)) (pa_cons (pv 2) pa_nil)))) (pss_one (ps_raise rfl (takes_of rfl rfl rfl rfl) (pmk_ivs IV (hr.mono (by decide)) pass0 (pa_cons (pv 1) pa_nil)))) pss_nil)))
    (pss_one (ps_if (pt_cmpR (op_gt) (pe_callB call_len_seq (by rfl) b_len PySem.boot_len (pa_cons (pv 0) pa_nil)) (pe_glob (v := .int 12) (by rfl) m_MOST_STROKES ⟨_, rfl⟩) (nomark _)) (pss_one (ps_raise rfl (takes_of rfl rfl rfl rfl) (pmk_own PySem.F.excBase_ValueError XM.q XM.g XM.k (raises_own XM.b XM.t) (by rfl)))) pss_nil))), ?_⟩
  rcases bad with ⟨i, zss, tb, bs, ha, ok, ei, hb, bad, q⟩ | ⟨zss, ha, ok, hl, q⟩
  · have li := (List.getElem?_eq_some_iff.mp ei).1
    refine ⟨_, rfl, t, us, rfl, hT, for_enumT (K := K) (a := t) (xs := us) (fun j σ H' => (∃ x y, σ = [some (.ref t), x, y]) ∧ Same H H' ∧ j ≤ i) ⟨⟨none, none, rfl⟩, Same.refl _, Nat.zero_le _⟩ ?_ ?_ ?_⟩
    · rintro j σ H' _ ⟨_, s', _⟩
      exact same_T s' hT
    · rintro j x σ H' T hx ⟨⟨y, z, rfl⟩, s', le⟩ hn
      have sn := same_new hn (.tup [.int (j : Nat), x])
      refine ⟨T, _, rfl, .inl (.inl upd_same), rfl, _, _, rfl, _, _, rfl, rfl, ?_⟩
      by_cases e : j = i
      · subst e
        rw [ei] at hx
        cases hx
        refine ⟨_, rfl, .inr ⟨tb, bs, rfl, same_T (s'.trans sn) hb, bad.same (s'.trans sn), fun H2 s2 => ⟨_, rfl, iteT ?_⟩⟩⟩
        have s3 := (s'.trans sn).trans s2
        exact ⟨_, rfl, ivs_of fun H' d s4 n hd => q H' d (s3.trans s4) (s3.free n) hd⟩
      · have hx2 : (us.take i)[j]? = some x := by rw [List.getElem?_take_of_lt (by omega)]; exact hx
        obtain ⟨zs, h1, h2⟩ := pget ha hx2
        refine ⟨_, rfl, .inl ⟨_, zs, rfl, h2.same (s'.trans sn), ok zs (List.mem_of_getElem? h1), fun H2 s2 => ⟨_, rfl, iteF ⟨⟨_, _, rfl⟩, s'.trans (sn.trans s2), by omega⟩⟩⟩⟩
    · rintro σ H' ⟨_, _, le⟩
      omega
  · refine ⟨_, rfl, t, us, rfl, hT, for_enumT (K := K) (a := t) (xs := us) (fun i σ H' => (∃ x y, σ = [some (.ref t), x, y]) ∧ Same H H') ⟨⟨none, none, rfl⟩, Same.refl _⟩ ?_ ?_ ?_⟩
    · rintro i σ H' _ ⟨_, s'⟩
      exact same_T s' hT
    · rintro i x σ H' T hx ⟨⟨y, z, rfl⟩, s'⟩ hn
      obtain ⟨zs, h1, h2⟩ := pget ha hx
      have sn := same_new hn (.tup [.int (i : Nat), x])
      refine ⟨T, _, rfl, .inl (.inl upd_same), rfl, _, _, rfl, _, _, rfl, rfl, ?_⟩
      refine ⟨_, rfl, .inl ⟨_, zs, rfl, h2.same (s'.trans sn), ok zs (List.mem_of_getElem? h1), fun H2 s2 => ⟨_, rfl, iteF ⟨⟨_, _, rfl⟩, s'.trans (sn.trans s2)⟩⟩⟩⟩
    · rintro σ H' ⟨⟨y, z, rfl⟩, s'⟩
      refine ⟨_, rfl, t, us, rfl, .inr (same_T s' hT), _, _, rfl, rfl, _, rfl, ?_⟩
      rw [decide_eq_true (show ((12 : Int) < (us.length : Int)) by omega)]
      exact iteT (q _ s')
def sp_winX (K : PySem.W.Frag) (CW C4 C8 : Addr) : Sp := fun vs H Q E => ∃ (p dx t : Addr) (us : List V), vs = [.ref p, .ref t] ∧ SqT K H t us ∧ BadDr K C4 C8 H us E
def sp_winitX (K : PySem.W.Frag) (CW C4 C8 : Addr) : Sp := fun vs H Q E => ∃ ws rest, vs = ws ++ rest ∧ ws.length = (["self"] : List Str).length ∧ rest.length ≤ sizeLine ∧ ∀ p, H p = Option.none → sp_winX K CW C4 C8 (ws ++ [V.ref p]) (upd H p (.tup rest)) Q E
theorem ok_winitX {f CW C4 C8 : Addr} {fd : FuncData} (d_check_strokesX : DX P w K mg base "check_strokes" 4 (sp_chkX K C4 C8))
    (F : Fun K "__init__" "Drawing.__init__" s_Drawing___init__ f fd) : FnR P w K mg base (L2.CX P w) 5 f (sp_winitX K CW C4 C8) := by
  obtain ⟨oc, od, kV, doc, pm, an, cdv, ct, osl, rfl, lk, hcd⟩ := F.ex
  refine StX.fn_star (ps := ["self"]) (pv := "strokes") (sp := sp_winX K CW C4 C8) lk hcd sc_Drawing___init__ StX.cxUp (StX.bind_star1 (B := fun us => bindArgs (PySem.W.fnOf "__init__" "Drawing.__init__" (defArgs s_Drawing___init__) (defBody s_Drawing___init__) (defScope s_Drawing___init__) .none kV doc pm an cdv ct) ⟨us, []⟩) (fun a => rfl) (fun a r rs => rfl)) fun A outer s H vs Q E hr h => ?_
  obtain ⟨p, dx, t, us, rfl, hT, bad⟩ := h
  refine ⟨_, (pss_cons (ps_expr (pcX d_check_strokesX (hr.mono (by decide)) (passes_call (takes_of rfl rfl rfl rfl) (fun _ _ _ _ h => h)) (pa_cons (pv 1) pa_nil)))
    pss_never), ?_⟩
  exact ⟨_, rfl, t, us, rfl, hT, bad⟩
end
end My

namespace My
open PySem L2 Mth LamX
section
variable {P : Program} {w : World} {K : PySem.W.Frag} {mg : Str → Option Value} {base : Heap}
/-- the class where it raises -/
structure DrXI (P : Program) (w : World) (K : PySem.W.Frag) (mg : Str → Option Value) (base : Heap) (CW f C4 C8 : Addr) : Prop where
  tx : WTxt K CW
  mkC : Mk K CW f
  ok : FnR P w K mg base (L2.CX P w) 5 f (sp_winitX K CW C4 C8)
  mgC : mg "Drawing" = some (.ref CW)
theorem mkwx_of {CW C4 C8 : Addr} {H : Hp} {Qf : Addr → VK} {E : XK} {us : List V} (bad : BadDr K C4 C8 H us E) (hl : us.length ≤ 1000) :
    ∀ x dx, H x = none → H dx = none → dx ≠ x → sp_winitX K CW C4 C8 (.ref x :: us) (upd (upd H dx (.own x)) x (.ins CW dx [])) (Qf x) E := by
  intro x dx hx hd _
  refine ⟨[.ref x], us, rfl, rfl, small hl, fun t ht => ⟨x, dx, t, us, rfl, .inl (.inl upd_same), bad.same fun c o e => ?_⟩⟩
  have e2 : upd (upd H dx (.own x)) x (.ins CW dx []) c = some o := by
    rw [upd_ne (ne_of_none e hx), upd_ne (ne_of_none e hd)]
    exact e
  rw [upd_ne (ne_of_none e2 ht)]
  exact e2
end
end My

namespace My
open PySem L2 Mth LamX TL

section
variable {P : Program} {w : World} {K : PySem.W.Frag} {mg : Str → Option Value} {base : Heap}
/-! ### texts that tell no drawing -/
theorem stH_len : ∀ (ws : List (List Nat)) (c : List T3), (stH ws c).length ≤ ws.length
  | [], _ => Nat.le_refl _
  | w :: ws, c => by
    show (if w = [47] then c :: stH ws [] else stH ws (c ++ [(spotF w).getD (0, 0, 1)])).length ≤ ws.length + 1
    by_cases h : w = [47]
    · rw [if_pos h, List.length_cons]
      exact Nat.succ_le_succ (stH_len ws [])
    · rw [if_neg h]
      exact Nat.le_succ_of_le (stH_len ws _)
theorem pgetW {α β : Type} {R : α → β → Prop} {ps : List α} {ts : List β} (h : Paired R ps ts) : ∀ {i : Nat} {t : β}, ts[i]? = some t → ∃ p, ps[i]? = some p ∧ R p t := by
  induction h with
  | nil => intro i t e; simp at e
  | cons r _ ih =>
    intro i t e
    cases i with
    | zero =>
      obtain rfl := Option.some.inj e
      exact ⟨_, rfl, r⟩
    | succ i => exact ih e
/-- the first stroke that stands still somewhere -/
def Still (zss : List (List T3)) (i : Nat) : Prop := (∀ zs ∈ zss.take i, StOk zs) ∧ ∃ zs, zss[i]? = some zs ∧ 1 ≤ zs.length ∧ zs.length ≤ 12 ∧ (∀ z ∈ zs, Ok z) ∧ ∃ (j : Nat) (z : T3), zs[j]? = some z ∧ zs[j + 1]? = some z
def sp_prsX (K : PySem.W.Frag) (C12 C4 : Addr) : Sp := fun vs H Q E => ∃ x : Str, vs = [.str x] ∧ x.length ≤ 100000 ∧ x ≠ "" ∧ (∀ y ∈ Txt.split x " ", y.length ≤ 90) ∧ (Txt.split x " ").length ≤ 900 ∧
  ((∃ k, fwF ((Txt.split x " ").map tl) 0 true = some k ∧ ∀ H' d, Same H H' → H d = none → H' d = some (.xd (btF (.int 0) (.int (k : Int)))) → E (.ref C12) (some d) H') ∨
   (fwF ((Txt.split x " ").map tl) 0 true = none ∧ ∃ i, Still (stF ((Txt.split x " ").map tl)) i ∧ ∀ H' d, Same H H' → H d = none → H' d = some (.xd [("index", .int (i : Nat))]) → E (.ref C4) (some d) H'))
theorem ok_parse_drawingX {f fI CW C12 C4 C8 : Addr} {fd : FuncData} (TX : DrXI P w K mg base CW fI C4 C8) (BT : BtxS P w K mg base C12) (d_first_wrong_word : D P w K mg base "first_wrong_word" 4 (sp_fww K)) (d_strokes_from : D P w K mg base "strokes_from" 4 (sp_stf K))
    (F : Fun K "parse_drawing" "parse_drawing" s_parse_drawing f fd) : FnOk P w K mg base (L2.CX P w) 8 f fd ["text"] (sp_prsX K C12 C4) := by
  refine F.okX sc_parse_drawing (fun vs H Q E h => ?_) (fun cdv A outer s H vs Q E hr h => ?_)
  · obtain ⟨x, rfl, _⟩ := h
    rfl
  obtain ⟨x, rfl, hl, hne, h90, h900, q⟩ := h
  refine ⟨_, (pss_cons (ps_if (pt_cmpR (op_eq) (pv 0) pe_str (nomark _)) (pss_one (ps_never)) pss_nil)
    (pss_cons (ps_set (i := 1) sc_parse_drawing.nd rfl (by first | exact Or.inl rfl | exact Or.inr rfl) (pe_split (pv 0) pe_str))
    (pss_cons (ps_set (i := 2) sc_parse_drawing.nd rfl (by first | exact Or.inl rfl | exact Or.inr rfl) (pc d_first_wrong_word (hr.mono (by decide)) (pa_cons (pv 1) pa_nil)))
    (pss_cons (ps_if (pt_cmpR (op_notN) (pv 2) pe_non (nomark _)) (pss_one (ps_raise rfl (takes_of rfl rfl rfl rfl) (pmk_btx BT (hr.mono (by decide)) pass0 (pa_cons pe_int (pa_cons (pv 2) pa_nil))))) pss_nil)
    (pss_cons (ps_set (i := 3) sc_parse_drawing.nd rfl (by first | exact Or.inl rfl | exact Or.inr rfl) (pc d_strokes_from (hr.mono (by decide)) (pa_cons (pv 1) pa_nil)))
    (pss_one (ps_ret (pe_makeSX TX.mkC TX.ok (hr.mono (by decide)) (by rfl) TX.mgC (passes_call (takes_of rfl rfl rfl rfl) (fun _ _ _ _ h => h)) (pv 3))))))))), ?_⟩
  refine ⟨_, rfl, rfl, false, congrArg V.bl (decide_eq_false fun e => hne (V.str.inj e)), iteF ?_⟩
  dsimp only [tNext]
  refine ⟨_, rfl, ⟨_, rfl⟩, x, " ", rfl, rfl, by decide +kernel, Nat.le_trans (by omega : x.length + 2 ≤ 200000) (by decide), fun p hp => gn_of ?_⟩
  have s1 := same_new hp (.lst ((Txt.split x " ").map V.str))
  have hP : (upd H p (.lst ((Txt.split x " ").map V.str))) p = some (.lst ((Txt.split x " ").map V.str)) := upd_same
  generalize upd H p (.lst ((Txt.split x " ").map V.str)) = H1 at *
  refine ⟨_, rfl, p, _, rfl, .inl (.inl hP), h90, by omega, fun H2 s2 => gn_of ?_⟩
  have s12 := s1.trans s2
  rcases q with ⟨k, hf, q⟩ | ⟨hf, i, hs, q⟩
  · rw [hf]
    refine ⟨_, rfl, rfl, true, rfl, iteT ?_⟩
    exact ⟨_, rfl, btx_of fun H' d s' hd' e' => q H' d (s12.trans s') (s12.free hd') e'⟩
  · rw [hf]
    refine ⟨_, rfl, rfl, false, rfl, iteF ?_⟩
    dsimp only [tNext]
    have hv : ∀ y ∈ Txt.split x " ", tl y = [47] ∨ spotF (tl y) ≠ none := fun y hy => fw_all _ _ _ hf (tl y) (List.mem_map.mpr ⟨y, hy, rfl⟩)
    refine ⟨_, rfl, p, _, rfl, .inl (.inl (s2 _ _ hP)), h90, h900, hv, fun H3 L us s3 nL hL pL => gn_of ?_⟩
    have s13 := s12.trans s3
    refine ⟨_, rfl, L, us, rfl, .inr (.inl (.inl hL)), ?_⟩
    obtain ⟨g1, zs, ez, l1, l12, oz, bz⟩ := hs
    obtain ⟨v, ev, t, bs, rfl, ht, pb⟩ := pgetW pL ez
    have lb := Paired.length pb
    have lus : us.length ≤ 1000 := by
      rw [Paired.length pL]
      unfold stF
      refine Nat.le_trans (stH_len _ _) ?_
      rw [List.length_append, List.length_map]
      show (Txt.split x " ").length + 1 ≤ 1000
      omega
    refine mkwx_of (Qf := fun x v H2 => v = .non ∧ Q (.ref x) H2) (.inl ⟨i, (stF ((Txt.split x " ").map tl)).take i, t, bs, ptake pL i, g1, ev, ht, .two (by omega) (by omega) pb oz bz, fun H' d s' hd' e' => q H' d (s13.trans s') (s13.free hd') e'⟩) lus
end
end My

namespace My
open PySem L2 Mth LamX TL
section
/-! ### the words of strokes, and what is read from them -/
theorem joinL_app (S : List Nat) : ∀ {a b : List (List Nat)}, a ≠ [] → b ≠ [] → joinL S (a ++ b) = joinL S a ++ (S ++ joinL S b)
  | [], _, h, _ => absurd rfl h
  | [x], y :: b, _, _ => rfl
  | [x], [], _, h => absurd rfl h
  | x :: z :: r, b, _, hb => by
    have ih := joinL_app S (a := z :: r) (b := b) (by simp) hb
    show x ++ (S ++ joinL S ((z :: r) ++ b)) = (x ++ (S ++ joinL S (z :: r))) ++ (S ++ joinL S b)
    rw [ih]
    simp only [List.append_assoc]
def wlL : List (List T3) → List (List Nat)
  | [] => []
  | [zs] => zs.map wordL
  | zs :: ys :: r => zs.map wordL ++ ([47] :: wlL (ys :: r))
theorem wlL_ne : ∀ {zss : List (List T3)}, zss ≠ [] → (∀ zs ∈ zss, zs ≠ []) → wlL zss ≠ []
  | [], h, _ => absurd rfl h
  | [zs], _, h => by
    have := h zs (.head _)
    cases zs with
    | nil => exact absurd rfl this
    | cons _ _ => intro e; cases e
  | zs :: ys :: r, _, _ => by
    show zs.map wordL ++ ([47] :: wlL (ys :: r)) ≠ []
    simp
theorem text_wl : ∀ {zss : List (List T3)}, zss ≠ [] → (∀ zs ∈ zss, zs ≠ []) → joinL [32, 47, 32] (zss.map fun zs => joinL [32] (zs.map wordL)) = joinL [32] (wlL zss)
  | [], h, _ => absurd rfl h
  | [zs], _, _ => rfl
  | zs :: ys :: r, _, h => by
    have ih := text_wl (zss := ys :: r) (by simp) fun z m => h z (.tail _ m)
    have hz := h zs (.head _)
    show joinL [32] (zs.map wordL) ++ ([32, 47, 32] ++ joinL [32, 47, 32] ((ys :: r).map fun zs => joinL [32] (zs.map wordL))) = joinL [32] (zs.map wordL ++ ([47] :: wlL (ys :: r)))
    rw [ih, joinL_app [32] (by simpa using hz) (by simp), show ([47] :: wlL (ys :: r)) = [[47]] ++ wlL (ys :: r) from rfl, joinL_app [32] (by simp) (wlL_ne (by simp) fun z m => h z (.tail _ m))]
    rfl
theorem wl_mem : ∀ {zss : List (List T3)} {w : List Nat}, w ∈ wlL zss → w = [47] ∨ ∃ zs ∈ zss, ∃ z ∈ zs, w = wordL z
  | [], w, h => by cases h
  | [zs], w, h => by
    obtain ⟨z, hz, rfl⟩ := List.mem_map.mp h
    exact .inr ⟨zs, .head _, z, hz, rfl⟩
  | zs :: ys :: r, w, h => by
    rcases List.mem_append.mp (show w ∈ zs.map wordL ++ ([47] :: wlL (ys :: r)) from h) with h | h
    · obtain ⟨z, hz, rfl⟩ := List.mem_map.mp h
      exact .inr ⟨zs, .head _, z, hz, rfl⟩
    · rcases List.mem_cons.mp h with h | h
      · exact .inl h
      · rcases wl_mem h with h | ⟨zs', h1, h2⟩
        · exact .inl h
        · exact .inr ⟨zs', .tail _ h1, h2⟩
theorem word_ne47 (z : T3) : wordL z ≠ [47] := fun e => by
  have := word_free (z := z) (s := 47) (by omega)
  rw [e] at this
  exact this (.head _)
theorem spot47 : spotF [47] = none := by decide +kernel
/-- every word is a stroke's end or a spot -/
theorem fw_stroke {ok : T3 → Prop} (hs : ∀ z, ok z → spotF (wordL z) = some z) : ∀ (zs : List T3) (rest : List (List Nat)) (n : Nat) (b : Bool), (∀ z ∈ zs, ok z) → zs ≠ [] → fwF (zs.map wordL ++ rest) n b = fwF rest (n + zs.length) false
  | [], _, _, _, _, h => absurd rfl h
  | z :: zs, rest, n, b, h, _ => by
    have e : fwF ((z :: zs).map wordL ++ rest) n b = fwF (zs.map wordL ++ rest) (n + 1) false := by
      show (if wordL z = [47] ∧ b = false then fwF (zs.map wordL ++ rest) (n + 1) true else if spotF (wordL z) = none then some n else fwF (zs.map wordL ++ rest) (n + 1) false) = _
      rw [if_neg fun c => word_ne47 z c.1, hs z (h z (.head _)), if_neg (by intro c; cases c)]
    rw [e]
    by_cases hz : zs = []
    · subst hz; rfl
    · rw [fw_stroke hs zs rest (n + 1) false (fun y hy => h y (.tail _ hy)) hz, List.length_cons]
      congr 1
      omega
theorem fw_wl {ok : T3 → Prop} (hs : ∀ z, ok z → spotF (wordL z) = some z) : ∀ (zss : List (List T3)) (n : Nat), zss ≠ [] → (∀ zs ∈ zss, zs ≠ [] ∧ ∀ z ∈ zs, ok z) → fwF (wlL zss) n true = none
  | [], _, h, _ => absurd rfl h
  | [zs], n, _, h => by
    have := fw_stroke hs zs [] n true (h zs (.head _)).2 (h zs (.head _)).1
    rw [List.append_nil] at this
    rw [show wlL [zs] = zs.map wordL from rfl, this]
    rfl
  | zs :: ys :: r, n, _, h => by
    show fwF (zs.map wordL ++ ([47] :: wlL (ys :: r))) n true = none
    rw [fw_stroke hs zs _ n true (h zs (.head _)).2 (h zs (.head _)).1]
    show (if ([47] : List Nat) = [47] ∧ false = false then fwF (wlL (ys :: r)) (n + zs.length + 1) true else _) = none
    rw [if_pos ⟨rfl, rfl⟩]
    exact fw_wl hs (ys :: r) _ (by simp) fun z m => h z (.tail _ m)
theorem st_stroke {ok : T3 → Prop} (hs : ∀ z, ok z → spotF (wordL z) = some z) : ∀ (zs : List T3) (rest : List (List Nat)) (c : List T3), (∀ z ∈ zs, ok z) → stH (zs.map wordL ++ rest) c = stH rest (c ++ zs)
  | [], rest, c, _ => by rw [List.append_nil]; rfl
  | z :: zs, rest, c, h => by
    show (if wordL z = [47] then c :: stH (zs.map wordL ++ rest) [] else stH (zs.map wordL ++ rest) (c ++ [(spotF (wordL z)).getD (0, 0, 1)])) = _
    rw [if_neg (word_ne47 z), hs z (h z (.head _)), st_stroke hs zs rest _ fun y hy => h y (.tail _ hy), List.append_assoc]
    rfl
theorem st_wl {ok : T3 → Prop} (hs : ∀ z, ok z → spotF (wordL z) = some z) : ∀ (zss : List (List T3)), zss ≠ [] → (∀ zs ∈ zss, ∀ z ∈ zs, ok z) → stF (wlL zss) = zss
  | [], h, _ => absurd rfl h
  | [zs], _, h => by
    show stH (zs.map wordL ++ [[47]]) [] = [zs]
    rw [st_stroke hs zs _ _ (h zs (.head _))]
    rfl
  | zs :: ys :: r, _, h => by
    have ih := st_wl hs (ys :: r) (by simp) fun z m => h z (.tail _ m)
    unfold stF at ih ⊢
    show stH ((zs.map wordL ++ ([47] :: wlL (ys :: r))) ++ [[47]]) [] = _
    rw [List.append_assoc, st_stroke hs zs _ _ (h zs (.head _)), List.nil_append]
    show (if ([47] : List Nat) = [47] then zs :: stH (wlL (ys :: r) ++ [[47]]) [] else _) = _
    rw [if_pos rfl, ih]
/-! ### how long the strokes of words may be -/
def Runs (k : Nat) (ws : List (List Nat)) : Prop := ∀ a b c, ws = a ++ (b ++ c) → (∀ w ∈ b, w ≠ [47]) → b.length ≤ k
theorem runs_st {k : Nat} : ∀ (ws pre : List (List Nat)) (b0 : List (List Nat)) (c : List T3), Runs k (pre ++ (b0 ++ ws)) → (∀ w ∈ b0, w ≠ [47]) → c.length = b0.length → ∀ s ∈ stH (ws ++ [[47]]) c, s.length ≤ k
  | [], pre, b0, c, h, hb, hc, s, hs => by
    have hs : s ∈ (if ([47] : List Nat) = [47] then c :: stH [] [] else stH [] (c ++ [(spotF [47]).getD (0, 0, 1)])) := hs
    rw [if_pos rfl] at hs
    rcases List.mem_cons.mp hs with hs | hs
    · rw [hs, hc]
      exact h pre b0 [] rfl hb
    · cases hs
  | w :: ws, pre, b0, c, h, hb, hc, s, hs => by
    have hs : s ∈ (if w = [47] then c :: stH (ws ++ [[47]]) [] else stH (ws ++ [[47]]) (c ++ [(spotF w).getD (0, 0, 1)])) := hs
    by_cases e : w = [47]
    · rw [if_pos e] at hs
      rcases List.mem_cons.mp hs with hs | hs
      · rw [hs, hc]
        exact h pre b0 (w :: ws) rfl hb
      · exact runs_st ws (pre ++ (b0 ++ [w])) [] [] (by simpa using h) (fun _ z => by cases z) rfl s hs
    · rw [if_neg e] at hs
      refine runs_st ws pre (b0 ++ [w]) _ (by simpa using h) (fun v hv => ?_) (by rw [List.length_append, List.length_append, hc]; rfl) s hs
      rcases List.mem_append.mp hv with hv | hv
      · exact hb v hv
      · rw [List.mem_singleton.mp hv]; exact e
theorem runs_stF {k : Nat} {ws : List (List Nat)} (h : Runs k ws) : ∀ s ∈ stF ws, s.length ≤ k := runs_st ws [] [] [] h (fun _ z => by cases z) rfl
theorem Runs.pre {k : Nat} {a b : List (List Nat)} (h : Runs k (a ++ b)) : Runs k a := fun x y z e hy => h x y (z ++ b) (by rw [e]; simp) hy
theorem Runs.suf {k : Nat} {a b : List (List Nat)} (h : Runs k (a ++ b)) : Runs k b := fun x y z e hy => h (a ++ x) y z (by rw [e]; simp) hy
theorem Runs.len (ws : List (List Nat)) : Runs ws.length ws := fun a b c e _ => by
  have := congrArg List.length e
  rw [List.length_append, List.length_append] at this
  omega
theorem Runs.app {j k : Nat} {a b : List (List Nat)} (h : Runs j a) (g : Runs k b) : Runs (j + k) (a ++ b) := fun x y z e hy => by
  rcases List.append_eq_append_iff.mp e with ⟨l, e1, e2⟩ | ⟨l, e1, e2⟩
  · have := g l y z e2 hy
    omega
  · rcases List.append_eq_append_iff.mp e2 with ⟨m, f1, f2⟩ | ⟨m, f1, f2⟩
    · have := h x y m (by rw [e1, f1]) hy
      omega
    · have i1 := h x l [] (by rw [e1]; simp) fun w hw => hy w (by rw [f1]; exact List.mem_append_left _ hw)
      have i2 := g [] m z (by rw [f2]; simp) fun w hw => hy w (by rw [f1]; exact List.mem_append_right _ hw)
      rw [f1, List.length_append]
      omega
theorem Runs.sep {k : Nat} {a b : List (List Nat)} (h : Runs k a) (g : Runs k b) : Runs k (a ++ ([47] :: b)) := fun x y z e hy => by
  rcases List.append_eq_append_iff.mp e with ⟨l, e1, e2⟩ | ⟨l, e1, e2⟩
  · cases l with
    | nil =>
      cases y with
      | nil => exact Nat.zero_le _
      | cons v y =>
        injection e2 with e2 _
        exact absurd e2.symm (hy v (.head _))
    | cons v l =>
      injection e2 with _ e2
      exact g l y z e2 hy
  · rcases List.append_eq_append_iff.mp e2 with ⟨m, f1, f2⟩ | ⟨m, f1, f2⟩
    · exact h x y m (by rw [e1, f1]) hy
    · cases m with
      | nil =>
        rw [f1, List.append_nil]
        exact h x l [] (by rw [e1]; simp) fun w hw => hy w (by rw [f1]; exact List.mem_append_left _ hw)
      | cons v m =>
        injection f2 with f2 _
        exact absurd f2.symm (hy v (by rw [f1]; exact List.mem_append_right _ (.head _)))
theorem runs_map {k : Nat} {zs : List T3} (h : zs.length ≤ k) : Runs k (zs.map wordL) := fun a b c e hb => Nat.le_trans (Runs.len _ a b c e hb) (by rw [List.length_map]; exact h)
theorem runs_wl {k : Nat} : ∀ {zss : List (List T3)}, (∀ zs ∈ zss, zs.length ≤ k) → Runs k (wlL zss)
  | [], _ => fun a b c e _ => by
    have := congrArg List.length e
    simp only [wlL, List.length_append, List.length_nil] at this
    omega
  | [zs], h => runs_map (h zs (.head _))
  | zs :: ys :: r, h => Runs.sep (runs_map (h zs (.head _))) (runs_wl fun z m => h z (.tail _ m))
/-! ### no stroke is empty where no word is wrong -/
theorem fw_ne : ∀ (ws : List (List Nat)) (n : Nat) (b : Bool) (c : List T3), fwF ws n b = none → (b = false → c ≠ []) → ∀ s ∈ stH (ws ++ [[47]]) c, s ≠ []
  | [], n, b, c, h, hc, s, hs => by
    have hs : s ∈ (if ([47] : List Nat) = [47] then c :: stH [] [] else stH [] (c ++ [(spotF [47]).getD (0, 0, 1)])) := hs
    rw [if_pos rfl] at hs
    rcases List.mem_cons.mp hs with hs | hs
    · rw [hs]
      cases b with
      | false => exact hc rfl
      | true => cases h
    · cases hs
  | w :: ws, n, b, c, h, hc, s, hs => by
    have hs : s ∈ (if w = [47] then c :: stH (ws ++ [[47]]) [] else stH (ws ++ [[47]]) (c ++ [(spotF w).getD (0, 0, 1)])) := hs
    have h : (if w = [47] ∧ b = false then fwF ws (n + 1) true else if spotF w = none then some n else fwF ws (n + 1) false) = none := h
    by_cases e : w = [47]
    · rw [if_pos e] at hs
      cases b with
      | false =>
        rw [if_pos ⟨e, rfl⟩] at h
        rcases List.mem_cons.mp hs with hs | hs
        · rw [hs]; exact hc rfl
        · exact fw_ne ws _ _ [] h (fun c => by cases c) s hs
      | true =>
        rw [if_neg (by intro c; cases c.2), e, if_pos spot47] at h
        cases h
    · rw [if_neg e] at hs
      rw [if_neg fun c => e c.1] at h
      by_cases e2 : spotF w = none
      · rw [if_pos e2] at h; cases h
      · rw [if_neg e2] at h
        exact fw_ne ws _ _ _ h (fun _ => by simp) s hs
theorem fwF_ne {ws : List (List Nat)} (h : fwF ws 0 true = none) : ∀ s ∈ stF ws, s ≠ [] := fw_ne ws 0 true [] h fun c => by cases c
end
end My

namespace My
open PySem L2 Mth LamX TL
abbrev s_law_bad_word : Stmt := topS 62
theorem sc_law_bad_word : FnScope ["_law_d", "_law_some"] ["_law_d"] (defScope s_law_bad_word) := ⟨rfl, rfl, rfl, by decide +kernel, rfl, by decide +kernel, by decide +kernel⟩
abbrev s_law_strokes_words : Stmt := topS 61
theorem sc_law_strokes_words : FnScope ["_law_d", "_law_strokes_here"] ["_law_d", "_law_strokes_here"] (defScope s_law_strokes_words) := ⟨rfl, rfl, rfl, by decide +kernel, rfl, by decide +kernel, by decide +kernel⟩
section
variable {P : Program} {w : World} {K : PySem.W.Frag} {mg : Str → Option Value} {base : Heap}
/-! ### words that are often no spot; the words of strokes -/
def sp_lbw (K : PySem.W.Frag) : Sp := fun vs H Q _ => ∃ (d : Addr) (st : Src), vs = [.ref d] ∧ H d = some (.lst (encD st)) ∧ SrcOk st ∧
  ∀ H' st' (x : Str), Keep d H H' → H' d = some (.lst (encD st')) → SrcOk st' → (x = " " ∨ 32 ∉ tl x) → x.length ≤ 90 → Q (.str x) H'
def badsL : List Str := ["", "1", "1,2,3,4", "01,2", "1,-0", "1,2,1", "2,4,2", "1,2,0", "1,,2", "a,b", "+1,2", "1,2,-3", "/"]
def badsM : List Str := ["1,2", "-3,0,7", "1234567890,1", "123456789,-2", "1,2,09", "--1,2", " "]
theorem bads_ok : ∀ x ∈ badsL ++ badsM, (x = " " ∨ 32 ∉ tl x) ∧ x.length ≤ 90 := by decide +kernel
theorem bads_len : (badsL ++ badsM).length = 20 := rfl
theorem ok_law_bad_word {f : Addr} {fd : FuncData} (d_law_below : D P w K mg base "_law_below" 1 sp_below)
    (F : Fun K "_law_bad_word" "_law_bad_word" s_law_bad_word f fd) : FnOk P w K mg base CX0 3 f fd ["_law_d"] (sp_lbw K) := by
  refine F.ok sc_law_bad_word (fun vs H Q E h => ?_) (fun cdv A outer s H vs Q E hr h => ?_)
  · obtain ⟨d, st, rfl, _⟩ := h
    rfl
  obtain ⟨d, st, rfl, hd, hs, q⟩ := h
  refine ⟨_, (pss_cons (ps_set (i := 1) sc_law_bad_word.nd rfl (by first | exact Or.inl rfl | exact Or.inr rfl) (pe_lst (pa_cons pe_str (pa_cons pe_str (pa_cons pe_str (pa_cons pe_str (pa_cons pe_str (pa_cons pe_str (pa_cons pe_str (pa_cons pe_str (pa_cons pe_str (pa_cons pe_str (pa_cons pe_str (pa_cons pe_str (pa_cons pe_str pa_nil)))))))))))))))
    (pss_cons (ps_set (i := 1) sc_law_bad_word.nd rfl (by first | exact Or.inl rfl | exact Or.inr rfl) (pe_op op_cat (pv 1) (pe_lst (pa_cons pe_str (pa_cons pe_str (pa_cons pe_str (pa_cons pe_str (pa_cons pe_str (pa_cons pe_str (pa_cons pe_str pa_nil))))))))))
    (pss_one (ps_ret (pe_ix (r := rIxL K) ix_list (pv 1) (pc d_law_below (hr.mono (by decide)) (pa_cons (pv 0) (pa_cons pe_int pa_nil))) (fun _ _ => rfl)))))), ?_⟩
  refine ⟨(by show 13 ≤ sizeLine; decide), fun a ha => gn_of ?_⟩
  have sa := same_new ha (.lst (badsL.map V.str))
  have hA : (upd H a (.lst (badsL.map V.str))) a = some (.lst (badsL.map V.str)) := upd_same
  have e1 : (badsL.map V.str) ++ (badsM.map V.str) = (badsL ++ badsM).map V.str := by rw [List.map_append]
  refine ⟨_, rfl, (by show 7 ≤ sizeLine; decide), fun b hb => ?_⟩
  have sb := sa.trans (same_new hb (.lst (badsM.map V.str)))
  have hB : (upd (upd H a (.lst (badsL.map V.str))) b (.lst (badsM.map V.str))) b = some (.lst (badsM.map V.str)) := upd_same
  have hA := same_new hb (.lst (badsM.map V.str)) _ _ hA
  refine ⟨a, b, badsL.map V.str, badsM.map V.str, rfl, rfl, hA, hB, (by show 20 ≤ sizeLine; decide), fun c hc => gn_of ?_⟩
  rw [e1]
  have sc := sb.trans (same_new hc (.lst ((badsL ++ badsM).map V.str)))
  have hC : (upd (upd (upd H a (.lst (badsL.map V.str))) b (.lst (badsM.map V.str))) c (.lst ((badsL ++ badsM).map V.str))) c = some (.lst ((badsL ++ badsM).map V.str)) := upd_same
  have hcd : c ≠ d := fun z => by subst z; exact absurd (hc.symm.trans (sb _ _ hd)) (by simp)
  dsimp only
  refine ⟨_, rfl, _, rfl, d, _, st, rfl, by decide, by decide, sc _ _ hd, hs, fun st1 r ok1 r0 r1 => ?_⟩
  obtain ⟨x, ex⟩ : ∃ x, (badsL ++ badsM)[r.toNat]? = some x := ⟨_, List.getElem?_eq_getElem (by rw [bads_len]; omega)⟩
  refine ⟨c, _, r, .str x, rfl, rfl, .inl (.inl (by rw [upd_ne hcd]; exact hC)), ?_, ?_⟩
  · rw [show r = ((r.toNat : Nat) : Int) from by omega]
    refine atI_nat ?_
    rw [List.getElem?_map, ex]; rfl
  · obtain ⟨b1, b2⟩ := bads_ok x (List.mem_of_getElem? ex)
    exact q _ st1 x ((Keep.of sc).trans keep_upd) upd_same ok1 b1 b2
theorem none_back {H H' : Hp} {p : Addr} (s : Same H H') (h : H' p = none) : H p = none := by
  cases e : H p with
  | none => rfl
  | some o => rw [s _ _ e] at h; cases h
theorem textS_len {zss : List (List T3)} (b : ∀ zs ∈ zss, zs.length ≤ 12 ∧ ∀ z ∈ zs, B 59 z) : (textS zss).length ≤ 740 * zss.length := by
  have h := joinL_len [32, 47, 32] ((zss.map lineS).map tl)
  have h2 : (((zss.map lineS).map tl).map (·.length)).sum ≤ 732 * zss.length := by
    rw [List.map_map, List.map_map]
    refine sum_le fun zs hz => ?_
    show (tl (lineS zs)).length ≤ 732
    rw [← len_tl]
    exact Nat.le_trans (lineS_len (b zs hz).2) (by have := (b zs hz).1; omega)
  rw [len_tl]
  unfold textS
  rw [join_eq, tl_join, show tl (" / " : Str) = [32, 47, 32] from by decide +kernel]
  rw [List.length_map, List.length_map, show ([32, 47, 32] : List Nat).length = 3 from rfl] at h
  omega
def sp_lsw (K : PySem.W.Frag) : Sp := fun vs H Q _ => ∃ v t us zss, vs = [v, .ref t] ∧ SqT K H t us ∧ AllSt K H us zss ∧ zss.length ≤ 10 ∧ (∀ zs ∈ zss, zs.length ≤ 12 ∧ ∀ z ∈ zs, B 59 z ∧ Ok z) ∧
  ∀ H' p, Same H H' → H p = none → H' p = some (.lst ((Txt.split (textS (if zss = [] then [[(1, 2, 1)]] else zss)) " ").map V.str)) → Q (.ref p) H'
theorem ok_law_strokes_words {f : Addr} {fd : FuncData} (d_law_text : D P w K mg base "_law_text" 2 (sp_ltxt K))
    (F : Fun K "_law_strokes_words" "_law_strokes_words" s_law_strokes_words f fd) : FnOk P w K mg base CX0 3 f fd ["_law_d", "_law_strokes_here"] (sp_lsw K) := by
  refine F.ok sc_law_strokes_words (fun vs H Q E h => ?_) (fun cdv A outer s H vs Q E hr h => ?_)
  · obtain ⟨v, t, us, zss, rfl, _⟩ := h
    rfl
  obtain ⟨v, t, us, zss, rfl, ht, aS, hl, hb, q⟩ := h
  refine ⟨_, (pss_one (ps_ret (pe_split (pc d_law_text (hr.mono (by decide)) (pa_cons (pe_ifExp (pt_cmpR (r := rNeTE K) (op_neTE (u0 hr)) (pv 1) (pe_tup pa_nil) (by with_unfolding_all rfl)) (pv 1) (pe_tup (pa_cons (pe_tup (pa_cons (pe_tup (pa_cons pe_int (pa_cons pe_int (pa_cons pe_int pa_nil)))) pa_nil)) pa_nil))) pa_nil)) pe_str))), ?_⟩
  have fin : ∀ {H1 : Hp} {t1 : Addr} {us1 : List V} {zss1 : List (List T3)}, Same H H1 → SqT K H1 t1 us1 → AllSt K H1 us1 zss1 → zss1 = (if zss = [] then [[(1, 2, 1)]] else zss) → sp_ltxt K [.ref t1] H1 (fun x H2 => (∃ a, x = .str a) ∧ ∃ a b, x = V.str a ∧ [V.str (" ")] = [V.str b] ∧ (b.length == 0) = false ∧ a.length + 2 ≤ sizeLine ∧ rNewStrs (Txt.split a b) H2 Q) (fun _ _ _ => False) := fun {H1 t1 us1 zss1} s1 h1 a1 e1 => by
    have hl1 : zss1.length ≤ 10 := by rw [e1]; split; exact (by decide); exact hl
    have hb1 : ∀ zs ∈ zss1, zs.length ≤ 12 ∧ ∀ z ∈ zs, B 59 z ∧ Ok z := by
      rw [e1]; split
      · intro zs m
        rw [List.mem_singleton.mp m]
        refine ⟨by decide, fun z m => ?_⟩
        rw [List.mem_singleton.mp m]
        exact ⟨⟨by decide, by decide, by decide⟩, ⟨by decide, by decide⟩⟩
      · exact hb
    refine ⟨t1, us1, zss1, rfl, h1, a1, Nat.le_trans hl1 (by decide), hb1, fun H2 s2 => ⟨⟨_, rfl⟩, _, " ", rfl, rfl, by decide +kernel, ?_, fun p hp => ?_⟩⟩
    · exact Nat.le_trans (by have := textS_len (zss := zss1) fun zs m => ⟨(hb1 zs m).1, fun z n => ((hb1 zs m).2 z n).1⟩; omega : _ ≤ 10000) (by decide)
    · have := q _ p ((s1.trans s2).trans (same_new hp _)) (none_back (s1.trans s2) hp) (by rw [← e1]; exact upd_same)
      exact this
  refine ⟨_, rfl, (by show 0 ≤ sizeLine; decide), fun p0 hp0 => ⟨t, p0, us, rfl, rfl, same_T (same_new hp0 _) ht, .inl (.inl upd_same), _, rfl, ?_⟩⟩
  have s0 := same_new hp0 (.tup [])
  cases aS with
  | nil =>
    refine iteF ?_
    refine ⟨(by show 3 ≤ sizeLine; decide), fun p1 hp1 => ⟨(by show 1 ≤ sizeLine; decide), fun p2 hp2 => ⟨(by show 1 ≤ sizeLine; decide), fun p3 hp3 => ?_⟩⟩⟩
    have s1 := same_new hp1 (.tup [V.int 1, V.int 2, V.int 1])
    have s2 := same_new hp2 (.tup [V.ref p1])
    have s3 := same_new hp3 (.tup [V.ref p2])
    have i1 : IsT K _ (.ref p1) (1, 2, 1) := ⟨p1, rfl, .inl (.inl (upd_same (H := upd H p0 (.tup [])) (a := p1) (o := .tup [V.int 1, V.int 2, V.int 1])))⟩
    have i2 : IsSt K _ (.ref p2) [(1, 2, 1)] := ⟨p2, [.ref p1], rfl, .inl (.inl (upd_same (H := upd (upd H p0 (.tup [])) p1 (.tup [V.int 1, V.int 2, V.int 1])) (a := p2) (o := .tup [V.ref p1]))), .cons (i1.same s2) .nil⟩
    exact fin (s0.trans (s1.trans (s2.trans s3))) (.inl (.inl upd_same)) (.cons (i2.same s3) .nil) rfl
  | cons ia aS =>
    refine iteT ⟨_, rfl, ?_⟩
    exact fin s0 (same_T s0 ht) (AllSt.same (.cons ia aS) s0) rfl
end
end My

namespace My
open PySem L2 Mth

section
variable {P : Program} {w : World} {K : PySem.W.Frag} {mg : Str → Option Value} {base : Heap}
/-- a copy as it is told: (turn, shift, mirrored) -/
def IsD (K : PySem.W.Frag) (H : Hp) (v : V) (c : Cp) : Prop := ∃ p a b, v = .ref p ∧ SqT K H p [.ref a, .ref b, .bl c.m] ∧ SqT K H a (v3 c.t) ∧ SqT K H b (v3 c.s)
theorem IsD.same {H H' : Hp} {v : V} {c : Cp} (h : IsD K H v c) (e : Same H H') : IsD K H' v c := by
  obtain ⟨p, a, b, rfl, h1, h2, h3⟩ := h
  exact ⟨p, a, b, rfl, same_T e h1, same_T e h2, same_T e h3⟩
theorem IsD.keep {H H' : Hp} {v : V} {c : Cp} {d : Addr} {ys : List V} (h : IsD K H v c) (hd : H d = some (.lst ys)) (e : Keep d H H') : IsD K H' v c := by
  obtain ⟨p, a, b, rfl, h1, h2, h3⟩ := h
  exact ⟨p, a, b, rfl, keep_T h1 hd e, keep_T h2 hd e, keep_T h3 hd e⟩
structure CopyIn (c : Cp) : Prop where
  ok : CpOk c
  bd : BC 3 c
  mem : c.t ∈ turns13
def sp_lcar (K : PySem.W.Frag) : Sp := fun vs H Q _ => ∃ vc c vz z, vs = [vc, vz] ∧ IsD K H vc c ∧ CpOk c ∧ BC 1900 c ∧ IsT K H vz z ∧ Ok z ∧ B 1900 z ∧ ∀ H' r, Same H H' → IsT K H' r (ap c z) → Q r H'
/-! ### equal at every level -/
theorem DpAll.get {H : Hp} : ∀ {xs : List V} {ds : List PyData}, DpAll K H xs ds → xs.length = ds.length ∧ ∀ (i : Nat) x, xs[i]? = some x → ∃ d, ds[i]? = some d ∧ Dp K H x d
  | _, _, .nil => ⟨rfl, fun i x h => by simp at h⟩
  | _, _, .cons h t => by
    obtain ⟨e, g⟩ := DpAll.get t
    refine ⟨by rw [List.length_cons, List.length_cons, e], fun i x hx => ?_⟩
    cases i with
    | zero => exact ⟨_, rfl, by simp at hx; rw [← hx]; exact h⟩
    | succ i => exact g i x (by simpa using hx)
mutual
theorem Dp.same {H H' : Hp} (s : Same H H') : ∀ {v : V} {d : PyData}, Dp K H v d → Dp K H' v d
  | _, _, .non => .non
  | _, _, .bl b => .bl b
  | _, _, .int i => .int i
  | _, _, .str x => .str x
  | _, _, .lst h t => .lst (s.seq h) (DpAll.same s t)
  | _, _, .tup h t => .tup (same_T s h) (DpAll.same s t)
theorem DpAll.same {H H' : Hp} (s : Same H H') : ∀ {vs : List V} {ds : List PyData}, DpAll K H vs ds → DpAll K H' vs ds
  | _, _, .nil => .nil
  | _, _, .cons h t => .cons (Dp.same s h) (DpAll.same s t)
end
/-- how deep -/
def Deep : Nat → PyData → Prop
  | 0, _ => False
  | n + 1, .list ds => ds.length ≤ 1000 ∧ ∀ d ∈ ds, Deep n d
  | n + 1, .tuple ds => ds.length ≤ 1000 ∧ ∀ d ∈ ds, Deep n d
  | _ + 1, .dict _ => False
  | _ + 1, _ => True
def sp_equal (K : PySem.W.Frag) (n : Nat) : Sp := fun vs H Q _ => ∃ va vb d, vs = [va, vb] ∧ Dp K H va d ∧ Dp K H vb d ∧ Deep n d ∧ ∀ H', Same H H' → Q (.bl true) H'
theorem ty_L {H : Hp} {a : Addr} {xs : List V} (h : SqL K H a xs) : TyX K H (.ref a) (.type "list") := by
  rcases h with (h | ⟨o, h⟩) | ⟨o, its, n, h, c, _⟩
  · exact .base (.lst h)
  · exact .base (.frz h)
  · exact .kList h c
end
end My

namespace My
open PySem L2 Mth
abbrev s_law_equal : Stmt := topS 60
theorem sc_law_equal : FnScope ["_law_actual", "_law_expected", "_law_k"] ["_law_actual", "_law_expected"] (defScope s_law_equal) := ⟨rfl, rfl, rfl, by decide +kernel, rfl, by decide +kernel, by decide +kernel⟩
section
variable {P : Program} {w : World} {K : PySem.W.Frag} {mg : Str → Option Value} {base : Heap}
/-- one of the sequences -/
def Sq (K : PySem.W.Frag) (H : Hp) (p : Addr) (xs : List V) (l : Bool) : Prop := if l = true then SqL K H p xs else SqT K H p xs
theorem Sq.same {H H' : Hp} {p : Addr} {xs : List V} {l : Bool} (h : Sq K H p xs l) (s : Same H H') : Sq K H' p xs l := by
  unfold Sq at *
  cases l with
  | true => exact s.seq h
  | false => exact same_T s h
theorem Sq.ix {H : Hp} {Q : VK} {p : Addr} {xs : List V} {l : Bool} {j : Nat} {x : V} (h : Sq K H p xs l) (e : xs[j]? = some x) (q : Q x H) : rIx K (.ref p) (.int (0 + (j : Int))) H Q := by
  rw [Int.zero_add]
  unfold Sq at h
  cases l with
  | true => exact .inl ⟨_, _, _, _, rfl, rfl, h, atI_nat e, q⟩
  | false => exact .inr (.inl ⟨_, _, _, _, rfl, rfl, h, atI_nat e, q⟩)
theorem ok_law_equal {f : Addr} {fd : FuncData} {n : Nat} (b_isinstance : mg "isinstance" = none) (b_int : mg "int" = none) (b_bool : mg "bool" = none) (b_str : mg "str" = none) (b_tuple : mg "tuple" = none) (b_list : mg "list" = none) (b_len : mg "len" = none) (b_all : mg "all" = none) (b_range : mg "range" = none)
    (d_law_equal : D P w K mg base "_law_equal" n (sp_equal K n)) (F : Fun K "_law_equal" "_law_equal" s_law_equal f fd) : FnOk P w K mg base CX0 (n + 1) f fd ["_law_actual", "_law_expected"] (sp_equal K (n + 1)) := by
  refine F.ok sc_law_equal (fun vs H Q E h => ?_) (fun cdv A outer s H vs Q E hr h => ?_)
  · obtain ⟨va, vb, d, rfl, _⟩ := h
    rfl
  obtain ⟨va, vb, d, rfl, da, db, dp, q⟩ := h
  refine ⟨_, (pss_cons (ps_if (pt_cmpR (op_isN) (pv 1) pe_non (nomark _)) (pss_one (ps_ret (pe_cmpR (op_isN) (pv 0) pe_non (nomark _)))) pss_nil)
    (pss_cons (ps_if (pt_val (pe_callB (r := rIsi K) call_isi (by rfl) b_isinstance (by decide +kernel) (pa_cons (pv 1) (pa_cons (pe_bltn (v := .ty "bool") (by rfl) b_bool (by decide +kernel) rfl) pa_nil)))) (pss_one (ps_ret (pe_and (pe_callB (r := rIsi K) call_isi (by rfl) b_isinstance (by decide +kernel) (pa_cons (pv 0) (pa_cons (pe_bltn (v := .ty "bool") (by rfl) b_bool (by decide +kernel) rfl) pa_nil))) (pe_one (pe_cmpR (op_eq) (pv 0) (pv 1) (nomark _)))))) pss_nil)
    (pss_cons (ps_if (pt_val (pe_callB (r := rIsi K) call_isi (by rfl) b_isinstance (by decide +kernel) (pa_cons (pv 1) (pa_cons (pe_bltn (v := .ty "int") (by rfl) b_int (by decide +kernel) rfl) pa_nil)))) (pss_one (ps_ret (pe_and (pe_callB (r := rIsi K) call_isi (by rfl) b_isinstance (by decide +kernel) (pa_cons (pv 0) (pa_cons (pe_bltn (v := .ty "int") (by rfl) b_int (by decide +kernel) rfl) pa_nil))) (pe_and (pe_not (pe_callB (r := rIsi K) call_isi (by rfl) b_isinstance (by decide +kernel) (pa_cons (pv 0) (pa_cons (pe_bltn (v := .ty "bool") (by rfl) b_bool (by decide +kernel) rfl) pa_nil)))) (pe_one (pe_cmpR (op_eq) (pv 0) (pv 1) (nomark _))))))) pss_nil)
    (pss_cons (ps_if (pt_val (pe_callB (r := rIsi K) call_isi (by rfl) b_isinstance (by decide +kernel) (pa_cons (pv 1) (pa_cons (pe_bltn (v := .ty "str") (by rfl) b_str (by decide +kernel) rfl) pa_nil)))) (pss_one (ps_ret (pe_and (pe_callB (r := rIsi K) call_isi (by rfl) b_isinstance (by decide +kernel) (pa_cons (pv 0) (pa_cons (pe_bltn (v := .ty "str") (by rfl) b_str (by decide +kernel) rfl) pa_nil))) (pe_one (pe_cmpR (op_eq) (pv 0) (pv 1) (nomark _)))))) pss_nil)
    (pss_cons (ps_if (pt_cmpR (op_ne) (pe_callB (r := rIsi K) call_isi (by rfl) b_isinstance (by decide +kernel) (pa_cons (pv 1) (pa_cons (pe_bltn (v := .ty "tuple") (by rfl) b_tuple (by decide +kernel) rfl) pa_nil))) (pe_callB (r := rIsi K) call_isi (by rfl) b_isinstance (by decide +kernel) (pa_cons (pv 0) (pa_cons (pe_bltn (v := .ty "tuple") (by rfl) b_tuple (by decide +kernel) rfl) pa_nil))) (nomark _)) (pss_one (ps_ret pe_bl)) pss_nil)
    (pss_cons (ps_if (pt_cmpR (op_ne) (pe_callB (r := rIsi K) call_isi (by rfl) b_isinstance (by decide +kernel) (pa_cons (pv 1) (pa_cons (pe_bltn (v := .ty "list") (by rfl) b_list (by decide +kernel) rfl) pa_nil))) (pe_callB (r := rIsi K) call_isi (by rfl) b_isinstance (by decide +kernel) (pa_cons (pv 0) (pa_cons (pe_bltn (v := .ty "list") (by rfl) b_list (by decide +kernel) rfl) pa_nil))) (nomark _)) (pss_one (ps_ret pe_bl)) pss_nil)
    (pss_cons (ps_if (pt_cmpR (op_ne) (pe_callB call_len_seq (by rfl) b_len PySem.boot_len (pa_cons (pv 0) pa_nil)) (pe_callB call_len_seq (by rfl) b_len PySem.boot_len (pa_cons (pv 1) pa_nil)) (nomark _)) (pss_one (ps_ret pe_bl)) pss_nil)
    (pss_one (ps_ret (pe_callB (cr_all rfl) (by rfl) b_all (by decide +kernel) (pa_cons (pe_lc (own := [("_law_k", 2)]) (g := gName 2) (tt := tYes) (by rfl) sc_law_equal.nd (pi_range1 (by rfl) b_range (pa_cons (pe_callB call_len_seq (by rfl) b_len PySem.boot_len (pa_cons (pv 1) pa_nil)) pa_nil)) (blkOk_by (own := [("_law_k", 2)]) (N := ["_law_actual", "_law_expected", "_law_k"]) (sc := defScope s_law_equal) (by decide +kernel)) (fun _ _ _ _ _ => (pg_name (i := 2) sc_law_equal.nd rfl (by first | exact Or.inl rfl | exact Or.inr rfl))) (fun _ _ _ _ _ => pts_nil) (fun _ _ _ _ _ => (pc d_law_equal hr (pa_cons (pe_ix (r := rIx K) ix_seq (pv 0) (pv 2) (fun _ _ => rfl)) (pa_cons (pe_ix (r := rIx K) ix_seq (pv 1) (pv 2) (fun _ _ => rfl)) pa_nil))))) pa_nil))))))))))), ?_⟩
  cases db with
  | non =>
    cases da
    refine ⟨_, rfl, rfl, _, rfl, ?_⟩
    refine (if_pos (by decide)).mpr ?_
    exact ⟨_, rfl, rfl, q _ (Same.refl _)⟩
  | bl b =>
    cases da
    refine ⟨_, rfl, rfl, _, rfl, ?_⟩
    refine (if_neg (show ¬ decide (V.bl b = V.non) = true by rw [decide_eq_false (by intro z; cases z)]; decide)).mpr ?_
    refine ⟨_, rfl, _, _, _, _, _, rfl, .ty _, .base (.bl b), kit_ty (by decide +kernel), true, rfl, iteT ?_⟩
    refine ⟨_, rfl, _, _, _, _, _, rfl, .ty _, .base (.bl b), kit_ty (by decide +kernel), true, rfl, iteT ?_⟩
    refine ⟨_, rfl, _, rfl, rfl, ?_⟩
    rw [decide_eq_true rfl]
    exact q _ (Same.refl _)
  | int i =>
    cases da
    refine ⟨_, rfl, rfl, _, rfl, ?_⟩
    refine (if_neg (show ¬ decide (V.int i = V.non) = true by rw [decide_eq_false (by intro z; cases z)]; decide)).mpr ?_
    refine ⟨_, rfl, _, _, _, _, _, rfl, .ty _, .base (.int i), kit_ty (by decide +kernel), false, rfl, iteF ?_⟩
    refine ⟨_, rfl, _, _, _, _, _, rfl, .ty _, .base (.int i), kit_ty (by decide +kernel), true, rfl, iteT ?_⟩
    refine ⟨_, rfl, _, _, _, _, _, rfl, .ty _, .base (.int i), kit_ty (by decide +kernel), true, rfl, iteT ?_⟩
    refine ⟨_, rfl, _, _, _, _, _, rfl, .ty _, .base (.int i), kit_ty (by decide +kernel), false, rfl, true, rfl, iteT ?_⟩
    refine ⟨_, rfl, _, rfl, rfl, ?_⟩
    rw [decide_eq_true rfl]
    exact q _ (Same.refl _)
  | str x =>
    cases da
    refine ⟨_, rfl, rfl, _, rfl, ?_⟩
    refine (if_neg (show ¬ decide (V.str x = V.non) = true by rw [decide_eq_false (by intro z; cases z)]; decide)).mpr ?_
    refine ⟨_, rfl, _, _, _, _, _, rfl, .ty _, .base (.str x), kit_ty (by decide +kernel), false, rfl, iteF ?_⟩
    refine ⟨_, rfl, _, _, _, _, _, rfl, .ty _, .base (.str x), kit_ty (by decide +kernel), false, rfl, iteF ?_⟩
    refine ⟨_, rfl, _, _, _, _, _, rfl, .ty _, .base (.str x), kit_ty (by decide +kernel), true, rfl, iteT ?_⟩
    refine ⟨_, rfl, _, _, _, _, _, rfl, .ty _, .base (.str x), kit_ty (by decide +kernel), true, rfl, iteT ?_⟩
    refine ⟨_, rfl, _, rfl, rfl, ?_⟩
    rw [decide_eq_true rfl]
    exact q _ (Same.refl _)
  | @lst p' ys ds hb tb =>
    cases da with
    | @lst p xs _ ha ta =>
    obtain ⟨hl, hds⟩ := dp
    have e1 := (DpAll.get ta).1
    have e2 := (DpAll.get tb).1
    refine ⟨_, rfl, rfl, _, rfl, ?_⟩
    refine (if_neg (show ¬ decide (V.ref p' = V.non) = true by rw [decide_eq_false (by intro z; cases z)]; decide)).mpr ?_
    refine ⟨_, rfl, _, _, _, _, _, rfl, .ty _, ty_L hb, kit_ty (by decide +kernel), false, rfl, iteF ?_⟩
    refine ⟨_, rfl, _, _, _, _, _, rfl, .ty _, ty_L hb, kit_ty (by decide +kernel), false, rfl, iteF ?_⟩
    refine ⟨_, rfl, _, _, _, _, _, rfl, .ty _, ty_L hb, kit_ty (by decide +kernel), false, rfl, iteF ?_⟩
    refine ⟨_, rfl, _, _, _, _, _, rfl, .ty _, ty_L hb, kit_ty (b := "tuple") (r := false) (by decide +kernel), _, rfl, _, _, _, _, _, rfl, .ty _, ty_L ha, kit_ty (b := "tuple") (r := false) (by decide +kernel), rfl, _, rfl, iteF ?_⟩
    refine ⟨_, rfl, _, _, _, _, _, rfl, .ty _, ty_L hb, kit_ty (b := "list") (r := true) (by decide +kernel), _, rfl, _, _, _, _, _, rfl, .ty _, ty_L ha, kit_ty (b := "list") (r := true) (by decide +kernel), rfl, _, rfl, iteF ?_⟩
    refine ⟨_, rfl, _, _, rfl, .inl ha, _, rfl, _, _, rfl, .inl hb, rfl, _, rfl, ?_⟩
    refine (if_neg (show ¬ (!decide (V.int (xs.length : Int) = V.int (ys.length : Int))) = true by rw [e1, e2, decide_eq_true rfl]; decide)).mpr ?_
    refine ⟨_, rfl, _, _, rfl, .inl hb, _, rfl, by omega, by rw [e2]; exact Int.lt_of_le_of_lt (by omega : ((ds.length : Nat) : Int) ≤ 1000) (by decide), fun L hL => lc_range (lo := 0) (n := (ys.length : Int).toNat) (fun i H1 => Same H H1 ∧ H1 L = some (.lst ((List.replicate i true).map V.bl)) ∧ H L = none) ⟨same_new hL _, upd_same, hL⟩ ?_ ?_⟩
    · rintro i H1 hi ⟨s1, h1, _⟩
      have hi' : i < ys.length := by simpa using hi
      have hi2 : i < xs.length := by omega
      have gx : xs[i]? = some xs[i] := List.getElem?_eq_getElem hi2
      have gy : ys[i]? = some ys[i] := List.getElem?_eq_getElem hi'
      obtain ⟨d1, k1, dx⟩ := (DpAll.get ta).2 i _ gx
      obtain ⟨d2, k2, dy⟩ := (DpAll.get tb).2 i _ gy
      rw [k1] at k2
      cases Option.some.inj k2
      refine ⟨rfl, ?_⟩
      refine yes_of ?_
      refine ⟨_, rfl, _, rfl, Sq.ix (l := true) (show Sq K H1 p xs true from s1.seq ha) gx ?_⟩
      refine ⟨_, rfl, _, rfl, Sq.ix (l := true) (show Sq K H1 p' ys true from s1.seq hb) gy ?_⟩
      refine ⟨_, _, d1, rfl, Dp.same s1 dx, Dp.same s1 dy, hds d1 (List.mem_of_getElem? k1), fun H2 s2 => ?_⟩
      refine ⟨_, s2 _ _ h1, ?_, ?_, ?_, hL⟩
      · rw [List.length_map, List.length_replicate]; exact small1000 (by omega)
      · intro b o e
        have nb : b ≠ L := ne_of_none e hL
        rw [upd_ne nb]
        exact s2 _ _ (s1 _ _ e)
      · rw [upd_same, List.replicate_succ', List.map_append]
        rfl
    · rintro H1 ⟨s1, h1, _⟩
      refine ⟨_, _, rfl, .inl (.inl h1), ?_⟩
      have e : (List.replicate (ys.length : Int).toNat true).all id = true := by simp
      show Q (.bl ((List.replicate (ys.length : Int).toNat true).all id)) H1
      rw [e]
      exact q _ s1
  | @tup p' ys ds hb tb =>
    cases da with
    | @tup p xs _ ha ta =>
    obtain ⟨hl, hds⟩ := dp
    have e1 := (DpAll.get ta).1
    have e2 := (DpAll.get tb).1
    refine ⟨_, rfl, rfl, _, rfl, ?_⟩
    refine (if_neg (show ¬ decide (V.ref p' = V.non) = true by rw [decide_eq_false (by intro z; cases z)]; decide)).mpr ?_
    refine ⟨_, rfl, _, _, _, _, _, rfl, .ty _, ty_T hb, kit_ty (by decide +kernel), false, rfl, iteF ?_⟩
    refine ⟨_, rfl, _, _, _, _, _, rfl, .ty _, ty_T hb, kit_ty (by decide +kernel), false, rfl, iteF ?_⟩
    refine ⟨_, rfl, _, _, _, _, _, rfl, .ty _, ty_T hb, kit_ty (by decide +kernel), false, rfl, iteF ?_⟩
    refine ⟨_, rfl, _, _, _, _, _, rfl, .ty _, ty_T hb, kit_ty (b := "tuple") (r := true) (by decide +kernel), _, rfl, _, _, _, _, _, rfl, .ty _, ty_T ha, kit_ty (b := "tuple") (r := true) (by decide +kernel), rfl, _, rfl, iteF ?_⟩
    refine ⟨_, rfl, _, _, _, _, _, rfl, .ty _, ty_T hb, kit_ty (b := "list") (r := false) (by decide +kernel), _, rfl, _, _, _, _, _, rfl, .ty _, ty_T ha, kit_ty (b := "list") (r := false) (by decide +kernel), rfl, _, rfl, iteF ?_⟩
    refine ⟨_, rfl, _, _, rfl, .inr ha, _, rfl, _, _, rfl, .inr hb, rfl, _, rfl, ?_⟩
    refine (if_neg (show ¬ (!decide (V.int (xs.length : Int) = V.int (ys.length : Int))) = true by rw [e1, e2, decide_eq_true rfl]; decide)).mpr ?_
    refine ⟨_, rfl, _, _, rfl, .inr hb, _, rfl, by omega, by rw [e2]; exact Int.lt_of_le_of_lt (by omega : ((ds.length : Nat) : Int) ≤ 1000) (by decide), fun L hL => lc_range (lo := 0) (n := (ys.length : Int).toNat) (fun i H1 => Same H H1 ∧ H1 L = some (.lst ((List.replicate i true).map V.bl)) ∧ H L = none) ⟨same_new hL _, upd_same, hL⟩ ?_ ?_⟩
    · rintro i H1 hi ⟨s1, h1, _⟩
      have hi' : i < ys.length := by simpa using hi
      have hi2 : i < xs.length := by omega
      have gx : xs[i]? = some xs[i] := List.getElem?_eq_getElem hi2
      have gy : ys[i]? = some ys[i] := List.getElem?_eq_getElem hi'
      obtain ⟨d1, k1, dx⟩ := (DpAll.get ta).2 i _ gx
      obtain ⟨d2, k2, dy⟩ := (DpAll.get tb).2 i _ gy
      rw [k1] at k2
      cases Option.some.inj k2
      refine ⟨rfl, ?_⟩
      refine yes_of ?_
      refine ⟨_, rfl, _, rfl, Sq.ix (l := false) (show Sq K H1 p xs false from same_T s1 ha) gx ?_⟩
      refine ⟨_, rfl, _, rfl, Sq.ix (l := false) (show Sq K H1 p' ys false from same_T s1 hb) gy ?_⟩
      refine ⟨_, _, d1, rfl, Dp.same s1 dx, Dp.same s1 dy, hds d1 (List.mem_of_getElem? k1), fun H2 s2 => ?_⟩
      refine ⟨_, s2 _ _ h1, ?_, ?_, ?_, hL⟩
      · rw [List.length_map, List.length_replicate]; exact small1000 (by omega)
      · intro b o e
        have nb : b ≠ L := ne_of_none e hL
        rw [upd_ne nb]
        exact s2 _ _ (s1 _ _ e)
      · rw [upd_same, List.replicate_succ', List.map_append]
        rfl
    · rintro H1 ⟨s1, h1, _⟩
      refine ⟨_, _, rfl, .inl (.inl h1), ?_⟩
      have e : (List.replicate (ys.length : Int).toNat true).all id = true := by simp
      show Q (.bl ((List.replicate (ys.length : Int).toNat true).all id)) H1
      rw [e]
      exact q _ s1
end
end My

namespace My
open PySem L2 Mth
abbrev s_law_step : Stmt := topS 51
theorem sc_law_step : FnScope ["_law_d", "_law_size_now"] ["_law_d", "_law_size_now"] (defScope s_law_step) := ⟨rfl, rfl, rfl, by decide +kernel, rfl, by decide +kernel, by decide +kernel⟩
section
variable {P : Program} {w : World} {K : PySem.W.Frag} {mg : Str → Option Value} {base : Heap}
def sp_step (K : PySem.W.Frag) : Sp := fun vs H Q _ => ∃ (d : Addr) (n : Int) (st : Src), vs = [.ref d, .int n] ∧ 0 ≤ n ∧ n ≤ 7 ∧ H d = some (.lst (encD st)) ∧ SrcOk st ∧
  ∀ H' st' r, Keep d H H' → H' d = some (.lst (encD st')) → SrcOk st' → (∃ t, IsT K H' r t ∧ SpotIn t) → Q r H'
theorem ok_law_step {f : Addr} {fd : FuncData} (d_law_below : D P w K mg base "_law_below" 1 sp_below) (F : Fun K "_law_step" "_law_step" s_law_step f fd) : FnOk P w K mg base CX0 2 f fd ["_law_d", "_law_size_now"] (sp_step K) := by
  refine F.ok sc_law_step (fun vs H Q E h => ?_) (fun cdv A outer s H vs Q E hr h => ?_)
  · obtain ⟨d, n, st, rfl, _⟩ := h
    rfl
  obtain ⟨d, n, st, rfl, n0, n7, hd, ok, q⟩ := h
  refine ⟨_, (pss_one (ps_ret (pe_tup (pa_cons (pe_op op_sub (pc d_law_below (hr.mono (by decide)) (pa_cons (pv 0) (pa_cons (pe_op op_add (pe_op op_mulW pe_int (pv 1)) pe_int) pa_nil))) (pv 1)) (pa_cons (pe_op op_sub (pc d_law_below (hr.mono (by decide)) (pa_cons (pv 0) (pa_cons (pe_op op_add (pe_op op_mulW pe_int (pv 1)) pe_int) pa_nil))) (pv 1)) (pa_cons pe_int pa_nil)))))), ?_⟩
  have m2 : CMulW 2 n := mulW (a := 1) (b := 2) (by decide) (show n.natAbs < 8 by omega)
  refine ⟨_, rfl, _, rfl, _, _, rfl, rfl, m2, _, _, rfl, rfl, d, _, st, rfl, by omega, by omega, hd, ok, fun st1 x ok1 x0 x1 => ?_⟩
  refine ⟨_, rfl, _, _, rfl, rfl, ?_⟩
  refine ⟨_, rfl, _, rfl, _, _, rfl, rfl, m2, _, _, rfl, rfl, d, _, st1, rfl, by omega, by omega, upd_same, ok1, fun st2 y ok2 y0 y1 => ?_⟩
  refine ⟨_, rfl, _, _, rfl, rfl, (by show 3 ≤ sizeLine; decide), fun p hp => ?_⟩
  have sp' := same_new hp (.tup [.int (x - n), .int (y - n), .int 1])
  refine q _ st2 _ (keep_upd.trans (keep_upd.trans (Keep.of sp'))) (sp' _ _ upd_same) ok2 ⟨(x - n, y - n, 1), IsT.new, ⟨⟨(by decide : (0 : Int) < 1), by unfold g3; dsimp only; rw [Int.gcd_one_right]; rfl⟩, ?_⟩⟩
  refine ⟨?_, ?_, ?_⟩ <;> show _ < 8
  · show (x - n).natAbs < 8; omega
  · show (y - n).natAbs < 8; omega
  · show (1 : Nat) < 8; decide
end
end My

namespace My
open PySem L2 Mth
abbrev s_law_stroke : Stmt := topS 55
theorem sc_law_stroke : FnScope ["_law_d", "_law_most", "_law_stroke_here", "_law_k", "_law_spot_here"] ["_law_d", "_law_most"] (defScope s_law_stroke) := ⟨rfl, rfl, rfl, by decide +kernel, rfl, by decide +kernel, by decide +kernel⟩
section
variable {P : Program} {w : World} {K : PySem.W.Frag} {mg : Str → Option Value} {base : Heap}
/-- a stroke that the law draws -/
structure LSt (n : Nat) (zs : List T3) : Prop where
  st : StOk zs
  len : zs.length ≤ n
  sp : ∀ z ∈ zs, SpotIn z
theorem LSt.mono {n m : Nat} {zs : List T3} (h : LSt n zs) (e : n ≤ m) : LSt m zs := ⟨h.st, Nat.le_trans h.len e, h.sp⟩
theorem LSt.more {n : Nat} {zs : List T3} {z l : T3} (h : LSt n zs) (hn : n ≤ 11) (hz : SpotIn z) (hl : zs.getLast? = some l) (ne : z ≠ l) : LSt (n + 1) (zs ++ [z]) := by
  have len := h.len
  refine ⟨⟨?_, ?_, fun y hy => ?_, fun j x y hx hy => ?_⟩, ?_, fun y hy => ?_⟩
  · rw [List.length_append]; exact Nat.le_add_left ..
  · rw [List.length_append, List.length_singleton]; omega
  · rcases List.mem_append.mp hy with i | i
    · exact h.st.ok y i
    · rw [List.mem_singleton.mp i]; exact hz.ok
  · by_cases hj : j + 1 < zs.length
    · rw [List.getElem?_append_left (by omega)] at hx
      rw [List.getElem?_append_left hj] at hy
      exact h.st.ne j x y hx hy
    · have hj2 := (List.getElem?_eq_some_iff.mp hy).1
      rw [List.length_append, List.length_singleton] at hj2
      have ej : j + 1 = zs.length := by omega
      rw [List.getElem?_append_left (by omega)] at hx
      rw [ej, List.getElem?_concat_length] at hy
      cases hy
      rw [List.getLast?_eq_getElem?, ← ej] at hl
      have : j + 1 - 1 = j := by omega
      rw [this, hx] at hl
      cases hl
      exact fun z => ne z.symm
  · rw [List.length_append, List.length_singleton]; omega
  · rcases List.mem_append.mp hy with i | i
    · exact h.sp y i
    · rw [List.mem_singleton.mp i]; exact hz
def sp_lstroke (K : PySem.W.Frag) : Sp := fun vs H Q _ => ∃ (d : Addr) (n : Int) (st : Src), vs = [.ref d, .int n] ∧ 0 < n ∧ n ≤ 12 ∧ H d = some (.lst (encD st)) ∧ SrcOk st ∧
  ∀ H' st' r zs, Keep d H H' → H' d = some (.lst (encD st')) → SrcOk st' → IsSt K H' r zs → LSt n.toNat zs → Q r H'
theorem ok_law_stroke {f : Addr} {fd : FuncData} (b_range : mg "range" = none) (d_law_below : D P w K mg base "_law_below" 1 sp_below) (d_law_step : D P w K mg base "_law_step" 2 (sp_step K)) (d_law_spot : D P w K mg base "_law_spot" 3 (sp_draw fun H r => ∃ t, IsT K H r t ∧ SpotIn t))
    (F : Fun K "_law_stroke" "_law_stroke" s_law_stroke f fd) : FnOk P w K mg base CX0 4 f fd ["_law_d", "_law_most"] (sp_lstroke K) := by
  refine F.ok sc_law_stroke (fun vs H Q E h => ?_) (fun cdv A outer s H vs Q E hr h => ?_)
  · obtain ⟨d, n, st, rfl, _⟩ := h
    rfl
  obtain ⟨d, n, st, rfl, n0, n12, hd, ok, q⟩ := h
  refine ⟨_, (pss_cons (ps_set (i := 2) sc_law_stroke.nd rfl (by first | exact Or.inl rfl | exact Or.inr rfl) (pe_tup (pa_cons (pc d_law_step (hr.mono (by decide)) (pa_cons (pv 0) (pa_cons pe_int pa_nil))) pa_nil)))
    (pss_cons (ps_for PassesOwn.never rfl (pi_range1 (by rfl) b_range (pa_cons (pc d_law_below (hr.mono (by decide)) (pa_cons (pv 0) (pa_cons (pv 1) pa_nil))) pa_nil)) (pg_name (i := 3) sc_law_stroke.nd rfl (by first | exact Or.inl rfl | exact Or.inr rfl)) (pss_cons (ps_set (i := 4) sc_law_stroke.nd rfl (by first | exact Or.inl rfl | exact Or.inr rfl) (pe_ifExp (pt_cmpR (op_gt) (pc d_law_below (hr.mono (by decide)) (pa_cons (pv 0) (pa_cons pe_int pa_nil))) pe_int (nomark _)) (pc d_law_step (hr.mono (by decide)) (pa_cons (pv 0) (pa_cons pe_int pa_nil))) (pc d_law_spot (hr.mono (by decide)) (pa_cons (pv 0) pa_nil))))
    (pss_one (ps_if (pt_cmpR (r := rNeD K) (op_neD hr.units) (pv 4) (pe_ix (r := rIxT K) ix_tup (pv 2) (pe_un un_neg pe_int) (fun _ _ => rfl)) (nomark _)) (pss_one (ps_set (i := 2) sc_law_stroke.nd rfl (by first | exact Or.inl rfl | exact Or.inr rfl) (pe_op (r := rCatT K) op_catT (pv 2) (pe_tup (pa_cons (pv 4) pa_nil))))) pss_nil))))
    (pss_one (ps_ret (pv 2))))), ?_⟩
  refine ⟨_, rfl, d, 3, st, rfl, by decide, by decide, hd, ok, fun H1 st1 r1 k1 hd1 ok1 ⟨z, iz, nz⟩ => ?_⟩
  refine ⟨(by show 1 ≤ sizeLine; decide), fun p hp => ?_⟩
  have s1 := same_new hp (.tup [r1])
  refine ⟨_, rfl, _, rfl, d, n, st1, rfl, n0, by omega, s1 _ _ hd1, ok1, fun st2 m ok2 m0 m1 => ?_⟩
  have kd := keep_upd (d := d) (H := upd H1 p (.tup [r1])) (o := .lst (encD st2))
  have hd1' := s1 _ _ hd1
  have iS : IsSt K (upd H1 p (.tup [r1])) (.ref p) [z] := ⟨p, [r1], rfl, .inl (.inl upd_same), .cons (iz.same s1) .nil⟩
  have iS2 := iS.keep hd1' kd
  have k2 := (k1.trans (Keep.of s1)).trans kd
  have hd2 := upd_same (H := upd H1 p (.tup [r1])) (a := d) (o := .lst (encD st2))
  generalize upd (upd H1 p (.tup [r1])) d (.lst (encD st2)) = H2 at *
  refine ⟨m, rfl, by omega, by omega, ?_⟩
  have L1 : LSt 1 [z] := ⟨⟨Nat.le_refl _, (by show 1 ≤ 12; decide), fun y hy => by rw [List.mem_singleton.mp hy]; exact nz.ok, fun j x y hx hy => by simp at hy⟩, Nat.le_refl _, fun y hy => by rw [List.mem_singleton.mp hy]; exact nz⟩
  refine for_range (lo := 0) (n := m.toNat) (fun i σ H' => ∃ x3 x4 r zs st, σ = [some (.ref d), some (.int n), some r, x3, x4] ∧ Keep d H H' ∧ H' d = some (.lst (encD st)) ∧ SrcOk st ∧ IsSt K H' r zs ∧ LSt (i + 1) zs) ⟨none, none, .ref p, [z], st2, rfl, k2, hd2, ok2, iS2, L1⟩ ?_ ?_
  · rintro i σ H3 hi ⟨x3, x4, r, zs, st3, rfl, k3, hd3, ok3, iS3, L3⟩
    refine asg_of (te_join (fun v H' => ∃ y st', Keep d H3 H' ∧ H' d = some (.lst (encD st')) ∧ SrcOk st' ∧ IsT K H' v y ∧ SpotIn y) ?_ ?_)
    · rintro v H4 ⟨y, st4, k4, hd4, ok4, iy, ny⟩
      obtain ⟨t, us, rfl, hT, hA⟩ := iS3.keep hd3 k4
      obtain ⟨py, rfl, ty⟩ := iy
      have hlen := Paired.length hA
      have lo := L3.st.lo
      obtain ⟨un, eun⟩ : ∃ u, us[us.length - 1]? = some u := ⟨us[us.length - 1]'(by omega), by simp⟩
      obtain ⟨an, ean, pn, rfl, i_n⟩ := pgt hA eun
      have last : atI us (-1) = some (.ref pn) := by
        obtain ⟨l, hl⟩ : ∃ l, us = l ++ [.ref pn] := List.getLast?_eq_some_iff.mp (by rw [List.getLast?_eq_getElem?]; exact eun)
        rw [hl]
        exact atI_last l _
      have hlast : zs.getLast? = some an := by rw [List.getLast?_eq_getElem?, ← hlen]; exact ean
      refine gn_of ?_
      refine ⟨_, rfl, _, rfl, 1, rfl, t, _, _, _, rfl, rfl, hT, last, _, _, Dp3 ty, Dp3 i_n, shaped3 _, shaped3 _, _, rfl, ?_⟩
      rw [eqv3]
      by_cases e : y = an
      · rw [decide_eq_true e]
        refine iteF ?_
        exact ⟨_, _, _, zs, st4, rfl, k3.trans k4, hd4, ok4, ⟨t, us, rfl, hT, hA⟩, L3.mono (by omega)⟩
      · rw [decide_eq_false e]
        refine iteT ?_
        refine ⟨_, rfl, _, rfl, (by show 1 ≤ sizeLine; decide), fun p5 hp5 => ?_⟩
        have s5 := same_new hp5 (.tup [.ref py])
        refine ⟨t, p5, us, [.ref py], rfl, rfl, same_T s5 hT, .inl (.inl upd_same), (fun z => by rw [z] at hlen; simp at hlen; omega), ?_, (fun z => by cases z), fun _ p6 hp6 => ?_⟩
        · have := L3.len
          exact small (by rw [hlen]; show _ + 1 ≤ _; omega)
        have s6 := same_new hp6 (.tup (us ++ [.ref py]))
        have s56 := s5.trans s6
        refine ⟨_, _, _, zs ++ [y], st4, rfl, (k3.trans k4).trans (Keep.of s56), s56 _ _ hd4, ok4, ⟨p6, _, rfl, .inl (.inl upd_same), ?_⟩, L3.more (by omega) ny hlast e⟩
        exact papp (L2.Paired.mapP hA (fun _ _ i => IsT.same i s56)) (.cons ⟨py, rfl, same_T s56 ty⟩ .nil)
    · intro Q' hQ'
      refine ⟨_, rfl, d, _, st3, rfl, by decide, by decide, hd3, ok3, fun st4 b ok4 b0 b6 => ?_⟩
      have kd4 := keep_upd (d := d) (H := H3) (o := .lst (encD st4))
      refine ⟨_, _, rfl, rfl, _, rfl, ?_⟩
      refine ite2 (fun c => ?_) (fun c => ?_)
      · refine ⟨_, rfl, d, 3, st4, rfl, by decide, by decide, upd_same, ok4, fun H5 st5 r5 k5 hd5 ok5 ⟨y, iy, ny⟩ => ?_⟩
        exact hQ' _ _ ⟨y, st5, kd4.trans k5, hd5, ok5, iy, ny⟩
      · refine ⟨_, rfl, d, st4, rfl, upd_same, ok4, fun H5 st5 r5 k5 hd5 ok5 ⟨y, iy, ny⟩ => ?_⟩
        exact hQ' _ _ ⟨y, st5, kd4.trans k5, hd5, ok5, iy, ny⟩
  · rintro σ H3 ⟨x3, x4, r, zs, st3, rfl, k3, hd3, ok3, iS3, L3⟩
    exact ⟨_, rfl, q _ st3 _ zs k3 hd3 ok3 iS3 (L3.mono (by omega))⟩
end
end My

namespace My
open PySem L2 Mth
abbrev s_law_drawing : Stmt := topS 57
theorem sc_law_drawing : FnScope ["_law_strokes_here", "_law_drawing_here", "_law_stroke_here"] ["_law_strokes_here"] (defScope s_law_drawing) := ⟨rfl, rfl, rfl, by decide +kernel, rfl, by decide +kernel, by decide +kernel⟩
abbrev s_law_strokes : Stmt := topS 56
theorem sc_law_strokes : FnScope ["_law_d", "_law_most", "_law_k"] ["_law_d", "_law_most"] (defScope s_law_strokes) := ⟨rfl, rfl, rfl, by decide +kernel, rfl, by decide +kernel, by decide +kernel⟩
section
variable {P : Program} {w : World} {K : PySem.W.Frag} {mg : Str → Option Value} {base : Heap}
/-! ### the law's strokes, and their drawing -/
theorem keepsSt : KeepsI (IsSt K) := fun _ _ _ _ _ _ i hd k => i.keep hd k
def sp_lstrokes (K : PySem.W.Frag) : Sp := fun vs H Q _ => ∃ (d : Addr) (n : Int) (st : Src), vs = [.ref d, .int n] ∧ 0 ≤ n ∧ n ≤ 11 ∧ H d = some (.lst (encD st)) ∧ SrcOk st ∧
  ∀ H' st' p us zss, Keep d H H' → H' d = some (.lst (encD st')) → SrcOk st' → SqT K H' p us → AllSt K H' us zss → (∀ zs ∈ zss, LSt 4 zs) → zss.length ≤ n.toNat → Q (.ref p) H'
theorem ok_law_strokes {f : Addr} {fd : FuncData} (b_range : mg "range" = none) (b_tuple : mg "tuple" = none) (d_law_below : D P w K mg base "_law_below" 1 sp_below) (d_law_stroke : D P w K mg base "_law_stroke" 4 (sp_lstroke K))
    (F : Fun K "_law_strokes" "_law_strokes" s_law_strokes f fd) : FnOk P w K mg base CX0 5 f fd ["_law_d", "_law_most"] (sp_lstrokes K) := by
  refine F.ok sc_law_strokes (fun vs H Q E h => ?_) (fun cdv A outer s H vs Q E hr h => ?_)
  · obtain ⟨d, n, st, rfl, _⟩ := h
    rfl
  obtain ⟨d, n, st, rfl, n0, n11, hd, ok, q⟩ := h
  refine ⟨_, (pss_one (ps_ret (pe_callTy call_tuple_of (by rfl) b_tuple (by decide +kernel) (pa_cons (pe_lc (own := [("_law_k", 2)]) (g := gName 2) (tt := tYes) (by rfl) sc_law_strokes.nd (pi_range1 (by rfl) b_range (pa_cons (pc d_law_below (hr.mono (by decide)) (pa_cons (pv 0) (pa_cons (pe_op op_add (pv 1) pe_int) pa_nil))) pa_nil)) (blkOk_by (own := [("_law_k", 2)]) (N := ["_law_d", "_law_most", "_law_k"]) (sc := defScope s_law_strokes) (by decide +kernel)) (fun _ _ _ _ _ => (pg_name (i := 2) sc_law_strokes.nd rfl (by first | exact Or.inl rfl | exact Or.inr rfl))) (fun _ _ _ _ _ => pts_nil) (fun _ _ _ _ _ => (pc d_law_stroke (hr.mono (by decide)) (pa_cons (pv 0) (pa_cons pe_int pa_nil))))) pa_nil)))), ?_⟩
  refine ⟨_, rfl, _, rfl, _, _, rfl, rfl, d, _, st, rfl, by omega, by omega, hd, ok, fun st2 m ok2 m0 m1 => ?_⟩
  have kd := keep_upd (d := d) (H := H) (o := .lst (encD st2))
  have hd2 := upd_same (H := H) (a := d) (o := .lst (encD st2))
  generalize upd H d (.lst (encD st2)) = H2 at *
  refine ⟨m, rfl, by omega, by omega, fun L hL => lc_range (lo := 0) (n := m.toNat) (fun i H' => DrawnG (IsSt K) (LSt 4) d L H2 H' i) (drawnG_start hd2 ok2 hL) ?_ ?_⟩
  · rintro i H' hi ⟨st3, vs, xs, k3, hd3, ok3, hL3, hn3, hp3, hg3⟩
    have nL : L ≠ d := fun z => by rw [z, hd2] at hL; cases hL
    refine ⟨rfl, yes_of ?_⟩
    refine ⟨_, rfl, d, 4, st3, rfl, by decide, by decide, hd3, ok3, fun H4 st4 r zs k4 hd4 ok4 i4 l4 => ?_⟩
    exact ⟨vs, k4 _ _ nL hL3, small1000 (by omega), drawnG_more keepsSt hL nL k3 hd3 hL3 hn3 hp3 hg3 k4 hd4 ok4 i4 l4⟩
  · rintro H3 ⟨st3, vs, xs, k3, hd3, ok3, hL3, hn3, hp3, hg3⟩
    refine ⟨L, vs, rfl, .inl ⟨.inl (.inl hL3), fun T hT => ?_⟩⟩
    have sn := same_new hT (.tup vs)
    have hl := Paired.length hp3
    exact q _ st3 T vs xs ((kd.trans k3).trans (Keep.of sn)) (sn _ _ hd3) ok3 (.inl (.inl upd_same)) (pimp (fun _ _ i => i.same sn) hp3) hg3 (by omega)
def sp_ldrawing (K : PySem.W.Frag) (CW : Addr) : Sp := fun vs H Q _ => ∃ (t : Addr) (us : List V) (zss : List (List T3)), vs = [.ref t] ∧ SqT K H t us ∧ AllSt K H us zss ∧ DrOk zss ∧ ∀ H' r, Same H H' → IsW K CW H' r zss → Q r H'
theorem ok_law_drawing {f fI CW : Addr} {fd : FuncData} (TW : DrawI P w K mg base CW fI) (m_wadd : MWa P w K mg base CW) (F : Fun K "_law_drawing" "_law_drawing" s_law_drawing f fd) : FnOk P w K mg base CX0 8 f fd ["_law_strokes_here"] (sp_ldrawing K CW) := by
  refine F.ok sc_law_drawing (fun vs H Q E h => ?_) (fun cdv A outer s H vs Q E hr h => ?_)
  · obtain ⟨t, us, zss, rfl, _⟩ := h
    rfl
  obtain ⟨t, us, zss, rfl, hT, hA, ok, q⟩ := h
  refine ⟨_, (pss_cons (ps_set (i := 1) sc_law_drawing.nd rfl (by first | exact Or.inl rfl | exact Or.inr rfl) (pe_makeR0 TW.mkC TW.ok (hr.mono (by decide)) (by rfl) TW.mgC))
    (pss_cons (ps_for PassesOwn.never rfl (pi_tup (pv 0)) (pg_name (i := 2) sc_law_drawing.nd rfl (by first | exact Or.inl rfl | exact Or.inr rfl)) (pss_one (ps_set (i := 1) sc_law_drawing.nd rfl (by first | exact Or.inl rfl | exact Or.inr rfl) (pe_op (op_wadd m_wadd (hr.mono (by decide))) (pv 1) (StX.pe_makeR TW.mkC TW.ok (hr.mono (by decide)) (by rfl) TW.mgC pass0 (pa_cons (pv 2) pa_nil))))))
    (pss_one (ps_ret (pv 1))))), ?_⟩
  have hl := Paired.length hA
  refine mkw_of2 (K := K) (us := []) (zss := []) .nil drNil fun H1 x1 s1 i1 => ⟨rfl, ?_⟩
  refine ⟨_, rfl, t, rfl, ⟨_, same_T s1 hT⟩, for_tup (K := K) (a := t) (xs := us) (fun i σ H' => ∃ r x, σ = [some (.ref t), some r, x] ∧ Same H H' ∧ IsW K CW H' r (zss.take i)) ⟨.ref x1, none, rfl, s1, i1⟩ ?_ ?_ ?_⟩
  · rintro i σ H' _ ⟨r, x, rfl, s', _⟩
    exact same_T s' hT
  · rintro i y σ H' hy ⟨r, x, rfl, s', i'⟩
    obtain ⟨zs, ez, iz⟩ := pgt hA hy
    have hz := List.mem_of_getElem? ez
    have d1 : DrOk [zs] := ⟨(by show 1 ≤ 12; decide), fun z h => by rw [List.mem_singleton.mp h]; exact ok.ok zs hz⟩
    have d2 : DrOk (zss.take i ++ [zs]) := by
      rw [← take_more ez]
      exact ⟨by have := ok.len; rw [List.length_take]; omega, fun z h => ok.ok z (List.mem_of_mem_take h)⟩
    refine ⟨_, rfl, _, rfl, ?_⟩
    refine mkw_of2 (K := K) (us := [y]) (zss := [zs]) (.cons (iz.same s') .nil) d1 fun H2 x2 s2 i2 => ⟨rfl, ?_⟩
    refine wadd_of (i'.same s2) i2 d2 fun H3 r3 s3 i3 => gn_of ?_
    rw [← take_more ez] at i3
    exact ⟨r3, _, rfl, (s'.trans s2).trans s3, i3⟩
  · rintro σ H' ⟨r, x, rfl, s', i'⟩
    rw [hl, List.take_length] at i'
    exact ⟨_, rfl, q _ _ s' i'⟩
end
end My

namespace My
open PySem L2 Mth
abbrev s_Drawing___eq__ : Stmt := inClass (topS 30) 6
theorem sc_Drawing___eq__ : FnScope ["self", "other"] ["self", "other"] (defScope s_Drawing___eq__) := ⟨rfl, rfl, rfl, by decide +kernel, rfl, by decide +kernel, by decide +kernel⟩
abbrev s_Drawing___getitem__ : Stmt := inClass (topS 30) 3
theorem sc_Drawing___getitem__ : FnScope ["self", "at"] ["self", "at"] (defScope s_Drawing___getitem__) := ⟨rfl, rfl, rfl, by decide +kernel, rfl, by decide +kernel, by decide +kernel⟩
abbrev s_Drawing___len__ : Stmt := inClass (topS 30) 2
theorem sc_Drawing___len__ : FnScope ["self"] ["self"] (defScope s_Drawing___len__) := ⟨rfl, rfl, rfl, by decide +kernel, rfl, by decide +kernel, by decide +kernel⟩
section
variable {P : Program} {w : World} {K : PySem.W.Frag} {mg : Str → Option Value} {base : Heap}
/-! ### len, items and equality of drawings -/
def sp_wlen (K : PySem.W.Frag) (CW : Addr) : Sp := fun vs H Q _ => ∃ va zss, vs = [va] ∧ IsW K CW H va zss ∧ Q (.int (zss.length : Nat)) H
theorem ok_wlen {f CW : Addr} {fd : FuncData} (T : WTxt K CW) (b_len : mg "len" = none) (F : Fun K "__len__" "Drawing.__len__" s_Drawing___len__ f fd) : FnOk P w K mg base CX0 1 f fd ["self"] (sp_wlen K CW) := by
  refine F.ok sc_Drawing___len__ (fun vs H Q E h => ?_) (fun cdv A outer s H vs Q E hr h => ?_)
  · obtain ⟨va, zss, rfl, _⟩ := h
    rfl
  obtain ⟨va, zss, rfl, ⟨p, dx, t, us, rfl, h1, h2, h3⟩, q⟩ := h
  refine ⟨_, (pss_one (ps_ret (pe_callB call_len_seq (by rfl) b_len PySem.boot_len (pa_cons (pe_fld (pv 0) rfl) pa_nil)))), ?_⟩
  refine ⟨_, rfl, p, CW, dx, _, _, rfl, h1, T.cl, T.nH, wf_held, t, us, rfl, .inr h2, ?_⟩
  rw [Paired.length h3]
  exact q
def sp_wget (K : PySem.W.Frag) (CW : Addr) : Sp := fun vs H Q _ => ∃ va i zss zs, vs = [va, .int i] ∧ IsW K CW H va zss ∧ atI zss i = some zs ∧ ∀ v, IsSt K H v zs → Q v H
theorem pairedI {α β : Type} {R : α → β → Prop} {us : List α} {ts : List β} (h : Paired R us ts) {i : Int} {t : β} (e : atI ts i = some t) : ∃ u, atI us i = some u ∧ R u t := by
  have hl := Paired.length h
  unfold atI at *
  rw [hl]
  cases hx : ixN ts.length i with
  | none => rw [hx] at e; cases e
  | some j =>
    rw [hx] at e
    have e : ts[j]? = some t := e
    have lj := (List.getElem?_eq_some_iff.mp e).1
    obtain ⟨u, eu⟩ : ∃ u, us[j]? = some u := ⟨us[j]'(by omega), by simp⟩
    obtain ⟨t', et, r⟩ := pgt h eu
    rw [e] at et
    cases et
    exact ⟨u, eu, r⟩
theorem ok_wget {f CW : Addr} {fd : FuncData} (T : WTxt K CW) (F : Fun K "__getitem__" "Drawing.__getitem__" s_Drawing___getitem__ f fd) : FnOk P w K mg base CX0 1 f fd ["self", "at"] (sp_wget K CW) := by
  refine F.ok sc_Drawing___getitem__ (fun vs H Q E h => ?_) (fun cdv A outer s H vs Q E hr h => ?_)
  · obtain ⟨va, i, zss, zs, rfl, _⟩ := h
    rfl
  obtain ⟨va, i, zss, zs, rfl, ⟨p, dx, t, us, rfl, h1, h2, h3⟩, e, q⟩ := h
  refine ⟨_, (pss_one (ps_ret (pe_ix (r := rIxT K) ix_tup (pe_fld (pv 0) rfl) (pv 1) (fun _ _ => rfl)))), ?_⟩
  obtain ⟨u, eu, iu⟩ := pairedI h3 e
  exact ⟨_, rfl, p, CW, dx, _, _, rfl, h1, T.cl, T.nH, wf_held, _, rfl, t, us, i, u, rfl, rfl, h2, eu, q u iu⟩
structure WIs (K : PySem.W.Frag) (C : Addr) : Prop where
  ha : PySem.W.findIn K (.ref C) "__class__" = some (some (.builtin "object.__class__"))
  hn : PySem.W.specialIn K (.builtin "object.__class__") "__get__" = some (some (.builtin "getset_descriptor.__get__"))
  htk : PySem.W.takesIn K (.builtin "object.__class__") = some true
  hm : PySem.W.mroIn K C (.type "object") = some true
def sp_weq (K : PySem.W.Frag) (CW : Addr) : Sp := fun vs H Q _ => ∃ va as vb bs, vs = [va, vb] ∧ IsW K CW H va as ∧ IsW K CW H vb bs ∧ Q (.bl (decide (as = bs))) H
theorem ok_weq {f CW : Addr} {fd : FuncData} (T : WTxt K CW) (TI : WIs K CW) (mgW : mg "Drawing" = some (.ref CW)) (b_isinstance : mg "isinstance" = none) (F : Fun K "__eq__" "Drawing.__eq__" s_Drawing___eq__ f fd) : FnOk P w K mg base CX0 1 f fd ["self", "other"] (sp_weq K CW) := by
  refine F.ok sc_Drawing___eq__ (fun vs H Q E h => ?_) (fun cdv A outer s H vs Q E hr h => ?_)
  · obtain ⟨va, as, vb, bs, rfl, _⟩ := h
    rfl
  obtain ⟨va, as, vb, bs, rfl, ⟨p, dx, t, us, rfl, h1, h2, h3⟩, ⟨p', dx', t', us', rfl, k1, k2, k3⟩, q⟩ := h
  refine ⟨_, (pss_one (ps_ret (pe_and (pe_callB (r := rIsi K) call_isi (by rfl) b_isinstance (by decide +kernel) (pa_cons (pv 1) (pa_cons (pe_glob (v := .ref CW) (by rfl) mgW rfl) pa_nil))) (pe_one (pe_cmpR (r := rEqD K) (op_eqD hr.units) (pe_fld (pv 0) rfl) (pe_fld (pv 1) rfl) (nomark _)))))), ?_⟩
  refine ⟨_, rfl, _, _, _, _, true, rfl, .own CW, .base (.ins k1 T.cl TI.ha TI.hn TI.htk TI.hm), ?_, true, rfl, iteT ?_⟩
  · unfold PySem.W.kitOne; simp
  refine ⟨_, rfl, p, CW, dx, _, _, rfl, h1, T.cl, T.nH, wf_held, _, rfl, p', CW, dx', _, _, rfl, k1, T.cl, T.nH, wf_held, .tuple (as.map dSt), .tuple (bs.map dSt), .tup h2 (dps_st h3), .tup k2 (dps_st k3), sh_st as, sh_st bs, ?_⟩
  rw [eqvSS]
  exact q
def sp_weqI (K : PySem.W.Frag) (CW : Addr) : Sp := fun vs H Q _ => ∃ va as i, vs = [va, .int i] ∧ IsW K CW H va as ∧ Q (.bl false) H
theorem ok_weqI {f CW : Addr} {fd : FuncData} (T : WTxt K CW) (kI : PySem.W.kitOne K (.type "int") (.ref CW) = some false) (mgW : mg "Drawing" = some (.ref CW)) (b_isinstance : mg "isinstance" = none) (F : Fun K "__eq__" "Drawing.__eq__" s_Drawing___eq__ f fd) : FnOk P w K mg base CX0 1 f fd ["self", "other"] (sp_weqI K CW) := by
  refine F.ok sc_Drawing___eq__ (fun vs H Q E h => ?_) (fun cdv A outer s H vs Q E hr h => ?_)
  · obtain ⟨va, as, i, rfl, _⟩ := h
    rfl
  obtain ⟨va, as, i, rfl, iw, q⟩ := h
  refine ⟨_, (pss_one (ps_ret (pe_and (pe_callB (r := rIsi K) call_isi (by rfl) b_isinstance (by decide +kernel) (pa_cons (pv 1) (pa_cons (pe_glob (v := .ref CW) (by rfl) mgW rfl) pa_nil))) (pe_one (pe_cmpR (r := rEqD K) (op_eqD hr.units) (pe_fld (pv 0) rfl) (pe_fld (pv 1) rfl) (nomark _)))))), ?_⟩
  refine ⟨_, rfl, _, _, _, _, false, rfl, .own CW, .base (.int _), ?_, false, rfl, iteF q⟩
  exact kI
structure MWl (P : Program) (w : World) (K : PySem.W.Frag) (mg : Str → Option Value) (base : Heap) (CW : Addr) : Prop where
  ex : ∃ f, FnR P w K mg base CX0 1 f (sp_wlen K CW) ∧ PySem.W.findIn K (.ref CW) "__len__" = some (some (.ref f)) ∧ PySem.W.isFn K (.ref f) = true
theorem cr_wlen {X : Cx} {CW : Addr} (M : MWl X.prog X.w X.K X.mg X.base CW) (hr : Room 2 X.A) : CallR X (.builtin "len") (rLenO CW (sp_wlen X.K CW)) := by
  obtain ⟨f, F, h1, h2⟩ := M.ex
  exact cr_lenO F hr h1 h2
theorem wlen_of {CW : Addr} {H : Hp} {Q : VK} {v : V} {zss : List (List T3)} (i : IsW K CW H v zss) (h : zss.length ≤ 1000) (q : Q (.int (zss.length : Nat)) H) : rLenO CW (sp_wlen K CW) [v] H Q := by
  obtain ⟨p, dx, _, _, rfl, h1, _⟩ := id i
  exact ⟨p, dx, _, rfl, h1, _, zss, rfl, i, _, rfl, by omega, by omega, q⟩
structure MWg (P : Program) (w : World) (K : PySem.W.Frag) (mg : Str → Option Value) (base : Heap) (CW : Addr) : Prop where
  ex : ∃ f, FnR P w K mg base CX0 1 f (sp_wget K CW) ∧ PySem.W.findIn K (.ref CW) "__getitem__" = some (some (.ref f)) ∧ PySem.W.isFn K (.ref f) = true ∧ PySem.W.fnIn K f = true
theorem pe_wget {X : Cx} {CW : Addr} {a b : Expr} {ta tb : TE} {pos : Pos} (hK : X.K = K) (M : MWg X.prog X.w X.K X.mg X.base CW) (hr : Room 2 X.A) (ha : PE X a ta) (hb : PE X b tb)
    (hsl : ∀ o i, subscripted b true o i = runValue (.builtin "lifetime.subscript" ⟨[o, i], []⟩) := by intro _ _; rfl) : PE X (.Subscript a b pos) (tOp (rIxO CW (sp_wget K CW)) ta tb) := by
  subst hK
  obtain ⟨f, F, h1, h2, h3⟩ := M.ex
  exact pe_ixO F hr h1 h2 h3 ha hb hsl
theorem wget_of {CW : Addr} {H : Hp} {Q : VK} {v : V} {zss : List (List T3)} {zs : List T3} {i : Int} (iw : IsW K CW H v zss) (e : atI zss i = some zs) (q : ∀ u, IsSt K H u zs → Q u H) : rIxO CW (sp_wget K CW) v (.int i) H Q := by
  obtain ⟨p, dx, _, _, rfl, h1, _⟩ := id iw
  exact ⟨p, dx, _, i, rfl, rfl, h1, _, i, zss, zs, rfl, iw, e, q⟩
structure MWe (P : Program) (w : World) (K : PySem.W.Frag) (mg : Str → Option Value) (base : Heap) (CW : Addr) : Prop where
  ex : ∃ f, FnR P w K mg base CX0 1 f (sp_weq K CW) ∧ FnR P w K mg base CX0 1 f (sp_weqI K CW) ∧ PySem.W.findIn K (.ref CW) "__eq__" = some (some (.ref f)) ∧ PySem.W.isFn K (.ref f) = true
theorem op_weq {X : Cx} {CW : Addr} (M : MWe X.prog X.w X.K X.mg X.base CW) (hr : Room 1 X.A) : OpR X (compareOp .Eq) (rOwn2 CW (sp_weq X.K CW)) := by
  obtain ⟨f, F, _, h1, h2⟩ := M.ex
  exact eq_own F hr h1 h2
theorem weq_of {CW : Addr} {H : Hp} {Q : VK} {x y : V} {as bs : List (List T3)} (ix : IsW K CW H x as) (iy : IsW K CW H y bs) (q : Q (.bl (decide (as = bs))) H) : rOwn2 CW (sp_weq K CW) x y H Q := by
  obtain ⟨p, dx, _, _, rfl, h1, _⟩ := id ix
  obtain ⟨p', dx', _, _, rfl, h1', _⟩ := id iy
  exact ⟨p, p', dx, _, dx', _, rfl, rfl, h1, h1', _, as, _, bs, rfl, ix, iy, q⟩
end
end My

namespace My
open PySem L2 Mth LamX TL
section
/-! ### words put into the words of strokes -/
def mkS (l : List Nat) : Str := ⟨l.toArray⟩
theorem mk_map (ls : List (List Nat)) : (ls.map mkS).map tl = ls := by
  rw [List.map_map]
  exact (List.map_congr_left fun l _ => rfl).trans (List.map_id ls)
theorem sp_tl : tl (" " : Str) = [32] := by decide +kernel
theorem split_words {ws : List Str} (hne : ws ≠ []) (h : ∀ w ∈ ws, 32 ∉ tl w) : Txt.split (Txt.join " " ws) " " = ws := split_join (s := 32) (S := []) sp_tl (by decide +kernel) hne h
theorem wl_free {zss : List (List T3)} {w : List Nat} (h : w ∈ wlL zss) : 32 ∉ w := by
  rcases wl_mem h with rfl | ⟨zs, _, z, _, rfl⟩
  · decide
  · exact word_free (by omega)
theorem tl_lineS (zs : List T3) : tl (lineS zs) = joinL [32] (zs.map wordL) := by
  unfold lineS
  rw [join_eq, tl_join, sp_tl, List.map_map]
  congr 1
  exact List.map_congr_left fun z _ => tl_wordS z
theorem tl_textS {zss : List (List T3)} (hn : zss ≠ []) (h : ∀ zs ∈ zss, zs ≠ []) : tl (textS zss) = joinL [32] (wlL zss) := by
  unfold textS
  rw [join_eq, tl_join, show tl (" / " : Str) = [32, 47, 32] from by decide +kernel, List.map_map, ← text_wl hn h]
  congr 1
  exact List.map_congr_left fun zs _ => tl_lineS zs
theorem text_join {zss : List (List T3)} (hn : zss ≠ []) (h : ∀ zs ∈ zss, zs ≠ []) : textS zss = Txt.join " " ((wlL zss).map mkS) := by
  refine ext_tl ?_
  rw [tl_textS hn h, join_eq, tl_join, sp_tl, mk_map]
theorem mk_free {zss : List (List T3)} : ∀ w ∈ (wlL zss).map mkS, 32 ∉ tl w := fun w hw => by
  obtain ⟨l, hl, rfl⟩ := List.mem_map.mp hw
  exact wl_free hl
theorem split_text {zss : List (List T3)} (hn : zss ≠ []) (h : ∀ zs ∈ zss, zs ≠ []) : Txt.split (textS zss) " " = (wlL zss).map mkS := by
  rw [text_join hn h]
  exact split_words (fun e => wlL_ne hn h (List.map_eq_nil_iff.mp e)) mk_free
/-- how many strokes -/
def slc (ws : List (List Nat)) : Nat := (ws.filter fun w => decide (w = [47])).length
theorem slc_app (a b : List (List Nat)) : slc (a ++ b) = slc a + slc b := by unfold slc; rw [List.filter_append, List.length_append]
theorem slc_le (a : List (List Nat)) : slc a ≤ a.length := List.length_filter_le _ _
theorem st_cnt : ∀ (ws : List (List Nat)) (c : List T3), (stH (ws ++ [[47]]) c).length = slc ws + 1
  | [], c => rfl
  | w :: ws, c => by
    show (if w = [47] then c :: stH (ws ++ [[47]]) [] else stH (ws ++ [[47]]) (c ++ [(spotF w).getD (0, 0, 1)])).length = _
    by_cases e : w = [47]
    · rw [if_pos e, List.length_cons, st_cnt ws, show w :: ws = [w] ++ ws from rfl, slc_app, show slc [w] = 1 from by unfold slc; rw [List.filter_cons, if_pos (decide_eq_true e)]; rfl]
      omega
    · rw [if_neg e, st_cnt ws, show w :: ws = [w] ++ ws from rfl, slc_app, show slc [w] = 0 from by unfold slc; rw [List.filter_cons, if_neg (by rw [decide_eq_false e]; decide)]; rfl]
      omega
theorem stF_cnt (ws : List (List Nat)) : (stF ws).length = slc ws + 1 := st_cnt ws []
theorem slc_map (zs : List T3) : slc (zs.map wordL) = 0 := by
  unfold slc
  rw [List.length_eq_zero_iff, List.filter_eq_nil_iff]
  intro w hw
  obtain ⟨z, _, rfl⟩ := List.mem_map.mp hw
  rw [decide_eq_false (word_ne47 z)]
  decide
theorem slc_wl : ∀ {zss : List (List T3)}, zss ≠ [] → slc (wlL zss) + 1 = zss.length
  | [], h => absurd rfl h
  | [zs], _ => by show slc (zs.map wordL) + 1 = 1; rw [slc_map]
  | zs :: ys :: r, _ => by
    show slc (zs.map wordL ++ ([[47]] ++ wlL (ys :: r))) + 1 = _
    rw [slc_app, slc_app, slc_map, show slc [[47]] = 1 from rfl]
    have := slc_wl (zss := ys :: r) (by simp)
    rw [List.length_cons, ← this]
    omega
theorem slc_cut {ws : List (List Nat)} {n m : Nat} (h : n ≤ m) : slc (ws.take n) + slc (ws.drop m) ≤ slc ws := by
  have e : slc ws = slc (ws.take n) + slc (ws.drop n) := by rw [← slc_app, List.take_append_drop]
  have e2 : slc (ws.drop n) = slc ((ws.drop n).take (m - n)) + slc (ws.drop m) := by
    rw [← slc_app]
    have := List.take_append_drop (m - n) (ws.drop n)
    rw [List.drop_drop, show n + (m - n) = m from by omega] at this
    rw [this]
  omega
/-- the spots that are read -/
theorem st_spots : ∀ (ws : List (List Nat)) (c : List T3), (∀ w ∈ ws, w = [47] ∨ spotF w ≠ none) → (∀ z ∈ c, Ok z ∧ B 30 z) → ∀ s ∈ stH (ws ++ [[47]]) c, ∀ z ∈ s, Ok z ∧ B 30 z
  | [], c, _, hc, s, hs => by
    have hs : s ∈ (if ([47] : List Nat) = [47] then c :: stH [] [] else stH [] (c ++ [(spotF [47]).getD (0, 0, 1)])) := hs
    rw [if_pos rfl] at hs
    rcases List.mem_cons.mp hs with hs | hs
    · rw [hs]; exact hc
    · cases hs
  | w :: ws, c, h, hc, s, hs => by
    have hs : s ∈ (if w = [47] then c :: stH (ws ++ [[47]]) [] else stH (ws ++ [[47]]) (c ++ [(spotF w).getD (0, 0, 1)])) := hs
    have h' : ∀ v ∈ ws, v = [47] ∨ spotF v ≠ none := fun v m => h v (.tail _ m)
    by_cases e : w = [47]
    · rw [if_pos e] at hs
      rcases List.mem_cons.mp hs with hs | hs
      · rw [hs]; exact hc
      · exact st_spots ws [] h' (fun _ z => by cases z) s hs
    · rw [if_neg e] at hs
      refine st_spots ws _ h' (fun z hz => ?_) s hs
      rcases List.mem_append.mp hz with hz | hz
      · exact hc z hz
      · rw [List.mem_singleton.mp hz]
        rcases h w (.head _) with h | h
        · exact absurd h e
        · cases e2 : spotF w with
          | none => exact absurd e2 h
          | some y => exact ⟨spw_ok e2, spw_B e2⟩
theorem stF_spots {ws : List (List Nat)} (h : ∀ w ∈ ws, w = [47] ∨ spotF w ≠ none) : ∀ s ∈ stF ws, ∀ z ∈ s, Ok z ∧ B 30 z := st_spots ws [] h fun _ z => by cases z
/-! ### where a stroke stands still -/
def stB (zs : List T3) : Bool := (List.range (zs.length - 1)).any fun j => decide (zs[j]? = zs[j + 1]?)
theorem stB_no {zs : List T3} (h : stB zs = false) : ∀ (j : Nat) x y, zs[j]? = some x → zs[j + 1]? = some y → x ≠ y := fun j x y hx hy e => by
  have hj := (List.getElem?_eq_some_iff.mp hy).1
  have := List.any_eq_false.mp h j (List.mem_range.mpr (by omega))
  rw [hx, hy, e] at this
  exact this (decide_eq_true rfl)
theorem stB_yes {zs : List T3} (h : stB zs = true) : ∃ (j : Nat) (z : T3), zs[j]? = some z ∧ zs[j + 1]? = some z := by
  obtain ⟨j, hj, e⟩ := List.any_eq_true.mp h
  have hj := List.mem_range.mp hj
  have e := of_decide_eq_true e
  refine ⟨j, zs[j], List.getElem?_eq_getElem (by omega), ?_⟩
  rw [← e]
  exact List.getElem?_eq_getElem (by omega)
def stP (zss : List (List T3)) (k : Nat) : Bool := stB (zss[k]?.getD [])
def stL (zss : List (List T3)) (n : Nat) : List Nat := (List.range n).filter (stP zss)
theorem stL_first {zss : List (List T3)} {n i : Nat} {r : List Nat} (h : stL zss n = i :: r) : i < n ∧ stP zss i = true ∧ ∀ k, k < i → stP zss k = false := by
  have hm : i ∈ stL zss n := by rw [h]; exact .head _
  obtain ⟨h1, h2⟩ := List.mem_filter.mp hm
  have hi := List.mem_range.mp h1
  refine ⟨hi, h2, fun k hk => ?_⟩
  cases e : stP zss k with
  | false => rfl
  | true =>
    have pw : (stL zss n).Pairwise (· < ·) := List.Pairwise.filter _ List.pairwise_lt_range
    have m : k ∈ stL zss n := List.mem_filter.mpr ⟨List.mem_range.mpr (by omega), e⟩
    rw [h] at m pw
    rcases List.mem_cons.mp m with m | m
    · omega
    · have := (List.pairwise_cons.mp pw).1 k m
      omega
theorem stL_none {zss : List (List T3)} {n : Nat} (h : stL zss n = []) : ∀ k, k < n → stP zss k = false := fun k hk => by
  have := List.filter_eq_nil_iff.mp h k (List.mem_range.mpr hk)
  simpa using this
/-- what is read of words that are well -/
structure Rdd (ws : List (List Nat)) : Prop where
  all : ∀ w ∈ ws, w = [47] ∨ spotF w ≠ none
  cnt : (stF ws).length ≤ 12
  ne : ∀ s ∈ stF ws, s ≠ []
  len : ∀ s ∈ stF ws, s.length ≤ 12
  sp : ∀ s ∈ stF ws, ∀ z ∈ s, Ok z ∧ B 30 z
theorem Rdd.st {ws : List (List Nat)} (g : Rdd ws) {s : List T3} (m : s ∈ stF ws) (h : stB s = false) : StOk s := ⟨by have := g.ne s m; cases s with | nil => exact absurd rfl this | cons _ _ => simp, g.len s m, fun z hz => (g.sp s m z hz).1, stB_no h⟩
theorem Rdd.at {ws : List (List Nat)} {k : Nat} {s : List T3} (h : stP (stF ws) k = false) (e : (stF ws)[k]? = some s) : stB s = false := by
  unfold stP at h
  rw [e] at h
  exact h
theorem Rdd.dr {ws : List (List Nat)} (g : Rdd ws) (h : stL (stF ws) (stF ws).length = []) : DrOk (stF ws) := ⟨g.cnt, fun s m => by
  obtain ⟨k, ek⟩ := List.mem_iff_getElem?.mp m
  exact g.st m (Rdd.at (stL_none h k (List.getElem?_eq_some_iff.mp ek).1) ek)⟩
theorem Rdd.still {ws : List (List Nat)} (g : Rdd ws) {i : Nat} {r : List Nat} (h : stL (stF ws) (stF ws).length = i :: r) : Still (stF ws) i := by
  obtain ⟨h1, h2, h3⟩ := stL_first h
  refine ⟨fun s m => ?_, ?_⟩
  · obtain ⟨k, ek⟩ := List.mem_iff_getElem?.mp m
    have hk := (List.getElem?_eq_some_iff.mp ek).1
    rw [List.length_take] at hk
    rw [List.getElem?_take_of_lt (by omega)] at ek
    exact g.st (List.mem_of_getElem? ek) (Rdd.at (h3 k (by omega)) ek)
  · refine ⟨_, List.getElem?_eq_getElem h1, ?_⟩
    have m : (stF ws)[i] ∈ stF ws := List.getElem_mem h1
    have hb : stB (stF ws)[i] = true := by
      unfold stP at h2
      rw [List.getElem?_eq_getElem h1] at h2
      exact h2
    exact ⟨by have := g.ne _ m; cases e : (stF ws)[i] with | nil => exact absurd e this | cons _ _ => simp, g.len _ m, fun z hz => (g.sp _ m z hz).1, stB_yes hb⟩
/-- the law's words -/
theorem rdd_of {ws : List (List Nat)} {x : List Nat} {n m k : Nat} (hf : fwF (ws.take n ++ (List.replicate k x ++ ws.drop m)) 0 true = none) (hr : Runs 4 ws) (hs : slc ws ≤ 4) (hk : k ≤ 2) (hm : n ≤ m) : Rdd (ws.take n ++ (List.replicate k x ++ ws.drop m)) := by
  have all := fw_all _ _ _ hf
  have r1 : Runs 4 (ws.take n) := Runs.pre (b := ws.drop n) (by rw [List.take_append_drop]; exact hr)
  have r2 : Runs 4 (ws.drop m) := Runs.suf (a := ws.take m) (by rw [List.take_append_drop]; exact hr)
  have r3 := Runs.app r1 (Runs.app (Runs.len (List.replicate k x)) r2)
  have c1 := slc_cut (ws := ws) hm
  have c2 := slc_le (List.replicate k x)
  rw [List.length_replicate] at c2 r3
  refine ⟨all, ?_, fwF_ne hf, fun s m => Nat.le_trans (runs_stF r3 s m) (by omega), stF_spots all⟩
  rw [stF_cnt, slc_app, slc_app]
  omega
end
end My

namespace My
open PySem L2 Mth LamX TL
section
variable {K : PySem.W.Frag}
/-! ### the text of strokes, read -/
theorem wl_len {k : Nat} : ∀ {zss : List (List T3)}, (∀ zs ∈ zss, zs.length ≤ k) → (wlL zss).length ≤ (k + 1) * zss.length
  | [], _ => Nat.zero_le _
  | [zs], h => by
    have := h zs (.head _)
    show (zs.map wordL).length ≤ (k + 1) * 1
    rw [List.length_map]; omega
  | zs :: ys :: r, h => by
    have := h zs (.head _)
    have ih := wl_len (zss := ys :: r) fun z m => h z (.tail _ m)
    show (zs.map wordL ++ ([47] :: wlL (ys :: r))).length ≤ (k + 1) * ((ys :: r).length + 1)
    rw [List.length_append, List.length_map, List.length_cons, Nat.mul_add]
    omega
/-- a drawing whose words can be read back -/
structure Wrd (zss : List (List T3)) : Prop where
  ok : ∀ zs ∈ zss, zs ≠ [] ∧ zs.length ≤ 12 ∧ ∀ z ∈ zs, B 29 z ∧ B 59 z ∧ Ok z
  len : zss.length ≤ 12
theorem Wrd.spot {zss : List (List T3)} (g : Wrd zss) {zs : List T3} {z : T3} (m : zs ∈ zss) (n : z ∈ zs) : spotF (wordL z) = some z := spot_word ((g.ok zs m).2.2 z n).2.2 ((g.ok zs m).2.2 z n).1
theorem Wrd.fw {zss : List (List T3)} (g : Wrd zss) (h : zss ≠ []) : fwF (wlL zss) 0 true = none := fw_wl (ok := fun z => spotF (wordL z) = some z) (fun z h => h) zss 0 h fun zs m => ⟨(g.ok zs m).1, fun z n => g.spot m n⟩
theorem Wrd.st {zss : List (List T3)} (g : Wrd zss) (h : zss ≠ []) : stF (wlL zss) = zss := st_wl (ok := fun z => spotF (wordL z) = some z) (fun z h => h) zss h fun zs m z n => g.spot m n
theorem Wrd.word {zss : List (List T3)} (g : Wrd zss) {w : List Nat} (m : w ∈ wlL zss) : w ≠ [] ∧ w.length ≤ 60 := by
  rcases wl_mem m with rfl | ⟨zs, m1, z, m2, rfl⟩
  · exact ⟨by simp, by decide⟩
  · refine ⟨fun e => ?_, wordL_len ((g.ok zs m1).2.2 z m2).2.1⟩
    have := g.spot m1 m2
    rw [e, show spotF [] = none from by decide +kernel] at this
    cases this
theorem Wrd.splits {zss : List (List T3)} (g : Wrd zss) (h : zss ≠ []) : Txt.split (textS zss) " " = (wlL zss).map mkS := split_text h fun zs m => (g.ok zs m).1
theorem Wrd.tne {zss : List (List T3)} (g : Wrd zss) (h : zss ≠ []) : textS zss ≠ "" := fun e => by
  have s := g.splits h
  rw [e, show Txt.split ("" : Str) " " = [mkS []] from by decide +kernel] at s
  have m : mkS [] ∈ (wlL zss).map mkS := by rw [← s]; exact .head _
  obtain ⟨l, hl, el⟩ := List.mem_map.mp m
  have : l = [] := congrArg tl el
  exact (g.word hl).1 this
theorem Wrd.prs {H : Hp} {Q : VK} {E : XK} {CW : Addr} {zss : List (List T3)} (g : Wrd zss) (dr : DrOk zss) (q : ∀ H' v, Same H H' → IsW K CW H' v zss → Q v H') : sp_prs K CW [.str (textS zss)] H Q E := by
  have l1 := textS_len (zss := zss) fun zs m => ⟨(g.ok zs m).2.1, fun z n => ((g.ok zs m).2.2 z n).2.1⟩
  have := g.len
  refine ⟨_, rfl, by omega, ?_⟩
  by_cases h : zss = []
  · subst h
    exact .inl ⟨by decide +kernel, q⟩
  · have e := g.splits h
    have e2 : (Txt.split (textS zss) " ").map tl = wlL zss := by rw [e, mk_map]
    refine .inr ⟨g.tne h, fun y m => ?_, ?_, ?_, ?_, fun H' v s i => q H' v s ?_⟩
    · rw [e] at m
      obtain ⟨l, hl, rfl⟩ := List.mem_map.mp m
      have := (g.word hl).2
      show l.length ≤ 90
      omega
    · rw [e, List.length_map]
      have := wl_len (k := 12) fun zs m => (g.ok zs m).2.1
      omega
    · rw [e2]; exact g.fw h
    · rw [e2, g.st h]; exact dr
    · rw [e2, g.st h] at i; exact i
theorem cut_dropN {us : List V} {k : Nat} : cutV us (some (k : Int)) none = us.drop k := by
  unfold cutV
  rw [HT.sIx_none, HT.sIx_nat]
  by_cases h : k ≤ us.length
  · rw [Nat.min_eq_left h, ← List.length_drop, List.take_length]
  · rw [Nat.min_eq_right (by omega), Nat.sub_self, List.take_zero, List.drop_eq_nil_of_le (by omega)]
theorem cut_takeN {us : List V} {k : Nat} (h : k ≤ us.length) : cutV us none (some (k : Int)) = us.take k := by
  unfold cutV
  rw [HT.sIx_none, HT.sIx_nat, List.drop_zero, Nat.sub_zero, Nat.min_eq_left h]
theorem rep_flat {α : Type} (x : α) : ∀ k : Nat, (List.replicate k [x]).flatten = List.replicate k x
  | 0 => rfl
  | k + 1 => by
    rw [List.replicate_succ, List.flatten_cons, rep_flat x k, List.replicate_succ]
    rfl
/-- a text's length -/
theorem join_len {ws : List Str} {k : Nat} (h : ∀ w ∈ ws, w.length ≤ k) : (Txt.join " " ws).length ≤ (k + 1) * ws.length := by
  have h1 := joinL_len [32] (ws.map tl)
  have h2 : ((ws.map tl).map (·.length)).sum ≤ k * ws.length := by
    rw [List.map_map]
    exact sum_le fun w hw => by show (tl w).length ≤ k; rw [← len_tl]; exact h w hw
  rw [len_tl, join_eq, tl_join, sp_tl]
  rw [List.length_map, List.length_singleton] at h1
  rw [Nat.add_mul]
  omega
/-- what stands of the fault at the word i -/
def Flt (ws : List (List Nat)) (i : Nat) (vf : V) (b : Bool) : Prop := (vf = .non ∧ fwF ws 0 true = fwF (ws.drop i) i b) ∨ ∃ k : Nat, vf = .int k ∧ fwF ws 0 true = some k
end
end My

namespace My
open PySem L2 Mth LamX TL
abbrev s_law : Stmt := topS 68
theorem sc_law : FnScope ["_law_script", "_law_d", "_law_strokes_here", "_law_drawing_here", "_law_text_here", "_law_words", "_law_at", "_law_bad", "_law_fault", "_law_begins", "_law_k", "_law_read_here", "_law_still", "_law_j"] ["_law_script"] (defScope s_law) := ⟨rfl, rfl, rfl, by decide +kernel, rfl, by decide +kernel, by decide +kernel⟩
section
variable {P : Program} {w : World} {K : PySem.W.Frag} {mg : Str → Option Value} {base : Heap}
def rLenS (K : PySem.W.Frag) : List V → Hp → VK → Prop := fun xs H Q => ∃ p ys, xs = [.ref p] ∧ (SqL K H p ys ∨ SqT K H p ys) ∧ Q (.int ys.length) H
theorem call_lenK {X : Cx} (hK : X.K = K) : CallR X (.builtin "len") (rLenS K) := by subst hK; exact call_len_seq
theorem ix_tupK {X : Cx} (hK : X.K = K) : IxR X (rIxT K) := by subst hK; exact ix_tup
theorem op_eqDK {X : Cx} (hK : X.K = K) (hu : X.A.units + 64 < cLine) : OpR X (compareOp .Eq) (rEqD K) := by subst hK; exact op_eqD hu
theorem op_neEK {X : Cx} (hK : X.K = K) (hu : X.A.units < cLine) : OpR X (compareOp .NotEq) (rNeE K) := by subst hK; exact op_neE hu
theorem deepSS {zss : List (List T3)} (h : zss.length ≤ 1000) (h2 : ∀ zs ∈ zss, zs.length ≤ 1000) : Deep 4 (.tuple (zss.map dSt)) := ⟨by rw [List.length_map]; exact h, fun x m => by
  obtain ⟨zs, hz, rfl⟩ := List.mem_map.mp m
  refine ⟨by rw [List.length_map]; exact h2 zs hz, fun y n => ?_⟩
  obtain ⟨z, _, rfl⟩ := List.mem_map.mp n
  refine ⟨by show 3 ≤ 1000; decide, fun w o => ?_⟩
  simp only [List.mem_cons, List.not_mem_nil, or_false] at o
  rcases o with rfl | rfl | rfl <;> trivial⟩
def dErI (n : Str) (i : Int) : PyData := .tuple [.str n, .int i]
theorem shapedEI {n : Str} {i : Int} (h : PyData.strOk n = true) : SeqAt.shaped (dErI n i) = true := by
  show ((PyData.strOk n && (true && true)) && decide (_ ≤ 64)) = true
  rw [h]
  rfl
theorem eqvEI (n : Str) (i : Int) : PyData.eqv (dErI n i) (dErI n i) = true := by simp [dErI, PyData.eqv, PyData.eqvAll]
def dTx (k : Nat) : PyData := .tuple [.str "text", .tuple [.int 0, .int k]]
theorem shapedTx (k : Nat) : SeqAt.shaped (dTx k) = true := by
  show ((PyData.strOk "text" && ((true && (true && true)) && true)) && decide (_ ≤ 64)) = true
  rw [show PyData.strOk "text" = true from by decide +kernel]
  rfl
theorem eqvTx (k : Nat) : PyData.eqv (dTx k) (dTx k) = true := by simp [dTx, PyData.eqv, PyData.eqvAll]
theorem dpT33 {H : Hp} {v : V} {z : T3} (h : IsT K H v z) : Dp K H v (d3 z) := by
  obtain ⟨p, rfl, h⟩ := h
  exact Dp3 h
def spLaw (K : PySem.W.Frag) (PL : Addr) : Sp := fun vs H Q _ => ∃ (a : Addr) (ns : List Int), vs = [.ref a] ∧ SqL K H a (ns.map V.int) ∧ ns.length ≤ 63 ∧ H PL = some (.tbl #[]) ∧ ∀ H', Q (.bl true) H'
abbrev qL : Str := ("law" ++ ".<locals>." : Str) ++ ("<lambda>" : Str)
theorem ok_law {f fI CB CW PL cL g : Addr} {Cs : Nat → Addr} {oc kV doc pm ct oc' kV' doc' pm' ct' cdv' : Value} {od an od' an' : Option Addr} {osl osl' : Array (Option Value)}
    (b_len : mg "len" = none) (b_range : mg "range" = none) (b_isinstance : mg "isinstance" = none) (b_ValueError : mg "ValueError" = none)
    (TW : DrawI P w K mg base CW fI) (m_W_strokes : MPf P w K mg base CW "strokes" "held") (m_weq : MWe P w K mg base CW)
    (m_B : mg "CopyError" = some (.ref CB)) (ET : ErrT K mg CB Cs) (EV : ErrV K mg CB Cs) (m_E : mg "_law_error_of" = some (.ref g)) (k_E : PySem.W.keepIn K (.ref g) = true)
    (l_E : K.lookup g = some ⟨oc', od', .func (PySem.W.fnOf "_law_error_of" "_law_error_of" (defArgs s_law_error_of) (defBody s_law_error_of) (defScope s_law_error_of) .none kV' doc' pm' an' cdv' ct'), osl'⟩) (c_E : PySem.W.codeIn K cdv' "_law_error_of" = true)
    (b_E : Binds K (PySem.W.fnOf "_law_error_of" "_law_error_of" (defArgs s_law_error_of) (defBody s_law_error_of) (defScope s_law_error_of) .none kV' doc' pm' an' cdv' ct') ["_law_call"] [])
    (d_law_random : D P w K mg base "_law_random" 1 (sp_random K)) (d_law_below : D P w K mg base "_law_below" 1 sp_below) (d_law_strokes : D P w K mg base "_law_strokes" 5 (sp_lstrokes K)) (d_law_drawing : D P w K mg base "_law_drawing" 8 (sp_ldrawing K CW)) (d_law_text : D P w K mg base "_law_text" 2 (sp_ltxt K)) (d_law_equal : D P w K mg base "_law_equal" 4 (sp_equal K 4)) (d_format_drawing : D P w K mg base "format_drawing" 3 (sp_fmt K CW)) (d_parse_drawing : D P w K mg base "parse_drawing" 8 (sp_prs K CW)) (d_law_strokes_words : D P w K mg base "_law_strokes_words" 3 (sp_lsw K)) (d_law_bad_word : D P w K mg base "_law_bad_word" 3 (sp_lbw K)) (d_law_is_spot : D P w K mg base "_law_is_spot" 3 sp_lisp) (d_law_read_strokes : D P w K mg base "_law_read_strokes" 2 (sp_lrs K))
    (d_parse_drawingX : DX P w K mg base "parse_drawing" 8 (sp_prsX K (Cs 12) (Cs 4)))
    (TBL : TabB base mg cL PL) (lk : K.lookup f = some ⟨oc, od, .func (PySem.W.fnOf "law" "law" (defArgs s_law) (defBody s_law) (defScope s_law) .none kV doc pm an (.ref cL) ct), osl⟩) (hcd : PySem.W.codeIn K (.ref cL) "law" = true) :
    FnOk P w K mg base CX0 13 f (PySem.W.fnOf "law" "law" (defArgs s_law) (defBody s_law) (defScope s_law) .none kV doc pm an (.ref cL) ct) ["_law_script"] (spLaw K PL) := by
  refine fn_of lk hcd sc_law (fun vs H Q E h => ?_) (fun A outer s H vs Q E hr h => ?_)
  · obtain ⟨a, ns, rfl, _⟩ := h
    rfl
  obtain ⟨a, ns, rfl, hS, h63, hTb, q⟩ := h
  refine (?_ : ∃ t, PSs (cxOf CX0 P w K mg base _ _ _ f (.ref cL) A outer s H E).nox _ t ∧ _).imp fun t h => ⟨h.1.nox, h.2⟩
  refine ⟨_, (pss_cons (ps_set (i := 1) sc_law.nd rfl (by first | exact Or.inl rfl | exact Or.inr rfl) (pc d_law_random (hr.mono (by decide)) (pa_cons (pv 0) (pa_cons pe_int pa_nil))))
    (pss_cons (ps_set (i := 2) sc_law.nd rfl (by first | exact Or.inl rfl | exact Or.inr rfl) (pc d_law_strokes (hr.mono (by decide)) (pa_cons (pv 1) (pa_cons pe_int pa_nil))))
    (pss_cons (ps_asg (pe_tup (pa_cons (pc d_law_drawing (hr.mono (by decide)) (pa_cons (pv 2) pa_nil)) (pa_cons (pc d_law_text (hr.mono (by decide)) (pa_cons (pv 2) pa_nil)) pa_nil))) (pg_tup rfl (pgs_cons (pg_name (i := 3) sc_law.nd rfl (by first | exact Or.inl rfl | exact Or.inr rfl)) (pgs_cons (pg_name (i := 4) sc_law.nd rfl (by first | exact Or.inl rfl | exact Or.inr rfl)) pgs_nil))))
    (pss_cons (ps_if (PW.pt (pw_or (pt_not (pt_val (pc d_law_equal (hr.mono (by decide)) (pa_cons (pc d_format_drawing (hr.mono (by decide)) (pa_cons (pv 3) pa_nil)) (pa_cons (pv 4) pa_nil))))) (pw_or1 (pt_not (pt_val (pc d_law_equal (hr.mono (by decide)) (pa_cons (pe_pf m_W_strokes (hr.mono (by decide)) (pc d_parse_drawing (hr.mono (by decide)) (pa_cons (pv 4) pa_nil))) (pa_cons (pv 2) pa_nil)))))))) (pss_one (ps_ret pe_bl)) pss_nil)
    (pss_cons (ps_set (i := 5) sc_law.nd rfl (by first | exact Or.inl rfl | exact Or.inr rfl) (pc d_law_strokes_words (hr.mono (by decide)) (pa_cons (pv 1) (pa_cons (pv 2) pa_nil))))
    (pss_cons (ps_par (i := 6) (j := 7) (by rfl) sc_law.nd rfl rfl (by decide) rfl rfl (pa_cons (pc d_law_below (hr.mono (by decide)) (pa_cons (pv 1) (pa_cons (pe_op op_add (pe_callB call_len_seq (by rfl) b_len PySem.boot_len (pa_cons (pv 5) pa_nil)) pe_int) pa_nil))) (pa_cons (pe_ifExp (pt_cmpR (op_eq) (pc d_law_below (hr.mono (by decide)) (pa_cons (pv 1) (pa_cons pe_int pa_nil))) pe_int (nomark _)) pe_str (pc d_law_bad_word (hr.mono (by decide)) (pa_cons (pv 1) pa_nil))) pa_nil)) (by rfl))
    (pss_cons (ps_set (i := 5) sc_law.nd rfl (by first | exact Or.inl rfl | exact Or.inr rfl) (pe_op (r := rCat) op_cat (pe_op (r := rCat) op_cat (pe_slice (r := rSlL K) sl_list (pv 5) po_none (po_some (pv 6))) (pe_op (r := rRep) op_rep (pe_lst (pa_cons (pv 7) pa_nil)) (pe_op op_add pe_int (pc d_law_below (hr.mono (by decide)) (pa_cons (pv 1) (pa_cons pe_int pa_nil)))))) (pe_slice (r := rSlL K) sl_list (pv 5) (po_some (pe_op op_add (pv 6) (pc d_law_below (hr.mono (by decide)) (pa_cons (pv 1) (pa_cons pe_int pa_nil))))) po_none)))
    (pss_cons (ps_asg (pe_tup (pa_cons pe_non (pa_cons pe_bl pa_nil))) (pg_tup rfl (pgs_cons (pg_name (i := 8) sc_law.nd rfl (by first | exact Or.inl rfl | exact Or.inr rfl)) (pgs_cons (pg_name (i := 9) sc_law.nd rfl (by first | exact Or.inl rfl | exact Or.inr rfl)) pgs_nil))))
    (pss_cons (ps_for PassesOwn.never rfl (pi_range1 (by rfl) b_range (pa_cons (pe_callB call_len_seq (by rfl) b_len PySem.boot_len (pa_cons (pv 5) pa_nil)) pa_nil)) (pg_name (i := 10) sc_law.nd rfl (by first | exact Or.inl rfl | exact Or.inr rfl)) (pss_cons (ps_if (PW.pt (pw_and (pt_cmpR (op_isN) (pv 8) pe_non (nomark _)) (pw_and (pt_not (pt_val (pc d_law_is_spot (hr.mono (by decide)) (pa_cons (pe_ix (r := rIxL K) ix_list (pv 5) (pv 10) (fun _ _ => rfl)) pa_nil)))) (pw_and1 (PW.pt (pw_or (pt_cmpR (op_ne) (pe_ix (r := rIxL K) ix_list (pv 5) (pv 10) (fun _ _ => rfl)) pe_str (nomark _)) (pw_or1 (pt_val (pv 9))))))))) (pss_one (ps_set (i := 8) sc_law.nd rfl (by first | exact Or.inl rfl | exact Or.inr rfl) (pv 10))) pss_nil)
    (pss_one (ps_set (i := 9) sc_law.nd rfl (by first | exact Or.inl rfl | exact Or.inr rfl) (pe_cmpR (op_eq) (pe_ix (r := rIxL K) ix_list (pv 5) (pv 10) (fun _ _ => rfl)) pe_str (nomark _))))))
    (pss_cons (ps_if (PW.pt (pw_and (pt_cmpR (op_isN) (pv 8) pe_non (nomark _)) (pw_and1 (pt_val (pv 9))))) (pss_one (ps_set (i := 8) sc_law.nd rfl (by first | exact Or.inl rfl | exact Or.inr rfl) (pe_callB call_len_seq (by rfl) b_len PySem.boot_len (pa_cons (pv 5) pa_nil)))) pss_nil)
    (pss_cons (ps_set (i := 4) sc_law.nd rfl (by first | exact Or.inl rfl | exact Or.inr rfl) (pe_join pe_str (pv 5)))
    (pss_cons (ps_if (PW.pt (pw_or (pt_cmpR (op_in_seq) pe_str (pv 5) (by rfl)) (pw_or1 (pt_cmpR (op_eq) (pv 4) pe_str (nomark _))))) (pss_one (ps_ret pe_bl)) pss_nil)
    (pss_cons (ps_if (pt_cmpR (op_notN) (pv 8) pe_non (nomark _)) (pss_one (ps_ret (pe_cmpR (r := rEqD K) (op_eqD hr.units) (pe_lamcall (T := [(PL, _)]) (TT := TErrT Cs) (k := 8) (t := fun E => tClX (sp_prsX K (Cs 12) (Cs 4)) E (tCons (tVar 4) tNil)) (by rfl) m_E k_E l_E c_E b_E sc_law_error_of (by rfl) (Or.inl (by rfl)) (err_givesT b_isinstance b_ValueError m_B ET EV) TBL (by rfl) (.head _) (fun p hp _ => by cases List.mem_singleton.mp hp; rfl) (hr.mono (by decide)) (show LamS (defScope s_law) _ from lamS_by (by decide +kernel)) (by rfl) (fun _ _ _ _ _ => by rfl) (fun A outer s H E f c' hr' => pcX d_parse_drawingX (hr'.mono (by decide)) (passes_call (takes_of rfl rfl rfl rfl) (fun _ _ _ _ h => h)) (pa_cons (pv 4) pa_nil))) (pe_tup (pa_cons pe_str (pa_cons (pe_tup (pa_cons pe_int (pa_cons (pv 8) pa_nil))) pa_nil))) (nomark _)))) pss_nil)
    (pss_cons (ps_set (i := 11) sc_law.nd rfl (by first | exact Or.inl rfl | exact Or.inr rfl) (pc d_law_read_strokes (hr.mono (by decide)) (pa_cons (pv 5) pa_nil)))
    (pss_cons (ps_setLc (i := 12) (own := [("_law_k", 10)]) (g := gName 10) (by rfl) sc_law.nd rfl rfl (sw_true rfl rfl rfl (by decide +kernel)) (pi_range1 (by rfl) b_range (pa_cons (pe_callB call_len_seq (by rfl) b_len PySem.boot_len (pa_cons (pv 11) pa_nil)) pa_nil)) (blkOk_by (own := [("_law_k", 10)]) (N := ["_law_script", "_law_d", "_law_strokes_here", "_law_drawing_here", "_law_text_here", "_law_words", "_law_at", "_law_bad", "_law_fault", "_law_begins", "_law_k", "_law_read_here", "_law_still", "_law_j"]) (sc := defScope s_law) (by decide +kernel)) (fun _ _ _ _ _ => (pg_name (i := 10) sc_law.nd rfl (by first | exact Or.inl rfl | exact Or.inr rfl))) (fun _ _ _ _ _ => (pts_one (pt_cmpR (r := rNeE K) (op_neEK rfl (u0 hr)) (pe_lc (own := [("_law_j", 13)]) (g := gName 13) (by rfl) sc_law.nd (pi_range2 (by rfl) b_range (pa_cons pe_int (pa_cons (pe_callB (r := rLenS K) (call_lenK rfl) (by rfl) b_len PySem.boot_len (pa_cons (pe_ix (r := rIxT K) (ix_tupK rfl) (pv 11) (pv 10) (fun _ _ => rfl)) pa_nil)) pa_nil))) (blkOk_nest (blkOk_by (own := [("_law_j", 13)]) (N := ["_law_script", "_law_d", "_law_strokes_here", "_law_drawing_here", "_law_text_here", "_law_words", "_law_at", "_law_bad", "_law_fault", "_law_begins", "_law_k", "_law_read_here", "_law_still", "_law_j"]) (by decide +kernel))) (fun _ _ _ _ _ => (pg_name (i := 13) sc_law.nd rfl (by first | exact Or.inl rfl | exact Or.inr rfl))) (fun _ _ _ _ _ => (pts_one (pt_cmpR (r := rEqD K) (op_eqDK rfl hr.units) (pe_ix (r := rIxT K) (ix_tupK rfl) (pe_ix (r := rIxT K) (ix_tupK rfl) (pv 11) (pv 10) (fun _ _ => rfl)) (pv 13) (fun _ _ => rfl)) (pe_ix (r := rIxT K) (ix_tupK rfl) (pe_ix (r := rIxT K) (ix_tupK rfl) (pv 11) (pv 10) (fun _ _ => rfl)) (pe_op op_sub (pv 13) pe_int) (fun _ _ => rfl)) (by with_unfolding_all rfl)))) (fun _ _ _ _ _ => (pv 13))) (pe_lst pa_nil) (by with_unfolding_all rfl)))) (fun _ _ _ _ _ => (pv 10)))
    (pss_cons (ps_if (pt_cmpR (r := rNeE K) (op_neE (u0 hr)) (pv 12) (pe_lst pa_nil) (by with_unfolding_all rfl)) (pss_one (ps_ret (pe_cmpR (r := rEqD K) (op_eqD hr.units) (pe_lamcall (T := [(PL, _)]) (TT := TErrT Cs) (k := 8) (t := fun E => tClX (sp_prsX K (Cs 12) (Cs 4)) E (tCons (tVar 4) tNil)) (by rfl) m_E k_E l_E c_E b_E sc_law_error_of (by rfl) (Or.inl (by rfl)) (err_givesT b_isinstance b_ValueError m_B ET EV) TBL (by rfl) (.head _) (fun p hp _ => by cases List.mem_singleton.mp hp; rfl) (hr.mono (by decide)) (show LamS (defScope s_law) _ from lamS_by (by decide +kernel)) (by rfl) (fun _ _ _ _ _ => by rfl) (fun A outer s H E f c' hr' => pcX d_parse_drawingX (hr'.mono (by decide)) (passes_call (takes_of rfl rfl rfl rfl) (fun _ _ _ _ h => h)) (pa_cons (pv 4) pa_nil))) (pe_tup (pa_cons pe_str (pa_cons (pe_ix (r := rIxL K) ix_list (pv 12) pe_int (fun _ _ => rfl)) pa_nil))) (nomark _)))) pss_nil)
    (pss_one (ps_ret (pe_and (pc d_law_equal (hr.mono (by decide)) (pa_cons (pe_pf m_W_strokes (hr.mono (by decide)) (pc d_parse_drawing (hr.mono (by decide)) (pa_cons (pv 4) pa_nil))) (pa_cons (pv 11) pa_nil))) (pe_one (pe_cmpR (r := rOwn2 CW (sp_weq K CW)) (op_weq m_weq (hr.mono (by decide))) (pc d_parse_drawing (hr.mono (by decide)) (pa_cons pe_str pa_nil)) (pe_makeR0 TW.mkC TW.ok (hr.mono (by decide)) (by rfl) TW.mgC) (nomark _)))))))))))))))))))))), ?_⟩
  refine ⟨_, rfl, a, ns, 33, rfl, hS, h63, by decide, by decide, fun H1 d st1 s1 hd1 ok1 => ?_⟩
  refine ⟨_, rfl, d, 5, st1, rfl, by decide, by decide, hd1, ok1, fun H2 st2 pt us zss k2 hd2 ok2 hTs hA hL hn => ?_⟩
  have tb2 := k2 _ _ (ne_of (s1 _ _ hTb) hd1 (by intro z; cases z)) (s1 _ _ hTb)
  have hn : zss.length ≤ 5 := hn
  clear hd1 ok1 s1 k2 hS hTb
  have hsp : ∀ zs ∈ zss, zs.length ≤ 4 ∧ zs ≠ [] ∧ ∀ z ∈ zs, B 29 z ∧ B 59 z ∧ Ok z := fun zs m => ⟨(hL zs m).len, by have := (hL zs m).st.lo; cases zs with | nil => exact absurd this (by decide) | cons _ _ => simp, fun z hz => ⟨((hL zs m).sp z hz).bd.mono (by decide), ((hL zs m).sp z hz).bd.mono (by decide), (hL zs m).st.ok z hz⟩⟩
  have dr : DrOk zss := ⟨by omega, fun zs m => (hL zs m).st⟩
  have ht5 : ∀ zs ∈ zss, zs.length ≤ 12 ∧ ∀ z ∈ zs, B 59 z ∧ Ok z := fun zs m => ⟨by have := (hsp zs m).1; omega, fun z hz => ((hsp zs m).2.2 z hz).2⟩
  clear hL
  refine gn_of ?_
  refine ⟨_, rfl, pt, us, zss, rfl, hTs, hA, dr, fun H3 rd s3 iw => ⟨_, rfl, pt, us, zss, rfl, same_T s3 hTs, hA.same s3, by omega, ht5, fun H4 s4 => ⟨(by show 2 ≤ sizeLine; decide), fun tp htp => ?_⟩⟩⟩
  have s5 := same_new htp (.tup [rd, .str (textS zss)])
  have s25 := s3.trans (s4.trans s5)
  have g5 := upd_same (H := H4) (a := tp) (o := .tup [rd, .str (textS zss)])
  generalize upd H4 tp (.tup [rd, .str (textS zss)]) = H5 at *
  refine ⟨tp, _, rfl, .inl (.inl g5), rfl, _, _, rfl, gn_of ⟨_, _, rfl, gn_of ?_⟩⟩
  refine ⟨rfl, ?_⟩
  dsimp only
  have hT5 := same_T s25 hTs
  have hA5 := hA.same s25
  have hd5 := s25 _ _ hd2
  have tb5 := s25 _ _ tb2
  have iw5 := iw.same (s4.trans s5)
  clear htp g5 s3 s4 s5 s25 hd2 tb2 hTs hA iw
  have wr : Wrd zss := ⟨fun zs m => ⟨(hsp zs m).2.1, (ht5 zs m).1, fun z n => ⟨((hsp zs m).2.2 z n).1, ((hsp zs m).2.2 z n).2.1, ((hsp zs m).2.2 z n).2.2⟩⟩, by omega⟩
  refine ⟨_, rfl, rd, zss, rfl, iw5, by omega, fun zs m => ⟨(ht5 zs m).1, fun z n => ((ht5 zs m).2 z n).1⟩, fun H6 s6 => ⟨_, rfl, _, _, .str (textS zss), rfl, .str _, .str _, trivial, fun H7 s7 => ⟨true, rfl, iteF ?_⟩⟩⟩
  have s57 := s6.trans s7
  refine ⟨_, rfl, wr.prs (E := E0) dr fun H8 v s8 i8 => ?_⟩
  obtain ⟨pw, dxw, tw, uw, rfl, hw1, hw2, hw3⟩ := i8
  refine pf_of hw1 wf_held ⟨_, rfl, _, _, .tuple (zss.map dSt), rfl, .tup hw2 (dps_st hw3), .tup (same_T (s57.trans s8) hT5) (dps_st (hA5.same (s57.trans s8))), ?_, fun H9 s9 => ⟨true, rfl, iteF ?_⟩⟩
  · exact deepSS (by omega) fun zs m => by have := (ht5 zs m).1; omega
  have s59 := (s57.trans s8).trans s9
  have hT9 := same_T s59 hT5
  have hA9 := hA5.same s59
  have hd9 := s59 _ _ hd5
  have tb9 := s59 _ _ tb5
  clear hw1 hw2 hw3 s6 s7 s57 s8 s9 s59 hT5 hA5 hd5 tb5 iw5
  dsimp only [tNext]
  obtain ⟨zs1, ez1, wr1, ne1, l1, l4⟩ : ∃ zs1, zs1 = (if zss = [] then [[((1 : Int), (2 : Int), (1 : Int))]] else zss) ∧ Wrd zs1 ∧ zs1 ≠ [] ∧ zs1.length ≤ 5 ∧ ∀ zs ∈ zs1, zs.length ≤ 4 := by
    refine ⟨_, rfl, ?_⟩
    split
    · refine ⟨⟨fun zs m => ?_, by decide⟩, by simp, by decide, fun zs m => ?_⟩
      · rw [List.mem_singleton.mp m]
        refine ⟨by simp, by decide, fun z n => ?_⟩
        rw [List.mem_singleton.mp n]
        exact ⟨⟨by decide, by decide, by decide⟩, ⟨by decide, by decide, by decide⟩, ⟨by decide, by decide⟩⟩
      · rw [List.mem_singleton.mp m]; decide
    · next h => exact ⟨wr, h, hn, fun zs m => (hsp zs m).1⟩
  refine ⟨_, rfl, _, rfl, _, pt, us, zss, rfl, hT9, hA9, by omega, ht5, fun H10 L s10 hL0 hL => gn_of ?_⟩
  rw [← ez1, wr1.splits ne1] at hL
  have dL : L ≠ d := fun z => by rw [z, hd9] at hL0; cases hL0
  have pL : PL ≠ L := fun z => by rw [← z, tb9] at hL0; cases hL0
  have hd10 := s10 _ _ hd9
  have tb10 := s10 _ _ tb9
  have lW := wl_len (k := 4) l4
  have rW := runs_wl (k := 4) l4
  have cW := slc_wl ne1
  have fW : ∀ w ∈ (wlL zs1).map mkS, 32 ∉ tl w ∧ w.length ≤ 90 := fun w m => by
    obtain ⟨l, hl, rfl⟩ := List.mem_map.mp m
    exact ⟨wl_free hl, by have := (wr1.word hl).2; show l.length ≤ 90; omega⟩
  have eW := mk_map (wlL zs1)
  have lW2 : ((wlL zs1).map mkS).length ≤ 25 := by rw [List.length_map]; omega
  rw [← eW] at rW cW
  generalize (wlL zs1).map mkS = W at *
  replace cW : slc (W.map tl) ≤ 4 := by omega
  clear eW lW wr1 ne1 l1 l4 ez1 hL0 s10 tb9 hd9 hT9 hA9
  dsimp only
  refine seq_join (fun σ' H' => ∃ st, ∃ n : Nat, ∃ x : Str, σ' = [some (.ref a), some (.ref d), some (.ref pt), some rd, some (.str (textS zss)), some (.ref L), some (.int n), some (.str x), none, none, none, none, none, none] ∧ H' d = some (.lst (encD st)) ∧ SrcOk st ∧ H' PL = some (.tbl #[]) ∧ H' L = some (.lst (W.map V.str)) ∧ n ≤ W.length ∧ (x = " " ∨ 32 ∉ tl x) ∧ x.length ≤ 90) ?_ ?_
  case refine_2 =>
    intro D' hrt kD
    refine ⟨_, rfl, _, rfl, L, W.map V.str, rfl, .inl (.inl (.inl hL)), _, _, rfl, rfl, d, _, st2, rfl, by rw [List.length_map]; omega, by rw [List.length_map]; omega, hd10, ok2, fun st3 r ok3 r0 r1 => ?_⟩
    rw [List.length_map] at r1
    have k11 := keep_upd (d := d) (H := H10) (o := .lst (encD st3))
    have hd11 := upd_same (H := H10) (a := d) (o := .lst (encD st3))
    have hL11 := k11 _ _ dL hL
    have tb11 := k11 _ _ (ne_of tb10 hd10 (by intro z; cases z)) tb10
    generalize upd H10 d (.lst (encD st3)) = H11 at *
    clear k11
    refine ⟨_, rfl, d, _, st3, rfl, by decide, by decide, hd11, ok3, fun st4 r4 ok4 x0 x1 => ?_⟩
    have k12 := keep_upd (d := d) (H := H11) (o := .lst (encD st4))
    have hd12 := upd_same (H := H11) (a := d) (o := .lst (encD st4))
    have hL12 := k12 _ _ dL hL11
    have tb12 := k12 _ _ (ne_of tb11 hd11 (by intro z; cases z)) tb11
    generalize upd H11 d (.lst (encD st4)) = H12 at *
    clear k12
    obtain ⟨n, rfl⟩ : ∃ n : Nat, r = (n : Int) := ⟨r.toNat, by omega⟩
    refine ⟨rfl, _, rfl, ?_⟩
    by_cases h0 : r4 = 0
    · subst h0
      exact iteT ⟨_, _, rfl, kD _ _ ⟨st4, n, "/", rfl, hd12, ok4, tb12, hL12, by omega, .inr (by decide +kernel), by decide +kernel⟩⟩
    · rw [decide_eq_false fun z => h0 (V.int.inj z)]
      exact iteF ⟨_, rfl, d, st4, rfl, hd12, ok4, fun H13 st5 x k13 hd13 ok5 hx hlx => ⟨_, _, rfl, kD _ _ ⟨st5, n, x, rfl, hd13, ok5, k13 _ _ (ne_of tb12 hd12 (by intro z; cases z)) tb12, k13 _ _ dL hL12, by omega, hx, hlx⟩⟩⟩
  rintro σ5 H14 ⟨st, n, x, rfl, hd14, ok14, tb14, hL14, hnW, hx, hlx⟩
  clear hd10 ok2 tb10 hL
  refine seq_join (fun σ' H' => ∃ st, ∃ n m k : Nat, ∃ x : Str, ∃ L2 : Addr, σ' = [some (.ref a), some (.ref d), some (.ref pt), some rd, some (.str (textS zss)), some (.ref L2), some (.int n), some (.str x), none, none, none, none, none, none] ∧ H' d = some (.lst (encD st)) ∧ SrcOk st ∧ H' PL = some (.tbl #[]) ∧ H' L2 = some (.lst ((W.take n ++ (List.replicate k x ++ W.drop m)).map V.str)) ∧ n ≤ W.length ∧ n ≤ m ∧ 1 ≤ k ∧ k ≤ 2 ∧ (x = " " ∨ 32 ∉ tl x) ∧ x.length ≤ 90) ?_ ?_
  case refine_2 =>
    intro D' hrt kD
    refine ⟨_, rfl, _, rfl, _, rfl, L, _, rfl, .inl (.inl hL14), fun p4 hp4 => ?_⟩
    rw [cut_takeN (by rw [List.length_map]; exact hnW), ← List.map_take]
    have s4 := same_new hp4 (.lst ((W.take n).map V.str))
    have g4 := upd_same (H := H14) (a := p4) (o := .lst ((W.take n).map V.str))
    have p4d : p4 ≠ d := fun e => by rw [e, hd14] at hp4; cases hp4
    have hd4 := s4 _ _ hd14
    have hL4 := s4 _ _ hL14
    have tb4 := s4 _ _ tb14
    generalize upd H14 p4 (.lst ((W.take n).map V.str)) = G4 at *
    refine ⟨_, rfl, (by show 1 ≤ sizeLine; decide), fun p5 hp5 => ?_⟩
    have s5 := same_new hp5 (.lst [.str x])
    have g5 := upd_same (H := G4) (a := p5) (o := .lst [.str x])
    have p5d : p5 ≠ d := fun e => by rw [e, hd4] at hp5; cases hp5
    have hd5 := s5 _ _ hd4
    have hL5 := s5 _ _ hL4
    have tb5 := s5 _ _ tb4
    have g45 := s5 _ _ g4
    generalize upd G4 p5 (.lst [.str x]) = G5 at *
    refine ⟨_, rfl, d, 2, st, rfl, by decide, by decide, hd5, ok14, fun st6 r ok6 r0 r1 => ⟨_, _, rfl, rfl, ?_⟩⟩
    have k6 := keep_upd (d := d) (H := G5) (o := .lst (encD st6))
    have hd6 := upd_same (H := G5) (a := d) (o := .lst (encD st6))
    have g46 := k6 _ _ p4d g45
    have g56 := k6 _ _ p5d g5
    have hL6 := k6 _ _ dL hL5
    have tb6 := k6 _ _ (ne_of tb5 hd5 (by intro z; cases z)) tb5
    generalize upd G5 d (.lst (encD st6)) = G6 at *
    obtain ⟨k, ek, k1, k2⟩ : ∃ k : Nat, 1 + r = (k : Int) ∧ 1 ≤ k ∧ k ≤ 2 := ⟨(1 + r).toNat, by omega, by omega, by omega⟩
    refine ⟨p5, 1 + r, [.str x], rfl, rfl, g56, by omega, by omega, by show 1 * (1 + r).toNat ≤ sizeLine; exact small (by omega), fun p7 hp7 => ?_⟩
    rw [show (1 + r).toNat = k from by omega, rep_flat, ← List.map_replicate]
    have s7 := same_new hp7 (.lst ((List.replicate k x).map V.str))
    have g7 := upd_same (H := G6) (a := p7) (o := .lst ((List.replicate k x).map V.str))
    have hd7 := s7 _ _ hd6
    have hL7 := s7 _ _ hL6
    have tb7 := s7 _ _ tb6
    have g47 := s7 _ _ g46
    generalize upd G6 p7 (.lst ((List.replicate k x).map V.str)) = G7 at *
    refine ⟨p4, p7, _, _, rfl, rfl, g47, g7, small (by rw [List.length_map, List.length_map, List.length_take, List.length_replicate]; omega), fun p8 hp8 => ?_⟩
    rw [← List.map_append]
    have s8 := same_new hp8 (.lst ((W.take n ++ List.replicate k x).map V.str))
    have g8 := upd_same (H := G7) (a := p8) (o := .lst ((W.take n ++ List.replicate k x).map V.str))
    have p8d : p8 ≠ d := fun e => by rw [e, hd7] at hp8; cases hp8
    have hd8 := s8 _ _ hd7
    have hL8 := s8 _ _ hL7
    have tb8 := s8 _ _ tb7
    generalize upd G7 p8 (.lst ((W.take n ++ List.replicate k x).map V.str)) = G8 at *
    refine ⟨_, rfl, _, rfl, _, rfl, d, 2, st6, rfl, by decide, by decide, hd8, ok6, fun st9 q2 ok9 q0 q1 => ?_⟩
    have k9 := keep_upd (d := d) (H := G8) (o := .lst (encD st9))
    have hd9 := upd_same (H := G8) (a := d) (o := .lst (encD st9))
    have g89 := k9 _ _ p8d g8
    have hL9 := k9 _ _ dL hL8
    have tb9 := k9 _ _ (ne_of tb8 hd8 (by intro z; cases z)) tb8
    generalize upd G8 d (.lst (encD st9)) = G9 at *
    obtain ⟨m, em, nm⟩ : ∃ m : Nat, (n : Int) + q2 = (m : Int) ∧ n ≤ m := ⟨((n : Int) + q2).toNat, by omega, by omega⟩
    refine ⟨_, _, rfl, rfl, _, rfl, L, _, rfl, .inl (.inl hL9), fun p10 hp10 => ?_⟩
    rw [em, cut_dropN, ← List.map_drop]
    have s10 := same_new hp10 (.lst ((W.drop m).map V.str))
    have g10 := upd_same (H := G9) (a := p10) (o := .lst ((W.drop m).map V.str))
    have g8x := s10 _ _ g89
    have hd10 := s10 _ _ hd9
    have tb10 := s10 _ _ tb9
    generalize upd G9 p10 (.lst ((W.drop m).map V.str)) = G10 at *
    refine ⟨p8, p10, _, _, rfl, rfl, g8x, g10, small (by simp only [List.length_map, List.length_append, List.length_take, List.length_replicate, List.length_drop]; omega), fun p11 hp11 => gn_of ?_⟩
    rw [← List.map_append, List.append_assoc]
    have s11 := same_new hp11 (.lst ((W.take n ++ (List.replicate k x ++ W.drop m)).map V.str))
    exact kD _ _ ⟨st9, n, m, k, x, p11, rfl, s11 _ _ hd10, ok9, s11 _ _ tb10, upd_same, hnW, nm, k1, k2, hx, hlx⟩
  rintro σ5 H15 ⟨st, n, m, k, x, L2, rfl, hd15, ok15, tb15, hL15, hnW, hnm, k1, k2, hx, hlx⟩
  clear hd14 ok14 tb14 hL14
  obtain ⟨Vs, eV, ne2, l2, hw2, fr2, rdd⟩ : ∃ Vs, Vs = W.take n ++ (List.replicate k x ++ W.drop m) ∧ Vs ≠ [] ∧ Vs.length ≤ 60 ∧ (∀ y ∈ Vs, y.length ≤ 90) ∧ ((∀ y ∈ Vs, 32 ∉ tl y) ∨ (" " : Str) ∈ Vs) ∧ (fwF (Vs.map tl) 0 true = none → Rdd (Vs.map tl)) := by
    have mem : ∀ y ∈ W.take n ++ (List.replicate k x ++ W.drop m), y ∈ W ∨ y = x := fun y hy => by
      rcases List.mem_append.mp hy with h | h
      · exact .inl (List.mem_of_mem_take h)
      · rcases List.mem_append.mp h with h | h
        · exact .inr (List.mem_replicate.mp h).2
        · exact .inl (List.mem_of_mem_drop h)
    have mx : x ∈ W.take n ++ (List.replicate k x ++ W.drop m) := List.mem_append_right _ (List.mem_append_left _ (List.mem_replicate.mpr ⟨by omega, rfl⟩))
    refine ⟨_, rfl, (fun e => by rw [e] at mx; cases mx), ?_, fun y hy => ?_, ?_, fun hf => ?_⟩
    · simp only [List.length_append, List.length_take, List.length_replicate, List.length_drop]; omega
    · rcases mem y hy with h | h
      · exact (fW y h).2
      · rw [h]; exact hlx
    · rcases hx with h | h
      · exact .inr (by rw [← h]; exact mx)
      · refine .inl fun y hy => ?_
        rcases mem y hy with g | g
        · exact (fW y g).1
        · rw [g]; exact h
    · have e : (W.take n ++ (List.replicate k x ++ W.drop m)).map tl = (W.map tl).take n ++ (List.replicate k (tl x) ++ (W.map tl).drop m) := by
        rw [List.map_append, List.map_append, List.map_take, List.map_drop, List.map_replicate]
      rw [e] at hf ⊢
      exact rdd_of hf rW cW k2 hnm
  rw [← eV] at hL15
  clear eV rW cW fW hx hnW hnm k1 k2 hlx lW2 dL
  refine ⟨(by show 2 ≤ sizeLine; decide), fun tp htp => ?_⟩
  have s16 := same_new htp (.tup [.non, .bl true])
  have g16 := upd_same (H := H15) (a := tp) (o := .tup [.non, .bl true])
  have hL16 := s16 _ _ hL15
  have tb16 := s16 _ _ tb15
  generalize upd H15 tp (.tup [.non, .bl true]) = H16 at *
  refine ⟨tp, _, rfl, .inl (.inl g16), rfl, _, _, rfl, gn_of ⟨_, _, rfl, gn_of ⟨rfl, ?_⟩⟩⟩
  clear g16 s16 htp hL15 tb15 hd15
  dsimp only
  refine seq_join (fun σ' H' => ∃ vf b x10, σ' = [some (.ref a), some (.ref d), some (.ref pt), some rd, some (.str (textS zss)), some (.ref L2), some (.int n), some (.str x), some vf, some (.bl b), x10, none, none, none] ∧ Same H16 H' ∧ Flt (Vs.map tl) Vs.length vf b) ?_ ?_
  case refine_2 =>
    intro D' hrt kD
    refine ⟨_, rfl, L2, _, rfl, .inl (.inl (.inl hL16)), _, rfl, by omega, by rw [List.length_map]; omega, for_range (lo := 0) (n := (((Vs.map V.str).length : Nat) : Int).toNat) (fun i σ H' => ∃ vf b x10, σ = [some (.ref a), some (.ref d), some (.ref pt), some rd, some (.str (textS zss)), some (.ref L2), some (.int n), some (.str x), some vf, some (.bl b), x10, none, none, none] ∧ Same H16 H' ∧ Flt (Vs.map tl) i vf b) ?_ ?_ ?_⟩
    · exact ⟨_, _, none, rfl, Same.refl _, .inl ⟨rfl, rfl⟩⟩
    · rintro i σ H' hi ⟨vf, b, x10, rfl, s', hf⟩
      have hi : i < Vs.length := by simpa using hi
      rw [show (0 : Int) + (i : Nat) = (i : Nat) from by omega]
      refine gn_of ?_
      obtain ⟨wd, ew⟩ : ∃ wd, Vs[i]? = some wd := ⟨_, List.getElem?_eq_getElem hi⟩
      have at' : atI (Vs.map V.str) (i : Nat) = some (.str wd) := atI_nat (by rw [List.getElem?_map, ew]; rfl)
      have hL' : ∀ H'', Same H' H'' → SqL K H'' L2 (Vs.map V.str) := fun H'' s => .inl (.inl (s _ _ (s' _ _ hL16)))
      have edr : (Vs.map tl).drop i = tl wd :: (Vs.map tl).drop (i + 1) := by
        rw [List.drop_eq_getElem_cons (by rw [List.length_map]; exact hi), List.getElem_map]
        rw [List.getElem?_eq_getElem hi] at ew
        rw [Option.some.inj ew]
      have e47 : decide (V.str wd = V.str ("/" : Str)) = decide (tl wd = [47]) := str_eq (by decide +kernel)
      refine seq_join (fun σ' H'' => ∃ vf', σ' = [some (.ref a), some (.ref d), some (.ref pt), some rd, some (.str (textS zss)), some (.ref L2), some (.int n), some (.str x), some vf', some (.bl b), some (.int (i : Nat)), none, none, none] ∧ Same H' H'' ∧ Flt (Vs.map tl) (i + 1) vf' (decide (tl wd = [47]))) ?_ ?_
      case refine_2 =>
        intro D2 hrt2 kD2
        rcases hf with ⟨rfl, hf⟩ | ⟨kf, rfl, hf⟩
        · rw [edr] at hf
          have hf : fwF (Vs.map tl) 0 true = if tl wd = [47] ∧ b = false then fwF ((Vs.map tl).drop (i + 1)) (i + 1) true else if spotF (tl wd) = none then some i else fwF ((Vs.map tl).drop (i + 1)) (i + 1) false := hf
          refine ⟨_, rfl, rfl, _, rfl, iteT ⟨_, rfl, _, rfl, L2, _, _, _, rfl, rfl, hL' _ (Same.refl _), at', wd, rfl, hw2 wd (List.mem_of_getElem? ew), fun H18 s18 => ⟨_, rfl, ?_⟩⟩⟩
          by_cases hs : spotF (tl wd) = none
          · rw [hs]
            by_cases h47 : tl wd = [47]
            · cases b with
              | true =>
                rw [if_neg (by intro c; cases c.2), if_pos hs] at hf
                refine iteT ⟨_, rfl, _, rfl, L2, _, _, _, rfl, rfl, hL' _ s18, at', rfl, _, rfl, ?_⟩
                rw [e47, decide_eq_true h47]
                exact iteF ⟨_, rfl, true, rfl, iteT ⟨_, rfl, kD2 _ _ ⟨_, rfl, s18, .inr ⟨i, rfl, hf⟩⟩⟩⟩
              | false =>
                rw [if_pos ⟨h47, rfl⟩] at hf
                refine iteT ⟨_, rfl, _, rfl, L2, _, _, _, rfl, rfl, hL' _ s18, at', rfl, _, rfl, ?_⟩
                rw [e47, decide_eq_true h47]
                refine iteF ⟨_, rfl, false, rfl, iteF ?_⟩
                exact kD2 _ _ ⟨_, rfl, s18, .inl ⟨rfl, by rw [decide_eq_true h47]; exact hf⟩⟩
            · rw [if_neg (by intro c; exact h47 c.1), if_pos hs] at hf
              refine iteT ⟨_, rfl, _, rfl, L2, _, _, _, rfl, rfl, hL' _ s18, at', rfl, _, rfl, ?_⟩
              rw [e47, decide_eq_false h47]
              exact iteT (iteT ⟨_, rfl, kD2 _ _ ⟨_, rfl, s18, .inr ⟨i, rfl, hf⟩⟩⟩)
          · have h47 : tl wd ≠ [47] := fun e => hs (by rw [e]; exact spot47)
            rw [if_neg (by intro c; exact h47 c.1), if_neg hs] at hf
            rw [show (spotF (tl wd)).isSome = true from by cases h : spotF (tl wd) with | none => exact absurd h hs | some _ => rfl]
            refine iteF (iteF ?_)
            exact kD2 _ _ ⟨_, rfl, s18, .inl ⟨rfl, by rw [decide_eq_false h47]; exact hf⟩⟩
        · refine ⟨_, rfl, rfl, _, rfl, iteF (iteF ?_)⟩
          exact kD2 _ _ ⟨_, rfl, Same.refl _, .inr ⟨kf, rfl, hf⟩⟩
      rintro σ6 H6 ⟨vf', rfl, s6, hf'⟩
      refine ⟨_, rfl, _, rfl, L2, _, _, _, rfl, rfl, hL' _ s6, at', rfl, gn_of ?_⟩
      rw [e47]
      exact ⟨_, _, _, rfl, s'.trans s6, hf'⟩
    · rintro σ H' ⟨vf, b, x10, rfl, s', hf⟩
      refine kD _ _ ⟨vf, b, x10, rfl, s', ?_⟩
      rw [Int.toNat_natCast, List.length_map] at hf
      exact hf
  rintro σ5 H17 ⟨vf, b, x10, rfl, s17, hf⟩
  refine seq_join (fun σ' H' => ∃ vf x10, σ' = [some (.ref a), some (.ref d), some (.ref pt), some rd, some (.str (textS zss)), some (.ref L2), some (.int n), some (.str x), some vf, some (.bl b), x10, none, none, none] ∧ Same H16 H' ∧ ((vf = .non ∧ fwF (Vs.map tl) 0 true = none) ∨ ∃ k : Nat, vf = .int k ∧ fwF (Vs.map tl) 0 true = some k)) ?_ ?_
  case refine_2 =>
    intro D' hrt kD
    rcases hf with ⟨rfl, hf⟩ | ⟨kf, rfl, hf⟩
    · rw [List.drop_eq_nil_of_le (by rw [List.length_map]; exact Nat.le_refl _)] at hf
      have hf : fwF (Vs.map tl) 0 true = if b = true then some Vs.length else none := hf
      refine ⟨_, rfl, rfl, _, rfl, iteT ⟨_, rfl, b, rfl, ?_⟩⟩
      cases b with
      | true =>
        refine iteT ⟨_, rfl, L2, _, rfl, .inl (.inl (.inl (s17 _ _ hL16))), gn_of ?_⟩
        rw [List.length_map]
        exact kD _ _ ⟨_, _, rfl, s17, .inr ⟨_, rfl, hf⟩⟩
      | false => exact iteF (kD _ _ ⟨_, _, rfl, s17, .inl ⟨rfl, hf⟩⟩)
    · exact ⟨_, rfl, rfl, _, rfl, iteF (iteF (kD _ _ ⟨_, _, rfl, s17, .inr ⟨kf, rfl, hf⟩⟩))⟩
  clear hf s17
  rintro σ7 H19 ⟨vf, x10, rfl, s19, hf⟩
  have hL19 := s19 _ _ hL16
  have tb19 := s19 _ _ tb16
  clear s19 hL16 tb16
  have lj := join_len hw2
  have lsum : (Vs.map (·.length)).sum ≤ 90 * Vs.length := sum_le hw2
  refine ⟨⟨_, rfl⟩, _, rfl, _, L2, Vs, rfl, rfl, .inl (.inl (.inl hL19)), ?_, gn_of ?_⟩
  · rw [show (" " : Str).length = 1 from by decide +kernel]; omega
  clear lsum
  dsimp only
  refine seq_join (fun σ' H' => σ' = [some (.ref a), some (.ref d), some (.ref pt), some rd, some (.str (Txt.join " " Vs)), some (.ref L2), some (.int n), some (.str x), some vf, some (.bl b), x10, none, none, none] ∧ H' = H19 ∧ (∀ y ∈ Vs, 32 ∉ tl y) ∧ Txt.join " " Vs ≠ "") ?_ ?_
  case refine_2 =>
    intro D' hrt kD
    refine ⟨_, rfl, L2, _, rfl, .inl (.inl (.inl hL19)), rfl, ?_, _, rfl, ?_⟩
    · rw [List.all_eq_true]
      intro y hy
      obtain ⟨z, _, rfl⟩ := List.mem_map.mp hy
      rfl
    dsimp only
    by_cases hin : inV (.str " ") (Vs.map V.str) = true
    · rw [hin]
      refine iteT (iteT ?_)
      show D'.rt (.bl true) H19
      rw [hrt]
      exact q _
    · rw [Bool.eq_false_iff.mpr hin]
      have fr : ∀ y ∈ Vs, 32 ∉ tl y := by
        rcases fr2 with h | h
        · exact h
        · exact absurd (List.any_eq_true.mpr ⟨.str " ", List.mem_map.mpr ⟨_, h, rfl⟩, by decide +kernel⟩) hin
      refine iteF ⟨_, rfl, rfl, _, rfl, ?_⟩
      by_cases hz : Txt.join " " Vs = ""
      · rw [decide_eq_true (by rw [hz])]
        refine iteT ?_
        show D'.rt (.bl true) H19
        rw [hrt]
        exact q _
      · rw [decide_eq_false fun e => hz (V.str.inj e)]
        exact iteF (kD _ _ ⟨rfl, rfl, fr, hz⟩)
  rintro σ8 H20 ⟨rfl, rfl, fr, hz⟩
  have tN : ∀ p ∈ [(PL, qL)], TabS H20 p.1 p.2 := fun p hp => by
    cases List.mem_singleton.mp hp
    exact TabS.nil tb19
  have lx : (Txt.join " " Vs).length ≤ 100000 := by omega
  have esp := split_words ne2 fr
  rcases hf with ⟨rfl, hf⟩ | ⟨k, rfl, hf⟩
  case inr =>
    refine ⟨_, rfl, rfl, _, rfl, iteT ?_⟩
    refine ⟨tN, fun G15 eN tN' => ⟨_, rfl, nil_of ⟨_, rfl, lx, hz, by rw [esp]; exact hw2, by rw [esp]; omega, .inl ⟨k, by rw [esp]; exact hf, fun G16 dd s16 nd hx => .inl ⟨dd, 0, k, rfl, rfl, hx, fun G17 p17 m17 s17 h17 hm17 => ?_⟩⟩⟩⟩⟩
    refine ⟨_, rfl, (by show 2 ≤ sizeLine; decide), fun p18 hp18 => ⟨(by show 2 ≤ sizeLine; decide), fun p19 hp19 => ?_⟩⟩
    have s18 := same_new hp18 (.tup [.int 0, .int k])
    have g18 := upd_same (H := G17) (a := p18) (o := .tup [.int 0, .int k])
    have s19 := same_new hp19 (.tup [.str "text", .ref p18])
    have s1819 := s18.trans s19
    refine ⟨dTx k, dTx k, .tup (.inl (.inl (s1819 _ _ h17))) (.cons (.str _) (.cons (.tup (.inl (.inl (s1819 _ _ hm17))) (.cons (.int _) (.cons (.int _) .nil))) .nil)), .tup (.inl (.inl upd_same)) (.cons (.str _) (.cons (.tup (.inl (.inl (s19 _ _ g18))) (.cons (.int _) (.cons (.int _) .nil))) .nil)), shapedTx k, shapedTx k, ?_⟩
    rw [eqvTx]
    exact q _
  have rd2 := rdd hf
  clear rdd
  refine ⟨_, rfl, rfl, _, rfl, iteF ?_⟩
  dsimp only [tNext]
  refine ⟨_, rfl, L2, Vs, rfl, .inl (.inl hL19), hw2, by omega, fun y hy => rd2.all (tl y) (List.mem_map.mpr ⟨y, hy, rfl⟩), fun H21 pr ur s21 hr' hpr => gn_of ?_⟩
  have tb21 := s21 _ _ tb19
  have lur := Paired.length hpr
  have lz := rd2.cnt
  clear tN tb19 hL19
  dsimp only
  refine ⟨_, rfl, pr, ur, rfl, .inr hr', _, rfl, by omega, by omega, fun D hD => lc_range (lo := 0) (n := ((ur.length : Nat) : Int).toNat) (fun i H' => ∃ acc, Same H21 H' ∧ H' D = some (.lst acc) ∧ acc = (stL (stF (Vs.map tl)) i).map fun k => V.int (k : Nat)) ⟨[], same_new hD _, upd_same, rfl⟩ ?_ ?_⟩
  · rintro i H' hi ⟨acc, s', hw, ea⟩
    have hi : i < ur.length := by simpa using hi
    rw [Int.zero_add]
    refine ⟨rfl, ?_⟩
    obtain ⟨zs, ez⟩ : ∃ zs, (stF (Vs.map tl))[i]? = some zs := ⟨_, List.getElem?_eq_getElem (by omega)⟩
    obtain ⟨vz, evz, pz, uz, rfl, hz1, hz2⟩ := pgetW hpr ez
    have luz := Paired.length hz2
    have mz := List.mem_of_getElem? ez
    have lz12 := rd2.len zs mz
    have lz1 := rd2.ne zs mz
    have at1 : atI ur (i : Nat) = some (.ref pz) := atI_nat evz
    have la : acc.length ≤ 12 := by
      rw [ea, List.length_map]
      refine Nat.le_trans (List.length_filter_le _ _) ?_
      rw [List.length_range]; omega
    have go : stL (stF (Vs.map tl)) (i + 1) = stL (stF (Vs.map tl)) i ++ (if stB zs = true then [i] else []) := by
      unfold stL
      rw [List.range_succ, List.filter_append]
      congr 1
      rw [List.filter_cons, List.filter_nil]
      unfold stP
      rw [ez]
      rfl
    refine ⟨_, rfl, _, rfl, pr, ur, _, _, rfl, rfl, same_T s' hr', at1, pz, uz, rfl, .inr (same_T s' hz1), _, _, rfl, ⟨by omega, by omega, by omega, by omega⟩, fun L hL => lc_range (lo := 1) (n := (((uz.length : Nat) : Int) - 1).toNat) (fun j H'' => ∃ acc2, Same H' H'' ∧ H'' L = some (.lst acc2) ∧ acc2.length ≤ j ∧ acc2.isEmpty = !((List.range j).any fun j => decide (zs[j]? = zs[j + 1]?))) ⟨[], same_new hL _, upd_same, Nat.le_refl _, rfl⟩ ?_ ?_⟩
    · rintro j H'' hj ⟨acc2, s'', hw2', l2', ea2⟩
      have hj : j + 1 < zs.length := by omega
      refine ⟨rfl, ?_⟩
      obtain ⟨z1, e1⟩ : ∃ z1, zs[j]? = some z1 := ⟨_, List.getElem?_eq_getElem (by omega)⟩
      obtain ⟨z2, e2⟩ : ∃ z2, zs[j + 1]? = some z2 := ⟨_, List.getElem?_eq_getElem (by omega)⟩
      obtain ⟨v1, ev1, iv1⟩ := pgetW hz2 e1
      obtain ⟨v2, ev2, iv2⟩ := pgetW hz2 e2
      have sT := s'.trans s''
      have a2 : atI uz (1 + (j : Nat)) = some v2 := by
        rw [show (1 : Int) + (j : Nat) = ((j + 1 : Nat) : Int) from by omega]
        exact atI_nat ev2
      have a3 : atI uz (1 + (j : Nat) - 1) = some v1 := by
        rw [show (1 : Int) + (j : Nat) - 1 = ((j : Nat) : Int) from by omega]
        exact atI_nat ev1
      refine ⟨_, rfl, _, rfl, pr, ur, _, _, rfl, rfl, same_T sT hr', at1, _, rfl, pz, uz, _, _, rfl, rfl, same_T sT hz1, a2, _, rfl, _, rfl, pr, ur, _, _, rfl, rfl, same_T sT hr', at1, _, rfl, _, _, rfl, rfl, pz, uz, _, _, rfl, rfl, same_T sT hz1, a3, d3 z2, d3 z1, dpT33 (iv2.same sT), dpT33 (iv1.same sT), shaped3 _, shaped3 _, _, rfl, ?_⟩
      have fj : decide (zs[j]? = zs[j + 1]?) = decide (z2 = z1) := by
        rw [e1, e2, Bool.eq_iff_iff, decide_eq_true_iff, decide_eq_true_iff]
        exact ⟨fun h => (Option.some.inj h).symm, fun h => by rw [h]⟩
      have en : ((List.range (j + 1)).any fun j => decide (zs[j]? = zs[j + 1]?)) = (((List.range j).any fun j => decide (zs[j]? = zs[j + 1]?)) || decide (z2 = z1)) := by
        rw [List.range_succ, List.any_append, List.any_cons, List.any_nil, Bool.or_false, fj]
      rw [eqv3]
      by_cases h : z2 = z1
      · rw [decide_eq_true h] at en ⊢
        refine iteT ⟨_, rfl, acc2, hw2', small1000 (by omega), acc2 ++ [.int (1 + (j : Nat))], fun b o h => ?_, upd_same, by rw [List.length_append, List.length_singleton]; omega, ?_⟩
        · rw [upd_ne (ne_of_none h hL)]
          exact s'' _ _ h
        · rw [en, Bool.or_true]
          cases acc2 <;> rfl
      · rw [decide_eq_false h] at en ⊢
        refine iteF ⟨acc2, s'', hw2', by omega, ?_⟩
        rw [en, Bool.or_false]
        exact ea2
    · rintro H'' ⟨acc2, s'', hw2', l2', ea2⟩
      refine ⟨(by show 0 ≤ sizeLine; decide), fun Ln hLn => ⟨L, Ln, acc2, rfl, rfl, .inl (.inl (same_new hLn (.lst []) _ _ hw2')), .inl (.inl upd_same), _, rfl, ?_⟩⟩
      have sn := s''.trans (same_new hLn (.lst []))
      have eb : (!acc2.isEmpty) = stB zs := by
        rw [ea2, Bool.not_not]
        unfold stB
        rw [show (((uz.length : Nat) : Int) - 1).toNat = zs.length - 1 from by omega]
      rw [eb]
      rw [go]
      have hD' : H' D = some (.lst acc) := hw
      by_cases h : stB zs = true
      · rw [h]
        refine iteT ⟨_, rfl, acc, sn _ _ hw, small1000 (by omega), acc ++ [.int (i : Nat)], fun b o h => ?_, upd_same, ?_⟩
        · rw [upd_ne (ne_of_none h hD)]
          exact sn _ _ (s' _ _ h)
        · rw [if_pos rfl, List.map_append, ← ea]
          rfl
      · rw [Bool.eq_false_iff.mpr h]
        refine iteF ⟨acc, s'.trans sn, sn _ _ hw, ?_⟩
        rw [if_neg (by decide), List.append_nil]
        exact ea
  rintro H22 ⟨acc, s22, hw22, ea⟩
  rw [show (((ur.length : Nat) : Int)).toNat = (stF (Vs.map tl)).length from by rw [Int.toNat_natCast]; exact lur] at ea
  refine gn_of ?_
  have tb22 := s22 _ _ tb21
  have hr22 := same_T s22 hr'
  have hpr22 : AllSt K H22 ur (stF (Vs.map tl)) := AllSt.same hpr s22
  dsimp only
  refine ⟨_, rfl, (by show 0 ≤ sizeLine; decide), fun Ln hLn => ⟨D, Ln, acc, rfl, rfl, .inl (.inl (same_new hLn (.lst []) _ _ hw22)), .inl (.inl upd_same), _, rfl, ?_⟩⟩
  have s23 := same_new hLn (.lst [])
  have tb23 := s23 _ _ tb22
  have hw23 := s23 _ _ hw22
  have hr23 := same_T s23 hr22
  have hpr23 := hpr22.same s23
  generalize upd H22 Ln (.lst []) = H23 at *
  clear s23 hLn hw22 hr22 hpr22 tb22
  subst ea
  cases hst : stL (stF (Vs.map tl)) (stF (Vs.map tl)).length with
  | cons i r =>
    rw [hst] at hw23
    have sti := rd2.still hst
    have tN : ∀ p ∈ [(PL, qL)], TabS H23 p.1 p.2 := fun p hp => by
      cases List.mem_singleton.mp hp
      exact TabS.nil tb23
    refine iteT ⟨tN, fun G15 eN tN' => ⟨_, rfl, nil_of ⟨_, rfl, lx, hz, by rw [esp]; exact hw2, by rw [esp]; omega, .inr ⟨by rw [esp]; exact hf, i, by rw [esp]; exact sti, fun G16 dd s16 nd hx => .inr ⟨dd, i, rfl, rfl, hx, fun G17 p17 s17 h17 => ?_⟩⟩⟩⟩⟩
    have g17 := (s16.trans s17) _ _ (eN _ _ hw23 (fun ps z => by cases z))
    refine ⟨_, rfl, D, _, 0, .int i, rfl, rfl, .inl (.inl g17), atI_nat (j := 0) rfl, (by show 2 ≤ sizeLine; decide), fun p18 hp18 => ?_⟩
    have s18 := same_new hp18 (.tup [.str "stroke", .int i])
    refine ⟨dErI "stroke" i, dErI "stroke" i, .tup (.inl (.inl (s18 _ _ h17))) (.cons (.str _) (.cons (.int _) .nil)), .tup (.inl (.inl upd_same)) (.cons (.str _) (.cons (.int _) .nil)), shapedEI (by decide +kernel), shapedEI (by decide +kernel), ?_⟩
    rw [eqvEI]
    exact q _
  | nil =>
    have dr2 := rd2.dr hst
    refine iteF ?_
    dsimp only [tNext]
    refine ⟨_, rfl, _, rfl, lx, .inr ⟨hz, by rw [esp]; exact hw2, by rw [esp]; omega, by rw [esp]; exact hf, by rw [esp]; exact dr2, fun H24 v s24 i24 => ?_⟩⟩
    rw [esp] at i24
    obtain ⟨pw, dxw, tw, uw, rfl, k1, k2, k3⟩ := i24
    refine pf_of k1 wf_held ⟨_, rfl, _, _, .tuple ((stF (Vs.map tl)).map dSt), rfl, .tup k2 (dps_st k3), .tup (same_T s24 hr23) (dps_st (hpr23.same s24)), deepSS (by omega) (fun zs m => by have := rd2.len zs m; omega), fun H25 s25 => ?_⟩
    refine ⟨true, rfl, iteT ⟨"", rfl, by decide, .inl ⟨rfl, fun H26 v2 s26 i26 => ?_⟩⟩⟩
    refine mkw_of2 (K := K) (us := []) (zss := []) .nil drNil fun H27 x27 s27 i27 => ⟨rfl, weq_of (i26.same s27) i27 ?_⟩
    exact q _
end
end My

namespace My
open PySem L2 Mth
abbrev s_Drawing_strokes : Stmt := inClass (topS 30) 1
theorem sc_Drawing_strokes : FnScope ["self"] ["self"] (defScope s_Drawing_strokes) := ⟨rfl, rfl, rfl, by decide +kernel, rfl, by decide +kernel, by decide +kernel⟩
theorem ok_Drawing_strokes {P : Program} {w : World} {K : PySem.W.Frag} {mg : Str → Option Value} {base : Heap} {f C : Addr} {fd : FuncData} (cl : Cls K C) (n : NoAttr K C "held") (F : Fun K "strokes" "Drawing.strokes" s_Drawing_strokes f fd) : FnOk P w K mg base CX0 1 f fd ["self"] (getSp C "held") := by
  refine F.ok sc_Drawing_strokes (fun vs H Q E h => ?_) (fun cdv A outer s H vs Q E hr h => ?_)
  · obtain ⟨a, dx, fs, v, rfl, _⟩ := h
    rfl
  obtain ⟨a, dx, fs, v, rfl, ea, l, q⟩ := h
  exact ⟨_, pss_one (ps_ret (pe_fld (pv 0) rfl)), _, rfl, a, C, dx, fs, v, rfl, ea, cl, n, l, q⟩
end My
namespace My
open PySem L2 Mth LamX
theorem all_mk {l : PySem.W.OpenLaw} {w : World} {K : PySem.W.Frag} {h : Heap} {mg : Str → Option Value} {fa : Addr} (X : K.In h) (G : h.Ns mainGlobals mg) (hfa : mg "law" = some (.ref fa)) (own : OwnTab K fa h)
    {tk_MOST_SPOTS : Tok}
    {tk_MOST_STROKES : Tok}
    {tk_DIGITS : Tok}
    {tk_MOST_DIGITS : Tok}
    {tk_BLOCK : Tok}
    {CB : Addr} {e0 e1 e2 e3 e4 e5 e6 e7 e8 e9 e10 e11 e12 e13 e14 e15 e16 e17 e18 e19 : Addr}
    {f_law_error_of : Addr} {od_law_error_of an_law_error_of : Option Addr} {sl_law_error_of : Array (Option Value)} {oc_law_error_of kV_law_error_of dc_law_error_of pm_law_error_of cd_law_error_of ct_law_error_of : Value}
    {f_InvalidStroke___init__ : Addr} {od_InvalidStroke___init__ an_InvalidStroke___init__ : Option Addr} {sl_InvalidStroke___init__ : Array (Option Value)} {oc_InvalidStroke___init__ kV_InvalidStroke___init__ dc_InvalidStroke___init__ pm_InvalidStroke___init__ cd_InvalidStroke___init__ ct_InvalidStroke___init__ : Value}
    {f_BadText___init__ : Addr} {od_BadText___init__ an_BadText___init__ : Option Addr} {sl_BadText___init__ : Array (Option Value)} {oc_BadText___init__ kV_BadText___init__ dc_BadText___init__ pm_BadText___init__ cd_BadText___init__ ct_BadText___init__ : Value}
    {f_common_divisor : Addr} {od_common_divisor an_common_divisor : Option Addr} {sl_common_divisor : Array (Option Value)} {oc_common_divisor kV_common_divisor dc_common_divisor pm_common_divisor cd_common_divisor ct_common_divisor : Value}
    {f_is_whole : Addr} {od_is_whole an_is_whole : Option Addr} {sl_is_whole : Array (Option Value)} {oc_is_whole kV_is_whole dc_is_whole pm_is_whole cd_is_whole ct_is_whole : Value}
    {f_is_spot : Addr} {od_is_spot an_is_spot : Option Addr} {sl_is_spot : Array (Option Value)} {oc_is_spot kV_is_spot dc_is_spot pm_is_spot cd_is_spot ct_is_spot : Value}
    {f_parts_of : Addr} {od_parts_of an_parts_of : Option Addr} {sl_parts_of : Array (Option Value)} {oc_parts_of kV_parts_of dc_parts_of pm_parts_of cd_parts_of ct_parts_of : Value}
    {f_is_stroke : Addr} {od_is_stroke an_is_stroke : Option Addr} {sl_is_stroke : Array (Option Value)} {oc_is_stroke kV_is_stroke dc_is_stroke pm_is_stroke cd_is_stroke ct_is_stroke : Value}
    {f_check_strokes : Addr} {od_check_strokes an_check_strokes : Option Addr} {sl_check_strokes : Array (Option Value)} {oc_check_strokes kV_check_strokes dc_check_strokes pm_check_strokes cd_check_strokes ct_check_strokes : Value}
    {CW : Addr}
    {f_Drawing___init__ : Addr} {od_Drawing___init__ an_Drawing___init__ : Option Addr} {sl_Drawing___init__ : Array (Option Value)} {oc_Drawing___init__ kV_Drawing___init__ dc_Drawing___init__ pm_Drawing___init__ cd_Drawing___init__ ct_Drawing___init__ : Value}
    {q_Drawing_strokes : Addr} {rs_Drawing_strokes : List Value}
    {f_Drawing_strokes : Addr} {od_Drawing_strokes an_Drawing_strokes : Option Addr} {sl_Drawing_strokes : Array (Option Value)} {oc_Drawing_strokes kV_Drawing_strokes dc_Drawing_strokes pm_Drawing_strokes cd_Drawing_strokes ct_Drawing_strokes : Value}
    {f_Drawing___add__ : Addr} {od_Drawing___add__ an_Drawing___add__ : Option Addr} {sl_Drawing___add__ : Array (Option Value)} {oc_Drawing___add__ kV_Drawing___add__ dc_Drawing___add__ pm_Drawing___add__ cd_Drawing___add__ ct_Drawing___add__ : Value}
    {f_Drawing___eq__ : Addr} {od_Drawing___eq__ an_Drawing___eq__ : Option Addr} {sl_Drawing___eq__ : Array (Option Value)} {oc_Drawing___eq__ kV_Drawing___eq__ dc_Drawing___eq__ pm_Drawing___eq__ cd_Drawing___eq__ ct_Drawing___eq__ : Value}
    {f_is_numeral : Addr} {od_is_numeral an_is_numeral : Option Addr} {sl_is_numeral : Array (Option Value)} {oc_is_numeral kV_is_numeral dc_is_numeral pm_is_numeral cd_is_numeral ct_is_numeral : Value}
    {f_number_from : Addr} {od_number_from an_number_from : Option Addr} {sl_number_from : Array (Option Value)} {oc_number_from kV_number_from dc_number_from pm_number_from cd_number_from ct_number_from : Value}
    {f_spot_from : Addr} {od_spot_from an_spot_from : Option Addr} {sl_spot_from : Array (Option Value)} {oc_spot_from kV_spot_from dc_spot_from pm_spot_from cd_spot_from ct_spot_from : Value}
    {f_first_wrong_word : Addr} {od_first_wrong_word an_first_wrong_word : Option Addr} {sl_first_wrong_word : Array (Option Value)} {oc_first_wrong_word kV_first_wrong_word dc_first_wrong_word pm_first_wrong_word cd_first_wrong_word ct_first_wrong_word : Value}
    {f_strokes_from : Addr} {od_strokes_from an_strokes_from : Option Addr} {sl_strokes_from : Array (Option Value)} {oc_strokes_from kV_strokes_from dc_strokes_from pm_strokes_from cd_strokes_from ct_strokes_from : Value}
    {f_numeral : Addr} {od_numeral an_numeral : Option Addr} {sl_numeral : Array (Option Value)} {oc_numeral kV_numeral dc_numeral pm_numeral cd_numeral ct_numeral : Value}
    {f_word_of : Addr} {od_word_of an_word_of : Option Addr} {sl_word_of : Array (Option Value)} {oc_word_of kV_word_of dc_word_of pm_word_of cd_word_of ct_word_of : Value}
    {f_format_drawing : Addr} {od_format_drawing an_format_drawing : Option Addr} {sl_format_drawing : Array (Option Value)} {oc_format_drawing kV_format_drawing dc_format_drawing pm_format_drawing cd_format_drawing ct_format_drawing : Value}
    {f_parse_drawing : Addr} {od_parse_drawing an_parse_drawing : Option Addr} {sl_parse_drawing : Array (Option Value)} {oc_parse_drawing kV_parse_drawing dc_parse_drawing pm_parse_drawing cd_parse_drawing ct_parse_drawing : Value}
    {f_law_random : Addr} {od_law_random an_law_random : Option Addr} {sl_law_random : Array (Option Value)} {oc_law_random kV_law_random dc_law_random pm_law_random cd_law_random ct_law_random : Value}
    {f_law_below : Addr} {od_law_below an_law_below : Option Addr} {sl_law_below : Array (Option Value)} {oc_law_below kV_law_below dc_law_below pm_law_below cd_law_below ct_law_below : Value}
    {f_law_step : Addr} {od_law_step an_law_step : Option Addr} {sl_law_step : Array (Option Value)} {oc_law_step kV_law_step dc_law_step pm_law_step cd_law_step ct_law_step : Value}
    {f_law_common : Addr} {od_law_common an_law_common : Option Addr} {sl_law_common : Array (Option Value)} {oc_law_common kV_law_common dc_law_common pm_law_common cd_law_common ct_law_common : Value}
    {f_law_lowest : Addr} {od_law_lowest an_law_lowest : Option Addr} {sl_law_lowest : Array (Option Value)} {oc_law_lowest kV_law_lowest dc_law_lowest pm_law_lowest cd_law_lowest ct_law_lowest : Value}
    {f_law_is_digits : Addr} {od_law_is_digits an_law_is_digits : Option Addr} {sl_law_is_digits : Array (Option Value)} {oc_law_is_digits kV_law_is_digits dc_law_is_digits pm_law_is_digits cd_law_is_digits ct_law_is_digits : Value}
    {f_law_is_spot : Addr} {od_law_is_spot an_law_is_spot : Option Addr} {sl_law_is_spot : Array (Option Value)} {oc_law_is_spot kV_law_is_spot dc_law_is_spot pm_law_is_spot cd_law_is_spot ct_law_is_spot : Value}
    {f_law_read : Addr} {od_law_read an_law_read : Option Addr} {sl_law_read : Array (Option Value)} {oc_law_read kV_law_read dc_law_read pm_law_read cd_law_read ct_law_read : Value}
    {f_law_read_strokes : Addr} {od_law_read_strokes an_law_read_strokes : Option Addr} {sl_law_read_strokes : Array (Option Value)} {oc_law_read_strokes kV_law_read_strokes dc_law_read_strokes pm_law_read_strokes cd_law_read_strokes ct_law_read_strokes : Value}
    {f_law_word : Addr} {od_law_word an_law_word : Option Addr} {sl_law_word : Array (Option Value)} {oc_law_word kV_law_word dc_law_word pm_law_word cd_law_word ct_law_word : Value}
    {f_law_text : Addr} {od_law_text an_law_text : Option Addr} {sl_law_text : Array (Option Value)} {oc_law_text kV_law_text dc_law_text pm_law_text cd_law_text ct_law_text : Value}
    {f_law_bad_word : Addr} {od_law_bad_word an_law_bad_word : Option Addr} {sl_law_bad_word : Array (Option Value)} {oc_law_bad_word kV_law_bad_word dc_law_bad_word pm_law_bad_word cd_law_bad_word ct_law_bad_word : Value}
    {f_law_strokes_words : Addr} {od_law_strokes_words an_law_strokes_words : Option Addr} {sl_law_strokes_words : Array (Option Value)} {oc_law_strokes_words kV_law_strokes_words dc_law_strokes_words pm_law_strokes_words cd_law_strokes_words ct_law_strokes_words : Value}
    {f_law_spot : Addr} {od_law_spot an_law_spot : Option Addr} {sl_law_spot : Array (Option Value)} {oc_law_spot kV_law_spot dc_law_spot pm_law_spot cd_law_spot ct_law_spot : Value}
    {f_law_stroke : Addr} {od_law_stroke an_law_stroke : Option Addr} {sl_law_stroke : Array (Option Value)} {oc_law_stroke kV_law_stroke dc_law_stroke pm_law_stroke cd_law_stroke ct_law_stroke : Value}
    {f_law_strokes : Addr} {od_law_strokes an_law_strokes : Option Addr} {sl_law_strokes : Array (Option Value)} {oc_law_strokes kV_law_strokes dc_law_strokes pm_law_strokes cd_law_strokes ct_law_strokes : Value}
    {f_law_drawing : Addr} {od_law_drawing an_law_drawing : Option Addr} {sl_law_drawing : Array (Option Value)} {oc_law_drawing kV_law_drawing dc_law_drawing pm_law_drawing cd_law_drawing ct_law_drawing : Value}
    {f_law_equal : Addr} {od_law_equal an_law_equal : Option Addr} {sl_law_equal : Array (Option Value)} {oc_law_equal kV_law_equal dc_law_equal pm_law_equal cd_law_equal ct_law_equal : Value}
    {f_law cL PL : Addr} {od_law an_law : Option Addr} {sl_law : Array (Option Value)} {oc_law kV_law dc_law pm_law ct_law : Value} {oq_law : Value} {dq_law : Option Addr} {vq_law : Array Value} {sq_law : Array (Option Value)}
    (z_abs : PySem.W.nsIn K mainGlobals "abs" = some none)
    (z_len : PySem.W.nsIn K mainGlobals "len" = some none)
    (z_isinstance : PySem.W.nsIn K mainGlobals "isinstance" = some none)
    (z_int : PySem.W.nsIn K mainGlobals "int" = some none)
    (z_bool : PySem.W.nsIn K mainGlobals "bool" = some none)
    (z_str : PySem.W.nsIn K mainGlobals "str" = some none)
    (z_tuple : PySem.W.nsIn K mainGlobals "tuple" = some none)
    (z_list : PySem.W.nsIn K mainGlobals "list" = some none)
    (z_all : PySem.W.nsIn K mainGlobals "all" = some none)
    (z_zip : PySem.W.nsIn K mainGlobals "zip" = some none)
    (z_range : PySem.W.nsIn K mainGlobals "range" = some none)
    (z_enumerate : PySem.W.nsIn K mainGlobals "enumerate" = some none)
    (z_ValueError : PySem.W.nsIn K mainGlobals "ValueError" = some none)
    (mi_MOST_SPOTS : PySem.W.nsIn K mainGlobals "MOST_SPOTS" = some (some (.int 12 tk_MOST_SPOTS)))
    (mi_MOST_STROKES : PySem.W.nsIn K mainGlobals "MOST_STROKES" = some (some (.int 12 tk_MOST_STROKES)))
    (ms_DIGITS : PySem.W.nsIn K mainGlobals "DIGITS" = some (some (.str "0123456789" tk_DIGITS)))
    (mi_MOST_DIGITS : PySem.W.nsIn K mainGlobals "MOST_DIGITS" = some (some (.int 9 tk_MOST_DIGITS)))
    (mi_BLOCK : PySem.W.nsIn K mainGlobals "BLOCK" = some (some (.int 1000000000000000000 tk_BLOCK)))
    (g_CB : PySem.W.nsIn K mainGlobals "CopyError" = some (some (.ref CB)))
    (ge_0 : PySem.W.nsIn K mainGlobals "InvalidSpot" = some (some (.ref e0)))
    (ge_1 : PySem.W.nsIn K mainGlobals "InvalidTurn" = some (some (.ref e1)))
    (ge_2 : PySem.W.nsIn K mainGlobals "InvalidTimes" = some (some (.ref e2)))
    (ge_3 : PySem.W.nsIn K mainGlobals "TooFew" = some (some (.ref e3)))
    (ge_4 : PySem.W.nsIn K mainGlobals "InvalidStroke" = some (some (.ref e4)))
    (ge_5 : PySem.W.nsIn K mainGlobals "OpenStroke" = some (some (.ref e5)))
    (ge_6 : PySem.W.nsIn K mainGlobals "InvalidReach" = some (some (.ref e6)))
    (ge_7 : PySem.W.nsIn K mainGlobals "OutOfReach" = some (some (.ref e7)))
    (ge_8 : PySem.W.nsIn K mainGlobals "TooMany" = some (some (.ref e8)))
    (ge_9 : PySem.W.nsIn K mainGlobals "InvalidSize" = some (some (.ref e9)))
    (ge_10 : PySem.W.nsIn K mainGlobals "InvalidBox" = some (some (.ref e10)))
    (ge_11 : PySem.W.nsIn K mainGlobals "Contradiction" = some (some (.ref e11)))
    (ge_12 : PySem.W.nsIn K mainGlobals "BadText" = some (some (.ref e12)))
    (ge_13 : PySem.W.nsIn K mainGlobals "BadRow" = some (some (.ref e13)))
    (ge_14 : PySem.W.nsIn K mainGlobals "UnknownName" = some (some (.ref e14)))
    (ge_15 : PySem.W.nsIn K mainGlobals "InvalidName" = some (some (.ref e15)))
    (ge_16 : PySem.W.nsIn K mainGlobals "InvalidCode" = some (some (.ref e16)))
    (ge_17 : PySem.W.nsIn K mainGlobals "UnknownArm" = some (some (.ref e17)))
    (ge_18 : PySem.W.nsIn K mainGlobals "NotFree" = some (some (.ref e18)))
    (ge_19 : PySem.W.nsIn K mainGlobals "InvalidOperation" = some (some (.ref e19)))
    (xc_n : PySem.W.specialIn K (.builtin "object.__class__") "__get__" = some (some (.builtin "getset_descriptor.__get__")))
    (xc_t : PySem.W.takesIn K (.builtin "object.__class__") = some true)
    (xg_8 : PySem.W.findIn K (.ref e8) "__getattribute__" = some (some (.builtin "BaseException.__getattribute__")))
    (xk_8 : PySem.W.findIn K (.ref e8) "__getattr__" = some none)
    (xs_8 : PySem.W.subIn K (.ref e8) (.type "BaseException") = some true)
    (xd_8 : PySem.W.hasDictIn K e8 = true)
    (xa_8 : PySem.W.findIn K (.ref e8) "__class__" = some (some (.builtin "object.__class__")))
    (xm_8 : PySem.W.mroIn K e8 (.type "object") = some true)
    (kt_8_0 : PySem.W.kitOne K (.ref e8) (.ref e0) = some false)
    (kt_8_1 : PySem.W.kitOne K (.ref e8) (.ref e1) = some false)
    (kt_8_2 : PySem.W.kitOne K (.ref e8) (.ref e2) = some false)
    (kt_8_3 : PySem.W.kitOne K (.ref e8) (.ref e3) = some false)
    (kt_8_4 : PySem.W.kitOne K (.ref e8) (.ref e4) = some false)
    (kt_8_5 : PySem.W.kitOne K (.ref e8) (.ref e5) = some false)
    (kt_8_6 : PySem.W.kitOne K (.ref e8) (.ref e6) = some false)
    (kt_8_7 : PySem.W.kitOne K (.ref e8) (.ref e7) = some false)
    (kt_8_8 : PySem.W.kitOne K (.ref e8) (.ref e8) = some true)
    (kt_8_9 : PySem.W.kitOne K (.ref e8) (.ref e9) = some false)
    (kt_8_10 : PySem.W.kitOne K (.ref e8) (.ref e10) = some false)
    (kt_8_11 : PySem.W.kitOne K (.ref e8) (.ref e11) = some false)
    (kt_8_12 : PySem.W.kitOne K (.ref e8) (.ref e12) = some false)
    (kt_8_13 : PySem.W.kitOne K (.ref e8) (.ref e13) = some false)
    (kt_8_14 : PySem.W.kitOne K (.ref e8) (.ref e14) = some false)
    (kt_8_15 : PySem.W.kitOne K (.ref e8) (.ref e15) = some false)
    (kt_8_16 : PySem.W.kitOne K (.ref e8) (.ref e16) = some false)
    (kt_8_17 : PySem.W.kitOne K (.ref e8) (.ref e17) = some false)
    (kt_8_18 : PySem.W.kitOne K (.ref e8) (.ref e18) = some false)
    (kt_8_19 : PySem.W.kitOne K (.ref e8) (.ref e19) = some false)
    (kv_8 : PySem.W.kitOne K (.ref e8) (.type "ValueError") = some true)
    (xx_8 : PySem.W.exmOne K (.ref e8) (.ref CB) = some true)
    (xq_8 : PySem.W.excIn K e8 [.type "ValueError", .type "Exception", .type "BaseException", .type "object"] "ValueError.__new__" = true)
    (xp_8 : PySem.W.keepIn K (.ref e8) = true)
    (xt_8 : PySem.W.typeIn K (.ref e8) = some (.type "type"))
    (a_law_error_of : PySem.W.nsIn K mainGlobals "_law_error_of" = some (some (.ref f_law_error_of)))
    (l_law_error_of : K.lookup f_law_error_of = some ⟨oc_law_error_of, od_law_error_of, .func (PySem.W.fnOf "_law_error_of" "_law_error_of" (defArgs s_law_error_of) (defBody s_law_error_of) (defScope s_law_error_of) .none kV_law_error_of dc_law_error_of pm_law_error_of an_law_error_of cd_law_error_of ct_law_error_of), sl_law_error_of⟩)
    (c_law_error_of : PySem.W.codeIn K cd_law_error_of "_law_error_of" = true)
    (k_law_error_of : PySem.W.keepIn K (.ref f_law_error_of) = true)
    (xg_4 : PySem.W.findIn K (.ref e4) "__getattribute__" = some (some (.builtin "BaseException.__getattribute__")))
    (xk_4 : PySem.W.findIn K (.ref e4) "__getattr__" = some none)
    (xs_4 : PySem.W.subIn K (.ref e4) (.type "BaseException") = some true)
    (xd_4 : PySem.W.hasDictIn K e4 = true)
    (xa_4 : PySem.W.findIn K (.ref e4) "__class__" = some (some (.builtin "object.__class__")))
    (xm_4 : PySem.W.mroIn K e4 (.type "object") = some true)
    (kt_4_0 : PySem.W.kitOne K (.ref e4) (.ref e0) = some false)
    (kt_4_1 : PySem.W.kitOne K (.ref e4) (.ref e1) = some false)
    (kt_4_2 : PySem.W.kitOne K (.ref e4) (.ref e2) = some false)
    (kt_4_3 : PySem.W.kitOne K (.ref e4) (.ref e3) = some false)
    (kt_4_4 : PySem.W.kitOne K (.ref e4) (.ref e4) = some true)
    (kt_4_5 : PySem.W.kitOne K (.ref e4) (.ref e5) = some false)
    (kt_4_6 : PySem.W.kitOne K (.ref e4) (.ref e6) = some false)
    (kt_4_7 : PySem.W.kitOne K (.ref e4) (.ref e7) = some false)
    (kt_4_8 : PySem.W.kitOne K (.ref e4) (.ref e8) = some false)
    (kt_4_9 : PySem.W.kitOne K (.ref e4) (.ref e9) = some false)
    (kt_4_10 : PySem.W.kitOne K (.ref e4) (.ref e10) = some false)
    (kt_4_11 : PySem.W.kitOne K (.ref e4) (.ref e11) = some false)
    (kt_4_12 : PySem.W.kitOne K (.ref e4) (.ref e12) = some false)
    (kt_4_13 : PySem.W.kitOne K (.ref e4) (.ref e13) = some false)
    (kt_4_14 : PySem.W.kitOne K (.ref e4) (.ref e14) = some false)
    (kt_4_15 : PySem.W.kitOne K (.ref e4) (.ref e15) = some false)
    (kt_4_16 : PySem.W.kitOne K (.ref e4) (.ref e16) = some false)
    (kt_4_17 : PySem.W.kitOne K (.ref e4) (.ref e17) = some false)
    (kt_4_18 : PySem.W.kitOne K (.ref e4) (.ref e18) = some false)
    (kt_4_19 : PySem.W.kitOne K (.ref e4) (.ref e19) = some false)
    (kv_4 : PySem.W.kitOne K (.ref e4) (.type "ValueError") = some true)
    (xx_4 : PySem.W.exmOne K (.ref e4) (.ref CB) = some true)
    (xp_4 : PySem.W.keepIn K (.ref e4) = true)
    (xt_4 : PySem.W.typeIn K (.ref e4) = some (.type "type"))
    (xo_4 : oexB K e4 = true)
    (xz_4 : PySem.W.findIn K (.ref e4) "__setattr__" = some (some (.builtin "object.__setattr__")))
    (xn_4 : PySem.W.findIn K (.ref e4) "index" = some none)
    (xi_4 : PySem.W.findIn K (.ref e4) "__init__" = some (some (.ref f_InvalidStroke___init__)))
    (xj_4 : PySem.W.typeIn K (.ref f_InvalidStroke___init__) = some (.type "function"))
    (l_InvalidStroke___init__ : K.lookup f_InvalidStroke___init__ = some ⟨oc_InvalidStroke___init__, od_InvalidStroke___init__, .func (PySem.W.fnOf "__init__" "InvalidStroke.__init__" (defArgs s_InvalidStroke___init__) (defBody s_InvalidStroke___init__) (defScope s_InvalidStroke___init__) .none kV_InvalidStroke___init__ dc_InvalidStroke___init__ pm_InvalidStroke___init__ an_InvalidStroke___init__ cd_InvalidStroke___init__ ct_InvalidStroke___init__), sl_InvalidStroke___init__⟩)
    (c_InvalidStroke___init__ : PySem.W.codeIn K cd_InvalidStroke___init__ "InvalidStroke.__init__" = true)
    (k_InvalidStroke___init__ : PySem.W.keepIn K (.ref f_InvalidStroke___init__) = true)
    (xg_12 : PySem.W.findIn K (.ref e12) "__getattribute__" = some (some (.builtin "BaseException.__getattribute__")))
    (xk_12 : PySem.W.findIn K (.ref e12) "__getattr__" = some none)
    (xs_12 : PySem.W.subIn K (.ref e12) (.type "BaseException") = some true)
    (xd_12 : PySem.W.hasDictIn K e12 = true)
    (xa_12 : PySem.W.findIn K (.ref e12) "__class__" = some (some (.builtin "object.__class__")))
    (xm_12 : PySem.W.mroIn K e12 (.type "object") = some true)
    (kt_12_0 : PySem.W.kitOne K (.ref e12) (.ref e0) = some false)
    (kt_12_1 : PySem.W.kitOne K (.ref e12) (.ref e1) = some false)
    (kt_12_2 : PySem.W.kitOne K (.ref e12) (.ref e2) = some false)
    (kt_12_3 : PySem.W.kitOne K (.ref e12) (.ref e3) = some false)
    (kt_12_4 : PySem.W.kitOne K (.ref e12) (.ref e4) = some false)
    (kt_12_5 : PySem.W.kitOne K (.ref e12) (.ref e5) = some false)
    (kt_12_6 : PySem.W.kitOne K (.ref e12) (.ref e6) = some false)
    (kt_12_7 : PySem.W.kitOne K (.ref e12) (.ref e7) = some false)
    (kt_12_8 : PySem.W.kitOne K (.ref e12) (.ref e8) = some false)
    (kt_12_9 : PySem.W.kitOne K (.ref e12) (.ref e9) = some false)
    (kt_12_10 : PySem.W.kitOne K (.ref e12) (.ref e10) = some false)
    (kt_12_11 : PySem.W.kitOne K (.ref e12) (.ref e11) = some false)
    (kt_12_12 : PySem.W.kitOne K (.ref e12) (.ref e12) = some true)
    (kt_12_13 : PySem.W.kitOne K (.ref e12) (.ref e13) = some false)
    (kt_12_14 : PySem.W.kitOne K (.ref e12) (.ref e14) = some false)
    (kt_12_15 : PySem.W.kitOne K (.ref e12) (.ref e15) = some false)
    (kt_12_16 : PySem.W.kitOne K (.ref e12) (.ref e16) = some false)
    (kt_12_17 : PySem.W.kitOne K (.ref e12) (.ref e17) = some false)
    (kt_12_18 : PySem.W.kitOne K (.ref e12) (.ref e18) = some false)
    (kt_12_19 : PySem.W.kitOne K (.ref e12) (.ref e19) = some false)
    (kv_12 : PySem.W.kitOne K (.ref e12) (.type "ValueError") = some true)
    (xx_12 : PySem.W.exmOne K (.ref e12) (.ref CB) = some true)
    (xp_12 : PySem.W.keepIn K (.ref e12) = true)
    (xt_12 : PySem.W.typeIn K (.ref e12) = some (.type "type"))
    (xo_12 : oexB K e12 = true)
    (xz_12 : PySem.W.findIn K (.ref e12) "__setattr__" = some (some (.builtin "object.__setattr__")))
    (xn_12_1 : PySem.W.findIn K (.ref e12) "row" = some none)
    (xn_12_2 : PySem.W.findIn K (.ref e12) "word" = some none)
    (xi_12 : PySem.W.findIn K (.ref e12) "__init__" = some (some (.ref f_BadText___init__)))
    (xj_12 : PySem.W.typeIn K (.ref f_BadText___init__) = some (.type "function"))
    (l_BadText___init__ : K.lookup f_BadText___init__ = some ⟨oc_BadText___init__, od_BadText___init__, .func (PySem.W.fnOf "__init__" "BadText.__init__" (defArgs s_BadText___init__) (defBody s_BadText___init__) (defScope s_BadText___init__) .none kV_BadText___init__ dc_BadText___init__ pm_BadText___init__ an_BadText___init__ cd_BadText___init__ ct_BadText___init__), sl_BadText___init__⟩)
    (c_BadText___init__ : PySem.W.codeIn K cd_BadText___init__ "BadText.__init__" = true)
    (k_BadText___init__ : PySem.W.keepIn K (.ref f_BadText___init__) = true)
    (a_common_divisor : PySem.W.nsIn K mainGlobals "common_divisor" = some (some (.ref f_common_divisor)))
    (l_common_divisor : K.lookup f_common_divisor = some ⟨oc_common_divisor, od_common_divisor, .func (PySem.W.fnOf "common_divisor" "common_divisor" (defArgs s_common_divisor) (defBody s_common_divisor) (defScope s_common_divisor) .none kV_common_divisor dc_common_divisor pm_common_divisor an_common_divisor cd_common_divisor ct_common_divisor), sl_common_divisor⟩)
    (c_common_divisor : PySem.W.codeIn K cd_common_divisor "common_divisor" = true)
    (k_common_divisor : PySem.W.keepIn K (.ref f_common_divisor) = true)
    (a_is_whole : PySem.W.nsIn K mainGlobals "is_whole" = some (some (.ref f_is_whole)))
    (l_is_whole : K.lookup f_is_whole = some ⟨oc_is_whole, od_is_whole, .func (PySem.W.fnOf "is_whole" "is_whole" (defArgs s_is_whole) (defBody s_is_whole) (defScope s_is_whole) .none kV_is_whole dc_is_whole pm_is_whole an_is_whole cd_is_whole ct_is_whole), sl_is_whole⟩)
    (c_is_whole : PySem.W.codeIn K cd_is_whole "is_whole" = true)
    (k_is_whole : PySem.W.keepIn K (.ref f_is_whole) = true)
    (a_is_spot : PySem.W.nsIn K mainGlobals "is_spot" = some (some (.ref f_is_spot)))
    (l_is_spot : K.lookup f_is_spot = some ⟨oc_is_spot, od_is_spot, .func (PySem.W.fnOf "is_spot" "is_spot" (defArgs s_is_spot) (defBody s_is_spot) (defScope s_is_spot) .none kV_is_spot dc_is_spot pm_is_spot an_is_spot cd_is_spot ct_is_spot), sl_is_spot⟩)
    (c_is_spot : PySem.W.codeIn K cd_is_spot "is_spot" = true)
    (k_is_spot : PySem.W.keepIn K (.ref f_is_spot) = true)
    (a_parts_of : PySem.W.nsIn K mainGlobals "parts_of" = some (some (.ref f_parts_of)))
    (l_parts_of : K.lookup f_parts_of = some ⟨oc_parts_of, od_parts_of, .func (PySem.W.fnOf "parts_of" "parts_of" (defArgs s_parts_of) (defBody s_parts_of) (defScope s_parts_of) .none kV_parts_of dc_parts_of pm_parts_of an_parts_of cd_parts_of ct_parts_of), sl_parts_of⟩)
    (c_parts_of : PySem.W.codeIn K cd_parts_of "parts_of" = true)
    (k_parts_of : PySem.W.keepIn K (.ref f_parts_of) = true)
    (a_is_stroke : PySem.W.nsIn K mainGlobals "is_stroke" = some (some (.ref f_is_stroke)))
    (l_is_stroke : K.lookup f_is_stroke = some ⟨oc_is_stroke, od_is_stroke, .func (PySem.W.fnOf "is_stroke" "is_stroke" (defArgs s_is_stroke) (defBody s_is_stroke) (defScope s_is_stroke) .none kV_is_stroke dc_is_stroke pm_is_stroke an_is_stroke cd_is_stroke ct_is_stroke), sl_is_stroke⟩)
    (c_is_stroke : PySem.W.codeIn K cd_is_stroke "is_stroke" = true)
    (k_is_stroke : PySem.W.keepIn K (.ref f_is_stroke) = true)
    (a_check_strokes : PySem.W.nsIn K mainGlobals "check_strokes" = some (some (.ref f_check_strokes)))
    (l_check_strokes : K.lookup f_check_strokes = some ⟨oc_check_strokes, od_check_strokes, .func (PySem.W.fnOf "check_strokes" "check_strokes" (defArgs s_check_strokes) (defBody s_check_strokes) (defScope s_check_strokes) .none kV_check_strokes dc_check_strokes pm_check_strokes an_check_strokes cd_check_strokes ct_check_strokes), sl_check_strokes⟩)
    (c_check_strokes : PySem.W.codeIn K cd_check_strokes "check_strokes" = true)
    (k_check_strokes : PySem.W.keepIn K (.ref f_check_strokes) = true)
    (aCW : PySem.W.nsIn K mainGlobals "Drawing" = some (some (.ref CW)))
    (inCW : PySem.W.findIn K (.ref CW) "__init__" = some (some (.ref f_Drawing___init__)))
    (l_Drawing___init__ : K.lookup f_Drawing___init__ = some ⟨oc_Drawing___init__, od_Drawing___init__, .func (PySem.W.fnOf "__init__" "Drawing.__init__" (defArgs s_Drawing___init__) (defBody s_Drawing___init__) (defScope s_Drawing___init__) .none kV_Drawing___init__ dc_Drawing___init__ pm_Drawing___init__ an_Drawing___init__ cd_Drawing___init__ ct_Drawing___init__), sl_Drawing___init__⟩)
    (c_Drawing___init__ : PySem.W.codeIn K cd_Drawing___init__ "Drawing.__init__" = true)
    (k_Drawing___init__ : PySem.W.keepIn K (.ref f_Drawing___init__) = true)
    (pgCW : PySem.W.plainGet K CW Str.empty = true)
    (hdCW : PySem.W.hasDictIn K CW = true)
    (poCW : PySem.W.plainOver K CW = true)
    (saCW : PySem.W.findIn K (.ref CW) "__setattr__" = some (some (.builtin "object.__setattr__")))
    (mkCW : PySem.W.makesIn K CW = true)
    (kcCW : PySem.W.keepIn K (.ref CW) = true)
    (isCW : PySem.W.isFn K (.ref f_Drawing___init__) = true)
    (nCW_held : PySem.W.findIn K (.ref CW) "held" = some none)
    (a_Drawing_strokes : PySem.W.findIn K (.ref CW) "strokes" = some (some (.ref q_Drawing_strokes)))
    (g_Drawing_strokes : PySem.W.specialIn K (.ref q_Drawing_strokes) "__get__" = some (some (.builtin "property.__get__")))
    (t_Drawing_strokes : PySem.W.takesIn K (.ref q_Drawing_strokes) = some true)
    (r_Drawing_strokes : PySem.W.recIn K q_Drawing_strokes "property" = some (.ref f_Drawing_strokes :: rs_Drawing_strokes))
    (l_Drawing_strokes : K.lookup f_Drawing_strokes = some ⟨oc_Drawing_strokes, od_Drawing_strokes, .func (PySem.W.fnOf "strokes" "Drawing.strokes" (defArgs s_Drawing_strokes) (defBody s_Drawing_strokes) (defScope s_Drawing_strokes) .none kV_Drawing_strokes dc_Drawing_strokes pm_Drawing_strokes an_Drawing_strokes cd_Drawing_strokes ct_Drawing_strokes), sl_Drawing_strokes⟩)
    (c_Drawing_strokes : PySem.W.codeIn K cd_Drawing_strokes "Drawing.strokes" = true)
    (k_Drawing_strokes : PySem.W.keepIn K (.ref f_Drawing_strokes) = true)
    (sfCW : PySem.W.selfFirst K CW = true)
    (a_Drawing___add__ : PySem.W.findIn K (.ref CW) "__add__" = some (some (.ref f_Drawing___add__)))
    (i_Drawing___add__ : PySem.W.isFn K (.ref f_Drawing___add__) = true)
    (l_Drawing___add__ : K.lookup f_Drawing___add__ = some ⟨oc_Drawing___add__, od_Drawing___add__, .func (PySem.W.fnOf "__add__" "Drawing.__add__" (defArgs s_Drawing___add__) (defBody s_Drawing___add__) (defScope s_Drawing___add__) .none kV_Drawing___add__ dc_Drawing___add__ pm_Drawing___add__ an_Drawing___add__ cd_Drawing___add__ ct_Drawing___add__), sl_Drawing___add__⟩)
    (c_Drawing___add__ : PySem.W.codeIn K cd_Drawing___add__ "Drawing.__add__" = true)
    (k_Drawing___add__ : PySem.W.keepIn K (.ref f_Drawing___add__) = true)
    (a_Drawing___eq__ : PySem.W.findIn K (.ref CW) "__eq__" = some (some (.ref f_Drawing___eq__)))
    (i_Drawing___eq__ : PySem.W.isFn K (.ref f_Drawing___eq__) = true)
    (l_Drawing___eq__ : K.lookup f_Drawing___eq__ = some ⟨oc_Drawing___eq__, od_Drawing___eq__, .func (PySem.W.fnOf "__eq__" "Drawing.__eq__" (defArgs s_Drawing___eq__) (defBody s_Drawing___eq__) (defScope s_Drawing___eq__) .none kV_Drawing___eq__ dc_Drawing___eq__ pm_Drawing___eq__ an_Drawing___eq__ cd_Drawing___eq__ ct_Drawing___eq__), sl_Drawing___eq__⟩)
    (c_Drawing___eq__ : PySem.W.codeIn K cd_Drawing___eq__ "Drawing.__eq__" = true)
    (k_Drawing___eq__ : PySem.W.keepIn K (.ref f_Drawing___eq__) = true)
    (haW : PySem.W.findIn K (.ref CW) "__class__" = some (some (.builtin "object.__class__")))
    (hmW : PySem.W.mroIn K CW (.type "object") = some true)
    (kiW : PySem.W.kitOne K (.type "int") (.ref CW) = some false)
    (nfW : PySem.W.notFirst K CW (.type "int") = true)
    (a_is_numeral : PySem.W.nsIn K mainGlobals "is_numeral" = some (some (.ref f_is_numeral)))
    (l_is_numeral : K.lookup f_is_numeral = some ⟨oc_is_numeral, od_is_numeral, .func (PySem.W.fnOf "is_numeral" "is_numeral" (defArgs s_is_numeral) (defBody s_is_numeral) (defScope s_is_numeral) .none kV_is_numeral dc_is_numeral pm_is_numeral an_is_numeral cd_is_numeral ct_is_numeral), sl_is_numeral⟩)
    (c_is_numeral : PySem.W.codeIn K cd_is_numeral "is_numeral" = true)
    (k_is_numeral : PySem.W.keepIn K (.ref f_is_numeral) = true)
    (a_number_from : PySem.W.nsIn K mainGlobals "number_from" = some (some (.ref f_number_from)))
    (l_number_from : K.lookup f_number_from = some ⟨oc_number_from, od_number_from, .func (PySem.W.fnOf "number_from" "number_from" (defArgs s_number_from) (defBody s_number_from) (defScope s_number_from) .none kV_number_from dc_number_from pm_number_from an_number_from cd_number_from ct_number_from), sl_number_from⟩)
    (c_number_from : PySem.W.codeIn K cd_number_from "number_from" = true)
    (k_number_from : PySem.W.keepIn K (.ref f_number_from) = true)
    (a_spot_from : PySem.W.nsIn K mainGlobals "spot_from" = some (some (.ref f_spot_from)))
    (l_spot_from : K.lookup f_spot_from = some ⟨oc_spot_from, od_spot_from, .func (PySem.W.fnOf "spot_from" "spot_from" (defArgs s_spot_from) (defBody s_spot_from) (defScope s_spot_from) .none kV_spot_from dc_spot_from pm_spot_from an_spot_from cd_spot_from ct_spot_from), sl_spot_from⟩)
    (c_spot_from : PySem.W.codeIn K cd_spot_from "spot_from" = true)
    (k_spot_from : PySem.W.keepIn K (.ref f_spot_from) = true)
    (a_first_wrong_word : PySem.W.nsIn K mainGlobals "first_wrong_word" = some (some (.ref f_first_wrong_word)))
    (l_first_wrong_word : K.lookup f_first_wrong_word = some ⟨oc_first_wrong_word, od_first_wrong_word, .func (PySem.W.fnOf "first_wrong_word" "first_wrong_word" (defArgs s_first_wrong_word) (defBody s_first_wrong_word) (defScope s_first_wrong_word) .none kV_first_wrong_word dc_first_wrong_word pm_first_wrong_word an_first_wrong_word cd_first_wrong_word ct_first_wrong_word), sl_first_wrong_word⟩)
    (c_first_wrong_word : PySem.W.codeIn K cd_first_wrong_word "first_wrong_word" = true)
    (k_first_wrong_word : PySem.W.keepIn K (.ref f_first_wrong_word) = true)
    (a_strokes_from : PySem.W.nsIn K mainGlobals "strokes_from" = some (some (.ref f_strokes_from)))
    (l_strokes_from : K.lookup f_strokes_from = some ⟨oc_strokes_from, od_strokes_from, .func (PySem.W.fnOf "strokes_from" "strokes_from" (defArgs s_strokes_from) (defBody s_strokes_from) (defScope s_strokes_from) .none kV_strokes_from dc_strokes_from pm_strokes_from an_strokes_from cd_strokes_from ct_strokes_from), sl_strokes_from⟩)
    (c_strokes_from : PySem.W.codeIn K cd_strokes_from "strokes_from" = true)
    (k_strokes_from : PySem.W.keepIn K (.ref f_strokes_from) = true)
    (a_numeral : PySem.W.nsIn K mainGlobals "numeral" = some (some (.ref f_numeral)))
    (l_numeral : K.lookup f_numeral = some ⟨oc_numeral, od_numeral, .func (PySem.W.fnOf "numeral" "numeral" (defArgs s_numeral) (defBody s_numeral) (defScope s_numeral) .none kV_numeral dc_numeral pm_numeral an_numeral cd_numeral ct_numeral), sl_numeral⟩)
    (c_numeral : PySem.W.codeIn K cd_numeral "numeral" = true)
    (k_numeral : PySem.W.keepIn K (.ref f_numeral) = true)
    (a_word_of : PySem.W.nsIn K mainGlobals "word_of" = some (some (.ref f_word_of)))
    (l_word_of : K.lookup f_word_of = some ⟨oc_word_of, od_word_of, .func (PySem.W.fnOf "word_of" "word_of" (defArgs s_word_of) (defBody s_word_of) (defScope s_word_of) .none kV_word_of dc_word_of pm_word_of an_word_of cd_word_of ct_word_of), sl_word_of⟩)
    (c_word_of : PySem.W.codeIn K cd_word_of "word_of" = true)
    (k_word_of : PySem.W.keepIn K (.ref f_word_of) = true)
    (a_format_drawing : PySem.W.nsIn K mainGlobals "format_drawing" = some (some (.ref f_format_drawing)))
    (l_format_drawing : K.lookup f_format_drawing = some ⟨oc_format_drawing, od_format_drawing, .func (PySem.W.fnOf "format_drawing" "format_drawing" (defArgs s_format_drawing) (defBody s_format_drawing) (defScope s_format_drawing) .none kV_format_drawing dc_format_drawing pm_format_drawing an_format_drawing cd_format_drawing ct_format_drawing), sl_format_drawing⟩)
    (c_format_drawing : PySem.W.codeIn K cd_format_drawing "format_drawing" = true)
    (k_format_drawing : PySem.W.keepIn K (.ref f_format_drawing) = true)
    (a_parse_drawing : PySem.W.nsIn K mainGlobals "parse_drawing" = some (some (.ref f_parse_drawing)))
    (l_parse_drawing : K.lookup f_parse_drawing = some ⟨oc_parse_drawing, od_parse_drawing, .func (PySem.W.fnOf "parse_drawing" "parse_drawing" (defArgs s_parse_drawing) (defBody s_parse_drawing) (defScope s_parse_drawing) .none kV_parse_drawing dc_parse_drawing pm_parse_drawing an_parse_drawing cd_parse_drawing ct_parse_drawing), sl_parse_drawing⟩)
    (c_parse_drawing : PySem.W.codeIn K cd_parse_drawing "parse_drawing" = true)
    (k_parse_drawing : PySem.W.keepIn K (.ref f_parse_drawing) = true)
    (a_law_random : PySem.W.nsIn K mainGlobals "_law_random" = some (some (.ref f_law_random)))
    (l_law_random : K.lookup f_law_random = some ⟨oc_law_random, od_law_random, .func (PySem.W.fnOf "_law_random" "_law_random" (defArgs s_law_random) (defBody s_law_random) (defScope s_law_random) .none kV_law_random dc_law_random pm_law_random an_law_random cd_law_random ct_law_random), sl_law_random⟩)
    (c_law_random : PySem.W.codeIn K cd_law_random "_law_random" = true)
    (k_law_random : PySem.W.keepIn K (.ref f_law_random) = true)
    (a_law_below : PySem.W.nsIn K mainGlobals "_law_below" = some (some (.ref f_law_below)))
    (l_law_below : K.lookup f_law_below = some ⟨oc_law_below, od_law_below, .func (PySem.W.fnOf "_law_below" "_law_below" (defArgs s_law_below) (defBody s_law_below) (defScope s_law_below) .none kV_law_below dc_law_below pm_law_below an_law_below cd_law_below ct_law_below), sl_law_below⟩)
    (c_law_below : PySem.W.codeIn K cd_law_below "_law_below" = true)
    (k_law_below : PySem.W.keepIn K (.ref f_law_below) = true)
    (a_law_step : PySem.W.nsIn K mainGlobals "_law_step" = some (some (.ref f_law_step)))
    (l_law_step : K.lookup f_law_step = some ⟨oc_law_step, od_law_step, .func (PySem.W.fnOf "_law_step" "_law_step" (defArgs s_law_step) (defBody s_law_step) (defScope s_law_step) .none kV_law_step dc_law_step pm_law_step an_law_step cd_law_step ct_law_step), sl_law_step⟩)
    (c_law_step : PySem.W.codeIn K cd_law_step "_law_step" = true)
    (k_law_step : PySem.W.keepIn K (.ref f_law_step) = true)
    (a_law_common : PySem.W.nsIn K mainGlobals "_law_common" = some (some (.ref f_law_common)))
    (l_law_common : K.lookup f_law_common = some ⟨oc_law_common, od_law_common, .func (PySem.W.fnOf "_law_common" "_law_common" (defArgs s_law_common) (defBody s_law_common) (defScope s_law_common) .none kV_law_common dc_law_common pm_law_common an_law_common cd_law_common ct_law_common), sl_law_common⟩)
    (c_law_common : PySem.W.codeIn K cd_law_common "_law_common" = true)
    (k_law_common : PySem.W.keepIn K (.ref f_law_common) = true)
    (a_law_lowest : PySem.W.nsIn K mainGlobals "_law_lowest" = some (some (.ref f_law_lowest)))
    (l_law_lowest : K.lookup f_law_lowest = some ⟨oc_law_lowest, od_law_lowest, .func (PySem.W.fnOf "_law_lowest" "_law_lowest" (defArgs s_law_lowest) (defBody s_law_lowest) (defScope s_law_lowest) .none kV_law_lowest dc_law_lowest pm_law_lowest an_law_lowest cd_law_lowest ct_law_lowest), sl_law_lowest⟩)
    (c_law_lowest : PySem.W.codeIn K cd_law_lowest "_law_lowest" = true)
    (k_law_lowest : PySem.W.keepIn K (.ref f_law_lowest) = true)
    (a_law_is_digits : PySem.W.nsIn K mainGlobals "_law_is_digits" = some (some (.ref f_law_is_digits)))
    (l_law_is_digits : K.lookup f_law_is_digits = some ⟨oc_law_is_digits, od_law_is_digits, .func (PySem.W.fnOf "_law_is_digits" "_law_is_digits" (defArgs s_law_is_digits) (defBody s_law_is_digits) (defScope s_law_is_digits) .none kV_law_is_digits dc_law_is_digits pm_law_is_digits an_law_is_digits cd_law_is_digits ct_law_is_digits), sl_law_is_digits⟩)
    (c_law_is_digits : PySem.W.codeIn K cd_law_is_digits "_law_is_digits" = true)
    (k_law_is_digits : PySem.W.keepIn K (.ref f_law_is_digits) = true)
    (a_law_is_spot : PySem.W.nsIn K mainGlobals "_law_is_spot" = some (some (.ref f_law_is_spot)))
    (l_law_is_spot : K.lookup f_law_is_spot = some ⟨oc_law_is_spot, od_law_is_spot, .func (PySem.W.fnOf "_law_is_spot" "_law_is_spot" (defArgs s_law_is_spot) (defBody s_law_is_spot) (defScope s_law_is_spot) .none kV_law_is_spot dc_law_is_spot pm_law_is_spot an_law_is_spot cd_law_is_spot ct_law_is_spot), sl_law_is_spot⟩)
    (c_law_is_spot : PySem.W.codeIn K cd_law_is_spot "_law_is_spot" = true)
    (k_law_is_spot : PySem.W.keepIn K (.ref f_law_is_spot) = true)
    (a_law_read : PySem.W.nsIn K mainGlobals "_law_read" = some (some (.ref f_law_read)))
    (l_law_read : K.lookup f_law_read = some ⟨oc_law_read, od_law_read, .func (PySem.W.fnOf "_law_read" "_law_read" (defArgs s_law_read) (defBody s_law_read) (defScope s_law_read) .none kV_law_read dc_law_read pm_law_read an_law_read cd_law_read ct_law_read), sl_law_read⟩)
    (c_law_read : PySem.W.codeIn K cd_law_read "_law_read" = true)
    (k_law_read : PySem.W.keepIn K (.ref f_law_read) = true)
    (a_law_read_strokes : PySem.W.nsIn K mainGlobals "_law_read_strokes" = some (some (.ref f_law_read_strokes)))
    (l_law_read_strokes : K.lookup f_law_read_strokes = some ⟨oc_law_read_strokes, od_law_read_strokes, .func (PySem.W.fnOf "_law_read_strokes" "_law_read_strokes" (defArgs s_law_read_strokes) (defBody s_law_read_strokes) (defScope s_law_read_strokes) .none kV_law_read_strokes dc_law_read_strokes pm_law_read_strokes an_law_read_strokes cd_law_read_strokes ct_law_read_strokes), sl_law_read_strokes⟩)
    (c_law_read_strokes : PySem.W.codeIn K cd_law_read_strokes "_law_read_strokes" = true)
    (k_law_read_strokes : PySem.W.keepIn K (.ref f_law_read_strokes) = true)
    (a_law_word : PySem.W.nsIn K mainGlobals "_law_word" = some (some (.ref f_law_word)))
    (l_law_word : K.lookup f_law_word = some ⟨oc_law_word, od_law_word, .func (PySem.W.fnOf "_law_word" "_law_word" (defArgs s_law_word) (defBody s_law_word) (defScope s_law_word) .none kV_law_word dc_law_word pm_law_word an_law_word cd_law_word ct_law_word), sl_law_word⟩)
    (c_law_word : PySem.W.codeIn K cd_law_word "_law_word" = true)
    (k_law_word : PySem.W.keepIn K (.ref f_law_word) = true)
    (a_law_text : PySem.W.nsIn K mainGlobals "_law_text" = some (some (.ref f_law_text)))
    (l_law_text : K.lookup f_law_text = some ⟨oc_law_text, od_law_text, .func (PySem.W.fnOf "_law_text" "_law_text" (defArgs s_law_text) (defBody s_law_text) (defScope s_law_text) .none kV_law_text dc_law_text pm_law_text an_law_text cd_law_text ct_law_text), sl_law_text⟩)
    (c_law_text : PySem.W.codeIn K cd_law_text "_law_text" = true)
    (k_law_text : PySem.W.keepIn K (.ref f_law_text) = true)
    (a_law_bad_word : PySem.W.nsIn K mainGlobals "_law_bad_word" = some (some (.ref f_law_bad_word)))
    (l_law_bad_word : K.lookup f_law_bad_word = some ⟨oc_law_bad_word, od_law_bad_word, .func (PySem.W.fnOf "_law_bad_word" "_law_bad_word" (defArgs s_law_bad_word) (defBody s_law_bad_word) (defScope s_law_bad_word) .none kV_law_bad_word dc_law_bad_word pm_law_bad_word an_law_bad_word cd_law_bad_word ct_law_bad_word), sl_law_bad_word⟩)
    (c_law_bad_word : PySem.W.codeIn K cd_law_bad_word "_law_bad_word" = true)
    (k_law_bad_word : PySem.W.keepIn K (.ref f_law_bad_word) = true)
    (a_law_strokes_words : PySem.W.nsIn K mainGlobals "_law_strokes_words" = some (some (.ref f_law_strokes_words)))
    (l_law_strokes_words : K.lookup f_law_strokes_words = some ⟨oc_law_strokes_words, od_law_strokes_words, .func (PySem.W.fnOf "_law_strokes_words" "_law_strokes_words" (defArgs s_law_strokes_words) (defBody s_law_strokes_words) (defScope s_law_strokes_words) .none kV_law_strokes_words dc_law_strokes_words pm_law_strokes_words an_law_strokes_words cd_law_strokes_words ct_law_strokes_words), sl_law_strokes_words⟩)
    (c_law_strokes_words : PySem.W.codeIn K cd_law_strokes_words "_law_strokes_words" = true)
    (k_law_strokes_words : PySem.W.keepIn K (.ref f_law_strokes_words) = true)
    (a_law_spot : PySem.W.nsIn K mainGlobals "_law_spot" = some (some (.ref f_law_spot)))
    (l_law_spot : K.lookup f_law_spot = some ⟨oc_law_spot, od_law_spot, .func (PySem.W.fnOf "_law_spot" "_law_spot" (defArgs s_law_spot) (defBody s_law_spot) (defScope s_law_spot) .none kV_law_spot dc_law_spot pm_law_spot an_law_spot cd_law_spot ct_law_spot), sl_law_spot⟩)
    (c_law_spot : PySem.W.codeIn K cd_law_spot "_law_spot" = true)
    (k_law_spot : PySem.W.keepIn K (.ref f_law_spot) = true)
    (a_law_stroke : PySem.W.nsIn K mainGlobals "_law_stroke" = some (some (.ref f_law_stroke)))
    (l_law_stroke : K.lookup f_law_stroke = some ⟨oc_law_stroke, od_law_stroke, .func (PySem.W.fnOf "_law_stroke" "_law_stroke" (defArgs s_law_stroke) (defBody s_law_stroke) (defScope s_law_stroke) .none kV_law_stroke dc_law_stroke pm_law_stroke an_law_stroke cd_law_stroke ct_law_stroke), sl_law_stroke⟩)
    (c_law_stroke : PySem.W.codeIn K cd_law_stroke "_law_stroke" = true)
    (k_law_stroke : PySem.W.keepIn K (.ref f_law_stroke) = true)
    (a_law_strokes : PySem.W.nsIn K mainGlobals "_law_strokes" = some (some (.ref f_law_strokes)))
    (l_law_strokes : K.lookup f_law_strokes = some ⟨oc_law_strokes, od_law_strokes, .func (PySem.W.fnOf "_law_strokes" "_law_strokes" (defArgs s_law_strokes) (defBody s_law_strokes) (defScope s_law_strokes) .none kV_law_strokes dc_law_strokes pm_law_strokes an_law_strokes cd_law_strokes ct_law_strokes), sl_law_strokes⟩)
    (c_law_strokes : PySem.W.codeIn K cd_law_strokes "_law_strokes" = true)
    (k_law_strokes : PySem.W.keepIn K (.ref f_law_strokes) = true)
    (a_law_drawing : PySem.W.nsIn K mainGlobals "_law_drawing" = some (some (.ref f_law_drawing)))
    (l_law_drawing : K.lookup f_law_drawing = some ⟨oc_law_drawing, od_law_drawing, .func (PySem.W.fnOf "_law_drawing" "_law_drawing" (defArgs s_law_drawing) (defBody s_law_drawing) (defScope s_law_drawing) .none kV_law_drawing dc_law_drawing pm_law_drawing an_law_drawing cd_law_drawing ct_law_drawing), sl_law_drawing⟩)
    (c_law_drawing : PySem.W.codeIn K cd_law_drawing "_law_drawing" = true)
    (k_law_drawing : PySem.W.keepIn K (.ref f_law_drawing) = true)
    (a_law_equal : PySem.W.nsIn K mainGlobals "_law_equal" = some (some (.ref f_law_equal)))
    (l_law_equal : K.lookup f_law_equal = some ⟨oc_law_equal, od_law_equal, .func (PySem.W.fnOf "_law_equal" "_law_equal" (defArgs s_law_equal) (defBody s_law_equal) (defScope s_law_equal) .none kV_law_equal dc_law_equal pm_law_equal an_law_equal cd_law_equal ct_law_equal), sl_law_equal⟩)
    (c_law_equal : PySem.W.codeIn K cd_law_equal "_law_equal" = true)
    (k_law_equal : PySem.W.keepIn K (.ref f_law_equal) = true)
    (a_law : PySem.W.nsIn K mainGlobals "law" = some (some (.ref f_law)))
    (l_law : K.lookup f_law = some ⟨oc_law, od_law, .func (PySem.W.fnOf "law" "law" (defArgs s_law) (defBody s_law) (defScope s_law) .none kV_law dc_law pm_law an_law (.ref cL) ct_law), sl_law⟩)
    (c_law : PySem.W.codeIn K (.ref cL) "law" = true)
    (q_law : K.lookup cL = some ⟨oq_law, dq_law, .fields vq_law, sq_law⟩)
    (v_law : vq_law[11]? = some (.ref PL))
    (n_law : K.lookup PL = none)
    (h_law : PySem.W.codeHdIn K cL PL = true)
    : LawAtS l w K CX0 13 63 "_law_script" mg fa h := by
  have e := hfa.symm.trans (PySem.W.mg_of X G a_law)
  cases e
  have b_abs := PySem.W.mg_none_of X G z_abs
  have b_len := PySem.W.mg_none_of X G z_len
  have b_isinstance := PySem.W.mg_none_of X G z_isinstance
  have b_int := PySem.W.mg_none_of X G z_int
  have b_bool := PySem.W.mg_none_of X G z_bool
  have b_str := PySem.W.mg_none_of X G z_str
  have b_tuple := PySem.W.mg_none_of X G z_tuple
  have b_list := PySem.W.mg_none_of X G z_list
  have b_all := PySem.W.mg_none_of X G z_all
  have b_zip := PySem.W.mg_none_of X G z_zip
  have b_range := PySem.W.mg_none_of X G z_range
  have b_enumerate := PySem.W.mg_none_of X G z_enumerate
  have b_ValueError := PySem.W.mg_none_of X G z_ValueError
  have m_MOST_SPOTS := PySem.W.mg_of X G mi_MOST_SPOTS
  have m_MOST_STROKES := PySem.W.mg_of X G mi_MOST_STROKES
  have m_DIGITS := PySem.W.mg_of X G ms_DIGITS
  have m_MOST_DIGITS := PySem.W.mg_of X G mi_MOST_DIGITS
  have m_BLOCK := PySem.W.mg_of X G mi_BLOCK
  have m_B := PySem.W.mg_of X G g_CB
  have ER : Errs K mg CB (fun j => [e0, e1, e2, e3, e4, e5, e6, e7, e8, e9, e10, e11, e12, e13, e14, e15, e16, e17, e18, e19].getD j 0) [8] := ⟨fun j x h => match j, h with
    | 0, h => by cases h; exact PySem.W.mg_of X G ge_0
    | 1, h => by cases h; exact PySem.W.mg_of X G ge_1
    | 2, h => by cases h; exact PySem.W.mg_of X G ge_2
    | 3, h => by cases h; exact PySem.W.mg_of X G ge_3
    | 4, h => by cases h; exact PySem.W.mg_of X G ge_4
    | 5, h => by cases h; exact PySem.W.mg_of X G ge_5
    | 6, h => by cases h; exact PySem.W.mg_of X G ge_6
    | 7, h => by cases h; exact PySem.W.mg_of X G ge_7
    | 8, h => by cases h; exact PySem.W.mg_of X G ge_8
    | 9, h => by cases h; exact PySem.W.mg_of X G ge_9
    | 10, h => by cases h; exact PySem.W.mg_of X G ge_10
    | 11, h => by cases h; exact PySem.W.mg_of X G ge_11
    | 12, h => by cases h; exact PySem.W.mg_of X G ge_12
    | 13, h => by cases h; exact PySem.W.mg_of X G ge_13
    | 14, h => by cases h; exact PySem.W.mg_of X G ge_14
    | 15, h => by cases h; exact PySem.W.mg_of X G ge_15
    | 16, h => by cases h; exact PySem.W.mg_of X G ge_16
    | 17, h => by cases h; exact PySem.W.mg_of X G ge_17
    | 18, h => by cases h; exact PySem.W.mg_of X G ge_18
    | 19, h => by cases h; exact PySem.W.mg_of X G ge_19
    | (k + 20), h => by simp [eCls] at h,
  fun n hn => by
    simp only [List.mem_cons, List.mem_nil_iff, or_false] at hn
    rcases hn with rfl
    · exact ⟨xg_8, xk_8, xs_8, xd_8, xa_8, xc_n, xc_t, xm_8⟩,
  fun n j hn hj => by
    simp only [List.mem_cons, List.mem_nil_iff, or_false] at hn
    rcases hn with rfl
    · exact match j, hj with
      | 0, _ => kt_8_0
      | 1, _ => kt_8_1
      | 2, _ => kt_8_2
      | 3, _ => kt_8_3
      | 4, _ => kt_8_4
      | 5, _ => kt_8_5
      | 6, _ => kt_8_6
      | 7, _ => kt_8_7
      | 8, _ => kt_8_8
      | 9, _ => kt_8_9
      | 10, _ => kt_8_10
      | 11, _ => kt_8_11
      | 12, _ => kt_8_12
      | 13, _ => kt_8_13
      | 14, _ => kt_8_14
      | 15, _ => kt_8_15
      | 16, _ => kt_8_16
      | 17, _ => kt_8_17
      | 18, _ => kt_8_18
      | 19, _ => kt_8_19
      | (k + 20), h => absurd h (by omega),
  fun n hn => by
    simp only [List.mem_cons, List.mem_nil_iff, or_false] at hn
    rcases hn with rfl
    · exact kv_8,
  fun n hn => by
    simp only [List.mem_cons, List.mem_nil_iff, or_false] at hn
    rcases hn with rfl
    · exact xx_8,
  fun n hn => by
    simp only [List.mem_cons, List.mem_nil_iff, or_false] at hn
    rcases hn with rfl
    · decide⟩
  have X_TooMany : ExX K mg "TooMany" e8 := ⟨xq_8, xp_8, xs_8, xt_8, PySem.W.mg_of X G ge_8⟩
  have F_law_error_of := fun_mk (st := s_law_error_of) l_law_error_of c_law_error_of k_law_error_of
  have B_law_error_of := F_law_error_of.binds (ps := ["_law_call"]) fun _ _ _ _ _ _ us hl => match us, hl with | [_], _ => rfl
  have m_E := PySem.W.mg_of X G a_law_error_of
  have F_InvalidStroke___init__ := fun_mk (st := s_InvalidStroke___init__) l_InvalidStroke___init__ c_InvalidStroke___init__ k_InvalidStroke___init__
  have B_InvalidStroke___init__ := F_InvalidStroke___init__.binds (ps := ["self", "index"]) fun _ _ _ _ _ _ us hl => match us, hl with | [_, _], _ => rfl
  have EV : ErrV K mg CB (fun j => [e0, e1, e2, e3, e4, e5, e6, e7, e8, e9, e10, e11, e12, e13, e14, e15, e16, e17, e18, e19].getD j 0) := ⟨ER.mg, ⟨xg_4, xk_4, xs_4, xd_4, xa_4, xc_n, xc_t, xm_4⟩, fun j hj => match j, hj with
      | 0, _ => kt_4_0
      | 1, _ => kt_4_1
      | 2, _ => kt_4_2
      | 3, _ => kt_4_3
      | 4, _ => kt_4_4
      | 5, _ => kt_4_5
      | 6, _ => kt_4_6
      | 7, _ => kt_4_7
      | 8, _ => kt_4_8
      | 9, _ => kt_4_9
      | 10, _ => kt_4_10
      | 11, _ => kt_4_11
      | 12, _ => kt_4_12
      | 13, _ => kt_4_13
      | 14, _ => kt_4_14
      | 15, _ => kt_4_15
      | 16, _ => kt_4_16
      | 17, _ => kt_4_17
      | 18, _ => kt_4_18
      | 19, _ => kt_4_19
      | (k + 20), h => absurd h (by omega), kv_4, xx_4, ⟨xg_4, xk_4, xs_4, xd_4⟩, xn_4⟩
  have OX := oex_of xo_4 xz_4 xs_4 xt_4 xp_4
  have F_BadText___init__ := fun_mk (st := s_BadText___init__) l_BadText___init__ c_BadText___init__ k_BadText___init__
  have B_BadText___init__ := F_BadText___init__.binds (ps := ["self", "row", "word"]) fun _ _ _ _ _ _ us hl => match us, hl with | [_, _, _], _ => rfl
  have ET : ErrT K mg CB (fun j => [e0, e1, e2, e3, e4, e5, e6, e7, e8, e9, e10, e11, e12, e13, e14, e15, e16, e17, e18, e19].getD j 0) := ⟨ER.mg, ⟨xg_12, xk_12, xs_12, xd_12, xa_12, xc_n, xc_t, xm_12⟩, fun j hj => match j, hj with
      | 0, _ => kt_12_0
      | 1, _ => kt_12_1
      | 2, _ => kt_12_2
      | 3, _ => kt_12_3
      | 4, _ => kt_12_4
      | 5, _ => kt_12_5
      | 6, _ => kt_12_6
      | 7, _ => kt_12_7
      | 8, _ => kt_12_8
      | 9, _ => kt_12_9
      | 10, _ => kt_12_10
      | 11, _ => kt_12_11
      | 12, _ => kt_12_12
      | 13, _ => kt_12_13
      | 14, _ => kt_12_14
      | 15, _ => kt_12_15
      | 16, _ => kt_12_16
      | 17, _ => kt_12_17
      | 18, _ => kt_12_18
      | 19, _ => kt_12_19
      | (k + 20), h => absurd h (by omega), kv_12, xx_12, ⟨xg_12, xk_12, xs_12, xd_12⟩, ⟨xn_12_1, xn_12_2⟩⟩
  have OX12 := oex_of xo_12 xz_12 xs_12 xt_12 xp_12
  have F_common_divisor := fun_mk (st := s_common_divisor) l_common_divisor c_common_divisor k_common_divisor
  have B_common_divisor := F_common_divisor.binds (ps := ["one", "other"]) fun _ _ _ _ _ _ us hl => match us, hl with | [_, _], _ => rfl
  have F_is_whole := fun_mk (st := s_is_whole) l_is_whole c_is_whole k_is_whole
  have B_is_whole := F_is_whole.binds (ps := ["value"]) fun _ _ _ _ _ _ us hl => match us, hl with | [_], _ => rfl
  have F_is_spot := fun_mk (st := s_is_spot) l_is_spot c_is_spot k_is_spot
  have B_is_spot := F_is_spot.binds (ps := ["value"]) fun _ _ _ _ _ _ us hl => match us, hl with | [_], _ => rfl
  have F_parts_of := fun_mk (st := s_parts_of) l_parts_of c_parts_of k_parts_of
  have B_parts_of := F_parts_of.binds (ps := ["stroke"]) fun _ _ _ _ _ _ us hl => match us, hl with | [_], _ => rfl
  have F_is_stroke := fun_mk (st := s_is_stroke) l_is_stroke c_is_stroke k_is_stroke
  have B_is_stroke := F_is_stroke.binds (ps := ["value"]) fun _ _ _ _ _ _ us hl => match us, hl with | [_], _ => rfl
  have F_check_strokes := fun_mk (st := s_check_strokes) l_check_strokes c_check_strokes k_check_strokes
  have B_check_strokes := F_check_strokes.binds (ps := ["strokes"]) fun _ _ _ _ _ _ us hl => match us, hl with | [_], _ => rfl
  have F_Drawing___init__ := fun_mk (st := s_Drawing___init__) l_Drawing___init__ c_Drawing___init__ k_Drawing___init__
  have mgCW := PySem.W.mg_of X G aCW
  have MKCW : Mk K CW f_Drawing___init__ := ⟨mkCW, inCW, isCW, kcCW⟩
  have clCW : Cls K CW := ⟨pgCW, hdCW, poCW, saCW⟩
  have TXW : WTxt K CW := ⟨clCW, nCW_held⟩
  have F_Drawing_strokes := fun_mk (st := s_Drawing_strokes) l_Drawing_strokes c_Drawing_strokes k_Drawing_strokes
  have B_Drawing_strokes := F_Drawing_strokes.binds (ps := ["self"]) fun _ _ _ _ _ _ us hl => match us, hl with | [_], _ => rfl
  have F_Drawing___add__ := fun_mk (st := s_Drawing___add__) l_Drawing___add__ c_Drawing___add__ k_Drawing___add__
  have B_Drawing___add__ := F_Drawing___add__.binds (ps := ["self", "other"]) fun _ _ _ _ _ _ us hl => match us, hl with | [_, _], _ => rfl
  have F_Drawing___eq__ := fun_mk (st := s_Drawing___eq__) l_Drawing___eq__ c_Drawing___eq__ k_Drawing___eq__
  have B_Drawing___eq__ := F_Drawing___eq__.binds (ps := ["self", "other"]) fun _ _ _ _ _ _ us hl => match us, hl with | [_, _], _ => rfl
  have F_is_numeral := fun_mk (st := s_is_numeral) l_is_numeral c_is_numeral k_is_numeral
  have B_is_numeral := F_is_numeral.binds (ps := ["word", "most"]) fun _ _ _ _ _ _ us hl => match us, hl with | [_, _], _ => rfl
  have F_number_from := fun_mk (st := s_number_from) l_number_from c_number_from k_number_from
  have B_number_from := F_number_from.binds (ps := ["word"]) fun _ _ _ _ _ _ us hl => match us, hl with | [_], _ => rfl
  have F_spot_from := fun_mk (st := s_spot_from) l_spot_from c_spot_from k_spot_from
  have B_spot_from := F_spot_from.binds (ps := ["word"]) fun _ _ _ _ _ _ us hl => match us, hl with | [_], _ => rfl
  have F_first_wrong_word := fun_mk (st := s_first_wrong_word) l_first_wrong_word c_first_wrong_word k_first_wrong_word
  have B_first_wrong_word := F_first_wrong_word.binds (ps := ["words"]) fun _ _ _ _ _ _ us hl => match us, hl with | [_], _ => rfl
  have F_strokes_from := fun_mk (st := s_strokes_from) l_strokes_from c_strokes_from k_strokes_from
  have B_strokes_from := F_strokes_from.binds (ps := ["words"]) fun _ _ _ _ _ _ us hl => match us, hl with | [_], _ => rfl
  have F_numeral := fun_mk (st := s_numeral) l_numeral c_numeral k_numeral
  have B_numeral := F_numeral.binds (ps := ["number"]) fun _ _ _ _ _ _ us hl => match us, hl with | [_], _ => rfl
  have F_word_of := fun_mk (st := s_word_of) l_word_of c_word_of k_word_of
  have B_word_of := F_word_of.binds (ps := ["spot"]) fun _ _ _ _ _ _ us hl => match us, hl with | [_], _ => rfl
  have F_format_drawing := fun_mk (st := s_format_drawing) l_format_drawing c_format_drawing k_format_drawing
  have B_format_drawing := F_format_drawing.binds (ps := ["drawing"]) fun _ _ _ _ _ _ us hl => match us, hl with | [_], _ => rfl
  have F_parse_drawing := fun_mk (st := s_parse_drawing) l_parse_drawing c_parse_drawing k_parse_drawing
  have B_parse_drawing := F_parse_drawing.binds (ps := ["text"]) fun _ _ _ _ _ _ us hl => match us, hl with | [_], _ => rfl
  have F_law_random := fun_mk (st := s_law_random) l_law_random c_law_random k_law_random
  have B_law_random := F_law_random.binds (ps := ["_law_script", "_law_salt"]) fun _ _ _ _ _ _ us hl => match us, hl with | [_, _], _ => rfl
  have F_law_below := fun_mk (st := s_law_below) l_law_below c_law_below k_law_below
  have B_law_below := F_law_below.binds (ps := ["_law_d", "_law_limit"]) fun _ _ _ _ _ _ us hl => match us, hl with | [_, _], _ => rfl
  have F_law_step := fun_mk (st := s_law_step) l_law_step c_law_step k_law_step
  have B_law_step := F_law_step.binds (ps := ["_law_d", "_law_size_now"]) fun _ _ _ _ _ _ us hl => match us, hl with | [_, _], _ => rfl
  have F_law_common := fun_mk (st := s_law_common) l_law_common c_law_common k_law_common
  have B_law_common := F_law_common.binds (ps := ["_law_one", "_law_other"]) fun _ _ _ _ _ _ us hl => match us, hl with | [_, _], _ => rfl
  have F_law_lowest := fun_mk (st := s_law_lowest) l_law_lowest c_law_lowest k_law_lowest
  have B_law_lowest := F_law_lowest.binds (ps := ["_law_x", "_law_y", "_law_q"]) fun _ _ _ _ _ _ us hl => match us, hl with | [_, _, _], _ => rfl
  have F_law_is_digits := fun_mk (st := s_law_is_digits) l_law_is_digits c_law_is_digits k_law_is_digits
  have B_law_is_digits := F_law_is_digits.binds (ps := ["_law_word_here", "_law_most"]) fun _ _ _ _ _ _ us hl => match us, hl with | [_, _], _ => rfl
  have F_law_is_spot := fun_mk (st := s_law_is_spot) l_law_is_spot c_law_is_spot k_law_is_spot
  have B_law_is_spot := F_law_is_spot.binds (ps := ["_law_word_here"]) fun _ _ _ _ _ _ us hl => match us, hl with | [_], _ => rfl
  have F_law_read := fun_mk (st := s_law_read) l_law_read c_law_read k_law_read
  have B_law_read := F_law_read.binds (ps := ["_law_word_here"]) fun _ _ _ _ _ _ us hl => match us, hl with | [_], _ => rfl
  have F_law_read_strokes := fun_mk (st := s_law_read_strokes) l_law_read_strokes c_law_read_strokes k_law_read_strokes
  have B_law_read_strokes := F_law_read_strokes.binds (ps := ["_law_words"]) fun _ _ _ _ _ _ us hl => match us, hl with | [_], _ => rfl
  have F_law_word := fun_mk (st := s_law_word) l_law_word c_law_word k_law_word
  have B_law_word := F_law_word.binds (ps := ["_law_spot_here"]) fun _ _ _ _ _ _ us hl => match us, hl with | [_], _ => rfl
  have F_law_text := fun_mk (st := s_law_text) l_law_text c_law_text k_law_text
  have B_law_text := F_law_text.binds (ps := ["_law_strokes_here"]) fun _ _ _ _ _ _ us hl => match us, hl with | [_], _ => rfl
  have F_law_bad_word := fun_mk (st := s_law_bad_word) l_law_bad_word c_law_bad_word k_law_bad_word
  have B_law_bad_word := F_law_bad_word.binds (ps := ["_law_d"]) fun _ _ _ _ _ _ us hl => match us, hl with | [_], _ => rfl
  have F_law_strokes_words := fun_mk (st := s_law_strokes_words) l_law_strokes_words c_law_strokes_words k_law_strokes_words
  have B_law_strokes_words := F_law_strokes_words.binds (ps := ["_law_d", "_law_strokes_here"]) fun _ _ _ _ _ _ us hl => match us, hl with | [_, _], _ => rfl
  have F_law_spot := fun_mk (st := s_law_spot) l_law_spot c_law_spot k_law_spot
  have B_law_spot := F_law_spot.binds (ps := ["_law_d"]) fun _ _ _ _ _ _ us hl => match us, hl with | [_], _ => rfl
  have F_law_stroke := fun_mk (st := s_law_stroke) l_law_stroke c_law_stroke k_law_stroke
  have B_law_stroke := F_law_stroke.binds (ps := ["_law_d", "_law_most"]) fun _ _ _ _ _ _ us hl => match us, hl with | [_, _], _ => rfl
  have F_law_strokes := fun_mk (st := s_law_strokes) l_law_strokes c_law_strokes k_law_strokes
  have B_law_strokes := F_law_strokes.binds (ps := ["_law_d", "_law_most"]) fun _ _ _ _ _ _ us hl => match us, hl with | [_, _], _ => rfl
  have F_law_drawing := fun_mk (st := s_law_drawing) l_law_drawing c_law_drawing k_law_drawing
  have B_law_drawing := F_law_drawing.binds (ps := ["_law_strokes_here"]) fun _ _ _ _ _ _ us hl => match us, hl with | [_], _ => rfl
  have F_law_equal := fun_mk (st := s_law_equal) l_law_equal c_law_equal k_law_equal
  have B_law_equal := F_law_equal.binds (ps := ["_law_actual", "_law_expected"]) fun _ _ _ _ _ _ us hl => match us, hl with | [_, _], _ => rfl
  refine ⟨PySem.W.fnOf "law" "law" (defArgs s_law) (defBody s_law) (defScope s_law) .none kV_law dc_law pm_law an_law (.ref cL) ct_law, [(cL, PL)], spLaw K PL, fun p hp => ?_, fun p hp => ?_, fun p hp => ?_, fun s v => .of_eq rfl, fun H a ns hl _ hH hS => ⟨a, ns, rfl, hS, hl, hH _ (.head _), fun _ => rfl⟩, fun base _ _ TB => ?_⟩
  · cases List.mem_singleton.mp hp; exact own cL PL _ _ _ _ _ _ l_law rfl rfl q_law v_law
  · cases List.mem_singleton.mp hp; exact n_law
  · cases List.mem_singleton.mp hp; exact PySem.W.codeHd_of_K X h_law
  have IV : IvS l.prog w K mg base e4 := ⟨OX, PySem.W.mg_of X G ge_4, _, _, xi_4, xj_4, ok_ivs OX xn_4 F_InvalidStroke___init__, B_InvalidStroke___init__⟩
  have BT : BtxS l.prog w K mg base e12 := ⟨OX12, PySem.W.mg_of X G ge_12, _, _, xi_12, xj_12, ok_btx OX12 ⟨xn_12_1, xn_12_2⟩ F_BadText___init__, B_BadText___init__⟩
  have d_common_divisor : D l.prog w K mg base "common_divisor" 1 sp_gcd := ⟨_, rOf (ok_common_divisor b_abs F_common_divisor) B_common_divisor, k_common_divisor, PySem.W.mg_of X G a_common_divisor⟩
  have d_is_whole : D l.prog w K mg base "is_whole" 1 sp_whole := ⟨_, rOf (ok_is_whole b_isinstance b_int b_bool F_is_whole) B_is_whole, k_is_whole, PySem.W.mg_of X G a_is_whole⟩
  have d_wholeA : D l.prog w K mg base "is_whole" 1 sp_wholeA := ⟨_, rOf (ok_is_wholeA b_isinstance b_int b_bool F_is_whole) B_is_whole, k_is_whole, PySem.W.mg_of X G a_is_whole⟩
  have d_is_spot : D l.prog w K mg base "is_spot" 2 (sp_isspot K) := ⟨_, rOf (ok_is_spot b_isinstance b_tuple b_len b_all d_common_divisor d_is_whole F_is_spot) B_is_spot, k_is_spot, PySem.W.mg_of X G a_is_spot⟩
  have d_is_spotX : D l.prog w K mg base "is_spot" 2 (sp_isspotX K) := ⟨_, rOf (ok_is_spotX b_isinstance b_tuple b_len b_all d_common_divisor d_wholeA F_is_spot) B_is_spot, k_is_spot, PySem.W.mg_of X G a_is_spot⟩
  have d_parts_of : D l.prog w K mg base "parts_of" 1 (sp_parts K) := ⟨_, rOf (ok_parts_of b_list b_zip F_parts_of) B_parts_of, k_parts_of, PySem.W.mg_of X G a_parts_of⟩
  have d_is_stroke : D l.prog w K mg base "is_stroke" 3 (sp_isst K) := ⟨_, rOf (ok_is_stroke b_isinstance b_tuple b_len b_all m_MOST_SPOTS d_is_spot d_parts_of F_is_stroke) B_is_stroke, k_is_stroke, PySem.W.mg_of X G a_is_stroke⟩
  have d_is_strokeX : D l.prog w K mg base "is_stroke" 3 (sp_isstX K) := ⟨_, rOf (ok_is_strokeX b_isinstance b_tuple b_len b_all m_MOST_SPOTS (D.or d_is_spot d_is_spotX) d_parts_of F_is_stroke) B_is_stroke, k_is_stroke, PySem.W.mg_of X G a_is_stroke⟩
  have d_check_strokes : D l.prog w K mg base "check_strokes" 4 (sp_chk K) := ⟨_, rOf (ok_check_strokes b_enumerate b_len m_MOST_STROKES d_is_stroke F_check_strokes) B_check_strokes, k_check_strokes, PySem.W.mg_of X G a_check_strokes⟩
  have d_check_strokesX : DX l.prog w K mg base "check_strokes" 4 (sp_chkX K e4 e8) := ⟨_, rOfX (ok_check_strokesX b_enumerate b_len m_MOST_STROKES IV X_TooMany (D.or d_is_stroke d_is_strokeX) F_check_strokes) B_check_strokes, k_check_strokes, PySem.W.mg_of X G a_check_strokes⟩
  have TW : DrawI l.prog w K mg base CW f_Drawing___init__ := ⟨TXW, MKCW, ok_winit TXW d_check_strokes F_Drawing___init__, mgCW⟩
  have m_W_strokes : MPf l.prog w K mg base CW "strokes" "held" := ⟨clCW, _, _, _, ok_Drawing_strokes clCW nCW_held F_Drawing_strokes, B_Drawing_strokes, ⟨a_Drawing_strokes, g_Drawing_strokes, t_Drawing_strokes, ⟨_, r_Drawing_strokes⟩⟩⟩
  have m_wadd : MWa l.prog w K mg base CW := ⟨sfCW, ⟨_, rOf (ok_wadd TW F_Drawing___add__) B_Drawing___add__, a_Drawing___add__, i_Drawing___add__⟩⟩
  have m_weq : MWe l.prog w K mg base CW := ⟨⟨_, rOf (ok_weq TXW ⟨haW, xc_n, xc_t, hmW⟩ mgCW b_isinstance F_Drawing___eq__) B_Drawing___eq__, rOf (ok_weqI TXW kiW mgCW b_isinstance F_Drawing___eq__) B_Drawing___eq__, a_Drawing___eq__, i_Drawing___eq__⟩⟩
  have TX : DrXI l.prog w K mg base CW f_Drawing___init__ e4 e8 := ⟨TXW, MKCW, ok_winitX d_check_strokesX F_Drawing___init__, mgCW⟩
  have d_is_numeral : D l.prog w K mg base "is_numeral" 1 sp_nml := ⟨_, rOf (ok_is_numeral b_len b_all m_DIGITS F_is_numeral) B_is_numeral, k_is_numeral, PySem.W.mg_of X G a_is_numeral⟩
  have d_number_from : D l.prog w K mg base "number_from" 2 sp_nfr := ⟨_, rOf (ok_number_from b_int m_MOST_DIGITS d_is_numeral F_number_from) B_number_from, k_number_from, PySem.W.mg_of X G a_number_from⟩
  have d_spot_from : D l.prog w K mg base "spot_from" 3 (sp_sfr K) := ⟨_, rOf (ok_spot_from b_len b_tuple d_number_from (D.or d_is_spot d_is_spotX) F_spot_from) B_spot_from, k_spot_from, PySem.W.mg_of X G a_spot_from⟩
  have d_first_wrong_word : D l.prog w K mg base "first_wrong_word" 4 (sp_fww K) := ⟨_, rOf (ok_first_wrong_word b_len b_enumerate d_spot_from F_first_wrong_word) B_first_wrong_word, k_first_wrong_word, PySem.W.mg_of X G a_first_wrong_word⟩
  have d_strokes_from : D l.prog w K mg base "strokes_from" 4 (sp_stf K) := ⟨_, rOf (ok_strokes_from b_tuple d_spot_from F_strokes_from) B_strokes_from, k_strokes_from, PySem.W.mg_of X G a_strokes_from⟩
  have d_numeral : D l.prog w K mg base "numeral" 1 sp_num := ⟨_, rOf (ok_numeral b_abs b_str m_BLOCK F_numeral) B_numeral, k_numeral, PySem.W.mg_of X G a_numeral⟩
  have d_word_of : D l.prog w K mg base "word_of" 2 (sp_wrd K) := ⟨_, rOf (ok_word_of d_numeral F_word_of) B_word_of, k_word_of, PySem.W.mg_of X G a_word_of⟩
  have d_format_drawing : D l.prog w K mg base "format_drawing" 3 (sp_fmt K CW) := ⟨_, rOf (ok_format_drawing m_W_strokes d_word_of F_format_drawing) B_format_drawing, k_format_drawing, PySem.W.mg_of X G a_format_drawing⟩
  have d_parse_drawing : D l.prog w K mg base "parse_drawing" 8 (sp_prs K CW) := ⟨_, rOf (ok_parse_drawing TW d_first_wrong_word d_strokes_from F_parse_drawing) B_parse_drawing, k_parse_drawing, PySem.W.mg_of X G a_parse_drawing⟩
  have d_parse_drawingX : DX l.prog w K mg base "parse_drawing" 8 (sp_prsX K e12 e4) := ⟨_, rOfX (ok_parse_drawingX TX BT d_first_wrong_word d_strokes_from F_parse_drawing) B_parse_drawing, k_parse_drawing, PySem.W.mg_of X G a_parse_drawing⟩
  have d_law_random : D l.prog w K mg base "_law_random" 1 (sp_random K) := ⟨_, rOf (ok_law_random b_abs F_law_random) B_law_random, k_law_random, PySem.W.mg_of X G a_law_random⟩
  have d_law_below : D l.prog w K mg base "_law_below" 1 sp_below := ⟨_, rOf (ok_law_below b_len F_law_below) B_law_below, k_law_below, PySem.W.mg_of X G a_law_below⟩
  have d_law_step : D l.prog w K mg base "_law_step" 2 (sp_step K) := ⟨_, rOf (ok_law_step d_law_below F_law_step) B_law_step, k_law_step, PySem.W.mg_of X G a_law_step⟩
  have d_law_common : D l.prog w K mg base "_law_common" 1 sp_gcd := ⟨_, rOf (ok_law_common b_abs F_law_common) B_law_common, k_law_common, PySem.W.mg_of X G a_law_common⟩
  have d_law_lowest : D l.prog w K mg base "_law_lowest" 2 (sp_low K) := ⟨_, rOf (ok_law_lowest d_law_common F_law_lowest) B_law_lowest, k_law_lowest, PySem.W.mg_of X G a_law_lowest⟩
  have d_law_is_digits : D l.prog w K mg base "_law_is_digits" 1 sp_nml := ⟨_, rOf (ok_law_is_digits b_len F_law_is_digits) B_law_is_digits, k_law_is_digits, PySem.W.mg_of X G a_law_is_digits⟩
  have d_law_is_spot : D l.prog w K mg base "_law_is_spot" 3 sp_lisp := ⟨_, rOf (ok_law_is_spot b_len b_int b_tuple d_law_is_digits d_law_lowest F_law_is_spot) B_law_is_spot, k_law_is_spot, PySem.W.mg_of X G a_law_is_spot⟩
  have d_law_read : D l.prog w K mg base "_law_read" 1 (sp_lrd K) := ⟨_, rOf (ok_law_read b_len b_int b_tuple F_law_read) B_law_read, k_law_read, PySem.W.mg_of X G a_law_read⟩
  have d_law_read_strokes : D l.prog w K mg base "_law_read_strokes" 2 (sp_lrs K) := ⟨_, rOf (ok_law_read_strokes b_tuple d_law_read F_law_read_strokes) B_law_read_strokes, k_law_read_strokes, PySem.W.mg_of X G a_law_read_strokes⟩
  have d_law_word : D l.prog w K mg base "_law_word" 1 (sp_lwrd K) := ⟨_, rOf (ok_law_word b_str F_law_word) B_law_word, k_law_word, PySem.W.mg_of X G a_law_word⟩
  have d_law_text : D l.prog w K mg base "_law_text" 2 (sp_ltxt K) := ⟨_, rOf (ok_law_text d_law_word F_law_text) B_law_text, k_law_text, PySem.W.mg_of X G a_law_text⟩
  have d_law_bad_word : D l.prog w K mg base "_law_bad_word" 3 (sp_lbw K) := ⟨_, rOf (ok_law_bad_word d_law_below F_law_bad_word) B_law_bad_word, k_law_bad_word, PySem.W.mg_of X G a_law_bad_word⟩
  have d_law_strokes_words : D l.prog w K mg base "_law_strokes_words" 3 (sp_lsw K) := ⟨_, rOf (ok_law_strokes_words d_law_text F_law_strokes_words) B_law_strokes_words, k_law_strokes_words, PySem.W.mg_of X G a_law_strokes_words⟩
  have d_law_spot : D l.prog w K mg base "_law_spot" 3 (sp_draw fun H r => ∃ t, IsT K H r t ∧ SpotIn t) := ⟨_, rOf (ok_law_spot d_law_below d_law_lowest F_law_spot) B_law_spot, k_law_spot, PySem.W.mg_of X G a_law_spot⟩
  have d_law_stroke : D l.prog w K mg base "_law_stroke" 4 (sp_lstroke K) := ⟨_, rOf (ok_law_stroke b_range d_law_below d_law_step d_law_spot F_law_stroke) B_law_stroke, k_law_stroke, PySem.W.mg_of X G a_law_stroke⟩
  have d_law_strokes : D l.prog w K mg base "_law_strokes" 5 (sp_lstrokes K) := ⟨_, rOf (ok_law_strokes b_range b_tuple d_law_below d_law_stroke F_law_strokes) B_law_strokes, k_law_strokes, PySem.W.mg_of X G a_law_strokes⟩
  have d_law_drawing : D l.prog w K mg base "_law_drawing" 8 (sp_ldrawing K CW) := ⟨_, rOf (ok_law_drawing TW m_wadd F_law_drawing) B_law_drawing, k_law_drawing, PySem.W.mg_of X G a_law_drawing⟩
  have d_law_equal_0 : D l.prog w K mg base "_law_equal" 0 (sp_equal K 0) := ⟨_, fun A outer s H us vs Q E hr e0 r h => absurd h (by rintro ⟨_, _, _, _, _, _, z, _⟩; exact z), k_law_equal, PySem.W.mg_of X G a_law_equal⟩
  have d_law_equal_1 : D l.prog w K mg base "_law_equal" 1 (sp_equal K 1) := ⟨_, rOf (ok_law_equal b_isinstance b_int b_bool b_str b_tuple b_list b_len b_all b_range d_law_equal_0 F_law_equal) B_law_equal, k_law_equal, PySem.W.mg_of X G a_law_equal⟩
  have d_law_equal_2 : D l.prog w K mg base "_law_equal" 2 (sp_equal K 2) := ⟨_, rOf (ok_law_equal b_isinstance b_int b_bool b_str b_tuple b_list b_len b_all b_range d_law_equal_1 F_law_equal) B_law_equal, k_law_equal, PySem.W.mg_of X G a_law_equal⟩
  have d_law_equal_3 : D l.prog w K mg base "_law_equal" 3 (sp_equal K 3) := ⟨_, rOf (ok_law_equal b_isinstance b_int b_bool b_str b_tuple b_list b_len b_all b_range d_law_equal_2 F_law_equal) B_law_equal, k_law_equal, PySem.W.mg_of X G a_law_equal⟩
  have d_law_equal_4 : D l.prog w K mg base "_law_equal" 4 (sp_equal K 4) := ⟨_, rOf (ok_law_equal b_isinstance b_int b_bool b_str b_tuple b_list b_len b_all b_range d_law_equal_3 F_law_equal) B_law_equal, k_law_equal, PySem.W.mg_of X G a_law_equal⟩
  have d_law_equal := d_law_equal_4
  exact ok_law (Cs := fun j => [e0, e1, e2, e3, e4, e5, e6, e7, e8, e9, e10, e11, e12, e13, e14, e15, e16, e17, e18, e19].getD j 0) b_len b_range b_isinstance b_ValueError TW m_W_strokes m_weq m_B ET EV m_E k_law_error_of l_law_error_of c_law_error_of B_law_error_of d_law_random d_law_below d_law_strokes d_law_drawing d_law_text d_law_equal d_format_drawing d_parse_drawing d_law_strokes_words d_law_bad_word d_law_is_spot d_law_read_strokes d_parse_drawingX (TB _ (.head _)) l_law c_law
end My
open PySem PySem.W PyProof.Rows in
set_option maxRecDepth 100000 in
set_option maxHeartbeats 0 in
theorem PySem.Challenge.cw_copyarms_k33_texts_of_drawings_holds : PySem.Challenge.rw_copyarms_k33_texts_of_drawings.Holds := by
  w_on; o_law
  refine HandSHeadRun.head_any (r := My.R) (q := My.qv) (H := PySem.W.kHook My.fragHere.heap_1 My.addrs My.addrs_eq) (ob := My.ob) (M := 20000) (loose := My.loose) (d := HandSHeadRun.topDef My.R.prog 68) (kwd := []) My.ob_eq ?e ?f My.run ?hdef ?hp ?hk ?hwr ?k1 ?ok ?hb ?hw ?hc
  case e => kernel_rfl
  case f => intro s; kernel_rfl
  case hdef => kernel_rfl
  case hp => kernel_rfl
  case hk => kernel_rfl
  case hwr => rfl
  case k1 => first | assumption | decide +kernel
  case ok => decide +kernel
  case hb => exact ⟨rfl, rfl, rfl, rfl, rfl, by decide +kernel⟩
  case hw => w_witness2
  case hc =>
    k_fill
    refine LamX.walk_ofOwn (l := PySem.Challenge.rw_copyarms_k33_texts_of_drawings) (n := 63) (k := 13) (x := "_law_script") (CX := fun _ => L2.CX0) rfl (by decide) rfl ⟨rfl, by decide, by decide⟩ ?R (fun w h Y => by first | exact PySem.W.km_in_of Y | exact PySem.W.kIn_of Y) ?F (fun _ _ _ _ _ z => z)
    case R => first | rfl | decide +kernel
    case F =>
      intro w mg fa h Y KX G hmg own
      refine' My.all_mk KX G hmg own ?z_abs ?z_len ?z_isinstance ?z_int ?z_bool ?z_str ?z_tuple ?z_list ?z_all ?z_zip ?z_range ?z_enumerate ?z_ValueError ?mi_MOST_SPOTS ?mi_MOST_STROKES ?ms_DIGITS ?mi_MOST_DIGITS ?mi_BLOCK ?g_CB ?ge_0 ?ge_1 ?ge_2 ?ge_3 ?ge_4 ?ge_5 ?ge_6 ?ge_7 ?ge_8 ?ge_9 ?ge_10 ?ge_11 ?ge_12 ?ge_13 ?ge_14 ?ge_15 ?ge_16 ?ge_17 ?ge_18 ?ge_19 ?xc_n ?xc_t ?xg_8 ?xk_8 ?xs_8 ?xd_8 ?xa_8 ?xm_8 ?kt_8_0 ?kt_8_1 ?kt_8_2 ?kt_8_3 ?kt_8_4 ?kt_8_5 ?kt_8_6 ?kt_8_7 ?kt_8_8 ?kt_8_9 ?kt_8_10 ?kt_8_11 ?kt_8_12 ?kt_8_13 ?kt_8_14 ?kt_8_15 ?kt_8_16 ?kt_8_17 ?kt_8_18 ?kt_8_19 ?kv_8 ?xx_8 ?xq_8 ?xp_8 ?xt_8 ?a_law_error_of ?l_law_error_of ?c_law_error_of ?k_law_error_of ?xg_4 ?xk_4 ?xs_4 ?xd_4 ?xa_4 ?xm_4 ?kt_4_0 ?kt_4_1 ?kt_4_2 ?kt_4_3 ?kt_4_4 ?kt_4_5 ?kt_4_6 ?kt_4_7 ?kt_4_8 ?kt_4_9 ?kt_4_10 ?kt_4_11 ?kt_4_12 ?kt_4_13 ?kt_4_14 ?kt_4_15 ?kt_4_16 ?kt_4_17 ?kt_4_18 ?kt_4_19 ?kv_4 ?xx_4 ?xp_4 ?xt_4 ?xo_4 ?xz_4 ?xn_4 ?xi_4 ?xj_4 ?l_InvalidStroke___init__ ?c_InvalidStroke___init__ ?k_InvalidStroke___init__ ?xg_12 ?xk_12 ?xs_12 ?xd_12 ?xa_12 ?xm_12 ?kt_12_0 ?kt_12_1 ?kt_12_2 ?kt_12_3 ?kt_12_4 ?kt_12_5 ?kt_12_6 ?kt_12_7 ?kt_12_8 ?kt_12_9 ?kt_12_10 ?kt_12_11 ?kt_12_12 ?kt_12_13 ?kt_12_14 ?kt_12_15 ?kt_12_16 ?kt_12_17 ?kt_12_18 ?kt_12_19 ?kv_12 ?xx_12 ?xp_12 ?xt_12 ?xo_12 ?xz_12 ?xn_12_1 ?xn_12_2 ?xi_12 ?xj_12 ?l_BadText___init__ ?c_BadText___init__ ?k_BadText___init__ ?a_common_divisor ?l_common_divisor ?c_common_divisor ?k_common_divisor ?a_is_whole ?l_is_whole ?c_is_whole ?k_is_whole ?a_is_spot ?l_is_spot ?c_is_spot ?k_is_spot ?a_parts_of ?l_parts_of ?c_parts_of ?k_parts_of ?a_is_stroke ?l_is_stroke ?c_is_stroke ?k_is_stroke ?a_check_strokes ?l_check_strokes ?c_check_strokes ?k_check_strokes ?aCW ?inCW ?l_Drawing___init__ ?c_Drawing___init__ ?k_Drawing___init__ ?pgCW ?hdCW ?poCW ?saCW ?mkCW ?kcCW ?isCW ?nCW_held ?a_Drawing_strokes ?g_Drawing_strokes ?t_Drawing_strokes ?r_Drawing_strokes ?l_Drawing_strokes ?c_Drawing_strokes ?k_Drawing_strokes ?sfCW ?a_Drawing___add__ ?i_Drawing___add__ ?l_Drawing___add__ ?c_Drawing___add__ ?k_Drawing___add__ ?a_Drawing___eq__ ?i_Drawing___eq__ ?l_Drawing___eq__ ?c_Drawing___eq__ ?k_Drawing___eq__ ?haW ?hmW ?kiW ?nfW ?a_is_numeral ?l_is_numeral ?c_is_numeral ?k_is_numeral ?a_number_from ?l_number_from ?c_number_from ?k_number_from ?a_spot_from ?l_spot_from ?c_spot_from ?k_spot_from ?a_first_wrong_word ?l_first_wrong_word ?c_first_wrong_word ?k_first_wrong_word ?a_strokes_from ?l_strokes_from ?c_strokes_from ?k_strokes_from ?a_numeral ?l_numeral ?c_numeral ?k_numeral ?a_word_of ?l_word_of ?c_word_of ?k_word_of ?a_format_drawing ?l_format_drawing ?c_format_drawing ?k_format_drawing ?a_parse_drawing ?l_parse_drawing ?c_parse_drawing ?k_parse_drawing ?a_law_random ?l_law_random ?c_law_random ?k_law_random ?a_law_below ?l_law_below ?c_law_below ?k_law_below ?a_law_step ?l_law_step ?c_law_step ?k_law_step ?a_law_common ?l_law_common ?c_law_common ?k_law_common ?a_law_lowest ?l_law_lowest ?c_law_lowest ?k_law_lowest ?a_law_is_digits ?l_law_is_digits ?c_law_is_digits ?k_law_is_digits ?a_law_is_spot ?l_law_is_spot ?c_law_is_spot ?k_law_is_spot ?a_law_read ?l_law_read ?c_law_read ?k_law_read ?a_law_read_strokes ?l_law_read_strokes ?c_law_read_strokes ?k_law_read_strokes ?a_law_word ?l_law_word ?c_law_word ?k_law_word ?a_law_text ?l_law_text ?c_law_text ?k_law_text ?a_law_bad_word ?l_law_bad_word ?c_law_bad_word ?k_law_bad_word ?a_law_strokes_words ?l_law_strokes_words ?c_law_strokes_words ?k_law_strokes_words ?a_law_spot ?l_law_spot ?c_law_spot ?k_law_spot ?a_law_stroke ?l_law_stroke ?c_law_stroke ?k_law_stroke ?a_law_strokes ?l_law_strokes ?c_law_strokes ?k_law_strokes ?a_law_drawing ?l_law_drawing ?c_law_drawing ?k_law_drawing ?a_law_equal ?l_law_equal ?c_law_equal ?k_law_equal ?a_law ?l_law ?c_law ?q_law ?v_law ?n_law ?h_law
      (case z_abs => k_is)
      (case z_len => k_is)
      (case z_isinstance => k_is)
      (case z_int => k_is)
      (case z_bool => k_is)
      (case z_str => k_is)
      (case z_tuple => k_is)
      (case z_list => k_is)
      (case z_all => k_is)
      (case z_zip => k_is)
      (case z_range => k_is)
      (case z_enumerate => k_is)
      (case z_ValueError => k_is)
      (case mi_MOST_SPOTS => k_is)
      (case mi_MOST_STROKES => k_is)
      (case ms_DIGITS => k_is)
      (case mi_MOST_DIGITS => k_is)
      (case mi_BLOCK => k_is)
      (case g_CB => k_is)
      (case ge_0 => k_is)
      (case ge_1 => k_is)
      (case ge_2 => k_is)
      (case ge_3 => k_is)
      (case ge_4 => k_is)
      (case ge_5 => k_is)
      (case ge_6 => k_is)
      (case ge_7 => k_is)
      (case ge_8 => k_is)
      (case ge_9 => k_is)
      (case ge_10 => k_is)
      (case ge_11 => k_is)
      (case ge_12 => k_is)
      (case ge_13 => k_is)
      (case ge_14 => k_is)
      (case ge_15 => k_is)
      (case ge_16 => k_is)
      (case ge_17 => k_is)
      (case ge_18 => k_is)
      (case ge_19 => k_is)
      (case xc_n => k_is)
      (case xc_t => k_is)
      (case xg_8 => k_is)
      (case xk_8 => k_is)
      (case xs_8 => k_is)
      (case xd_8 => k_is)
      (case xa_8 => k_is)
      (case xm_8 => k_is)
      (case kt_8_0 => first | kernel_rfl | rfl | decide +kernel)
      (case kt_8_1 => first | kernel_rfl | rfl | decide +kernel)
      (case kt_8_2 => first | kernel_rfl | rfl | decide +kernel)
      (case kt_8_3 => first | kernel_rfl | rfl | decide +kernel)
      (case kt_8_4 => first | kernel_rfl | rfl | decide +kernel)
      (case kt_8_5 => first | kernel_rfl | rfl | decide +kernel)
      (case kt_8_6 => first | kernel_rfl | rfl | decide +kernel)
      (case kt_8_7 => first | kernel_rfl | rfl | decide +kernel)
      (case kt_8_8 => first | kernel_rfl | rfl | decide +kernel)
      (case kt_8_9 => first | kernel_rfl | rfl | decide +kernel)
      (case kt_8_10 => first | kernel_rfl | rfl | decide +kernel)
      (case kt_8_11 => first | kernel_rfl | rfl | decide +kernel)
      (case kt_8_12 => first | kernel_rfl | rfl | decide +kernel)
      (case kt_8_13 => first | kernel_rfl | rfl | decide +kernel)
      (case kt_8_14 => first | kernel_rfl | rfl | decide +kernel)
      (case kt_8_15 => first | kernel_rfl | rfl | decide +kernel)
      (case kt_8_16 => first | kernel_rfl | rfl | decide +kernel)
      (case kt_8_17 => first | kernel_rfl | rfl | decide +kernel)
      (case kt_8_18 => first | kernel_rfl | rfl | decide +kernel)
      (case kt_8_19 => first | kernel_rfl | rfl | decide +kernel)
      (case kv_8 => first | kernel_rfl | rfl | decide +kernel)
      (case xx_8 => first | kernel_rfl | rfl | decide +kernel)
      (case xq_8 => k_exc)
      (case xp_8 => k_is)
      (case xt_8 => k_is)
      (case a_law_error_of => k_is)
      (case l_law_error_of => k_is)
      (case c_law_error_of => k_is)
      (case k_law_error_of => k_is)
      (case xg_4 => k_is)
      (case xk_4 => k_is)
      (case xs_4 => k_is)
      (case xd_4 => k_is)
      (case xa_4 => k_is)
      (case xm_4 => k_is)
      (case kt_4_0 => first | kernel_rfl | rfl | decide +kernel)
      (case kt_4_1 => first | kernel_rfl | rfl | decide +kernel)
      (case kt_4_2 => first | kernel_rfl | rfl | decide +kernel)
      (case kt_4_3 => first | kernel_rfl | rfl | decide +kernel)
      (case kt_4_4 => first | kernel_rfl | rfl | decide +kernel)
      (case kt_4_5 => first | kernel_rfl | rfl | decide +kernel)
      (case kt_4_6 => first | kernel_rfl | rfl | decide +kernel)
      (case kt_4_7 => first | kernel_rfl | rfl | decide +kernel)
      (case kt_4_8 => first | kernel_rfl | rfl | decide +kernel)
      (case kt_4_9 => first | kernel_rfl | rfl | decide +kernel)
      (case kt_4_10 => first | kernel_rfl | rfl | decide +kernel)
      (case kt_4_11 => first | kernel_rfl | rfl | decide +kernel)
      (case kt_4_12 => first | kernel_rfl | rfl | decide +kernel)
      (case kt_4_13 => first | kernel_rfl | rfl | decide +kernel)
      (case kt_4_14 => first | kernel_rfl | rfl | decide +kernel)
      (case kt_4_15 => first | kernel_rfl | rfl | decide +kernel)
      (case kt_4_16 => first | kernel_rfl | rfl | decide +kernel)
      (case kt_4_17 => first | kernel_rfl | rfl | decide +kernel)
      (case kt_4_18 => first | kernel_rfl | rfl | decide +kernel)
      (case kt_4_19 => first | kernel_rfl | rfl | decide +kernel)
      (case kv_4 => first | kernel_rfl | rfl | decide +kernel)
      (case xx_4 => first | kernel_rfl | rfl | decide +kernel)
      (case xp_4 => k_is)
      (case xt_4 => k_is)
      (case xo_4 => first | kernel_rfl | rfl | decide +kernel)
      (case xz_4 => k_is)
      (case xn_4 => k_is)
      (case xi_4 => k_is)
      (case xj_4 => k_is)
      (case l_InvalidStroke___init__ => k_is)
      (case c_InvalidStroke___init__ => k_is)
      (case k_InvalidStroke___init__ => k_is)
      (case xg_12 => k_is)
      (case xk_12 => k_is)
      (case xs_12 => k_is)
      (case xd_12 => k_is)
      (case xa_12 => k_is)
      (case xm_12 => k_is)
      (case kt_12_0 => first | kernel_rfl | rfl | decide +kernel)
      (case kt_12_1 => first | kernel_rfl | rfl | decide +kernel)
      (case kt_12_2 => first | kernel_rfl | rfl | decide +kernel)
      (case kt_12_3 => first | kernel_rfl | rfl | decide +kernel)
      (case kt_12_4 => first | kernel_rfl | rfl | decide +kernel)
      (case kt_12_5 => first | kernel_rfl | rfl | decide +kernel)
      (case kt_12_6 => first | kernel_rfl | rfl | decide +kernel)
      (case kt_12_7 => first | kernel_rfl | rfl | decide +kernel)
      (case kt_12_8 => first | kernel_rfl | rfl | decide +kernel)
      (case kt_12_9 => first | kernel_rfl | rfl | decide +kernel)
      (case kt_12_10 => first | kernel_rfl | rfl | decide +kernel)
      (case kt_12_11 => first | kernel_rfl | rfl | decide +kernel)
      (case kt_12_12 => first | kernel_rfl | rfl | decide +kernel)
      (case kt_12_13 => first | kernel_rfl | rfl | decide +kernel)
      (case kt_12_14 => first | kernel_rfl | rfl | decide +kernel)
      (case kt_12_15 => first | kernel_rfl | rfl | decide +kernel)
      (case kt_12_16 => first | kernel_rfl | rfl | decide +kernel)
      (case kt_12_17 => first | kernel_rfl | rfl | decide +kernel)
      (case kt_12_18 => first | kernel_rfl | rfl | decide +kernel)
      (case kt_12_19 => first | kernel_rfl | rfl | decide +kernel)
      (case kv_12 => first | kernel_rfl | rfl | decide +kernel)
      (case xx_12 => first | kernel_rfl | rfl | decide +kernel)
      (case xp_12 => k_is)
      (case xt_12 => k_is)
      (case xo_12 => first | kernel_rfl | rfl | decide +kernel)
      (case xz_12 => k_is)
      (case xn_12_1 => k_is)
      (case xn_12_2 => k_is)
      (case xi_12 => k_is)
      (case xj_12 => k_is)
      (case l_BadText___init__ => k_is)
      (case c_BadText___init__ => k_is)
      (case k_BadText___init__ => k_is)
      (case a_common_divisor => k_is)
      (case l_common_divisor => k_is)
      (case c_common_divisor => k_is)
      (case k_common_divisor => k_is)
      (case a_is_whole => k_is)
      (case l_is_whole => k_is)
      (case c_is_whole => k_is)
      (case k_is_whole => k_is)
      (case a_is_spot => k_is)
      (case l_is_spot => k_is)
      (case c_is_spot => k_is)
      (case k_is_spot => k_is)
      (case a_parts_of => k_is)
      (case l_parts_of => k_is)
      (case c_parts_of => k_is)
      (case k_parts_of => k_is)
      (case a_is_stroke => k_is)
      (case l_is_stroke => k_is)
      (case c_is_stroke => k_is)
      (case k_is_stroke => k_is)
      (case a_check_strokes => k_is)
      (case l_check_strokes => k_is)
      (case c_check_strokes => k_is)
      (case k_check_strokes => k_is)
      (case aCW => k_is)
      (case inCW => k_is)
      (case l_Drawing___init__ => k_is)
      (case c_Drawing___init__ => k_is)
      (case k_Drawing___init__ => k_is)
      (case pgCW => k_is)
      (case hdCW => k_is)
      (case poCW => k_is)
      (case saCW => k_is)
      (case mkCW => k_is)
      (case kcCW => k_is)
      (case isCW => k_is)
      (case nCW_held => k_is)
      (case a_Drawing_strokes => k_is)
      (case g_Drawing_strokes => k_is)
      (case t_Drawing_strokes => k_is)
      (case r_Drawing_strokes => k_is)
      (case l_Drawing_strokes => k_is)
      (case c_Drawing_strokes => k_is)
      (case k_Drawing_strokes => k_is)
      (case sfCW => k_is)
      (case a_Drawing___add__ => k_is)
      (case i_Drawing___add__ => k_is)
      (case l_Drawing___add__ => k_is)
      (case c_Drawing___add__ => k_is)
      (case k_Drawing___add__ => k_is)
      (case a_Drawing___eq__ => k_is)
      (case i_Drawing___eq__ => k_is)
      (case l_Drawing___eq__ => k_is)
      (case c_Drawing___eq__ => k_is)
      (case k_Drawing___eq__ => k_is)
      (case haW => k_is)
      (case hmW => k_is)
      (case kiW => first | kernel_rfl | rfl | decide +kernel)
      (case nfW => first | kernel_rfl | rfl | decide +kernel)
      (case a_is_numeral => k_is)
      (case l_is_numeral => k_is)
      (case c_is_numeral => k_is)
      (case k_is_numeral => k_is)
      (case a_number_from => k_is)
      (case l_number_from => k_is)
      (case c_number_from => k_is)
      (case k_number_from => k_is)
      (case a_spot_from => k_is)
      (case l_spot_from => k_is)
      (case c_spot_from => k_is)
      (case k_spot_from => k_is)
      (case a_first_wrong_word => k_is)
      (case l_first_wrong_word => k_is)
      (case c_first_wrong_word => k_is)
      (case k_first_wrong_word => k_is)
      (case a_strokes_from => k_is)
      (case l_strokes_from => k_is)
      (case c_strokes_from => k_is)
      (case k_strokes_from => k_is)
      (case a_numeral => k_is)
      (case l_numeral => k_is)
      (case c_numeral => k_is)
      (case k_numeral => k_is)
      (case a_word_of => k_is)
      (case l_word_of => k_is)
      (case c_word_of => k_is)
      (case k_word_of => k_is)
      (case a_format_drawing => k_is)
      (case l_format_drawing => k_is)
      (case c_format_drawing => k_is)
      (case k_format_drawing => k_is)
      (case a_parse_drawing => k_is)
      (case l_parse_drawing => k_is)
      (case c_parse_drawing => k_is)
      (case k_parse_drawing => k_is)
      (case a_law_random => k_is)
      (case l_law_random => k_is)
      (case c_law_random => k_is)
      (case k_law_random => k_is)
      (case a_law_below => k_is)
      (case l_law_below => k_is)
      (case c_law_below => k_is)
      (case k_law_below => k_is)
      (case a_law_step => k_is)
      (case l_law_step => k_is)
      (case c_law_step => k_is)
      (case k_law_step => k_is)
      (case a_law_common => k_is)
      (case l_law_common => k_is)
      (case c_law_common => k_is)
      (case k_law_common => k_is)
      (case a_law_lowest => k_is)
      (case l_law_lowest => k_is)
      (case c_law_lowest => k_is)
      (case k_law_lowest => k_is)
      (case a_law_is_digits => k_is)
      (case l_law_is_digits => k_is)
      (case c_law_is_digits => k_is)
      (case k_law_is_digits => k_is)
      (case a_law_is_spot => k_is)
      (case l_law_is_spot => k_is)
      (case c_law_is_spot => k_is)
      (case k_law_is_spot => k_is)
      (case a_law_read => k_is)
      (case l_law_read => k_is)
      (case c_law_read => k_is)
      (case k_law_read => k_is)
      (case a_law_read_strokes => k_is)
      (case l_law_read_strokes => k_is)
      (case c_law_read_strokes => k_is)
      (case k_law_read_strokes => k_is)
      (case a_law_word => k_is)
      (case l_law_word => k_is)
      (case c_law_word => k_is)
      (case k_law_word => k_is)
      (case a_law_text => k_is)
      (case l_law_text => k_is)
      (case c_law_text => k_is)
      (case k_law_text => k_is)
      (case a_law_bad_word => k_is)
      (case l_law_bad_word => k_is)
      (case c_law_bad_word => k_is)
      (case k_law_bad_word => k_is)
      (case a_law_strokes_words => k_is)
      (case l_law_strokes_words => k_is)
      (case c_law_strokes_words => k_is)
      (case k_law_strokes_words => k_is)
      (case a_law_spot => k_is)
      (case l_law_spot => k_is)
      (case c_law_spot => k_is)
      (case k_law_spot => k_is)
      (case a_law_stroke => k_is)
      (case l_law_stroke => k_is)
      (case c_law_stroke => k_is)
      (case k_law_stroke => k_is)
      (case a_law_strokes => k_is)
      (case l_law_strokes => k_is)
      (case c_law_strokes => k_is)
      (case k_law_strokes => k_is)
      (case a_law_drawing => k_is)
      (case l_law_drawing => k_is)
      (case c_law_drawing => k_is)
      (case k_law_drawing => k_is)
      (case a_law_equal => k_is)
      (case l_law_equal => k_is)
      (case c_law_equal => k_is)
      (case k_law_equal => k_is)
      (case a_law => k_is)
      (case l_law => k_is)
      (case c_law => k_is)
      (case q_law => k_is)
      (case v_law => first | exact rfl | (with_unfolding_all exact rfl) | (simp; rfl))
      (case n_law => first | k_is | kernel_rfl | rfl)
      (case h_law => first | kernel_rfl | rfl | decide +kernel)
#print axioms PySem.Challenge.cw_copyarms_k33_texts_of_drawings_holds
