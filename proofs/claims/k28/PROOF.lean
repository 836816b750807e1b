import PyProof.Rows.All
import Wide.All
import OpenK.AllK
import Wide.FinOn
import HandS.ForMost
import HandS.ForExc
import HandS.Flow
import HandS.Style
import HandS.Wide
import HandS.Property
import HandS.Star
import HandS.MakeKw
import HandS.MakeKwOnly
import HandS.OwnEq
import HandS.IsInst
import HandS.Defaults
import HandS.TryOnly
import HandS.NoneIn
import HandS.Lambda
import HandS.EndTab
import HandS.EndOwn
import HandS.ExcOwn
import HandS.ExcIs
import HandS.TupSets
import HandS.Deep
import KE.KDictZip
import HandS.Zip
import HandS.Conv
import HandS.ExcInit
import HandS.ExcField
import KE.KRevSl
import HandS.TupAny
import KE.SortData
import KE.SortKeyHeap
import KE.GoesMore
import OpenK.KOps
import OpenK.KMeth
import KE.KDflt
import KE.KDictWalk
import HandS.Dict
import HandS.Iter
import HandS.DictComp
import HandS.TupLe
import KE.KeyNested
import PyProof.StrOps2
import KE.SortLaws
import KE.KStateDown
import Lean
import HandS.Head0
import HandS.Head1
import HandS.Head2
import PySem.Challenge.RW_copyarms_k28_rows_of_arms
set_option Elab.async false
set_option linter.all false
set_option maxRecDepth 100000
set_option maxHeartbeats 4000000
set_option exponentiation.threshold 100000
namespace My
def loose0 : List PySem.Str := [("_wall" : PySem.Str), ("CopyError" : PySem.Str), ("InvalidSpot" : PySem.Str), ("InvalidTurn" : PySem.Str), ("InvalidTimes" : PySem.Str), ("TooFew" : PySem.Str), ("InvalidStroke" : PySem.Str), ("OpenStroke" : PySem.Str), ("InvalidReach" : PySem.Str), ("OutOfReach" : PySem.Str), ("TooMany" : PySem.Str), ("InvalidSize" : PySem.Str), ("InvalidBox" : PySem.Str), ("Contradiction" : PySem.Str), ("BadText" : PySem.Str), ("BadRow" : PySem.Str), ("UnknownName" : PySem.Str), ("InvalidName" : PySem.Str), ("InvalidCode" : PySem.Str), ("UnknownArm" : PySem.Str)]
def loose1 : List PySem.Str := [("NotFree" : PySem.Str), ("InvalidOperation" : PySem.Str), ("MIDDLE" : PySem.Str), ("ONE" : PySem.Str), ("is_whole" : PySem.Str), ("common_divisor" : PySem.Str), ("is_spot" : PySem.Str), ("check_spot" : PySem.Str), ("check_turn" : PySem.Str), ("spot_at" : PySem.Str), ("fraction" : PySem.Str), ("plus" : PySem.Str), ("negative" : PySem.Str), ("minus" : PySem.Str), ("product" : PySem.Str), ("inverse" : PySem.Str), ("faced" : PySem.Str), ("carried" : PySem.Str), ("Copy" : PySem.Str), ("still_copy" : PySem.Str)]
def loose2 : List PySem.Str := [("square_between" : PySem.Str), ("is_from_to" : PySem.Str), ("MOST_REACH" : PySem.Str), ("Arm" : PySem.Str), ("check_reach" : PySem.Str), ("copy_around" : PySem.Str), ("joint_copy" : PySem.Str), ("MOST_IN_BOX" : PySem.Str), ("check_box" : PySem.Str), ("all_rows" : PySem.Str), ("arms_of" : PySem.Str), ("different_copies" : PySem.Str), ("rows_for" : PySem.Str), ("copy_count" : PySem.Str), ("needless_arms" : PySem.Str), ("copies_without" : PySem.Str), ("_law_random" : PySem.Str), ("_law_below" : PySem.Str), ("_law_step" : PySem.Str), ("_law_common" : PySem.Str)]
def loose3 : List PySem.Str := [("_law_lowest" : PySem.Str), ("_law_spot" : PySem.Str), ("_law_turn" : PySem.Str), ("_law_arm_told" : PySem.Str), ("_law_box" : PySem.Str), ("_law_arm" : PySem.Str), ("_law_rows" : PySem.Str), ("_law_times" : PySem.Str), ("_law_over" : PySem.Str), ("_law_plus" : PySem.Str), ("_law_minus" : PySem.Str), ("_law_about" : PySem.Str), ("_law_carried" : PySem.Str), ("_law_made_by" : PySem.Str), ("_law_told" : PySem.Str), ("_law_equal" : PySem.Str), ("_law_copy" : PySem.Str), ("_law_error_of" : PySem.Str), ("_law_all_raise" : PySem.Str)]
def loose : List PySem.Str := loose0 ++ loose1 ++ loose2 ++ loose3
abbrev R : PySem.W.OpenRow := PySem.W.OpenLaw.row PySem.Challenge.rw_copyarms_k28_rows_of_arms
abbrev qv : PySem.Program := PySem.W.view R.prog [87]
end My
namespace My
section
local macro_rules | `(tactic| o_head $_) => `(tactic| assumption)
theorem fragHere (h : R.Holds) : R.Holds := by
  k_head
end
noncomputable abbrev KF : PySem.Params → PySem.W.Frag := fragHere.heap_1
noncomputable def addrs : List Nat := (KF { strHash := fun _ => 0, shareClass := fun _ => 0, mergeTok := fun t => t, idOf := fun _ => 0, idOfShared := fun _ _ => 0, followText := fun _ => false, idOfImm := fun _ => 0 }).map (·.1)
theorem addrs_eq (P : PySem.Params) : addrs = (KF P).map (·.1) := by kernel_rfl
noncomputable def ob (s : PySem.W.SharedT) : (PySem.W.kHook KF addrs addrs_eq).α := addrs.map (HandSHeadRun.getT s)
theorem ob_eq (s : PySem.W.SharedT) : ob s = (PySem.W.kHook KF addrs addrs_eq).obs s.abs := List.map_congr_left fun a _ => HandSHeadRun.getT_eq s a
theorem run (w : PySem.World) : HandSHeadRun.RunEq R qv (PySem.W.kHook KF addrs addrs_eq) ob 20000 loose w := by
  intro os
  kernel_rfl
end My
namespace Mth
/-! ### numbers of two parts, in lowest terms -/
abbrev T3 := Int × Int × Int
def g3 (x y d : Int) : Int := ((Int.gcd ((Int.gcd x y : Nat) : Int) d : Nat) : Int)
def sg (x y d : Int) : Int := if d < 0 then -(g3 x y d) else g3 x y d
def low (x y d : Int) : T3 := (x.fdiv (sg x y d), y.fdiv (sg x y d), d.fdiv (sg x y d))
def Ok (s : T3) : Prop := 0 < s.2.2 ∧ g3 s.1 s.2.1 s.2.2 = 1
def re (s : T3) : Rat := (s.1 : Rat) / (s.2.2 : Rat)
def im (s : T3) : Rat := (s.2.1 : Rat) / (s.2.2 : Rat)
theorem g3_pos {x y d : Int} (hd : d ≠ 0) : 0 < g3 x y d := by
  unfold g3
  have : 0 < Int.gcd ((Int.gcd x y : Nat) : Int) d := Int.gcd_pos_of_ne_zero_right _ hd
  omega
theorem g3_dx {x y d : Int} : g3 x y d ∣ x := Int.dvd_trans (Int.gcd_dvd_left _ _) (Int.gcd_dvd_left _ _)
theorem g3_dy {x y d : Int} : g3 x y d ∣ y := Int.dvd_trans (Int.gcd_dvd_left _ _) (Int.gcd_dvd_right _ _)
theorem g3_dd {x y d : Int} : g3 x y d ∣ d := Int.gcd_dvd_right _ _
theorem g3_great {x y d c : Int} (h1 : c ∣ x) (h2 : c ∣ y) (h3 : c ∣ d) : c ∣ g3 x y d := Int.dvd_coe_gcd (Int.dvd_coe_gcd h1 h2) h3
theorem sg_ne {x y d : Int} (hd : d ≠ 0) : sg x y d ≠ 0 := by
  have := g3_pos (x := x) (y := y) hd
  unfold sg; split <;> omega
theorem sg_of {x y d : Int} : sg x y d = g3 x y d ∨ sg x y d = -g3 x y d := by unfold sg; split <;> simp
theorem sg_dx {x y d : Int} : sg x y d ∣ x := by rcases @sg_of x y d with h | h <;> rw [h]; exact g3_dx; exact Int.neg_dvd.mpr g3_dx
theorem sg_dy {x y d : Int} : sg x y d ∣ y := by rcases @sg_of x y d with h | h <;> rw [h]; exact g3_dy; exact Int.neg_dvd.mpr g3_dy
theorem sg_dd {x y d : Int} : sg x y d ∣ d := by rcases @sg_of x y d with h | h <;> rw [h]; exact g3_dd; exact Int.neg_dvd.mpr g3_dd
/-- the three parts, times the divisor -/
theorem low_mul (x y d : Int) : x = sg x y d * (low x y d).1 ∧ y = sg x y d * (low x y d).2.1 ∧ d = sg x y d * (low x y d).2.2 := by
  unfold low
  refine ⟨?_, ?_, ?_⟩ <;> dsimp only
  · rw [Int.fdiv_eq_ediv_of_dvd sg_dx]; exact (Int.mul_ediv_cancel' sg_dx).symm
  · rw [Int.fdiv_eq_ediv_of_dvd sg_dy]; exact (Int.mul_ediv_cancel' sg_dy).symm
  · rw [Int.fdiv_eq_ediv_of_dvd sg_dd]; exact (Int.mul_ediv_cancel' sg_dd).symm
theorem low_pos {x y d : Int} (hd : d ≠ 0) : 0 < (low x y d).2.2 := by
  have h := (low_mul x y d).2.2
  have hg := g3_pos (x := x) (y := y) hd
  generalize (low x y d).2.2 = z at h ⊢
  unfold sg at h
  rcases Int.lt_trichotomy z 0 with hz | hz | hz
  · exfalso
    split at h
    · have : 0 < (g3 x y d) * (-z) := Int.mul_pos hg (by omega)
      have e : g3 x y d * -z = - g3 x y d * z := by grind
      omega
    · have : 0 < (g3 x y d) * (-z) := Int.mul_pos hg (by omega)
      have e : g3 x y d * -z = - (g3 x y d * z) := by grind
      omega
  · subst hz; simp at h; exact absurd h hd
  · exact hz
theorem low_ok {x y d : Int} (hd : d ≠ 0) : Ok (low x y d) := by
  refine ⟨low_pos hd, ?_⟩
  obtain ⟨h1, h2, h3⟩ := low_mul x y d
  have hs := sg_ne (x := x) (y := y) hd
  have hp := low_pos (x := x) (y := y) hd
  generalize (low x y d).1 = a at *
  generalize (low x y d).2.1 = b at *
  generalize (low x y d).2.2 = c at *
  have hg := g3_pos (x := a) (y := b) (d := c) (by omega)
  have k1 : sg x y d * g3 a b c ∣ x := by
    obtain ⟨u, hu⟩ := @g3_dx a b c
    exact ⟨u, by rw [Int.mul_assoc, ← hu, ← h1]⟩
  have k2 : sg x y d * g3 a b c ∣ y := by
    obtain ⟨u, hu⟩ := @g3_dy a b c
    exact ⟨u, by rw [Int.mul_assoc, ← hu, ← h2]⟩
  have k3 : sg x y d * g3 a b c ∣ d := by
    obtain ⟨u, hu⟩ := @g3_dd a b c
    exact ⟨u, by rw [Int.mul_assoc, ← hu, ← h3]⟩
  have k := g3_great k1 k2 k3
  have k' : sg x y d * g3 a b c ∣ sg x y d := by
    rcases @sg_of x y d with h | h
    · rw [h] at k ⊢; exact k
    · rw [h]; rw [h] at k; exact (Int.dvd_neg).mpr k
  obtain ⟨u, hu⟩ := k'
  have e : g3 a b c * u = 1 := by
    have : sg x y d * (g3 a b c * u) = sg x y d * 1 := by rw [← Int.mul_assoc, ← hu, Int.mul_one]
    exact Int.eq_of_mul_eq_mul_left hs this
  exact Int.eq_one_of_dvd_one (by omega) ⟨u, e.symm⟩
theorem cast_ne {d : Int} (h : d ≠ 0) : (d : Rat) ≠ 0 := by simpa using h
theorem low_re {x y d : Int} (hd : d ≠ 0) : re (low x y d) = (x : Rat) / (d : Rat) := by
  obtain ⟨h1, h2, h3⟩ := low_mul x y d
  have hs := cast_ne (sg_ne (x := x) (y := y) hd)
  have hp := cast_ne (show (low x y d).2.2 ≠ 0 by have := low_pos (x := x) (y := y) hd; omega)
  unfold re
  have e1 : (x : Rat) = (sg x y d : Rat) * ((low x y d).1 : Rat) := by rw [← Rat.intCast_mul, ← h1]
  have e3 : (d : Rat) = (sg x y d : Rat) * ((low x y d).2.2 : Rat) := by rw [← Rat.intCast_mul, ← h3]
  generalize (sg x y d : Rat) = s at *
  generalize ((low x y d).1 : Rat) = a at *
  generalize ((low x y d).2.2 : Rat) = c at *
  grind
theorem low_im {x y d : Int} (hd : d ≠ 0) : im (low x y d) = (y : Rat) / (d : Rat) := by
  obtain ⟨h1, h2, h3⟩ := low_mul x y d
  have hs := cast_ne (sg_ne (x := x) (y := y) hd)
  have hp := cast_ne (show (low x y d).2.2 ≠ 0 by have := low_pos (x := x) (y := y) hd; omega)
  unfold im
  have e1 : (y : Rat) = (sg x y d : Rat) * ((low x y d).2.1 : Rat) := by rw [← Rat.intCast_mul, ← h2]
  have e3 : (d : Rat) = (sg x y d : Rat) * ((low x y d).2.2 : Rat) := by rw [← Rat.intCast_mul, ← h3]
  generalize (sg x y d : Rat) = s at *
  generalize ((low x y d).2.1 : Rat) = a at *
  generalize ((low x y d).2.2 : Rat) = c at *
  grind
theorem div_eq {a b c d : Int} (hb : b ≠ 0) (hd : d ≠ 0) (h : (a : Rat) / (b : Rat) = (c : Rat) / (d : Rat)) : a * d = c * b := by
  have h1 := cast_ne hb
  have h2 := cast_ne hd
  have : (a : Rat) * (d : Rat) = (c : Rat) * (b : Rat) := by grind
  rw [← Rat.intCast_mul, ← Rat.intCast_mul] at this
  exact Rat.intCast_inj.mp this
theorem dvd_of {s t : T3} (hs : Ok s) (ht : Ok t) (h1 : s.1 * t.2.2 = t.1 * s.2.2) (h2 : s.2.1 * t.2.2 = t.2.1 * s.2.2) : s.2.2 ∣ t.2.2 := by
  have a : s.2.2 ∣ s.1 * t.2.2 := ⟨t.1, by rw [h1, Int.mul_comm]⟩
  have b : s.2.2 ∣ s.2.1 * t.2.2 := ⟨t.2.1, by rw [h2, Int.mul_comm]⟩
  have c := Int.dvd_coe_gcd a b
  rw [Int.gcd_mul_right] at c
  have d : s.2.2 ∣ s.2.2 * ((t.2.2.natAbs : Nat) : Int) := ⟨_, rfl⟩
  have c' : s.2.2 ∣ ((Int.gcd s.1 s.2.1 : Nat) : Int) * ((t.2.2.natAbs : Nat) : Int) := by rw [← Int.natCast_mul]; exact c
  have e := Int.dvd_coe_gcd c' d
  rw [Int.gcd_mul_right] at e
  have g := hs.2
  unfold g3 at g
  have g' : Int.gcd ((Int.gcd s.1 s.2.1 : Nat) : Int) s.2.2 = 1 := by omega
  rw [g'] at e
  have ht2 := ht.1
  have e2 : (((1 * ((t.2.2.natAbs : Nat) : Int).natAbs : Nat)) : Int) = t.2.2 := by omega
  rw [e2] at e
  exact e
theorem ext {s t : T3} (hs : Ok s) (ht : Ok t) (h1 : re s = re t) (h2 : im s = im t) : s = t := by
  have ps := hs.1
  have pt := ht.1
  have e1 := div_eq (by omega) (by omega) h1
  have e2 := div_eq (by omega) (by omega) h2
  have d1 := dvd_of hs ht e1 e2
  have d2 := dvd_of ht hs e1.symm e2.symm
  have e3 : s.2.2 = t.2.2 := Int.le_antisymm (Int.le_of_dvd pt d1) (Int.le_of_dvd ps d2)
  obtain ⟨a, b, c⟩ := s
  obtain ⟨u, v, w⟩ := t
  dsimp only at *
  subst e3
  have q1 := Int.eq_of_mul_eq_mul_right (by omega) e1
  have q2 := Int.eq_of_mul_eq_mul_right (by omega) e2
  rw [q1, q2]
/-! ### reckoning -/
def plus (a b : T3) : T3 := low (a.1 * b.2.2 + b.1 * a.2.2) (a.2.1 * b.2.2 + b.2.1 * a.2.2) (a.2.2 * b.2.2)
def times (a b : T3) : T3 := low (a.1 * b.1 - a.2.1 * b.2.1) (a.1 * b.2.1 + a.2.1 * b.1) (a.2.2 * b.2.2)
def over (a : T3) : T3 := (a.1, -a.2.1, a.2.2)
def neg (a : T3) : T3 := (-a.1, -a.2.1, a.2.2)
def inv (a : T3) : T3 := low (a.1 * a.2.2) (-a.2.1 * a.2.2) (a.1 * a.1 + a.2.1 * a.2.1)
def face (a : T3) (m : Bool) : T3 := if m = true then over a else a
def car (t s : T3) (m : Bool) (z : T3) : T3 := plus (times t (face z m)) s
theorem Ok.ne {a : T3} (h : Ok a) : a.2.2 ≠ 0 := by have := h.1; omega
theorem mul_ne {a b : Int} (ha : a ≠ 0) (hb : b ≠ 0) : a * b ≠ 0 := fun h => (Int.mul_eq_zero.mp h).elim ha hb
theorem plus_ok {a b : T3} (ha : Ok a) (hb : Ok b) : Ok (plus a b) := low_ok (mul_ne ha.ne hb.ne)
theorem times_ok {a b : T3} (ha : Ok a) (hb : Ok b) : Ok (times a b) := low_ok (mul_ne ha.ne hb.ne)
theorem over_ok {a : T3} (ha : Ok a) : Ok (over a) := by
  refine ⟨ha.1, ?_⟩
  have h := ha.2
  unfold g3 over at *
  dsimp only at *
  rw [Int.gcd_neg]; exact h
theorem neg_ok {a : T3} (ha : Ok a) : Ok (neg a) := by
  refine ⟨ha.1, ?_⟩
  have h := ha.2
  unfold g3 neg at *
  dsimp only at *
  rw [Int.gcd_neg, Int.neg_gcd]; exact h
theorem face_ok {a : T3} (ha : Ok a) (m : Bool) : Ok (face a m) := by
  unfold face; split
  · exact over_ok ha
  · exact ha
theorem car_ok {t s z : T3} {m : Bool} (ht : Ok t) (hs : Ok s) (hz : Ok z) : Ok (car t s m z) := plus_ok (times_ok ht (face_ok hz m)) hs
def Nz (a : T3) : Prop := a.1 ≠ 0 ∨ a.2.1 ≠ 0
theorem sq_ne {a : T3} (h : Nz a) : a.1 * a.1 + a.2.1 * a.2.1 ≠ 0 := by
  have h1 : 0 ≤ a.1 * a.1 := by rcases Int.le_total 0 a.1 with h | h; exact Int.mul_nonneg h h; exact Int.mul_nonneg_of_nonpos_of_nonpos h h
  have h2 : 0 ≤ a.2.1 * a.2.1 := by rcases Int.le_total 0 a.2.1 with h | h; exact Int.mul_nonneg h h; exact Int.mul_nonneg_of_nonpos_of_nonpos h h
  rcases h with h | h
  · have := mul_ne h h; omega
  · have := mul_ne h h; omega
theorem inv_ok {a : T3} (h : Nz a) : Ok (inv a) := low_ok (sq_ne h)
theorem re_plus {a b : T3} (ha : Ok a) (hb : Ok b) : re (plus a b) = re a + re b := by
  unfold plus
  rw [low_re (mul_ne ha.ne hb.ne)]
  have h1 := cast_ne ha.ne
  have h2 := cast_ne hb.ne
  unfold re
  simp only [Rat.intCast_add, Rat.intCast_mul]
  grind
theorem im_plus {a b : T3} (ha : Ok a) (hb : Ok b) : im (plus a b) = im a + im b := by
  unfold plus
  rw [low_im (mul_ne ha.ne hb.ne)]
  have h1 := cast_ne ha.ne
  have h2 := cast_ne hb.ne
  unfold im
  simp only [Rat.intCast_add, Rat.intCast_mul]
  grind
theorem re_times {a b : T3} (ha : Ok a) (hb : Ok b) : re (times a b) = re a * re b - im a * im b := by
  unfold times
  rw [low_re (mul_ne ha.ne hb.ne)]
  have h1 := cast_ne ha.ne
  have h2 := cast_ne hb.ne
  unfold re im
  simp only [Rat.intCast_sub, Rat.intCast_mul]
  grind
theorem im_times {a b : T3} (ha : Ok a) (hb : Ok b) : im (times a b) = re a * im b + im a * re b := by
  unfold times
  rw [low_im (mul_ne ha.ne hb.ne)]
  have h1 := cast_ne ha.ne
  have h2 := cast_ne hb.ne
  unfold re im
  simp only [Rat.intCast_add, Rat.intCast_mul]
  grind
theorem re_over (a : T3) : re (over a) = re a := rfl
theorem im_over (a : T3) : im (over a) = - im a := by
  unfold im over
  simp only [Rat.intCast_neg]
  grind
theorem re_neg (a : T3) : re (neg a) = - re a := by
  unfold re neg
  simp only [Rat.intCast_neg]
  grind
theorem im_neg (a : T3) : im (neg a) = - im a := by
  unfold im neg
  simp only [Rat.intCast_neg]
  grind
theorem re_face (a : T3) (m : Bool) : re (face a m) = re a := by
  unfold face; split <;> first | exact re_over a | rfl
theorem im_face (a : T3) (m : Bool) : im (face a m) = (if m = true then -1 else 1) * im a := by
  unfold face; split
  · rw [im_over]; grind
  · grind
/-- the square of the size -/
def nn (a : T3) : Rat := re a * re a + im a * im a
theorem nn_eq {a : T3} (ha : Ok a) : nn a * ((a.2.2 : Rat) * (a.2.2 : Rat)) = ((a.1 * a.1 + a.2.1 * a.2.1 : Int) : Rat) := by
  have h1 := cast_ne ha.ne
  unfold nn re im
  simp only [Rat.intCast_add, Rat.intCast_mul]
  grind
theorem nn_ne {a : T3} (ha : Ok a) (h : Nz a) : nn a ≠ 0 := by
  intro e
  have q := nn_eq ha
  rw [e] at q
  have : ((a.1 * a.1 + a.2.1 * a.2.1 : Int) : Rat) = 0 := by rw [← q]; grind
  exact cast_ne (sq_ne h) this
theorem re_inv {a : T3} (ha : Ok a) (h : Nz a) : re (inv a) = re a / nn a := by
  have q := nn_eq ha
  have n := nn_ne ha h
  have h1 := cast_ne ha.ne
  have h2 := cast_ne (sq_ne h)
  unfold inv
  rw [low_re (sq_ne h), ← q]
  unfold re
  simp only [Rat.intCast_mul]
  rw [← q] at h2
  generalize nn a = k at *
  grind
theorem im_inv {a : T3} (ha : Ok a) (h : Nz a) : im (inv a) = - im a / nn a := by
  have q := nn_eq ha
  have n := nn_ne ha h
  have h1 := cast_ne ha.ne
  have h2 := cast_ne (sq_ne h)
  unfold inv
  rw [low_im (sq_ne h), ← q]
  unfold im
  simp only [Rat.intCast_mul, Rat.intCast_neg]
  rw [← q] at h2
  generalize nn a = k at *
  grind
theorem nz_iff {a : T3} (ha : Ok a) : Nz a ↔ nn a ≠ 0 := by
  refine ⟨nn_ne ha, fun h => ?_⟩
  by_cases h1 : a.1 = 0
  · by_cases h2 : a.2.1 = 0
    · exfalso; apply h; unfold nn re im; rw [h1, h2]; grind
    · exact .inr h2
  · exact .inl h1
theorem nn_times {a b : T3} (ha : Ok a) (hb : Ok b) : nn (times a b) = nn a * nn b := by
  unfold nn; rw [re_times ha hb, im_times ha hb]; grind
theorem nn_face (a : T3) (m : Bool) : nn (face a m) = nn a := by
  unfold nn; rw [re_face, im_face]; split <;> grind
theorem nn_inv {a : T3} (ha : Ok a) (h : Nz a) : nn (inv a) = 1 / nn a := by
  have n := nn_ne ha h
  have e : nn (inv a) = (re a / nn a) * (re a / nn a) + (- im a / nn a) * (- im a / nn a) := by
    rw [← re_inv ha h, ← im_inv ha h]; rfl
  rw [e]
  have q : nn a = re a * re a + im a * im a := rfl
  generalize nn a = k at *
  grind
theorem times_nz {a b : T3} (ha : Ok a) (hb : Ok b) (na : Nz a) (nb : Nz b) : Nz (times a b) := (nz_iff (times_ok ha hb)).mpr (by
  rw [nn_times ha hb]
  have := nn_ne ha na
  have := nn_ne hb nb
  grind)
theorem face_nz {a : T3} (ha : Ok a) (na : Nz a) (m : Bool) : Nz (face a m) := (nz_iff (face_ok ha m)).mpr (by rw [nn_face]; exact nn_ne ha na)
theorem inv_nz {a : T3} (ha : Ok a) (na : Nz a) : Nz (inv a) := (nz_iff (inv_ok na)).mpr (by
  rw [nn_inv ha na]
  have := nn_ne ha na
  grind)
/-! ### copies -/
structure Cp where
  t : T3
  s : T3
  m : Bool
  deriving DecidableEq
structure CpOk (c : Cp) : Prop where
  t : Ok c.t
  n : Nz c.t
  s : Ok c.s
def ap (c : Cp) (z : T3) : T3 := car c.t c.s c.m z
def jn (a b : Cp) : Cp := ⟨times b.t (face a.t b.m), car b.t b.s b.m a.s, a.m != b.m⟩
def bk (c : Cp) : Cp := ⟨face (inv c.t) c.m, face (neg (times (inv c.t) c.s)) c.m, c.m⟩
def still : Cp := ⟨(1, 0, 1), (0, 0, 1), false⟩
theorem still_ok : CpOk still := ⟨⟨by decide, by decide⟩, .inl (by decide), ⟨by decide, by decide⟩⟩
theorem jn_ok {a b : Cp} (ha : CpOk a) (hb : CpOk b) : CpOk (jn a b) :=
  ⟨times_ok hb.t (face_ok ha.t _), times_nz hb.t (face_ok ha.t _) hb.n (face_nz ha.t ha.n _), car_ok hb.t hb.s ha.s⟩
theorem bk_ok {c : Cp} (h : CpOk c) : CpOk (bk c) :=
  ⟨face_ok (inv_ok h.n) _, face_nz (inv_ok h.n) (inv_nz h.t h.n) _, face_ok (neg_ok (times_ok (inv_ok h.n) h.s)) _⟩
theorem re_car {t s z : T3} {m : Bool} (ht : Ok t) (hs : Ok s) (hz : Ok z) : re (car t s m z) = re t * re z - im t * ((if m = true then -1 else 1) * im z) + re s := by
  unfold car
  rw [re_plus (times_ok ht (face_ok hz m)) hs, re_times ht (face_ok hz m), re_face, im_face]
theorem im_car {t s z : T3} {m : Bool} (ht : Ok t) (hs : Ok s) (hz : Ok z) : im (car t s m z) = re t * ((if m = true then -1 else 1) * im z) + im t * re z + im s := by
  unfold car
  rw [im_plus (times_ok ht (face_ok hz m)) hs, im_times ht (face_ok hz m), re_face, im_face]
theorem ap_ok {c : Cp} {z : T3} (h : CpOk c) (hz : Ok z) : Ok (ap c z) := car_ok h.t h.s hz
theorem jn_ap {a b : Cp} (ha : CpOk a) (hb : CpOk b) {z : T3} (hz : Ok z) : ap (jn a b) z = ap b (ap a z) := by
  have hj := jn_ok ha hb
  refine ext (ap_ok hj hz) (ap_ok hb (ap_ok ha hz)) ?_ ?_
  · unfold ap
    rw [re_car hj.t hj.s hz, re_car hb.t hb.s (car_ok ha.t ha.s hz), re_car ha.t ha.s hz, im_car ha.t ha.s hz]
    show re (times b.t (face a.t b.m)) * re z - im (times b.t (face a.t b.m)) * ((if (a.m != b.m) = true then -1 else 1) * im z) + re (car b.t b.s b.m a.s) = _
    rw [re_times hb.t (face_ok ha.t _), im_times hb.t (face_ok ha.t _), re_face, im_face, re_car hb.t hb.s ha.s]
    cases a.m <;> cases b.m <;> simp <;> grind
  · unfold ap
    rw [im_car hj.t hj.s hz, im_car hb.t hb.s (car_ok ha.t ha.s hz), re_car ha.t ha.s hz, im_car ha.t ha.s hz]
    show re (times b.t (face a.t b.m)) * ((if (a.m != b.m) = true then -1 else 1) * im z) + im (times b.t (face a.t b.m)) * re z + im (car b.t b.s b.m a.s) = _
    rw [re_times hb.t (face_ok ha.t _), im_times hb.t (face_ok ha.t _), re_face, im_face, im_car hb.t hb.s ha.s]
    cases a.m <;> cases b.m <;> simp <;> grind
theorem cp_ext {a b : Cp} (ha : CpOk a) (hb : CpOk b) (h1 : re a.t = re b.t) (h2 : im a.t = im b.t) (h3 : re a.s = re b.s) (h4 : im a.s = im b.s) (h5 : a.m = b.m) : a = b := by
  have e1 := ext ha.t hb.t h1 h2
  have e2 := ext ha.s hb.s h3 h4
  cases a; cases b
  dsimp only at e1 e2 h5
  rw [e1, e2, h5]
theorem re_jt {a b : Cp} (ha : CpOk a) (hb : CpOk b) : re (jn a b).t = re b.t * re a.t - im b.t * ((if b.m = true then -1 else 1) * im a.t) := by
  show re (times b.t (face a.t b.m)) = _
  rw [re_times hb.t (face_ok ha.t _), re_face, im_face]
theorem im_jt {a b : Cp} (ha : CpOk a) (hb : CpOk b) : im (jn a b).t = re b.t * ((if b.m = true then -1 else 1) * im a.t) + im b.t * re a.t := by
  show im (times b.t (face a.t b.m)) = _
  rw [im_times hb.t (face_ok ha.t _), re_face, im_face]
theorem re_js {a b : Cp} (ha : CpOk a) (hb : CpOk b) : re (jn a b).s = re b.t * re a.s - im b.t * ((if b.m = true then -1 else 1) * im a.s) + re b.s := re_car hb.t hb.s ha.s
theorem im_js {a b : Cp} (ha : CpOk a) (hb : CpOk b) : im (jn a b).s = re b.t * ((if b.m = true then -1 else 1) * im a.s) + im b.t * re a.s + im b.s := im_car hb.t hb.s ha.s
theorem jn_m (a b : Cp) : (jn a b).m = (a.m != b.m) := rfl
theorem jn_assoc {a b c : Cp} (ha : CpOk a) (hb : CpOk b) (hc : CpOk c) : jn (jn a b) c = jn a (jn b c) := by
  have h1 := jn_ok ha hb
  have h2 := jn_ok hb hc
  refine cp_ext (jn_ok h1 hc) (jn_ok ha h2) ?_ ?_ ?_ ?_ ?_
  · rw [re_jt h1 hc, re_jt ha h2, re_jt ha hb, im_jt ha hb, re_jt hb hc, im_jt hb hc, jn_m]
    cases b.m <;> cases c.m <;> simp <;> grind
  · rw [im_jt h1 hc, im_jt ha h2, re_jt ha hb, im_jt ha hb, re_jt hb hc, im_jt hb hc, jn_m]
    cases b.m <;> cases c.m <;> simp <;> grind
  · rw [re_js h1 hc, re_js ha h2, re_js ha hb, im_js ha hb, re_js hb hc, re_jt hb hc, im_jt hb hc, jn_m]
    cases b.m <;> cases c.m <;> simp <;> grind
  · rw [im_js h1 hc, im_js ha h2, re_js ha hb, im_js ha hb, im_js hb hc, re_jt hb hc, im_jt hb hc, jn_m]
    cases b.m <;> cases c.m <;> simp <;> grind
  · show ((a.m != b.m) != c.m) = (a.m != (b.m != c.m))
    cases a.m <;> cases b.m <;> cases c.m <;> rfl
theorem re_1 : re (1, 0, 1) = 1 := by unfold re; decide +kernel
theorem im_1 : im (1, 0, 1) = 0 := by unfold im; decide +kernel
theorem re_0 : re (0, 0, 1) = 0 := by unfold re; decide +kernel
theorem im_0 : im (0, 0, 1) = 0 := by unfold im; decide +kernel
theorem jn_still {a : Cp} (ha : CpOk a) : jn a still = a := by
  refine cp_ext (jn_ok ha still_ok) ha ?_ ?_ ?_ ?_ ?_
  · rw [re_jt ha still_ok]; simp only [still, re_1, im_1]; grind
  · rw [im_jt ha still_ok]; simp only [still, re_1, im_1]; grind
  · rw [re_js ha still_ok]; simp only [still, re_1, im_1, re_0, im_0]; grind
  · rw [im_js ha still_ok]; simp only [still, re_1, im_1, re_0, im_0]; grind
  · rw [jn_m]; simp [still]
theorem still_jn {a : Cp} (ha : CpOk a) : jn still a = a := by
  refine cp_ext (jn_ok still_ok ha) ha ?_ ?_ ?_ ?_ ?_
  · rw [re_jt still_ok ha]; simp only [still, re_1, im_1]; grind
  · rw [im_jt still_ok ha]; simp only [still, re_1, im_1]; grind
  · rw [re_js still_ok ha]; simp only [still, re_1, im_1, re_0, im_0]; grind
  · rw [im_js still_ok ha]; simp only [still, re_1, im_1, re_0, im_0]; grind
  · rw [jn_m]; simp [still]
theorem re_bt {a : Cp} (ha : CpOk a) : re (bk a).t = re a.t / nn a.t := by
  show re (face (inv a.t) a.m) = _
  rw [re_face, re_inv ha.t ha.n]
theorem im_bt {a : Cp} (ha : CpOk a) : im (bk a).t = (if a.m = true then -1 else 1) * (- im a.t / nn a.t) := by
  show im (face (inv a.t) a.m) = _
  rw [im_face, im_inv ha.t ha.n]
theorem re_bs {a : Cp} (ha : CpOk a) : re (bk a).s = -((re a.t / nn a.t) * re a.s - (- im a.t / nn a.t) * im a.s) := by
  show re (face (neg (times (inv a.t) a.s)) a.m) = _
  rw [re_face, re_neg, re_times (inv_ok ha.n) ha.s, re_inv ha.t ha.n, im_inv ha.t ha.n]
theorem im_bs {a : Cp} (ha : CpOk a) : im (bk a).s = (if a.m = true then -1 else 1) * -((re a.t / nn a.t) * im a.s + (- im a.t / nn a.t) * re a.s) := by
  show im (face (neg (times (inv a.t) a.s)) a.m) = _
  rw [im_face, im_neg, im_times (inv_ok ha.n) ha.s, re_inv ha.t ha.n, im_inv ha.t ha.n]
theorem jn_bk {a : Cp} (ha : CpOk a) : jn a (bk a) = still := by
  have hb := bk_ok ha
  have n := nn_ne ha.t ha.n
  have q : nn a.t = re a.t * re a.t + im a.t * im a.t := rfl
  have em : (bk a).m = a.m := rfl
  refine cp_ext (jn_ok ha hb) still_ok ?_ ?_ ?_ ?_ ?_
  · rw [re_jt ha hb, re_bt ha, im_bt ha, em]; simp only [still, re_1, im_1]
    generalize nn a.t = k at *
    cases a.m <;> simp <;> grind
  · rw [im_jt ha hb, re_bt ha, im_bt ha, em]; simp only [still, re_1, im_1]
    generalize nn a.t = k at *
    cases a.m <;> simp <;> grind
  · rw [re_js ha hb, re_bt ha, im_bt ha, re_bs ha, em]; simp only [still, re_0, im_0]
    generalize nn a.t = k at *
    cases a.m <;> simp <;> grind
  · rw [im_js ha hb, re_bt ha, im_bt ha, im_bs ha, em]; simp only [still, re_0, im_0]
    generalize nn a.t = k at *
    cases a.m <;> simp <;> grind
  · show (a.m != a.m) = false
    simp
theorem bk_jn {a : Cp} (ha : CpOk a) : jn (bk a) a = still := by
  have hb := bk_ok ha
  have n := nn_ne ha.t ha.n
  have q : nn a.t = re a.t * re a.t + im a.t * im a.t := rfl
  have em : (bk a).m = a.m := rfl
  refine cp_ext (jn_ok hb ha) still_ok ?_ ?_ ?_ ?_ ?_
  · rw [re_jt hb ha, re_bt ha, im_bt ha]; simp only [still, re_1, im_1]
    generalize nn a.t = k at *
    cases a.m <;> simp <;> grind
  · rw [im_jt hb ha, re_bt ha, im_bt ha]; simp only [still, re_1, im_1]
    generalize nn a.t = k at *
    cases a.m <;> simp <;> grind
  · rw [re_js hb ha, re_bs ha, im_bs ha]; simp only [still, re_0, im_0]
    generalize nn a.t = k at *
    cases a.m <;> simp <;> grind
  · rw [im_js hb ha, re_bs ha, im_bs ha]; simp only [still, re_0, im_0]
    generalize nn a.t = k at *
    cases a.m <;> simp <;> grind
  · show (a.m != a.m) = false
    simp
/-- what brings back is one -/
theorem bk_uniq {a b : Cp} (ha : CpOk a) (hb : CpOk b) (h : jn a b = still) : b = bk a := by
  have e : jn (jn (bk a) a) b = jn (bk a) (jn a b) := jn_assoc (bk_ok ha) ha hb
  rw [bk_jn ha, h, still_jn hb, jn_still (bk_ok ha)] at e
  exact e
theorem bk_bk {a : Cp} (ha : CpOk a) : bk (bk a) = a := (bk_uniq (bk_ok ha) ha (bk_jn ha)).symm
theorem bk_jn_eq {a b : Cp} (ha : CpOk a) (hb : CpOk b) : bk (jn a b) = jn (bk b) (bk a) := by
  refine (bk_uniq (jn_ok ha hb) (jn_ok (bk_ok hb) (bk_ok ha)) ?_).symm
  rw [jn_assoc ha hb (jn_ok (bk_ok hb) (bk_ok ha)), ← jn_assoc hb (bk_ok hb) (bk_ok ha), jn_bk hb, still_jn (bk_ok ha), jn_bk ha]
theorem bk_still : bk still = still := (bk_uniq still_ok still_ok (jn_still still_ok)).symm
theorem ap_still {z : T3} (hz : Ok z) : ap still z = z := by
  refine ext (ap_ok still_ok hz) hz ?_ ?_
  · unfold ap; rw [re_car still_ok.t still_ok.s hz]; simp only [still, re_1, im_1, re_0]; grind
  · unfold ap; rw [im_car still_ok.t still_ok.s hz]; simp only [still, re_1, im_1, im_0]; grind
theorem bk_ap {a : Cp} (ha : CpOk a) {z : T3} (hz : Ok z) : ap (bk a) (ap a z) = z := by
  rw [← jn_ap ha (bk_ok ha) hz, jn_bk ha, ap_still hz]
theorem ap_bk {a : Cp} (ha : CpOk a) {z : T3} (hz : Ok z) : ap a (ap (bk a) z) = z := by
  rw [← jn_ap (bk_ok ha) ha hz, bk_jn ha, ap_still hz]
/-! ### growth: the square of the size, a fraction -/
def fr (p q : Int) : Int × Int := ((low p 0 q).1, (low p 0 q).2.2)
def gr (t : T3) : Int × Int := fr (t.1 * t.1 + t.2.1 * t.2.1) (t.2.2 * t.2.2)
def gr3 (t : T3) : T3 := low (t.1 * t.1 + t.2.1 * t.2.1) 0 (t.2.2 * t.2.2)
theorem low_0 (p q : Int) : (low p 0 q).2.1 = 0 := by
  unfold low; dsimp only; exact Int.zero_fdiv _
theorem low_fr (p q : Int) : low p 0 q = ((fr p q).1, 0, (fr p q).2) := by
  have e := low_0 p q
  unfold fr
  generalize low p 0 q = z at *
  obtain ⟨a, b, c⟩ := z
  dsimp only at *
  rw [e]
theorem gr3_eq (t : T3) : gr3 t = ((gr t).1, 0, (gr t).2) := low_fr _ _
theorem gr3_ok {t : T3} (h : Ok t) : Ok (gr3 t) := low_ok (mul_ne h.ne h.ne)
theorem re_gr3 {t : T3} (h : Ok t) : re (gr3 t) = nn t := by
  have h1 := cast_ne h.ne
  have q := nn_eq h
  unfold gr3
  rw [low_re (mul_ne h.ne h.ne), ← q]
  simp only [Rat.intCast_mul]
  generalize nn t = k at *
  grind
theorem im_gr3 {t : T3} (h : Ok t) : im (gr3 t) = 0 := by
  unfold im gr3; rw [low_0]; grind
theorem gr_jn {a b : Cp} (ha : CpOk a) (hb : CpOk b) : times (gr3 a.t) (gr3 b.t) = gr3 (jn a b).t := by
  refine ext (times_ok (gr3_ok ha.t) (gr3_ok hb.t)) (gr3_ok (jn_ok ha hb).t) ?_ ?_
  · rw [re_times (gr3_ok ha.t) (gr3_ok hb.t), re_gr3 (jn_ok ha hb).t, re_gr3 ha.t, re_gr3 hb.t, im_gr3 ha.t]
    show _ = nn (times b.t (face a.t b.m))
    rw [nn_times hb.t (face_ok ha.t _), nn_face]
    grind
  · rw [im_times (gr3_ok ha.t) (gr3_ok hb.t), im_gr3 (jn_ok ha hb).t, im_gr3 ha.t, im_gr3 hb.t]
    grind
theorem gr_pos {t : T3} (h : Ok t) (n : Nz t) : 0 < (gr t).1 ∧ 0 < (gr t).2 := by
  have k := low_pos (x := t.1 * t.1 + t.2.1 * t.2.1) (y := 0) (d := t.2.2 * t.2.2) (mul_ne h.ne h.ne)
  refine ⟨?_, k⟩
  obtain ⟨h1, h2, h3⟩ := low_mul (t.1 * t.1 + t.2.1 * t.2.1) 0 (t.2.2 * t.2.2)
  have hsq := sq_ne n
  have q1 : 0 ≤ t.1 * t.1 := by rcases Int.le_total 0 t.1 with h | h; exact Int.mul_nonneg h h; exact Int.mul_nonneg_of_nonpos_of_nonpos h h
  have q2 : 0 ≤ t.2.1 * t.2.1 := by rcases Int.le_total 0 t.2.1 with h | h; exact Int.mul_nonneg h h; exact Int.mul_nonneg_of_nonpos_of_nonpos h h
  have q3 : 0 < t.2.2 * t.2.2 := Int.mul_pos h.1 h.1
  show 0 < (low (t.1 * t.1 + t.2.1 * t.2.1) 0 (t.2.2 * t.2.2)).1
  generalize (low (t.1 * t.1 + t.2.1 * t.2.1) 0 (t.2.2 * t.2.2)).1 = a at *
  generalize (low (t.1 * t.1 + t.2.1 * t.2.1) 0 (t.2.2 * t.2.2)).2.2 = c at *
  generalize hS : sg (t.1 * t.1 + t.2.1 * t.2.1) 0 (t.2.2 * t.2.2) = g at *
  have gp : 0 < g := by
    rcases Int.lt_trichotomy g 0 with z | z | z
    · have : g * c < 0 := Int.mul_neg_of_neg_of_pos z k
      omega
    · subst z; simp at h3; omega
    · exact z
  rcases Int.lt_trichotomy a 0 with z | z | z
  · have : g * a < 0 := Int.mul_neg_of_pos_of_neg gp z
    omega
  · subst z; simp at h1; omega
  · exact z
theorem gr_bk {a : Cp} (ha : CpOk a) : gr (bk a).t = ((gr a.t).2, (gr a.t).1) := by
  obtain ⟨p1, p2⟩ := gr_pos ha.t ha.n
  have o := gr3_ok ha.t
  rw [gr3_eq] at o
  have o2 : Ok ((gr a.t).2, 0, (gr a.t).1) := by
    refine ⟨p1, ?_⟩
    have z := o.2
    unfold g3 at z ⊢
    dsimp only at z ⊢
    rw [Int.gcd_zero_right] at z ⊢
    have e1 : (((gr a.t).1.natAbs : Nat) : Int) = (gr a.t).1 := by omega
    have e2 : (((gr a.t).2.natAbs : Nat) : Int) = (gr a.t).2 := by omega
    rw [e1] at z
    rw [e2, Int.gcd_comm]
    exact z
  have e : gr3 (bk a).t = ((gr a.t).2, 0, (gr a.t).1) := by
    have n := nn_ne ha.t ha.n
    refine ext (gr3_ok (bk_ok ha).t) o2 ?_ ?_
    · rw [re_gr3 (bk_ok ha).t]
      show nn (face (inv a.t) a.m) = _
      rw [nn_face, nn_inv ha.t ha.n, ← re_gr3 ha.t, gr3_eq]
      unfold re
      dsimp only
      have c1 := cast_ne (show (gr a.t).1 ≠ 0 by omega)
      have c2 := cast_ne (show (gr a.t).2 ≠ 0 by omega)
      grind
    · rw [im_gr3 (bk_ok ha).t]; unfold im; dsimp only; grind
  rw [gr3_eq] at e
  have x1 := congrArg (fun z : T3 => z.1) e
  have x2 := congrArg (fun z : T3 => z.2.2) e
  dsimp only at x1 x2
  exact Prod.ext x1 x2
/-! ### sizes -/
def B (n : Nat) (s : T3) : Prop := s.1.natAbs < 2 ^ n ∧ s.2.1.natAbs < 2 ^ n ∧ s.2.2.natAbs < 2 ^ n
theorem pw {n m : Nat} (h : n ≤ m) : 2 ^ n ≤ 2 ^ m := Nat.pow_le_pow_right (by decide) h
theorem B.mono {n m : Nat} {s : T3} (b : B n s) (h : n ≤ m) : B m s := ⟨Nat.lt_of_lt_of_le b.1 (pw h), Nat.lt_of_lt_of_le b.2.1 (pw h), Nat.lt_of_lt_of_le b.2.2 (pw h)⟩
theorem abs_le {g a : Int} (h : g ≠ 0) : a.natAbs ≤ (g * a).natAbs := by
  rw [Int.natAbs_mul]
  have : 1 ≤ g.natAbs := by omega
  calc a.natAbs = 1 * a.natAbs := by omega
    _ ≤ g.natAbs * a.natAbs := Nat.mul_le_mul_right _ this
theorem low_B {x y d : Int} {n : Nat} (hd : d ≠ 0) (h1 : x.natAbs < 2 ^ n) (h2 : y.natAbs < 2 ^ n) (h3 : d.natAbs < 2 ^ n) : B n (low x y d) := by
  obtain ⟨e1, e2, e3⟩ := low_mul x y d
  have hs := sg_ne (x := x) (y := y) hd
  refine ⟨?_, ?_, ?_⟩
  · have := abs_le (a := (low x y d).1) hs; rw [← e1] at this; omega
  · have := abs_le (a := (low x y d).2.1) hs; rw [← e2] at this; omega
  · have := abs_le (a := (low x y d).2.2) hs; rw [← e3] at this; omega
theorem mul_lt {a b : Int} {n m : Nat} (ha : a.natAbs < 2 ^ n) (hb : b.natAbs < 2 ^ m) : (a * b).natAbs < 2 ^ (n + m) := by
  rw [Int.natAbs_mul, Nat.pow_add]
  exact Nat.mul_lt_mul'' ha hb
theorem add_lt {a b : Int} {n : Nat} (ha : a.natAbs < 2 ^ n) (hb : b.natAbs < 2 ^ n) : (a + b).natAbs < 2 ^ (n + 1) := by
  rw [Nat.pow_succ]; omega
theorem sub_lt {a b : Int} {n : Nat} (ha : a.natAbs < 2 ^ n) (hb : b.natAbs < 2 ^ n) : (a - b).natAbs < 2 ^ (n + 1) := by
  rw [Nat.pow_succ]; omega
theorem up_lt {a : Int} {n m : Nat} (h : n ≤ m) (ha : a.natAbs < 2 ^ n) : a.natAbs < 2 ^ m := Nat.lt_of_lt_of_le ha (pw h)
theorem plus_B {a b : T3} {n m : Nat} (oa : Ok a) (ob : Ok b) (ha : B n a) (hb : B m b) : B (n + m + 1) (plus a b) := by
  refine low_B (mul_ne oa.ne ob.ne) (add_lt (mul_lt ha.1 hb.2.2) ?_) (add_lt (mul_lt ha.2.1 hb.2.2) ?_) (up_lt (Nat.le_succ _) (mul_lt ha.2.2 hb.2.2))
  · rw [Nat.add_comm]; exact mul_lt hb.1 ha.2.2
  · rw [Nat.add_comm]; exact mul_lt hb.2.1 ha.2.2
theorem times_B {a b : T3} {n m : Nat} (oa : Ok a) (ob : Ok b) (ha : B n a) (hb : B m b) : B (n + m + 1) (times a b) :=
  low_B (mul_ne oa.ne ob.ne) (sub_lt (mul_lt ha.1 hb.1) (mul_lt ha.2.1 hb.2.1)) (add_lt (mul_lt ha.1 hb.2.1) (mul_lt ha.2.1 hb.1)) (up_lt (Nat.le_succ _) (mul_lt ha.2.2 hb.2.2))
theorem over_B {a : T3} {n : Nat} (h : B n a) : B n (over a) := ⟨h.1, by show (-a.2.1).natAbs < _; rw [Int.natAbs_neg]; exact h.2.1, h.2.2⟩
theorem neg_B {a : T3} {n : Nat} (h : B n a) : B n (neg a) := ⟨by show (-a.1).natAbs < _; rw [Int.natAbs_neg]; exact h.1, by show (-a.2.1).natAbs < _; rw [Int.natAbs_neg]; exact h.2.1, h.2.2⟩
theorem face_B {a : T3} {n : Nat} (h : B n a) (m : Bool) : B n (face a m) := by unfold face; split; exact over_B h; exact h
theorem neg_lt {a : Int} {n : Nat} (h : a.natAbs < 2 ^ n) : (-a).natAbs < 2 ^ n := by rw [Int.natAbs_neg]; exact h
theorem inv_B {a : T3} {n : Nat} (z : Nz a) (h : B n a) : B (n + n + 1) (inv a) :=
  low_B (sq_ne z) (up_lt (Nat.le_succ _) (mul_lt h.1 h.2.2)) (up_lt (Nat.le_succ _) (mul_lt (neg_lt h.2.1) h.2.2)) (add_lt (mul_lt h.1 h.1) (mul_lt h.2.1 h.2.1))
theorem car_B {t s z : T3} {m : Bool} {i j k : Nat} (ot : Ok t) (os : Ok s) (oz : Ok z) (ht : B i t) (hs : B j s) (hz : B k z) : B (i + k + 1 + j + 1) (car t s m z) :=
  plus_B (times_ok ot (face_ok oz m)) os (times_B ot (face_ok oz m) ht (face_B hz m)) hs
/-! ### the divisor by remainders -/
theorem gcd_fmod (a b : Int) : Int.gcd b (a.fmod b) = Int.gcd a b := by
  rw [Int.fmod_def, Int.gcd_sub_mul_left_right, Int.gcd_comm]
theorem fmod_small {a b : Int} (h : b ≠ 0) : (a.fmod b).natAbs < b.natAbs := by
  rw [Int.fmod_eq_emod]
  have h1 := Int.emod_nonneg a h
  have h2 : a % b < (b.natAbs : Int) := Int.emod_lt a h
  split
  · omega
  · have h3 : a % b ≠ 0 := fun e => by
      have := Int.dvd_of_emod_eq_zero e
      simp_all
    omega
theorem gcd_0 (a : Int) : ((Int.gcd a 0 : Nat) : Int) = if a < 0 then -a else a := by
  rw [Int.gcd_zero_right]; split <;> omega
end Mth
namespace Mth
/-! ### copies done several times -/
def ag (c : Cp) : Nat → Cp
  | 0 => still
  | n + 1 => jn (ag c n) c
theorem ag_ok {c : Cp} (h : CpOk c) : ∀ n, CpOk (ag c n)
  | 0 => still_ok
  | n + 1 => jn_ok (ag_ok h n) h
theorem ag_add {c : Cp} (h : CpOk c) (n : Nat) : ∀ m, ag c (n + m) = jn (ag c n) (ag c m)
  | 0 => (jn_still (ag_ok h n)).symm
  | m + 1 => by
    show jn (ag c (n + m)) c = jn (ag c n) (jn (ag c m) c)
    rw [ag_add h n m, jn_assoc (ag_ok h n) (ag_ok h m) h]
theorem ag_one {c : Cp} (h : CpOk c) : ag c 1 = c := still_jn h
theorem ag_comm {c : Cp} (h : CpOk c) (n : Nat) : jn c (ag c n) = jn (ag c n) c := by
  have e1 := ag_add h 1 n
  rw [ag_one h, Nat.add_comm] at e1
  exact e1.symm
theorem ag_mul {c : Cp} (h : CpOk c) (n : Nat) : ∀ m, ag c (n * m) = ag (ag c n) m
  | 0 => rfl
  | m + 1 => by
    show ag c (n * m + n) = jn (ag (ag c n) m) (ag c n)
    rw [ag_add h, ag_mul h n m]
theorem bk_ag {c : Cp} (h : CpOk c) : ∀ n, bk (ag c n) = ag (bk c) n
  | 0 => bk_still
  | n + 1 => by
    show bk (jn (ag c n) c) = jn (ag (bk c) n) (bk c)
    rw [bk_jn_eq (ag_ok h n) h, bk_ag h n, ag_comm (bk_ok h)]
theorem jn_l {a b c : Cp} (ha : CpOk a) (hb : CpOk b) (hc : CpOk c) (e : jn a b = jn a c) : b = c := by
  have q := congrArg (jn (bk a)) e
  rw [← jn_assoc (bk_ok ha) ha hb, ← jn_assoc (bk_ok ha) ha hc, bk_jn ha, still_jn hb, still_jn hc] at q
  exact q
theorem bk_still_iff {a : Cp} (ha : CpOk a) : bk a = still ↔ a = still := ⟨fun e => by have q := congrArg bk e; rw [bk_bk ha, bk_still] at q; exact q, fun e => by rw [e, bk_still]⟩
/-- seen from elsewhere -/
def cj (o c : Cp) : Cp := jn (jn (bk o) c) o
theorem cj_ok {o c : Cp} (ho : CpOk o) (hc : CpOk c) : CpOk (cj o c) := jn_ok (jn_ok (bk_ok ho) hc) ho
theorem cj_jn {o a b : Cp} (ho : CpOk o) (ha : CpOk a) (hb : CpOk b) : jn (cj o a) (cj o b) = cj o (jn a b) := by
  have hbo := bk_ok ho
  unfold cj
  rw [jn_assoc (jn_ok hbo ha) ho (jn_ok (jn_ok hbo hb) ho), jn_assoc hbo hb ho, ← jn_assoc ho hbo (jn_ok hb ho), jn_bk ho, still_jn (jn_ok hb ho),
    jn_assoc hbo ha (jn_ok hb ho), ← jn_assoc ha hb ho, jn_assoc hbo (jn_ok ha hb) ho]
theorem cj_still {o : Cp} (ho : CpOk o) : cj o still = still := by
  unfold cj; rw [jn_still (bk_ok ho), bk_jn ho]
theorem cj_ag {o c : Cp} (ho : CpOk o) (hc : CpOk c) : ∀ n, ag (cj o c) n = cj o (ag c n)
  | 0 => (cj_still ho).symm
  | n + 1 => by
    show jn (ag (cj o c) n) (cj o c) = cj o (jn (ag c n) c)
    rw [cj_ag ho hc n, cj_jn ho (ag_ok hc n) hc]
theorem cj_iff {o c : Cp} (ho : CpOk o) (hc : CpOk c) : cj o c = still ↔ c = still := by
  refine ⟨fun e => ?_, fun e => by rw [e, cj_still ho]⟩
  have q := congrArg (fun z => jn (jn o z) (bk o)) e
  unfold cj at q
  have hbo := bk_ok ho
  rw [jn_assoc hbo hc ho, ← jn_assoc ho hbo (jn_ok hc ho), jn_bk ho, still_jn (jn_ok hc ho), jn_assoc hc ho hbo, jn_bk ho, jn_still hc, jn_still ho, jn_bk ho] at q
  exact q
/-- the times as the program has them -/
def stp (c : Cp) (n : Int) : Cp := if 0 ≤ n then c else bk c
def agz (c : Cp) (n : Int) : Cp := ag (stp c n) n.natAbs
theorem stp_ok {c : Cp} (h : CpOk c) (n : Int) : CpOk (stp c n) := by unfold stp; split; exact h; exact bk_ok h
theorem agz_ok {c : Cp} (h : CpOk c) (n : Int) : CpOk (agz c n) := ag_ok (stp_ok h n) _
/-! ### the first time at which all is as it was -/
def At (c : Cp) (n : Nat) : Prop := ag c n = still
/-- the turns alone -/
def tn (t : T3) (m : Bool) : Nat → T3
  | 0 => (1, 0, 1)
  | n + 1 => times t (face (tn t m n) m)
theorem ag_t (c : Cp) : ∀ n, (ag c n).t = tn c.t c.m n
  | 0 => rfl
  | n + 1 => by
    show times c.t (face (ag c n).t c.m) = times c.t (face (tn c.t c.m n) c.m)
    rw [ag_t c n]
theorem ag_m (c : Cp) : ∀ n, (ag c n).m = (c.m && (n % 2 == 1))
  | 0 => by show false = _; simp
  | n + 1 => by
    show ((ag c n).m != c.m) = _
    rw [ag_m c n]
    rcases Nat.mod_two_eq_zero_or_one n with h | h
    · have h' : (n + 1) % 2 = 1 := by omega
      rw [h, h']; cases c.m <;> rfl
    · have h' : (n + 1) % 2 = 0 := by omega
      rw [h, h']; cases c.m <;> rfl
/-- only a shift: k times it is still none but if the shift is none -/
theorem shift_only {c : Cp} (h : CpOk c) (ht : c.t = (1, 0, 1)) (hm : c.m = false) : ∀ n : Nat, re (ag c n).s = (n : Rat) * re c.s ∧ im (ag c n).s = (n : Rat) * im c.s
  | 0 => by
    refine ⟨?_, ?_⟩
    · show re (0, 0, 1) = _; rw [re_0]; simp
    · show im (0, 0, 1) = _; rw [im_0]; simp
  | n + 1 => by
    obtain ⟨h1, h2⟩ := shift_only h ht hm n
    have e1 : re (ag c (n + 1)).s = _ := re_js (ag_ok h n) h
    have e2 : im (ag c (n + 1)).s = _ := im_js (ag_ok h n) h
    rw [ht, hm, re_1, im_1, h1] at e1
    rw [ht, hm, re_1, im_1, h2] at e2
    have ec : ((n + 1 : Nat) : Rat) = (n : Rat) + 1 := by simp
    rw [e1, e2, ec]
    refine ⟨?_, ?_⟩
    · simp; grind
    · simp; grind
theorem shift_still {c : Cp} (h : CpOk c) (ht : c.t = (1, 0, 1)) (hm : c.m = false) {n : Nat} (hn : 0 < n) (e : ag c n = still) : c = still := by
  obtain ⟨h1, h2⟩ := shift_only h ht hm n
  rw [e] at h1 h2
  have n0 : (n : Rat) ≠ 0 := by
    have : ((n : Int) : Rat) ≠ 0 := cast_ne (by omega)
    simpa using this
  have z1 : re c.s = 0 := by
    have : re still.s = 0 := re_0
    rw [this] at h1
    grind
  have z2 : im c.s = 0 := by
    have : im still.s = 0 := im_0
    rw [this] at h2
    grind
  refine cp_ext h still_ok ?_ ?_ ?_ ?_ hm
  · rw [ht]; rfl
  · rw [ht]; rfl
  · rw [z1]; exact re_0.symm
  · rw [z2]; exact im_0.symm
theorem at_half {c : Cp} (h : CpOk c) (ht : c.t = (-1, 0, 1)) (hm : c.m = false) : ag c 2 = still := by
  have e : ag c 2 = jn c c := by
    show jn (jn still c) c = _
    rw [still_jn h]
  have r : re (-1, 0, 1) = -1 := by unfold re; decide +kernel
  have i : im (-1, 0, 1) = 0 := by unfold im; decide +kernel
  rw [e]
  refine cp_ext (jn_ok h h) still_ok ?_ ?_ ?_ ?_ ?_
  · rw [re_jt h h, ht, hm, r, i]; show _ = re (1, 0, 1); rw [re_1]; simp; grind
  · rw [im_jt h h, ht, hm, r, i]; show _ = im (1, 0, 1); rw [im_1]; simp; grind
  · rw [re_js h h, ht, hm, r, i]; show _ = re (0, 0, 1); rw [re_0]; simp; grind
  · rw [im_js h h, ht, hm, r, i]; show _ = im (0, 0, 1); rw [im_0]; simp; grind
  · rw [jn_m, hm]; rfl
def turns13 : List T3 := [(1, 0, 1), (-1, 0, 1), (0, 1, 1), (0, -1, 1), (2, 0, 1), (1, 0, 2), (1, 1, 1), (3, 4, 5), (0, 2, 1), (-1, 0, 3), (1, -1, 2), (2, 1, 1), (-4, 3, 5)]
theorem turns_cases : ∀ t ∈ turns13, ∀ m ∈ [false, true], (t = (1, 0, 1) ∧ m = false) ∨ (t = (-1, 0, 1) ∧ m = false) ∨ (tn t m 2 = (-1, 0, 1) ∧ m = false ∧ ∀ n ∈ [1, 2, 3], tn t m n ≠ (1, 0, 1)) ∨ (tn t m 2 = (1, 0, 1) ∧ m = true) ∨
    (∀ n ∈ [1, 2, 3, 4, 5, 6, 7, 8, 9, 10, 11, 12], tn t m n ≠ (1, 0, 1) ∨ (m = true ∧ n % 2 = 1)) := by decide +kernel
theorem first_of {c : Cp} (h : CpOk c) (ht : c.t ∈ turns13) {n : Nat} (n1 : 1 ≤ n) (n12 : n ≤ 12) (e : ag c n = still) : ag c 1 = still ∨ (2 ≤ n ∧ ag c 2 = still) ∨ (4 ≤ n ∧ ag c 4 = still) := by
  have et : tn c.t c.m n = (1, 0, 1) := by rw [← ag_t, e]; rfl
  have em : (c.m && (n % 2 == 1)) = false := by rw [← ag_m, e]; rfl
  rcases turns_cases c.t ht c.m (by cases c.m <;> simp) with ⟨h1, h2⟩ | ⟨h1, h2⟩ | ⟨h1, h2, h3⟩ | ⟨h1, h2⟩ | h1
  · left
    rw [ag_one h]
    exact shift_still h h1 h2 n1 e
  · right; left
    refine ⟨?_, at_half h h1 h2⟩
    rcases Nat.lt_or_ge n 2 with z | z
    · have : n = 1 := by omega
      subst this
      rw [ag_one h] at e
      rw [e] at h1
      exact absurd h1 (by decide)
    · exact z
  · right; right
    refine ⟨?_, ?_⟩
    · rcases Nat.lt_or_ge n 4 with z | z
      · exact absurd et (h3 n (by simp; omega))
      · exact z
    · show ag c (2 * 2) = still
      rw [ag_mul h]
      exact at_half (ag_ok h 2) (by rw [ag_t]; exact h1) (by rw [ag_m, h2]; rfl)
  · right; left
    rw [h2] at em
    have ev : n % 2 = 0 := by
      rcases Nat.mod_two_eq_zero_or_one n with z | z
      · exact z
      · rw [z] at em; simp at em
    refine ⟨by omega, ?_⟩
    obtain ⟨k, rfl⟩ : ∃ k, n = 2 * k := ⟨n / 2, by omega⟩
    rw [ag_mul h] at e
    refine shift_still (ag_ok h 2) (by rw [ag_t]; exact h1) (by rw [ag_m]; simp) (by omega) e
  · exfalso
    rcases h1 n (by simp; omega) with z | ⟨z1, z2⟩
    · exact z et
    · rw [z1, z2] at em; simp at em
/-! ### the order as the program finds it -/
def ord (c : Cp) : Option Nat := if ag c 1 = still then some 1 else if ag c 2 = still then some 2 else if ag c 4 = still then some 4 else none
theorem ord_congr {a b : Cp} (h : ∀ n, ag a n = still ↔ ag b n = still) : ord a = ord b := by
  unfold ord
  simp only [h]
theorem ord_bk {c : Cp} (h : CpOk c) : ord (bk c) = ord c := ord_congr fun n => by rw [← bk_ag h, bk_still_iff (ag_ok h n)]
theorem ord_cj {o c : Cp} (ho : CpOk o) (h : CpOk c) : ord (cj o c) = ord c := ord_congr fun n => by rw [cj_ag ho h, cj_iff ho (ag_ok h n)]
/-- the first one of 1 .. i -/
def due (c : Cp) : Nat → Option Nat
  | 0 => none
  | n + 1 => if due c n = none ∧ ag c (n + 1) = still then some (n + 1) else due c n
theorem due_eq {c : Cp} (h : CpOk c) (ht : c.t ∈ turns13) : due c 12 = ord c := by
  have P := fun n n1 n12 e => first_of (n := n) h ht n1 n12 e
  have s1 : due c 1 = if ag c 1 = still then some 1 else none := by simp [due]
  by_cases h1 : ag c 1 = still
  · have k : ∀ n, due c (n + 1) = some 1 := fun n => by
      induction n with
      | zero => rw [s1, if_pos h1]
      | succ n ih => simp [due] at ih ⊢; simp [ih]
    rw [k 11]
    unfold ord
    rw [if_pos h1]
  · have d1 : due c 1 = none := by rw [s1, if_neg h1]
    by_cases h2 : ag c 2 = still
    · have k : ∀ n, due c (n + 2) = some 2 := fun n => by
        induction n with
        | zero => show (if due c 1 = none ∧ ag c 2 = still then some 2 else due c 1) = _; rw [if_pos ⟨d1, h2⟩]
        | succ n ih => show (if due c (n + 2) = none ∧ ag c (n + 3) = still then some (n + 3) else due c (n + 2)) = _; rw [ih]; simp
      rw [k 10]
      unfold ord
      rw [if_neg h1, if_pos h2]
    · have d2 : due c 2 = none := by show (if due c 1 = none ∧ ag c 2 = still then some 2 else due c 1) = _; rw [if_neg (fun z => h2 z.2), d1]
      have n3 : ag c 3 ≠ still := fun e => by
        rcases P 3 (by decide) (by decide) e with z | ⟨_, z⟩ | ⟨z, _⟩
        · exact h1 z
        · exact h2 z
        · omega
      have d3 : due c 3 = none := by show (if due c 2 = none ∧ ag c 3 = still then some 3 else due c 2) = _; rw [if_neg (fun z => n3 z.2), d2]
      by_cases h4 : ag c 4 = still
      · have k : ∀ n, due c (n + 4) = some 4 := fun n => by
          induction n with
          | zero => show (if due c 3 = none ∧ ag c 4 = still then some 4 else due c 3) = _; rw [if_pos ⟨d3, h4⟩]
          | succ n ih => show (if due c (n + 4) = none ∧ ag c (n + 5) = still then some (n + 5) else due c (n + 4)) = _; rw [ih]; simp
        rw [k 8]
        unfold ord
        rw [if_neg h1, if_neg h2, if_pos h4]
      · have k : ∀ n, n ≤ 12 → due c n = none := fun n => by
          induction n with
          | zero => intro _; rfl
          | succ n ih =>
            intro hn
            have nn : ag c (n + 1) ≠ still := fun e => by
              rcases P (n + 1) (by omega) hn e with z | ⟨_, z⟩ | ⟨_, z⟩
              · exact h1 z
              · exact h2 z
              · exact h4 z
            show (if due c n = none ∧ ag c (n + 1) = still then some (n + 1) else due c n) = _
            rw [if_neg (fun z => nn z.2)]
            exact ih (by omega)
        rw [k 12 (by decide)]
        unfold ord
        rw [if_neg h1, if_neg h2, if_neg h4]
end Mth
namespace Mth
/-! ### lines a * x + b * y = c, and what satisfies rows of them -/
def sgl (a b c : Int) : Int := if a < 0 ∨ (a = 0 ∧ b < 0) then -(g3 a b c) else g3 a b c
def lf (r : T3) : T3 := (r.1.fdiv (sgl r.1 r.2.1 r.2.2), r.2.1.fdiv (sgl r.1 r.2.1 r.2.2), r.2.2.fdiv (sgl r.1 r.2.1 r.2.2))
def on (l z : T3) : Prop := l.1 * z.1 + l.2.1 * z.2.1 = l.2.2 * z.2.2
instance (l z : T3) : Decidable (on l z) := inferInstanceAs (Decidable (_ = _))
theorem g3_pos' {a b c : Int} (h : a ≠ 0 ∨ b ≠ 0) : 0 < g3 a b c := by
  unfold g3
  have h1 : 0 < Int.gcd a b := by
    rcases h with h | h
    · exact Int.gcd_pos_of_ne_zero_left _ h
    · exact Int.gcd_pos_of_ne_zero_right _ h
  have h2 : 0 < Int.gcd ((Int.gcd a b : Nat) : Int) c := Int.gcd_pos_of_ne_zero_left _ (by omega)
  omega
theorem sgl_of {a b c : Int} : sgl a b c = g3 a b c ∨ sgl a b c = -g3 a b c := by unfold sgl; split <;> simp
theorem sgl_ne {a b c : Int} (h : a ≠ 0 ∨ b ≠ 0) : sgl a b c ≠ 0 := by
  have := g3_pos' (c := c) h
  rcases @sgl_of a b c with e | e <;> omega
theorem sgl_d1 {a b c : Int} : sgl a b c ∣ a := by rcases @sgl_of a b c with h | h <;> rw [h]; exact g3_dx; exact Int.neg_dvd.mpr g3_dx
theorem sgl_d2 {a b c : Int} : sgl a b c ∣ b := by rcases @sgl_of a b c with h | h <;> rw [h]; exact g3_dy; exact Int.neg_dvd.mpr g3_dy
theorem sgl_d3 {a b c : Int} : sgl a b c ∣ c := by rcases @sgl_of a b c with h | h <;> rw [h]; exact g3_dd; exact Int.neg_dvd.mpr g3_dd
theorem lf_mul (r : T3) : r.1 = sgl r.1 r.2.1 r.2.2 * (lf r).1 ∧ r.2.1 = sgl r.1 r.2.1 r.2.2 * (lf r).2.1 ∧ r.2.2 = sgl r.1 r.2.1 r.2.2 * (lf r).2.2 := by
  unfold lf
  refine ⟨?_, ?_, ?_⟩ <;> dsimp only
  · rw [Int.fdiv_eq_ediv_of_dvd sgl_d1]; exact (Int.mul_ediv_cancel' sgl_d1).symm
  · rw [Int.fdiv_eq_ediv_of_dvd sgl_d2]; exact (Int.mul_ediv_cancel' sgl_d2).symm
  · rw [Int.fdiv_eq_ediv_of_dvd sgl_d3]; exact (Int.mul_ediv_cancel' sgl_d3).symm
/-- a line in its only form -/
structure Ln (l : T3) : Prop where
  g : g3 l.1 l.2.1 l.2.2 = 1
  s : 0 < l.1 ∨ (l.1 = 0 ∧ 0 < l.2.1)
theorem lf_ln {r : T3} (h : r.1 ≠ 0 ∨ r.2.1 ≠ 0) : Ln (lf r) := by
  obtain ⟨h1, h2, h3⟩ := lf_mul r
  have hs := sgl_ne (c := r.2.2) h
  have hg := g3_pos' (c := r.2.2) h
  have sdef : sgl r.1 r.2.1 r.2.2 = if r.1 < 0 ∨ (r.1 = 0 ∧ r.2.1 < 0) then -(g3 r.1 r.2.1 r.2.2) else g3 r.1 r.2.1 r.2.2 := rfl
  have so := @sgl_of r.1 r.2.1 r.2.2
  generalize hx : (lf r).1 = x at *
  generalize hy : (lf r).2.1 = y at *
  generalize hz : (lf r).2.2 = z at *
  generalize sgl r.1 r.2.1 r.2.2 = g at *
  generalize hG : g3 r.1 r.2.1 r.2.2 = G at *
  have sgn : ∀ u v : Int, u = g * v → 0 < G → (g = G → (0 < u → 0 < v) ∧ (u = 0 → v = 0)) ∧ (g = -G → (u < 0 → 0 < v) ∧ (u = 0 → v = 0)) := by
    intro u v e hG
    refine ⟨fun eg => ⟨fun hu => ?_, fun hu => ?_⟩, fun eg => ⟨fun hu => ?_, fun hu => ?_⟩⟩
    · rcases Int.lt_trichotomy v 0 with z | z | z
      · have : g * v < 0 := Int.mul_neg_of_pos_of_neg (by omega) z
        omega
      · subst z; simp at e; omega
      · exact z
    · rw [hu] at e; exact (Int.mul_eq_zero.mp e.symm).resolve_left hs
    · rcases Int.lt_trichotomy v 0 with z | z | z
      · have : 0 < g * v := Int.mul_pos_of_neg_of_neg (by omega) z
        omega
      · subst z; simp at e; omega
      · exact z
    · rw [hu] at e; exact (Int.mul_eq_zero.mp e.symm).resolve_left hs
  refine ⟨?_, ?_⟩
  · rw [hx, hy, hz]
    have k1 : g * g3 x y z ∣ r.1 := by
      obtain ⟨u, hu⟩ := @g3_dx x y z
      exact ⟨u, by rw [Int.mul_assoc, ← hu, ← h1]⟩
    have k2 : g * g3 x y z ∣ r.2.1 := by
      obtain ⟨u, hu⟩ := @g3_dy x y z
      exact ⟨u, by rw [Int.mul_assoc, ← hu, ← h2]⟩
    have k3 : g * g3 x y z ∣ r.2.2 := by
      obtain ⟨u, hu⟩ := @g3_dd x y z
      exact ⟨u, by rw [Int.mul_assoc, ← hu, ← h3]⟩
    have k := g3_great k1 k2 k3
    rw [hG] at k
    have k' : g * g3 x y z ∣ g := by
      rcases so with e | e
      · rw [e] at k ⊢; exact k
      · rw [e]; rw [e] at k; exact (Int.dvd_neg).mpr k
    obtain ⟨u, hu⟩ := k'
    have e : g3 x y z * u = 1 := by
      have : g * (g3 x y z * u) = g * 1 := by rw [← Int.mul_assoc, ← hu, Int.mul_one]
      exact Int.eq_of_mul_eq_mul_left hs this
    have nn : 0 ≤ g3 x y z := by unfold g3; omega
    exact Int.eq_one_of_dvd_one nn ⟨u, e.symm⟩
  · rw [hx, hy]
    by_cases c : r.1 < 0 ∨ (r.1 = 0 ∧ r.2.1 < 0)
    · rw [if_pos c] at sdef
      have a1 := (sgn r.1 x h1 hg).2 sdef
      have a2 := (sgn r.2.1 y h2 hg).2 sdef
      rcases c with c | ⟨c1, c2⟩
      · exact .inl (a1.1 c)
      · exact .inr ⟨a1.2 c1, a2.1 c2⟩
    · rw [if_neg c] at sdef
      have a1 := (sgn r.1 x h1 hg).1 sdef
      have a2 := (sgn r.2.1 y h2 hg).1 sdef
      rcases Int.lt_trichotomy r.1 0 with z1 | z1 | z1
      · exact absurd (.inl z1) c
      · rcases Int.lt_trichotomy r.2.1 0 with z2 | z2 | z2
        · exact absurd (.inr ⟨z1, z2⟩) c
        · omega
        · exact .inr ⟨a1.2 z1, a2.1 z2⟩
      · exact .inl (a1.1 z1)
theorem lf_on {r : T3} (h : r.1 ≠ 0 ∨ r.2.1 ≠ 0) (z : T3) : on (lf r) z ↔ on r z := by
  obtain ⟨h1, h2, h3⟩ := lf_mul r
  have hs := sgl_ne (c := r.2.2) h
  unfold on
  generalize sgl r.1 r.2.1 r.2.2 = g at *
  refine ⟨fun e => ?_, fun e => ?_⟩
  · rw [h1, h2, h3]
    have : g * ((lf r).1 * z.1 + (lf r).2.1 * z.2.1) = g * ((lf r).2.2 * z.2.2) := by rw [e]
    grind
  · have : g * ((lf r).1 * z.1 + (lf r).2.1 * z.2.1) = g * ((lf r).2.2 * z.2.2) := by
      rw [h1, h2, h3] at e
      grind
    exact Int.eq_of_mul_eq_mul_left hs this
theorem on_iff {l z : T3} (hz : Ok z) : on l z ↔ (l.1 : Rat) * re z + (l.2.1 : Rat) * im z = (l.2.2 : Rat) := by
  have d := cast_ne hz.ne
  unfold on re im
  rw [← Rat.intCast_inj]
  simp only [Rat.intCast_add, Rat.intCast_mul]
  refine ⟨fun e => ?_, fun e => ?_⟩ <;> grind
theorem dvd3 {k m x y z : Int} (h1 : k ∣ x * m) (h2 : k ∣ y * m) (h3 : k ∣ z * m) (g : g3 x y z = 1) : k ∣ m := by
  have c := Int.dvd_coe_gcd h1 h2
  rw [Int.gcd_mul_right] at c
  have c' : k ∣ ((Int.gcd x y : Nat) : Int) * ((m.natAbs : Nat) : Int) := by rw [← Int.natCast_mul]; exact c
  have d : k ∣ z * ((m.natAbs : Nat) : Int) := by
    rcases Int.natAbs_eq m with e | e
    · rw [← e]; exact h3
    · have : ((m.natAbs : Nat) : Int) = -m := by omega
      rw [this, Int.mul_neg]; exact (Int.dvd_neg).mpr h3
  have e := Int.dvd_coe_gcd c' d
  rw [Int.gcd_mul_right] at e
  unfold g3 at g
  have g' : Int.gcd ((Int.gcd x y : Nat) : Int) z = 1 := by omega
  rw [g', Nat.one_mul, Int.natAbs_natCast] at e
  exact Int.dvd_natAbs.mp e
theorem ln_same {l m z : T3} (hl : Ln l) (hm : Ln m) (hz : Ok z) (p : l.1 * m.2.1 = m.1 * l.2.1) (h1 : on l z) (h2 : on m z) : l = m := by
  have dz := hz.ne
  unfold on at h1 h2
  obtain ⟨a, b, c⟩ := l
  obtain ⟨u, v, w⟩ := m
  obtain ⟨x, y, d⟩ := z
  have sl := hl.s
  have sm := hm.s
  have gl := hl.g
  have gm := hm.g
  dsimp only at *
  have e1 : a * w = u * c := by
    have : d * (a * w) = d * (u * c) := by grind
    exact Int.eq_of_mul_eq_mul_left dz this
  have e2 : b * w = v * c := by
    have : d * (b * w) = d * (v * c) := by grind
    exact Int.eq_of_mul_eq_mul_left dz this
  by_cases a0 : a = 0
  · subst a0
    have b0 : 0 < b := by omega
    have u0 : u = 0 := by
      have : u * b = 0 := by rw [← p]; simp
      exact (Int.mul_eq_zero.mp this).resolve_right (by omega)
    subst u0
    have v0 : 0 < v := by omega
    have d1 : b ∣ v := dvd3 (x := 0) (y := b) (z := c) (by simp) ⟨v, rfl⟩ ⟨w, by grind⟩ gl
    have d2 : v ∣ b := dvd3 (x := 0) (y := v) (z := w) (by simp) ⟨b, rfl⟩ ⟨c, by grind⟩ gm
    have eb : b = v := Int.le_antisymm (Int.le_of_dvd v0 d1) (Int.le_of_dvd b0 d2)
    subst eb
    have : w = c := Int.eq_of_mul_eq_mul_left (by omega) e2
    rw [this]
  · have a1 : 0 < a := by omega
    have u1 : 0 < u := by
      rcases sm with h | ⟨h, _⟩
      · exact h
      · exfalso
        subst h
        have : a * v = 0 := by rw [p]; simp
        have v0 := (Int.mul_eq_zero.mp this).resolve_left a0
        omega
    have d1 : a ∣ u := dvd3 (x := a) (y := b) (z := c) ⟨u, rfl⟩ ⟨v, by grind⟩ ⟨w, by grind⟩ gl
    have d2 : u ∣ a := dvd3 (x := u) (y := v) (z := w) ⟨a, rfl⟩ ⟨b, by grind⟩ ⟨c, by grind⟩ gm
    have ea : a = u := Int.le_antisymm (Int.le_of_dvd u1 d1) (Int.le_of_dvd a1 d2)
    subst ea
    have : v = b := Int.eq_of_mul_eq_mul_left a0 (by grind)
    have : w = c := Int.eq_of_mul_eq_mul_left a0 (by grind)
    simp_all
def cross (l m : T3) : T3 := low (l.2.2 * m.2.1 - m.2.2 * l.2.1) (l.1 * m.2.2 - m.1 * l.2.2) (l.1 * m.2.1 - m.1 * l.2.1)
theorem cross_iff {l m z : T3} (hz : Ok z) (d : l.1 * m.2.1 ≠ m.1 * l.2.1) : (on l z ∧ on m z) ↔ z = cross l m := by
  have dn : l.1 * m.2.1 - m.1 * l.2.1 ≠ 0 := by omega
  have oc : Ok (cross l m) := low_ok dn
  have r : re (cross l m) = ((l.2.2 * m.2.1 - m.2.2 * l.2.1 : Int) : Rat) / ((l.1 * m.2.1 - m.1 * l.2.1 : Int) : Rat) := low_re dn
  have i : im (cross l m) = ((l.1 * m.2.2 - m.1 * l.2.2 : Int) : Rat) / ((l.1 * m.2.1 - m.1 * l.2.1 : Int) : Rat) := low_im dn
  have dq := cast_ne dn
  simp only [Rat.intCast_sub, Rat.intCast_mul] at r i dq
  refine ⟨fun ⟨h1, h2⟩ => ?_, fun e => ?_⟩
  · rw [on_iff hz] at h1 h2
    refine ext hz oc ?_ ?_
    · rw [r]; grind
    · rw [i]; grind
  · rw [e, on_iff oc, on_iff oc, r, i]
    refine ⟨?_, ?_⟩ <;> grind
/-! ### what satisfies all rows -/
inductive KS where
  | all | none | spot (s : T3) | line (l : T3)
def Mem : KS → T3 → Prop
  | .all, _ => True
  | .none, _ => False
  | .spot s, z => z = s
  | .line l, z => on l z
def bad (r : T3) : Bool := decide (r.1 = 0) && (decide (r.2.1 = 0) && !decide (r.2.2 = 0))
def nz2 (r : T3) : Bool := !decide (r.1 = 0) || !decide (r.2.1 = 0)
def solL : List T3 → KS
  | [] => .all
  | f :: ls => match (f :: ls).filter (fun l => !decide (l = f)) with
    | [] => .line f
    | o :: _ => if f.1 * o.2.1 = o.1 * f.2.1 then .none else if (f :: ls).all (fun l => decide (on l (cross f o))) = true then .spot (cross f o) else .none
def sol (rows : List T3) : KS := if rows.any bad = true then .none else solL ((rows.filter nz2).map lf)
theorem sol_mem (rows : List T3) {z : T3} (hz : Ok z) : Mem (sol rows) z ↔ ∀ r ∈ rows, on r z := by
  unfold sol
  by_cases hb : rows.any bad = true
  · rw [if_pos hb]
    refine ⟨fun h => h.elim, fun h => ?_⟩
    obtain ⟨r, hr, b⟩ := List.any_eq_true.mp hb
    have o := h r hr
    unfold bad at b
    simp at b
    unfold on at o
    rw [b.1, b.2.1] at o
    have o' : r.2.2 * z.2.2 = 0 := by rw [← o]; simp
    rcases Int.mul_eq_zero.mp o' with o | o
    · exact absurd o b.2.2
    · exact absurd o hz.ne
  · rw [if_neg hb]
    have key : (∀ r ∈ rows, on r z) ↔ ∀ l ∈ (rows.filter nz2).map lf, on l z := by
      refine ⟨fun h l hl => ?_, fun h r hr => ?_⟩
      · obtain ⟨r, hr, rfl⟩ := List.mem_map.mp hl
        obtain ⟨hr1, hr2⟩ := List.mem_filter.mp hr
        have n : r.1 ≠ 0 ∨ r.2.1 ≠ 0 := by unfold nz2 at hr2; simpa using hr2
        exact (lf_on n z).mpr (h r hr1)
      · by_cases n : nz2 r = true
        · have n' : r.1 ≠ 0 ∨ r.2.1 ≠ 0 := by unfold nz2 at n; simpa using n
          exact (lf_on n' z).mp (h _ (List.mem_map.mpr ⟨r, List.mem_filter.mpr ⟨hr, n⟩, rfl⟩))
        · unfold nz2 at n
          simp at n
          have nb : bad r = false := by
            cases e : bad r with
            | false => rfl
            | true => exact absurd (List.any_eq_true.mpr ⟨r, hr, e⟩) hb
          unfold bad at nb
          simp [n.1, n.2] at nb
          unfold on
          rw [n.1, n.2, nb]
          simp
    have lns : ∀ l ∈ (rows.filter nz2).map lf, Ln l := fun l hl => by
      obtain ⟨r, hr, rfl⟩ := List.mem_map.mp hl
      obtain ⟨hr1, hr2⟩ := List.mem_filter.mp hr
      exact lf_ln (by unfold nz2 at hr2; simpa using hr2)
    rw [key]
    generalize (rows.filter nz2).map lf = ls at *
    cases ls with
    | nil => simp [solL, Mem]
    | cons f ls =>
      unfold solL
      dsimp only
      cases ho : (f :: ls).filter (fun l => !decide (l = f)) with
      | nil =>
        dsimp only
        show on f z ↔ _
        refine ⟨fun h l hl => ?_, fun h => h f (List.mem_cons_self ..)⟩
        have := List.filter_eq_nil_iff.mp ho l hl
        simp at this
        rw [this]; exact h
      | cons o os =>
        dsimp only
        have om : o ∈ (f :: ls).filter (fun l => !decide (l = f)) := by rw [ho]; exact List.mem_cons_self ..
        obtain ⟨om1, om2⟩ := List.mem_filter.mp om
        have one : o ≠ f := by simpa using om2
        have fm : f ∈ f :: ls := List.mem_cons_self ..
        by_cases p : f.1 * o.2.1 = o.1 * f.2.1
        · rw [if_pos p]
          refine ⟨fun h => h.elim, fun h => ?_⟩
          exact one (ln_same (lns f fm) (lns o om1) hz p (h f fm) (h o om1)).symm
        · rw [if_neg p]
          have ci := cross_iff hz p
          by_cases q : (f :: ls).all (fun l => decide (on l (cross f o))) = true
          · rw [if_pos q]
            show z = _ ↔ _
            refine ⟨fun e l hl => ?_, fun h => ci.mp ⟨h f fm, h o om1⟩⟩
            rw [e]
            exact of_decide_eq_true (List.all_eq_true.mp q l hl)
          · rw [if_neg q]
            refine ⟨fun h => h.elim, fun h => ?_⟩
            have e := ci.mp ⟨h f fm, h o om1⟩
            refine q (List.all_eq_true.mpr fun l hl => ?_)
            rw [← e]
            exact decide_eq_true (h l hl)
/-- the form of what is told -/
def KOk : KS → Prop
  | .spot s => Ok s
  | .line l => Ln l
  | _ => True
theorem sol_ok (rows : List T3) : KOk (sol rows) := by
  unfold sol
  split
  · trivial
  · have lns : ∀ l ∈ (rows.filter nz2).map lf, Ln l := fun l hl => by
      obtain ⟨r, hr, rfl⟩ := List.mem_map.mp hl
      obtain ⟨hr1, hr2⟩ := List.mem_filter.mp hr
      exact lf_ln (by unfold nz2 at hr2; simpa using hr2)
    generalize (rows.filter nz2).map lf = ls at *
    cases ls with
    | nil => trivial
    | cons f ls =>
      unfold solL
      dsimp only
      cases (f :: ls).filter (fun l => !decide (l = f)) with
      | nil => exact lns f (List.mem_cons_self ..)
      | cons o os =>
        dsimp only
        split
        · trivial
        · rename_i p
          split
          · exact low_ok (by omega)
          · trivial
/-! ### where two copies meet -/
def minus (a b : T3) : T3 := plus a (neg b)
def gap (a b : Cp) (z : T3) : T3 := minus (ap a z) (ap b z)
def eqs (R U G : T3) : List T3 := [(R.1 * U.2.2 * G.2.2, U.1 * R.2.2 * G.2.2, G.1 * R.2.2 * U.2.2), (R.2.1 * U.2.2 * G.2.2, U.2.1 * R.2.2 * G.2.2, G.2.1 * R.2.2 * U.2.2)]
def meet (a b : Cp) : KS := sol (eqs (minus (gap a b (1, 0, 1)) (gap a b (0, 0, 1))) (minus (gap a b (0, 1, 1)) (gap a b (0, 0, 1))) (neg (gap a b (0, 0, 1))))
theorem minus_ok {a b : T3} (ha : Ok a) (hb : Ok b) : Ok (minus a b) := plus_ok ha (neg_ok hb)
theorem re_minus {a b : T3} (ha : Ok a) (hb : Ok b) : re (minus a b) = re a - re b := by unfold minus; rw [re_plus ha (neg_ok hb), re_neg]; grind
theorem im_minus {a b : T3} (ha : Ok a) (hb : Ok b) : im (minus a b) = im a - im b := by unfold minus; rw [im_plus ha (neg_ok hb), im_neg]; grind
theorem eqs_iff {R U G z : T3} (hR : Ok R) (hU : Ok U) (hG : Ok G) (hz : Ok z) : (∀ r ∈ eqs R U G, on r z) ↔ (re R * re z + re U * im z = re G ∧ im R * re z + im U * im z = im G) := by
  have r0 := cast_ne hR.ne
  have u0 := cast_ne hU.ne
  have g0 := cast_ne hG.ne
  have h : ∀ r1 u1 g1 : Int, on (r1 * U.2.2 * G.2.2, u1 * R.2.2 * G.2.2, g1 * R.2.2 * U.2.2) z ↔ (r1 : Rat) / (R.2.2 : Rat) * re z + (u1 : Rat) / (U.2.2 : Rat) * im z = (g1 : Rat) / (G.2.2 : Rat) := fun r1 u1 g1 => by
    rw [on_iff hz]
    simp only [Rat.intCast_mul]
    refine ⟨fun e => ?_, fun e => ?_⟩ <;> grind
  have e : (∀ r ∈ eqs R U G, on r z) ↔ (on (R.1 * U.2.2 * G.2.2, U.1 * R.2.2 * G.2.2, G.1 * R.2.2 * U.2.2) z ∧ on (R.2.1 * U.2.2 * G.2.2, U.2.1 * R.2.2 * G.2.2, G.2.1 * R.2.2 * U.2.2) z) := by
    unfold eqs; simp
  rw [e, h, h]
  rfl
theorem ok_0 : Ok (0, 0, 1) := ⟨by decide, by decide⟩
theorem ok_1 : Ok (1, 0, 1) := ⟨by decide, by decide⟩
theorem ok_i : Ok (0, 1, 1) := ⟨by decide, by decide⟩
theorem re_i : re (0, 1, 1) = 0 := by unfold re; decide +kernel
theorem im_i : im (0, 1, 1) = 1 := by unfold im; decide +kernel
theorem gap_ok {a b : Cp} {z : T3} (ha : CpOk a) (hb : CpOk b) (hz : Ok z) : Ok (gap a b z) := minus_ok (ap_ok ha hz) (ap_ok hb hz)
theorem re_gap {a b : Cp} {z : T3} (ha : CpOk a) (hb : CpOk b) (hz : Ok z) : re (gap a b z) = re (ap a z) - re (ap b z) := re_minus (ap_ok ha hz) (ap_ok hb hz)
theorem im_gap {a b : Cp} {z : T3} (ha : CpOk a) (hb : CpOk b) (hz : Ok z) : im (gap a b z) = im (ap a z) - im (ap b z) := im_minus (ap_ok ha hz) (ap_ok hb hz)
theorem meet_mem {a b : Cp} {z : T3} (ha : CpOk a) (hb : CpOk b) (hz : Ok z) : Mem (meet a b) z ↔ ap a z = ap b z := by
  unfold meet
  have g0 := gap_ok ha hb ok_0
  have g1 := gap_ok ha hb ok_1
  have gi := gap_ok ha hb ok_i
  rw [sol_mem _ hz, eqs_iff (minus_ok g1 g0) (minus_ok gi g0) (neg_ok g0) hz, re_minus g1 g0, re_minus gi g0, im_minus g1 g0, im_minus gi g0, re_neg, im_neg]
  simp only [re_gap ha hb ok_0, re_gap ha hb ok_1, re_gap ha hb ok_i, im_gap ha hb ok_0, im_gap ha hb ok_1, im_gap ha hb ok_i]
  unfold ap
  simp only [re_car ha.t ha.s ok_0, re_car ha.t ha.s ok_1, re_car ha.t ha.s ok_i, re_car hb.t hb.s ok_0, re_car hb.t hb.s ok_1, re_car hb.t hb.s ok_i, im_car ha.t ha.s ok_0, im_car ha.t ha.s ok_1, im_car ha.t ha.s ok_i, im_car hb.t hb.s ok_0, im_car hb.t hb.s ok_1, im_car hb.t hb.s ok_i, re_0, im_0, re_1, im_1, re_i, im_i]
  have k : car a.t a.s a.m z = car b.t b.s b.m z ↔ (re (car a.t a.s a.m z) = re (car b.t b.s b.m z) ∧ im (car a.t a.s a.m z) = im (car b.t b.s b.m z)) :=
    ⟨fun e => by rw [e]; exact ⟨rfl, rfl⟩, fun ⟨e1, e2⟩ => ext (car_ok ha.t ha.s hz) (car_ok hb.t hb.s hz) e1 e2⟩
  rw [k, re_car ha.t ha.s hz, re_car hb.t hb.s hz, im_car ha.t ha.s hz, im_car hb.t hb.s hz]
  generalize (if a.m = true then (-1 : Rat) else 1) = sa
  generalize (if b.m = true then (-1 : Rat) else 1) = sb
  refine ⟨fun ⟨e1, e2⟩ => ⟨?_, ?_⟩, fun ⟨e1, e2⟩ => ⟨?_, ?_⟩⟩ <;> grind
theorem meet_ok (a b : Cp) : KOk (meet a b) := sol_ok _
theorem all_iff {a b : Cp} (ha : CpOk a) (hb : CpOk b) : meet a b = .all ↔ a = b := by
  refine ⟨fun e => ?_, fun e => ?_⟩
  · have h : ∀ z, Ok z → ap a z = ap b z := fun z hz => (meet_mem ha hb hz).mp (by rw [e]; trivial)
    have e0 := h _ ok_0
    have e1 := h _ ok_1
    have ei := h _ ok_i
    have r0 := congrArg re e0
    have i0 := congrArg im e0
    have r1 := congrArg re e1
    have i1 := congrArg im e1
    have ri := congrArg re ei
    have ii := congrArg im ei
    unfold ap at r0 i0 r1 i1 ri ii
    simp only [re_car ha.t ha.s ok_0, re_car ha.t ha.s ok_1, re_car ha.t ha.s ok_i, re_car hb.t hb.s ok_0, re_car hb.t hb.s ok_1, re_car hb.t hb.s ok_i, im_car ha.t ha.s ok_0, im_car ha.t ha.s ok_1, im_car ha.t ha.s ok_i, im_car hb.t hb.s ok_0, im_car hb.t hb.s ok_1, im_car hb.t hb.s ok_i, re_0, im_0, re_1, im_1, re_i, im_i] at r0 i0 r1 i1 ri ii
    have n := nn_ne ha.t ha.n
    have q : nn a.t = re a.t * re a.t + im a.t * im a.t := rfl
    have tr : re a.t = re b.t := by grind
    have ti : im a.t = im b.t := by grind
    refine cp_ext ha hb tr ti (by grind) (by grind) ?_
    have no : a.m ≠ b.m → False := fun hne => by
      apply n
      rw [q]
      have z : re a.t = 0 ∧ im a.t = 0 := by
        cases hm : a.m <;> cases hm' : b.m
        · exact absurd (hm.trans hm'.symm) hne
        · rw [hm, hm'] at ri ii
          simp at ri ii
          exact ⟨by grind, by grind⟩
        · rw [hm, hm'] at ri ii
          simp at ri ii
          exact ⟨by grind, by grind⟩
        · exact absurd (hm.trans hm'.symm) hne
      rw [z.1, z.2]
      grind
    exact Decidable.byContradiction no
  · have h : ∀ z, Ok z → Mem (meet a b) z := fun z hz => (meet_mem ha hb hz).mpr (by rw [e])
    have ok := meet_ok a b
    generalize meet a b = k at *
    have h0 := h _ ok_0
    have h1 := h _ ok_1
    have hi := h _ ok_i
    cases k with
    | all => rfl
    | none => exact h0.elim
    | spot s =>
      have z0 : ((0, 0, 1) : T3) = s := h0
      have z1 : ((1, 0, 1) : T3) = s := h1
      rw [← z0] at z1
      exact absurd z1 (by decide)
    | line l =>
      exfalso
      have ok : Ln l := ok
      have z0 : on l (0, 0, 1) := h0
      have z1 : on l (1, 0, 1) := h1
      have zi : on l (0, 1, 1) := hi
      unfold on at z0 z1 zi
      simp at z0 z1 zi
      have := ok.s
      omega
/-! ### sizes of what is told -/
def KB (n m : Nat) : KS → Prop
  | .spot s => B n s
  | .line l => B m l
  | _ => True
theorem lf_B {r : T3} {n : Nat} (h : r.1 ≠ 0 ∨ r.2.1 ≠ 0) (b : B n r) : B n (lf r) := by
  obtain ⟨e1, e2, e3⟩ := lf_mul r
  have hs := sgl_ne (c := r.2.2) h
  obtain ⟨b1, b2, b3⟩ := b
  refine ⟨?_, ?_, ?_⟩
  · have := abs_le (a := (lf r).1) hs; rw [← e1] at this; omega
  · have := abs_le (a := (lf r).2.1) hs; rw [← e2] at this; omega
  · have := abs_le (a := (lf r).2.2) hs; rw [← e3] at this; omega
theorem sol_KB {rows : List T3} {n : Nat} (h : ∀ r ∈ rows, B n r) : KB (n + n + 1) n (sol rows) := by
  unfold sol
  split
  · trivial
  · have lns : ∀ l ∈ (rows.filter nz2).map lf, B n l := fun l hl => by
      obtain ⟨r, hr, rfl⟩ := List.mem_map.mp hl
      obtain ⟨hr1, hr2⟩ := List.mem_filter.mp hr
      exact lf_B (by unfold nz2 at hr2; simpa using hr2) (h r hr1)
    generalize (rows.filter nz2).map lf = ls at *
    cases ls with
    | nil => trivial
    | cons f ls =>
      unfold solL
      dsimp only
      have hf := lns f (List.mem_cons_self ..)
      cases ho : (f :: ls).filter (fun l => !decide (l = f)) with
      | nil => exact hf
      | cons o os =>
        dsimp only
        have om : o ∈ (f :: ls).filter (fun l => !decide (l = f)) := by rw [ho]; exact List.mem_cons_self ..
        have hO := lns o (List.mem_filter.mp om).1
        split
        · trivial
        · rename_i p
          split
          · exact low_B (fun z => p (Int.sub_eq_zero.mp z)) (sub_lt (mul_lt hf.2.2 hO.2.1) (mul_lt hO.2.2 hf.2.1)) (sub_lt (mul_lt hf.1 hO.2.2) (mul_lt hO.1 hf.2.2)) (sub_lt (mul_lt hf.1 hO.2.1) (mul_lt hO.1 hf.2.1))
          · trivial
theorem eqs_B {R U G : T3} {n : Nat} (hR : B n R) (hU : B n U) (hG : B n G) : ∀ r ∈ eqs R U G, B (n + n + n) r := by
  intro r hr
  unfold eqs at hr
  simp only [List.mem_cons, List.mem_nil_iff, or_false] at hr
  rcases hr with rfl | rfl
  · exact ⟨mul_lt (mul_lt hR.1 hU.2.2) hG.2.2, mul_lt (mul_lt hU.1 hR.2.2) hG.2.2, mul_lt (mul_lt hG.1 hR.2.2) hU.2.2⟩
  · exact ⟨mul_lt (mul_lt hR.2.1 hU.2.2) hG.2.2, mul_lt (mul_lt hU.2.1 hR.2.2) hG.2.2, mul_lt (mul_lt hG.2.1 hR.2.2) hU.2.2⟩
theorem minus_B {a b : T3} {n m : Nat} (oa : Ok a) (ob : Ok b) (ha : B n a) (hb : B m b) : B (n + m + 1) (minus a b) := plus_B oa (neg_ok ob) ha (neg_B hb)
theorem gap_Bn {a b : Cp} {z : T3} {n m : Nat} (ha : CpOk a) (hb : CpOk b) (hz : Ok z) (ta : B n a.t) (sa : B n a.s) (tb : B m b.t) (sb : B m b.s) (bz : B 1 z) : B (2 * n + 3 + (2 * m + 3) + 1) (gap a b z) :=
  minus_B (ap_ok ha hz) (ap_ok hb hz) ((car_B ha.t ha.s hz ta sa bz).mono (by omega)) ((car_B hb.t hb.s hz tb sb bz).mono (by omega))
instance (n : Nat) (t : T3) : Decidable (B n t) := inferInstanceAs (Decidable (_ ∧ _ ∧ _))
theorem meet_KB {a b : Cp} {n m : Nat} (ha : CpOk a) (hb : CpOk b) (ta : B n a.t) (sa : B n a.s) (tb : B m b.t) (sb : B m b.s) : KB (24 * n + 24 * m + 91) (12 * n + 12 * m + 45) (meet a b) := by
  have z0 : B 1 (0, 0, 1) := by decide
  have z1 : B 1 (1, 0, 1) := by decide
  have zi : B 1 (0, 1, 1) := by decide
  have b0 := gap_Bn ha hb ok_0 ta sa tb sb z0
  have b1 := gap_Bn ha hb ok_1 ta sa tb sb z1
  have bi := gap_Bn ha hb ok_i ta sa tb sb zi
  have g0 := gap_ok ha hb ok_0
  have g1 := gap_ok ha hb ok_1
  have gi := gap_ok ha hb ok_i
  have bR := minus_B g1 g0 b1 b0
  have bU := minus_B gi g0 bi b0
  have bG := (neg_B b0).mono (show 2 * n + 3 + (2 * m + 3) + 1 ≤ 2 * n + 3 + (2 * m + 3) + 1 + (2 * n + 3 + (2 * m + 3) + 1) + 1 by omega)
  have e1 : 24 * n + 24 * m + 91 = (12 * n + 12 * m + 45) + (12 * n + 12 * m + 45) + 1 := by omega
  rw [e1]
  exact sol_KB fun r hr => (eqs_B bR bU bG r hr).mono (by omega)
/-! ### a spot of a line, and others along it -/
def along (l : T3) (k : Int) : T3 := low (l.1 * l.2.2 + k * l.2.1) (l.2.1 * l.2.2 - k * l.1) (l.1 * l.1 + l.2.1 * l.2.1)
theorem ln_sq {l : T3} (h : Ln l) : l.1 * l.1 + l.2.1 * l.2.1 ≠ 0 := sq_ne (a := l) (by have := h.s; unfold Nz; omega)
theorem along_ok {l : T3} (h : Ln l) (k : Int) : Ok (along l k) := low_ok (ln_sq h)
theorem along_on {l : T3} (h : Ln l) (k : Int) : on l (along l k) := by
  rw [on_iff (along_ok h k)]
  have n := cast_ne (ln_sq h)
  unfold along
  rw [low_re (ln_sq h), low_im (ln_sq h)]
  simp only [Rat.intCast_add, Rat.intCast_sub, Rat.intCast_mul] at n ⊢
  grind
theorem along_re {l : T3} (h : Ln l) (k : Int) : re (along l k) = ((l.1 * l.2.2 + k * l.2.1 : Int) : Rat) / ((l.1 * l.1 + l.2.1 * l.2.1 : Int) : Rat) := low_re (ln_sq h)
theorem along_im {l : T3} (h : Ln l) (k : Int) : im (along l k) = ((l.2.1 * l.2.2 - k * l.1 : Int) : Rat) / ((l.1 * l.1 + l.2.1 * l.2.1 : Int) : Rat) := low_im (ln_sq h)
theorem two_on {l m : T3} (hl : Ln l) (hm : Ln m) (h0 : on m (along l 0)) (h1 : on m (along l 1)) : l = m := by
  refine ln_same hl hm (along_ok hl 0) ?_ (along_on hl 0) h0
  rw [on_iff (along_ok hl _), along_re hl, along_im hl] at h0 h1
  have n := cast_ne (ln_sq hl)
  simp only [Rat.intCast_add, Rat.intCast_sub, Rat.intCast_mul] at n h0 h1
  have e : (l.1 : Rat) * (m.2.1 : Rat) = (m.1 : Rat) * (l.2.1 : Rat) := by
    simp at h0 h1
    grind
  rw [← Rat.intCast_mul, ← Rat.intCast_mul] at e
  exact Rat.intCast_inj.mp e
theorem along_ne {l : T3} (h : Ln l) : along l 0 ≠ along l 1 := fun e => by
  have r := congrArg re e
  have i := congrArg im e
  rw [along_re h, along_re h] at r
  rw [along_im h, along_im h] at i
  have n := cast_ne (ln_sq h)
  simp only [Rat.intCast_add, Rat.intCast_sub, Rat.intCast_mul] at n r i
  have e1 : (l.2.1 : Rat) = 0 := by simp at r; grind
  have e2 : (l.1 : Rat) = 0 := by simp at i; grind
  have z1 : l.2.1 = 0 := by
    have : ((l.2.1 : Int) : Rat) = ((0 : Int) : Rat) := by rw [e1]; simp
    exact Rat.intCast_inj.mp this
  have z2 : l.1 = 0 := by
    have : ((l.1 : Int) : Rat) = ((0 : Int) : Rat) := by rw [e2]; simp
    exact Rat.intCast_inj.mp this
  have := h.s
  omega
theorem no_line {l : T3} (h : Ln l) (a : ∀ z, Ok z → on l z) : False := by
  have z0 := a _ ok_0
  have z1 := a _ ok_1
  have zi := a _ ok_i
  unfold on at z0 z1 zi
  simp at z0 z1 zi
  have := h.s
  omega
theorem no_spot {s : T3} (a : ∀ z, Ok z → z = s) : False := by
  have e := (a _ ok_0).trans (a _ ok_1).symm
  exact absurd e (by decide)
theorem ks_ext {k m : KS} (hk : KOk k) (hm : KOk m) (h : ∀ z, Ok z → (Mem k z ↔ Mem m z)) : k = m := by
  cases k with
  | all =>
    cases m with
    | all => rfl
    | none => exact ((h _ ok_0).mp trivial).elim
    | spot s => exact (no_spot fun z hz => (h z hz).mp trivial).elim
    | line l => exact (no_line hm fun z hz => (h z hz).mp trivial).elim
  | none =>
    cases m with
    | all => exact ((h _ ok_0).mpr trivial).elim
    | none => rfl
    | spot s => exact ((h s hm).mpr rfl).elim
    | line l => exact ((h _ (along_ok hm 0)).mpr (along_on hm 0)).elim
  | spot s =>
    cases m with
    | all => exact (no_spot fun z hz => (h z hz).mpr trivial).elim
    | none => exact ((h s hk).mp rfl).elim
    | spot t => exact congrArg KS.spot ((h s hk).mp rfl)
    | line l =>
      have a : along l 0 = s := (h _ (along_ok hm 0)).mpr (along_on hm 0)
      have b : along l 1 = s := (h _ (along_ok hm 1)).mpr (along_on hm 1)
      exact absurd (a.trans b.symm) (along_ne hm)
  | line l =>
    cases m with
    | all => exact (no_line hk fun z hz => (h z hz).mpr trivial).elim
    | none => exact ((h _ (along_ok hk 0)).mp (along_on hk 0)).elim
    | spot s =>
      have a : along l 0 = s := (h _ (along_ok hk 0)).mp (along_on hk 0)
      have b : along l 1 = s := (h _ (along_ok hk 1)).mp (along_on hk 1)
      exact absurd (a.trans b.symm) (along_ne hk)
    | line l' => exact congrArg KS.line (two_on hk hm ((h _ (along_ok hk 0)).mp (along_on hk 0)) ((h _ (along_ok hk 1)).mp (along_on hk 1)))
theorem meet_comm {a b : Cp} (ha : CpOk a) (hb : CpOk b) : meet b a = meet a b := ks_ext (meet_ok b a) (meet_ok a b) fun z hz => by
  rw [meet_mem hb ha hz, meet_mem ha hb hz]; exact ⟨Eq.symm, Eq.symm⟩
end Mth
namespace Mth
/-! ### times of any sign -/
theorem agz_zero (c : Cp) : agz c 0 = still := rfl
theorem agz_one {c : Cp} (h : CpOk c) : agz c 1 = c := ag_one h
theorem agz_neg1 {c : Cp} (h : CpOk c) : agz c (-1) = bk c := ag_one (bk_ok h)
theorem agz_pos (c : Cp) (n : Nat) : agz c (n : Int) = ag c n := by
  unfold agz stp
  rw [if_pos (by omega), Int.natAbs_natCast]
theorem agz_neg (c : Cp) (n : Nat) : agz c (-(n : Int)) = ag (bk c) n := by
  by_cases h0 : n = 0
  · subst h0; rfl
  · unfold agz stp
    rw [if_neg (by omega), Int.natAbs_neg, Int.natAbs_natCast]
theorem agz_succ {c : Cp} (h : CpOk c) (n : Int) : agz c (n + 1) = jn (agz c n) c := by
  by_cases h0 : 0 ≤ n
  · obtain ⟨k, rfl⟩ : ∃ k : Nat, n = (k : Int) := ⟨n.toNat, by omega⟩
    have e : ((k : Int) + 1) = ((k + 1 : Nat) : Int) := by omega
    rw [e, agz_pos, agz_pos]
    rfl
  · obtain ⟨k, rfl⟩ : ∃ k : Nat, n = -((k + 1 : Nat) : Int) := ⟨(-n).toNat - 1, by omega⟩
    have e : (-((k + 1 : Nat) : Int) + 1) = -(k : Int) := by omega
    rw [e, agz_neg, agz_neg]
    show ag (bk c) k = jn (jn (ag (bk c) k) (bk c)) c
    rw [jn_assoc (ag_ok (bk_ok h) k) (bk_ok h) h, bk_jn h, jn_still (ag_ok (bk_ok h) k)]
theorem agz_pred {c : Cp} (h : CpOk c) (n : Int) : agz c (n - 1) = jn (agz c n) (bk c) := by
  have e := agz_succ h (n - 1)
  rw [show n - 1 + 1 = n by omega] at e
  rw [e, jn_assoc (agz_ok h _) h (bk_ok h), jn_bk h, jn_still (agz_ok h _)]
theorem agz_addn {c : Cp} (h : CpOk c) (m : Int) : ∀ k : Nat, agz c (m + (k : Int)) = jn (agz c m) (ag c k)
  | 0 => by
    show agz c (m + 0) = jn (agz c m) still
    rw [Int.add_zero, jn_still (agz_ok h m)]
  | k + 1 => by
    have e : m + ((k + 1 : Nat) : Int) = m + (k : Int) + 1 := by omega
    rw [e, agz_succ h, agz_addn h m k]
    show jn (jn (agz c m) (ag c k)) c = jn (agz c m) (jn (ag c k) c)
    rw [jn_assoc (agz_ok h m) (ag_ok h k) h]
theorem agz_subn {c : Cp} (h : CpOk c) (m : Int) : ∀ k : Nat, agz c (m - (k : Int)) = jn (agz c m) (ag (bk c) k)
  | 0 => by
    show agz c (m - 0) = jn (agz c m) still
    rw [Int.sub_zero, jn_still (agz_ok h m)]
  | k + 1 => by
    have e : m - ((k + 1 : Nat) : Int) = m - (k : Int) - 1 := by omega
    rw [e, agz_pred h, agz_subn h m k]
    show jn (jn (agz c m) (ag (bk c) k)) (bk c) = jn (agz c m) (jn (ag (bk c) k) (bk c))
    rw [jn_assoc (agz_ok h m) (ag_ok (bk_ok h) k) (bk_ok h)]
theorem agz_add {c : Cp} (h : CpOk c) (m n : Int) : agz c (m + n) = jn (agz c m) (agz c n) := by
  by_cases h0 : 0 ≤ n
  · obtain ⟨k, rfl⟩ : ∃ k : Nat, n = (k : Int) := ⟨n.toNat, by omega⟩
    rw [agz_addn h, agz_pos]
  · obtain ⟨k, rfl⟩ : ∃ k : Nat, n = -(k : Int) := ⟨(-n).toNat, by omega⟩
    rw [show m + -(k : Int) = m - (k : Int) by omega, agz_subn h, agz_neg]
theorem agz_two {c : Cp} (h : CpOk c) (n : Int) : agz (agz c n) 2 = agz c (2 * n) := by
  rw [show 2 * n = n + n by omega, agz_add h]
  show jn (jn still (agz c n)) (agz c n) = _
  rw [still_jn (agz_ok h n)]
/-! ### step by step -/
def itn (c : Cp) (z : T3) : Nat → T3
  | 0 => z
  | n + 1 => ap c (itn c z n)
theorem itn_ok {c : Cp} (h : CpOk c) {z : T3} (hz : Ok z) : ∀ n, Ok (itn c z n)
  | 0 => hz
  | n + 1 => ap_ok h (itn_ok h hz n)
theorem ap_ag {c : Cp} (h : CpOk c) {z : T3} (hz : Ok z) : ∀ n, ap (ag c n) z = itn c z n
  | 0 => ap_still hz
  | n + 1 => by
    show ap (jn (ag c n) c) z = ap c (itn c z n)
    rw [jn_ap (ag_ok h n) h hz, ap_ag h hz n]
/-! ### a quarter -/
theorem ag_still : ∀ n, ag still n = still
  | 0 => rfl
  | n + 1 => by
    show jn (ag still n) still = still
    rw [ag_still n, jn_still still_ok]
theorem quarter4 {c : Cp} (h : CpOk c) (ht : c.t = (0, 1, 1)) (hm : c.m = false) : ag c 4 = still := by
  have e : ag c 4 = ag (ag c 2) 2 := ag_mul h 2 2
  rw [e]
  refine at_half (ag_ok h 2) ?_ ?_
  · rw [ag_t, ht, hm]; decide
  · rw [ag_m, hm]; rfl
theorem period4 {c : Cp} (h : CpOk c) (e4 : ag c 4 = still) (k : Nat) : ag c k = ag c (k % 4) := by
  have e : ag c (4 * (k / 4) + k % 4) = jn (ag c (4 * (k / 4))) (ag c (k % 4)) := ag_add h _ _
  rw [Nat.div_add_mod, ag_mul h, e4, ag_still, still_jn (ag_ok h _)] at e
  exact e
theorem quarter100 {c : Cp} (h : CpOk c) (e4 : ag c 4 = still) : agz c 100 = still := by
  show ag c 100 = still
  rw [period4 h e4]
  rfl
theorem quarter99 {c : Cp} (h : CpOk c) (e4 : ag c 4 = still) : agz c (-99) = c := by
  show ag (bk c) 99 = c
  rw [← bk_ag h]
  refine (bk_uniq (ag_ok h 99) h ?_).symm
  show ag c 100 = still
  rw [period4 h e4]
  rfl
theorem back4 {c : Cp} (h : CpOk c) (e4 : ag c 4 = still) : ag (bk c) 4 = still := by
  rw [← bk_ag h, e4, bk_still]
end Mth
namespace Mth
/-! ### arms -/
structure Am where
  pole : T3
  t : T3
  near : Int
  far : Int
  m : Bool
  deriving DecidableEq
structure AmOk (a : Am) : Prop where
  p : Ok a.pole
  t : Ok a.t
  n : Nz a.t
  lo : 0 ≤ a.near
  mi : a.near ≤ a.far
  hi : a.far ≤ 1000
def about (a : Am) : Cp := ⟨a.t, minus a.pole (times a.t (face a.pole a.m)), a.m⟩
theorem about_ok {a : Am} (h : AmOk a) : CpOk (about a) := ⟨h.t, h.n, minus_ok h.p (times_ok h.t (face_ok h.p _))⟩
theorem re_sh {p t : T3} (hp : Ok p) (ht : Ok t) (m : Bool) : re (minus p (times t (face p m))) = re p - (re t * re p - im t * ((if m = true then -1 else 1) * im p)) := by
  rw [re_minus hp (times_ok ht (face_ok hp m)), re_times ht (face_ok hp m), re_face, im_face]
theorem im_sh {p t : T3} (hp : Ok p) (ht : Ok t) (m : Bool) : im (minus p (times t (face p m))) = im p - (re t * ((if m = true then -1 else 1) * im p) + im t * re p) := by
  rw [im_minus hp (times_ok ht (face_ok hp m)), im_times ht (face_ok hp m), re_face, im_face]
theorem about_fix {a : Am} (h : AmOk a) : ap (about a) a.pole = a.pole := by
  have o := minus_ok h.p (times_ok h.t (face_ok h.p a.m))
  refine ext (ap_ok (about_ok h) h.p) h.p ?_ ?_
  · show re (car a.t (minus a.pole (times a.t (face a.pole a.m))) a.m a.pole) = _
    rw [re_car h.t o h.p, re_sh h.p h.t]; grind
  · show im (car a.t (minus a.pole (times a.t (face a.pole a.m))) a.m a.pole) = _
    rw [im_car h.t o h.p, im_sh h.p h.t]; grind
theorem about_of {c : Cp} {z : T3} {n f : Int} (hc : CpOk c) (hz : Ok z) (h : ap c z = z) : about ⟨z, c.t, n, f, c.m⟩ = c := by
  have o := minus_ok hz (times_ok hc.t (face_ok hz c.m))
  have h1 := congrArg re h
  have h2 := congrArg im h
  unfold ap at h1 h2
  rw [re_car hc.t hc.s hz] at h1
  rw [im_car hc.t hc.s hz] at h2
  refine cp_ext (a := about ⟨z, c.t, n, f, c.m⟩) ⟨hc.t, hc.n, o⟩ hc rfl rfl ?_ ?_ rfl
  · show re (minus z (times c.t (face z c.m))) = _
    rw [re_sh hz hc.t]; grind
  · show im (minus z (times c.t (face z c.m))) = _
    rw [im_sh hz hc.t]; grind
/-! ### chains -/
def jall (as : List Am) : Cp := as.foldl (fun c a => jn c (about a)) still
theorem foldl_ok {as : List Am} : ∀ {c : Cp}, CpOk c → (∀ a ∈ as, AmOk a) → CpOk (as.foldl (fun c a => jn c (about a)) c) := by
  induction as with
  | nil => intro c hc _; exact hc
  | cons a as ih => intro c hc h; exact ih (jn_ok hc (about_ok (h a (List.mem_cons_self ..)))) fun b hb => h b (List.mem_cons_of_mem _ hb)
theorem jall_ok {as : List Am} (h : ∀ a ∈ as, AmOk a) : CpOk (jall as) := foldl_ok still_ok h
theorem jall_snoc (as : List Am) (a : Am) : jall (as ++ [a]) = jn (jall as) (about a) := by
  unfold jall; rw [List.foldl_append]; rfl
theorem jall_take {as : List Am} {i : Nat} {a : Am} (h : as[i]? = some a) : jall (as.take (i + 1)) = jn (jall (as.take i)) (about a) := by
  rw [List.take_succ, h]; exact jall_snoc _ _
theorem jall_one {a : Am} (h : AmOk a) : jall [a] = about a := still_jn (about_ok h)
/-! ### the spot nearest to the middle -/
def near0 : KS → Option T3
  | .none => none
  | .all => some (0, 0, 1)
  | .spot s => some s
  | .line l => some (along l 0)
theorem along0 (l : T3) : along l 0 = low (l.1 * l.2.2) (l.2.1 * l.2.2) (l.1 * l.1 + l.2.1 * l.2.1) := by
  unfold along; rw [Int.zero_mul, Int.zero_mul, Int.add_zero, Int.sub_zero]
theorem near0_mem {k : KS} (hk : KOk k) {z : T3} (h : near0 k = some z) : Ok z ∧ Mem k z := by
  cases k with
  | none => cases h
  | all => cases h; exact ⟨ok_0, trivial⟩
  | spot s => cases h; exact ⟨hk, rfl⟩
  | line l => cases h; exact ⟨along_ok hk 0, along_on hk 0⟩
theorem along_perp {l : T3} (h : Ln l) : l.1 * (along l 0).2.1 = l.2.1 * (along l 0).1 := by
  have o := along_ok h 0
  have n := cast_ne (ln_sq h)
  have d := cast_ne o.ne
  have e1 := along_re h 0
  have e2 := along_im h 0
  unfold re at e1
  unfold im at e2
  generalize along l 0 = z at *
  simp only [Rat.intCast_add, Rat.intCast_sub, Rat.intCast_mul] at e1 e2 n
  have : ((l.1 * z.2.1 : Int) : Rat) = ((l.2.1 * z.1 : Int) : Rat) := by
    simp only [Rat.intCast_mul]
    grind
  exact_mod_cast this
def sng (c : Cp) : Option Am := (near0 (meet c still)).map fun z => ⟨z, c.t, 0, 1000, c.m⟩
theorem sng_ok {c : Cp} {a : Am} (hc : CpOk c) (h : sng c = some a) : AmOk a ∧ about a = c ∧ near0 (meet c still) = some a.pole ∧ a.near = 0 ∧ a.far = 1000 ∧ a.t = c.t ∧ a.m = c.m := by
  unfold sng at h
  cases e : near0 (meet c still) with
  | none => rw [e] at h; cases h
  | some z =>
    rw [e] at h
    cases h
    obtain ⟨oz, mz⟩ := near0_mem (meet_ok c still) e
    have fz : ap c z = z := by rw [(meet_mem hc still_ok oz).mp mz, ap_still oz]
    exact ⟨⟨oz, hc.t, hc.n, by show (0 : Int) ≤ 0; decide, by show (0 : Int) ≤ 1000; decide, by show (1000 : Int) ≤ 1000; decide⟩, about_of hc oz fz, rfl, rfl, rfl, rfl, rfl⟩
theorem sng_none {c : Cp} : sng c = none ↔ meet c still = .none := by
  unfold sng
  cases e : meet c still with
  | none => exact ⟨fun _ => rfl, fun _ => rfl⟩
  | all => exact ⟨(fun h => by cases h), (fun h => by cases h)⟩
  | spot s => exact ⟨(fun h => by cases h), (fun h => by cases h)⟩
  | line l => exact ⟨(fun h => by cases h), (fun h => by cases h)⟩
theorem near0_B {k : KS} {n m : Nat} (hk : KOk k) (kb : KB n m k) (hn : n ≤ 2600) (hm : m + m + 1 ≤ 2600) {z : T3} (e : near0 k = some z) : B 2600 z := by
  cases k with
  | none => cases e
  | all => cases e; exact B.mono (n := 3) (by decide) (by decide)
  | spot s => cases e; exact B.mono kb hn
  | line l =>
    cases e
    have kb : B m l := kb
    rw [along0]
    exact (low_B (ln_sq hk) (up_lt (by omega) (mul_lt kb.1 kb.2.2)) (up_lt (by omega) (mul_lt kb.2.1 kb.2.2)) (add_lt (mul_lt kb.1 kb.1) (mul_lt kb.2.1 kb.2.1))).mono hm
/-- a single arm is its own -/
theorem sng_single {c : Cp} {a : Am} (hc : CpOk c) (h : sng c = some a) : sng (jall [a]) = some a := by
  obtain ⟨o, e, _⟩ := sng_ok hc h
  rw [jall_one o, e]; exact h
/-- the level line of a spot -/
def lev (s : T3) : Am := ⟨s, (1, 0, 1), 0, 9, true⟩
theorem lev_ok {s : T3} (h : Ok s) : AmOk (lev s) := ⟨h, ok_1, .inl (show (1 : Int) ≠ 0 by decide), (by show (0 : Int) ≤ 0; decide), (by show (0 : Int) ≤ 9; decide), (by show (9 : Int) ≤ 1000; decide)⟩
theorem lev_meet {s : T3} (h : Ok s) : meet (jall [lev s]) still = .line (lf (0, s.2.2, s.2.1)) := by
  have oa := lev_ok h
  have oc := about_ok oa
  have hn : (0, s.2.2, s.2.1).1 ≠ (0 : Int) ∨ (0, s.2.2, s.2.1).2.1 ≠ (0 : Int) := .inr h.ne
  rw [jall_one oa]
  refine ks_ext (meet_ok _ _) (lf_ln hn) fun z hz => ?_
  rw [meet_mem oc still_ok hz, ap_still hz]
  show _ ↔ on (lf (0, s.2.2, s.2.1)) z
  rw [lf_on hn z, on_iff hz]
  have n := cast_ne h.ne
  have ei : im s = (s.2.1 : Rat) / (s.2.2 : Rat) := rfl
  have e1 : re (ap (about (lev s)) z) = re z := by
    unfold ap; rw [re_car oc.t oc.s hz]; unfold about lev; dsimp only; rw [re_sh h ok_1, re_1, im_1]; grind
  have e2 : im (ap (about (lev s)) z) = 2 * im s - im z := by
    unfold ap; rw [im_car oc.t oc.s hz]; unfold about lev; dsimp only; rw [im_sh h ok_1, re_1, im_1]; grind
  have z0 : (((0 : Int)) : Rat) = 0 := rfl
  dsimp only
  rw [z0]
  constructor
  · intro e
    have := congrArg im e
    rw [e2] at this
    grind
  · intro e
    refine ext (ap_ok oc hz) hz e1 ?_
    rw [e2]
    grind
theorem lev_pole {s : T3} (h : Ok s) {a : Am} (e : sng (jall [lev s]) = some a) : a.pole = low 0 s.2.1 s.2.2 := by
  obtain ⟨_, _, h3, _⟩ := sng_ok (jall_ok fun b hb => by rw [List.mem_singleton.mp hb]; exact lev_ok h) e
  rw [lev_meet h] at h3
  have h3 := Option.some.inj h3
  rw [← h3]
  have hn : (0, s.2.2, s.2.1).1 ≠ (0 : Int) ∨ (0, s.2.2, s.2.1).2.1 ≠ (0 : Int) := .inr h.ne
  have hl := lf_ln hn
  have hm := lf_mul (0, s.2.2, s.2.1)
  have sn := sgl_ne (c := s.2.1) hn
  dsimp only at hm sn
  have l1 : (lf (0, s.2.2, s.2.1)).1 = 0 := by
    rcases Int.mul_eq_zero.mp hm.1.symm with z | z
    · exact absurd z sn
    · exact z
  have on1 := along_on hl 0
  rw [lf_on hn, on_iff (along_ok hl 0)] at on1
  have n := cast_ne h.ne
  refine ext (along_ok hl 0) (low_ok h.ne) ?_ ?_
  · rw [along_re hl, low_re h.ne, l1]
    simp only [Int.zero_mul, Int.add_zero, Rat.intCast_zero, Rat.div_def, Rat.zero_mul]
  · rw [low_im h.ne]
    have z0 : (((0 : Int)) : Rat) = 0 := rfl
    dsimp only at on1
    rw [z0] at on1
    grind
theorem lev_some {s : T3} (h : Ok s) : ∃ a, sng (jall [lev s]) = some a := by
  unfold sng
  rw [lev_meet h]
  exact ⟨_, rfl⟩
end Mth
namespace Mth
/-! ### fractions -/
def val (a : Int × Int) : Rat := (a.1 : Rat) / (a.2 : Rat)
def lessF (a b : Int × Int) : Bool := decide (a.1 * b.2 < b.1 * a.2)
theorem div_lt {a b c d : Rat} (hb : 0 < b) (hd : 0 < d) : a / b < c / d ↔ a * d < c * b := by
  have e1 : a / b * (b * d) = a * d := by grind
  have e2 : c / d * (b * d) = c * b := by grind
  have p : 0 < b * d := Rat.mul_pos hb hd
  rw [← e1, ← e2]
  exact (Rat.mul_lt_mul_right p).symm
theorem cast_pos {a : Int} (h : 0 < a) : (0 : Rat) < (a : Rat) := by exact_mod_cast h
theorem lessF_iff {a b : Int × Int} (ha : 0 < a.2) (hb : 0 < b.2) : lessF a b = decide (val a < val b) := by
  unfold lessF val
  have h := div_lt (a := (a.1 : Rat)) (c := (b.1 : Rat)) (cast_pos ha) (cast_pos hb)
  have e : (a.1 : Rat) * (b.2 : Rat) < (b.1 : Rat) * (a.2 : Rat) ↔ a.1 * b.2 < b.1 * a.2 := by
    rw [← Rat.intCast_mul, ← Rat.intCast_mul]
    exact Rat.intCast_lt_intCast
  rw [decide_eq_decide]
  exact (h.trans e).symm
theorem fr_pos {p q : Int} (hq : q ≠ 0) : 0 < (fr p q).2 := low_pos hq
theorem fr_val {p q : Int} (hq : q ≠ 0) : val (fr p q) = (p : Rat) / (q : Rat) := low_re (y := 0) hq
theorem gr_val {t : T3} (h : Ok t) : val (gr t) = nn t := by
  have := re_gr3 h
  rw [gr3_eq] at this
  exact this
theorem gr_p2 {t : T3} (h : Ok t) : 0 < (gr t).2 := low_pos (mul_ne h.ne h.ne)
theorem gr_congr {s t : T3} (hs : Ok s) (ht : Ok t) (h : nn s = nn t) : gr s = gr t := by
  have e : gr3 s = gr3 t := ext (gr3_ok hs) (gr3_ok ht) (by rw [re_gr3 hs, re_gr3 ht, h]) (by rw [im_gr3 hs, im_gr3 ht])
  rw [gr3_eq, gr3_eq] at e
  have x1 := congrArg (fun z : T3 => z.1) e
  have x2 := congrArg (fun z : T3 => z.2.2) e
  dsimp only at x1 x2
  exact Prod.ext x1 x2
/-! ### zones -/
theorem nn_ap {c : Cp} {z u : T3} (hc : CpOk c) (hz : Ok z) (hu : Ok u) : nn (minus (ap c z) (ap c u)) = nn c.t * nn (minus z u) := by
  unfold nn
  rw [re_minus (ap_ok hc hz) (ap_ok hc hu), im_minus (ap_ok hc hz) (ap_ok hc hu), re_minus hz hu, im_minus hz hu]
  unfold ap
  rw [re_car hc.t hc.s hz, re_car hc.t hc.s hu, im_car hc.t hc.s hz, im_car hc.t hc.s hu]
  cases c.m <;> simp only [if_true, if_false, Bool.false_eq_true] <;> grind
def zfr (c : Cp) (n : Int) : Int × Int := fr (n * n * (gr c.t).2) (gr c.t).1
theorem nn_pos {t : T3} (h : Ok t) (n : Nz t) : 0 < nn t := by
  rw [← gr_val h]
  obtain ⟨p1, p2⟩ := gr_pos h n
  unfold val
  have h := (div_lt (a := 0) (b := 1) (c := ((gr t).1 : Rat)) (by decide) (cast_pos p2)).mpr (by rw [Rat.zero_mul, Rat.mul_one]; exact cast_pos p1)
  have e : (0 : Rat) / 1 = 0 := by grind
  rw [e] at h
  exact h
theorem zfr_p2 {c : Cp} (hc : CpOk c) (n : Int) : 0 < (zfr c n).2 := fr_pos (by have := (gr_pos hc.t hc.n).1; omega)
theorem zfr_val {c : Cp} (hc : CpOk c) (n : Int) : val (zfr c n) * nn c.t = (n : Rat) * (n : Rat) := by
  obtain ⟨p1, p2⟩ := gr_pos hc.t hc.n
  unfold zfr
  rw [fr_val (by omega), ← gr_val hc.t]
  unfold val
  have c1 := cast_ne (show (gr c.t).1 ≠ 0 by omega)
  have c2 := cast_ne (show (gr c.t).2 ≠ 0 by omega)
  simp only [Rat.intCast_mul]
  grind
theorem val1 (n : Int) : val (n, 1) = (n : Rat) := by unfold val; dsimp only; simp only [Rat.intCast_one]; grind
theorem lt_mul {x y g : Rat} (hg : 0 < g) : x < y ↔ g * x < y * g := by
  rw [Rat.mul_comm g x]; exact (Rat.mul_lt_mul_right hg).symm
theorem lt_mul' {x y g : Rat} (hg : 0 < g) : x < y ↔ x * g < g * y := by
  rw [Rat.mul_comm g y]; exact (Rat.mul_lt_mul_right hg).symm
theorem zone1 {c : Cp} {z p : T3} (hc : CpOk c) (hz : Ok z) (hp : Ok p) (n : Int) : lessF (gr (minus z (ap (bk c) p))) (zfr c n) = lessF (gr (minus (ap c z) p)) (n * n, 1) := by
  have hu := ap_ok (bk_ok hc) hp
  have e := nn_ap hc hz hu
  rw [ap_bk hc hp] at e
  have o1 := minus_ok hz hu
  have o2 := minus_ok (ap_ok hc hz) hp
  rw [lessF_iff (gr_p2 o1) (zfr_p2 hc n), lessF_iff (gr_p2 o2) (show (0 : Int) < 1 by decide), gr_val o1, gr_val o2, val1, e]
  rw [decide_eq_decide, lt_mul (nn_pos hc.t hc.n), zfr_val hc, ← Rat.intCast_mul]
theorem zone2 {c : Cp} {z p : T3} (hc : CpOk c) (hz : Ok z) (hp : Ok p) (n : Int) : lessF (zfr c n) (gr (minus z (ap (bk c) p))) = lessF (n * n, 1) (gr (minus (ap c z) p)) := by
  have hu := ap_ok (bk_ok hc) hp
  have e := nn_ap hc hz hu
  rw [ap_bk hc hp] at e
  have o1 := minus_ok hz hu
  have o2 := minus_ok (ap_ok hc hz) hp
  rw [lessF_iff (zfr_p2 hc n) (gr_p2 o1), lessF_iff (show (0 : Int) < 1 by decide) (gr_p2 o2), gr_val o1, gr_val o2, val1, e]
  rw [decide_eq_decide, lt_mul' (nn_pos hc.t hc.n), zfr_val hc, ← Rat.intCast_mul]
def inF (d lo hi : Int × Int) : Bool := !lessF d lo && !lessF hi d
def rch (a : Am) (z : T3) : Bool := inF (gr (minus z a.pole)) (a.near * a.near, 1) (a.far * a.far, 1)
/-- the zone of an arm behind a copy -/
def zctr (c : Cp) (a : Am) : T3 := ap (bk c) a.pole
theorem zone_in {c : Cp} {a : Am} {z : T3} (hc : CpOk c) (ha : AmOk a) (hz : Ok z) : inF (gr (minus z (zctr c a))) (zfr c a.near) (zfr c a.far) = rch a (ap c z) := by
  unfold inF rch zctr inF
  rw [zone1 hc hz ha.p, zone2 hc hz ha.p]
structure Zn where
  ctr : T3
  lo : Int × Int
  hi : Int × Int
def zn (c : Cp) (a : Am) : Zn := ⟨zctr c a, zfr c a.near, zfr c a.far⟩
def zl : Cp → List Am → List Zn
  | _, [] => []
  | c, a :: as => zn c a :: zl (jn c (about a)) as
theorem zl_len : ∀ (c : Cp) (as : List Am), (zl c as).length = as.length
  | _, [] => rfl
  | c, a :: as => by unfold zl; rw [List.length_cons, List.length_cons, zl_len]
theorem zl_at : ∀ {as : List Am} {c : Cp} {i : Nat} {a : Am}, as[i]? = some a → (zl c as)[i]? = some (zn ((as.take i).foldl (fun c a => jn c (about a)) c) a)
  | [], c, i, a, h => by simp at h
  | b :: as, c, 0, a, h => by simp at h; subst h; rfl
  | b :: as, c, i + 1, a, h => by
    have h' : as[i]? = some a := by simpa using h
    have z := zl_at (c := jn c (about b)) h'
    unfold zl
    simpa using z
def zns (as : List Am) : List Zn := zl still as
theorem zns_at {as : List Am} {i : Nat} {a : Am} (h : as[i]? = some a) : (zns as)[i]? = some (zn (jall (as.take i)) a) := zl_at h
theorem zns_len (as : List Am) : (zns as).length = as.length := zl_len _ _
def FB (n : Nat) (f : Int × Int) : Prop := f.1.natAbs < 2 ^ n ∧ f.2.natAbs < 2 ^ n
theorem FB.mono {n m : Nat} {f : Int × Int} (h : FB n f) (e : n ≤ m) : FB m f := ⟨up_lt e h.1, up_lt e h.2⟩
theorem fr_FB {p q : Int} {n : Nat} (hq : q ≠ 0) (h1 : p.natAbs < 2 ^ n) (h2 : q.natAbs < 2 ^ n) : FB n (fr p q) := by
  have b := low_B (y := 0) hq h1 (by show 0 < 2 ^ n; exact Nat.pos_of_ne_zero (by simp)) h2
  exact ⟨b.1, b.2.2⟩
theorem gr_FB {t : T3} {n : Nat} (h : Ok t) (b : B n t) : FB (n + n + 1) (gr t) := fr_FB (mul_ne h.ne h.ne) (add_lt (mul_lt b.1 b.1) (mul_lt b.2.1 b.2.1)) (up_lt (by omega) (mul_lt b.2.2 b.2.2))
theorem nn_jt {c : Cp} {a : Am} (hc : CpOk c) (ha : AmOk a) : nn (jn c (about a)).t = nn c.t * nn a.t := by
  show nn (times a.t (face c.t a.m)) = _
  rw [nn_times ha.t (face_ok hc.t _), nn_face]; grind
end Mth
namespace Mth
/-! ### what an arm reaches -/
theorem nn_sym {a b : T3} (ha : Ok a) (hb : Ok b) : nn (minus a b) = nn (minus b a) := by
  unfold nn
  rw [re_minus ha hb, im_minus ha hb, re_minus hb ha, im_minus hb ha]
  grind
theorem gr_sym {a b : T3} (ha : Ok a) (hb : Ok b) : gr (minus a b) = gr (minus b a) := gr_congr (minus_ok ha hb) (minus_ok hb ha) (nn_sym ha hb)
def ftF (v lo hi : Int × Int) : Bool := decide (lo.1 * v.2 ≤ v.1 * lo.2) && decide (v.1 * hi.2 ≤ hi.1 * v.2)
theorem ft_in (v lo hi : Int × Int) : ftF v lo hi = inF v lo hi := by
  unfold ftF inF lessF
  rw [← decide_not, ← decide_not]
  congr 1 <;> rw [decide_eq_decide, Int.not_lt]
theorem plus_minus {p q : T3} (hp : Ok p) (hq : Ok q) : minus (plus p q) p = q := by
  refine ext (minus_ok (plus_ok hp hq) hp) hq ?_ ?_
  · rw [re_minus (plus_ok hp hq) hp, re_plus hp hq]; grind
  · rw [im_minus (plus_ok hp hq) hp, im_plus hp hq]; grind
theorem rch_1000 {p t : T3} {m : Bool} (hp : Ok p) : rch ⟨p, t, 0, 1000, m⟩ (plus p (600, 800, 1)) = true := by
  unfold rch
  rw [plus_minus hp (show Ok (600, 800, 1) from ⟨by decide, by decide⟩)]
  show inF (gr (600, 800, 1)) (0 * 0, 1) (1000 * 1000, 1) = true
  decide
end Mth
/-! rows of different numbers, and the arms that they name -/
namespace Mth
def nextR (c : Nat) (ls : List (List Nat)) : List (List Nat) := ls.flatMap fun r => ((List.range c).filter fun n => !r.contains n).map fun n => r ++ [n]
def layR (c : Nat) : Nat → List (List Nat)
  | 0 => [[]]
  | k + 1 => nextR c (layR c k)
def rowsF (c m : Nat) : List (List Nat) := (List.range (m + 1)).flatMap (layR c)
theorem rowsF_succ (c m : Nat) : rowsF c (m + 1) = rowsF c m ++ layR c (m + 1) := by
  unfold rowsF
  rw [List.range_succ, List.flatMap_append]
  simp
theorem rowsF_zero (c : Nat) : rowsF c 0 = [[]] := by simp [rowsF, layR]
theorem nextR_app (c : Nat) (a b : List (List Nat)) : nextR c (a ++ b) = nextR c a ++ nextR c b := by
  unfold nextR
  rw [List.flatMap_append]
theorem nextR_one (c : Nat) (r : List Nat) : nextR c [r] = ((List.range c).filter fun n => !r.contains n).map fun n => r ++ [n] := by simp [nextR]
structure RowOk (c k : Nat) (r : List Nat) : Prop where
  len : r.length = k
  nd : r.Nodup
  lt : ∀ n ∈ r, n < c
theorem lay_ok (c : Nat) : ∀ k, ∀ r ∈ layR c k, RowOk c k r
  | 0, r, h => by
    obtain rfl : r = [] := by simpa [layR] using h
    exact ⟨rfl, .nil, fun n h => nomatch h⟩
  | k + 1, r, h => by
    obtain ⟨s, hs, h⟩ := List.mem_flatMap.mp (show r ∈ (layR c k).flatMap _ from h)
    obtain ⟨n, hn, rfl⟩ := List.mem_map.mp h
    obtain ⟨h1, h2⟩ := List.mem_filter.mp hn
    have o := lay_ok c k s hs
    have nm : n ∉ s := by simpa using h2
    refine ⟨by rw [List.length_append, o.len]; rfl, ?_, fun m hm => ?_⟩
    · rw [List.nodup_append]
      refine ⟨o.nd, by simp, fun a ha b hb => ?_⟩
      rw [List.mem_singleton.mp hb]
      exact fun e => nm (e ▸ ha)
    · rcases List.mem_append.mp hm with h | h
      · exact o.lt m h
      · rw [List.mem_singleton.mp h]; exact List.mem_range.mp h1
theorem rows_ok {c m : Nat} {r : List Nat} (h : r ∈ rowsF c m) : r.length ≤ m ∧ r.Nodup ∧ ∀ n ∈ r, n < c := by
  obtain ⟨k, hk, h⟩ := List.mem_flatMap.mp h
  have o := lay_ok c k r h
  have := List.mem_range.mp hk
  exact ⟨by rw [o.len]; omega, o.nd, o.lt⟩
theorem rows_few : ∀ c ≤ 4, ∀ m ≤ 4, (rowsF c m).length ≤ 65 := by decide +kernel
theorem lay_few : ∀ c ≤ 4, ∀ k ≤ 4, (layR c k).length ≤ 24 := by decide +kernel
theorem rows_head (c m : Nat) : ∃ t, rowsF c m = [] :: t := by
  unfold rowsF
  rw [List.range_succ_eq_map]
  exact ⟨_, by simp [layR]; rfl⟩
/-- what a row names -/
def pick {α : Type} (xs : List α) (r : List Nat) : List α := r.filterMap fun n => xs[n]?
theorem pick_nil {α : Type} (xs : List α) : pick xs [] = [] := rfl
theorem pick_app {α : Type} (xs : List α) (r s : List Nat) : pick xs (r ++ s) = pick xs r ++ pick xs s := by unfold pick; rw [List.filterMap_append]
theorem pick_len {α : Type} {xs : List α} : ∀ {r : List Nat}, (∀ n ∈ r, n < xs.length) → (pick xs r).length = r.length
  | [], _ => rfl
  | n :: r, h => by
    unfold pick
    rw [List.filterMap_cons_some (List.getElem?_eq_getElem (h n (.head _)))]
    show (pick xs r).length + 1 = _
    rw [pick_len fun m hm => h m (.tail _ hm)]
    rfl
theorem pick_mem {α : Type} {xs : List α} {r : List Nat} {x : α} (h : x ∈ pick xs r) : x ∈ xs := by
  obtain ⟨n, _, e⟩ := List.mem_filterMap.mp h
  exact List.mem_of_getElem? e
theorem pick_take {α : Type} {xs : List α} {r : List Nat} {i n : Nat} {x : α} (e : r[i]? = some n) (ex : xs[n]? = some x) : pick xs (r.take (i + 1)) = pick xs (r.take i) ++ [x] := by
  have : r.take (i + 1) = r.take i ++ [n] := by rw [List.take_succ, e]; rfl
  rw [this, pick_app]
  unfold pick
  rw [List.filterMap_cons_some ex]
  rfl
end Mth
/-! a copy told by where it carries three ends -/
namespace Mth
theorem ends_s {c : Cp} (hc : CpOk c) : ap c (0, 0, 1) = c.s := by
  refine ext (ap_ok hc ok_0) hc.s ?_ ?_
  · unfold ap
    rw [re_car hc.t hc.s ok_0, re_0, im_0]
    grind
  · unfold ap
    rw [im_car hc.t hc.s ok_0, re_0, im_0]
    grind
theorem ends_t {c : Cp} (hc : CpOk c) : minus (ap c (1, 0, 1)) (ap c (0, 0, 1)) = c.t := by
  have o1 := ap_ok hc ok_1
  rw [ends_s hc]
  refine ext (minus_ok o1 hc.s) hc.t ?_ ?_
  · rw [re_minus o1 hc.s]
    unfold ap
    rw [re_car hc.t hc.s ok_1, re_1, im_1]
    grind
  · rw [im_minus o1 hc.s]
    unfold ap
    rw [im_car hc.t hc.s ok_1, re_1, im_1]
    grind
theorem ends_m {c : Cp} (hc : CpOk c) : minus (ap c (0, 1, 1)) (ap c (0, 0, 1)) = times c.t (0, 1, 1) ↔ c.m = false := by
  have o1 := ap_ok hc ok_i
  rw [ends_s hc]
  have h1 : re (minus (ap c (0, 1, 1)) c.s) = - (im c.t * (if c.m = true then -1 else 1)) := by
    rw [re_minus o1 hc.s]
    unfold ap
    rw [re_car hc.t hc.s ok_i, re_i, im_i]
    grind
  have h2 : im (minus (ap c (0, 1, 1)) c.s) = re c.t * (if c.m = true then -1 else 1) := by
    rw [im_minus o1 hc.s]
    unfold ap
    rw [im_car hc.t hc.s ok_i, re_i, im_i]
    grind
  have g1 : re (times c.t (0, 1, 1)) = - im c.t := by rw [re_times hc.t ok_i, re_i, im_i]; grind
  have g2 : im (times c.t (0, 1, 1)) = re c.t := by rw [im_times hc.t ok_i, re_i, im_i]; grind
  constructor
  · intro e
    cases hm : c.m with
    | false => rfl
    | true =>
      rw [e, g1, hm] at h1
      rw [e, g2, hm] at h2
      have z1 : im c.t = 0 := by simp at h1; grind
      have z2 : re c.t = 0 := by simp at h2; grind
      exact absurd (show nn c.t = 0 by unfold nn; rw [z1, z2]; grind) (nn_ne hc.t hc.n)
  · intro hm
    refine ext (minus_ok o1 hc.s) (times_ok hc.t ok_i) ?_ ?_
    · rw [h1, g1, hm]; simp
    · rw [h2, g2, hm]; simp
end Mth
namespace My
open PySem L2 Mth
/-! ### a def of the module and its promise -/
structure D (P : Program) (w : World) (K : PySem.W.Frag) (mg : Str → Option Value) (base : Heap) (x : Str) (k : Nat) (sp : Sp) : Prop where
  ex : ∃ f, FnR P w K mg base CX0 k f sp ∧ PySem.W.keepIn K (.ref f) = true ∧ mg x = some (.ref f)
theorem rOf {P : Program} {w : World} {K : PySem.W.Frag} {mg : Str → Option Value} {base : Heap} {CX : CXT} {k : Nat} {f : Addr} {fd : FuncData} {ps : List Str} {sp : Sp} (F : FnOk P w K mg base CX k f fd ps sp) (b : Binds K fd ps []) : FnR P w K mg base CX k f sp := by
  intro A outer s H us vs Q E hr e0 r h
  have KX : K.In s.heap := e0.mod.kin.keeps fun b o e => (e0.bs b o e).1
  have hl : us.length = ps.length := by rw [← r.length]; exact F.len _ _ _ _ h
  have z := b s us KX (by rw [List.append_nil]; exact hl)
  rw [List.append_nil] at z
  exact F.run A outer s H ⟨us, []⟩ us vs Q E hr e0 z r h
def tCl (sp : Sp) (t : TA) : TE := fun σ H Q => t σ H fun vs H1 => sp vs H1 Q E0
section
variable {X : Cx} {k : Nat} {f : Addr} {sp : Sp} {x : Str} {e : Expr} {es : List Expr} {t : TA} {p pos : Pos}
theorem pcR (F : FnR X.prog X.w X.K X.mg X.base CX0 k f sp) (hr : Room k X.A) (hk : PySem.W.keepIn X.K (.ref f) = true) (hm : X.mg x = some (.ref f)) (ha : PA X (e :: es) t) (hg : Gl X x := by rfl) (hd : (x == ("__debug__" : Str)) = false := by decide)
    (he : starEach (e :: es) X.env = (false, eval e X.env) :: starEach es X.env := by rfl) (hpl : (backTo pos (starEach es X.env)).any (·.1) = false := by rfl) :
    PE X (.Call (.Name x p) (e :: es) [] pos) (tCl sp t) := by
  refine ⟨fun pins s σ H Q I h => ?_⟩
  refine wpAny_Call_Name_kw (ld_glob I hg hm ?_ hd)
  refine PySem.W.callWith_K (h₀ := X.base) I.ok.mod.kin hk (thn (ha.run pos pins s σ H _ I h) fun us s1 ⟨vs, H1, I1, r, q⟩ => ⟨I1.kIn, ?_⟩) he hpl
  exact wpAny_call (run_fnR F hr pass0 I1 r q)
/-- f(e, ..) by the promise of f -/
theorem pc (d : D X.prog X.w X.K X.mg X.base x k sp) (hr : Room k X.A) (ha : PA X (e :: es) t) (hg : Gl X x := by rfl) (hd : (x == ("__debug__" : Str)) = false := by decide)
    (he : starEach (e :: es) X.env = (false, eval e X.env) :: starEach es X.env := by rfl) (hpl : (backTo pos (starEach es X.env)).any (·.1) = false := by rfl) :
    PE X (.Call (.Name x p) (e :: es) [] pos) (tCl sp t) := by
  obtain ⟨f, F, hk, hm⟩ := d.ex
  exact pcR F hr hk hm ha hg hd he hpl
end
section
variable {X : Cx} {k : Nat} {sp : Sp} {x : Str} {p pos : Pos}
/-- f() by the promise of f -/
theorem pc0 (d : D X.prog X.w X.K X.mg X.base x k sp) (hr : Room k X.A) (hg : Gl X x := by rfl) (hd : (x == ("__debug__" : Str)) = false := by decide) : PE X (.Call (.Name x p) [] [] pos) (tCl sp tNil) := by
  obtain ⟨f, F, hk, hm⟩ := d.ex
  refine ⟨fun pins s σ H Q I h => ?_⟩
  refine wpAny_Call_Name_kw (ld_glob I hg hm ?_ hd)
  exact PySem.W.callWith_K0 I.kIn hk (wpAny_call (run_fnR (us := []) (vs := []) F hr pass0 I .nil h))
end
/-! ### operators of own classes -/
def rOwn2 (C : Addr) (sp : Sp) : R2 := fun x y H Q => ∃ a b dx fs dy gs, x = .ref a ∧ y = .ref b ∧ H a = some (.ins C dx fs) ∧ H b = some (.ins C dy gs) ∧ sp [x, y] H Q E0
def rOwn1 (C : Addr) (sp : Sp) : V → Hp → VK → Prop := fun x H Q => ∃ a dx fs, x = .ref a ∧ H a = some (.ins C dx fs) ∧ sp [x] H Q E0
section
variable {X : Cx} {k : Nat} {f C : Addr} {sp : Sp}
theorem back_of {pins : List (Addr × Obj)} {σ : L2.St} {Q : VK} {v : Value} {s' : Shared} (h : EP X pins σ Q v s') : PySem.W.CmpBack (EP X pins σ Q) v s' := by
  have h0 := h
  obtain ⟨z, H', I', rz, q⟩ := h
  cases v <;> first | exact h0 | (exfalso; cases z <;> first | (obtain ⟨t, e⟩ := rz; cases e) | cases rz)
theorem op_own {op : Operator} (F : FnR X.prog X.w X.K X.mg X.base CX0 k f sp) (hr : Room k X.A) (hc : PySem.W.selfFirst X.K C = true)
    (hs : PySem.W.findIn X.K (.ref C) (PySem.dunder op.info.2) = some (some (.ref f))) (hf : PySem.W.isFn X.K (.ref f) = true) : OpR X (binaryOp op) (rOwn2 C sp) := by
  intro pins s σ H x y v u Q I rx ry hq
  obtain ⟨a, b, dx, fs, dy, gs, rfl, rfl, ha, hb', q⟩ := hq
  cases rx
  cases ry
  obtain ⟨mA, J, _⟩ := ins_get I.hok ha
  obtain ⟨mB, J', _⟩ := ins_get I.hok hb'
  obtain ⟨od, J, _⟩ := J.look
  obtain ⟨od', J', _⟩ := J'.look
  obtain ⟨m, hF⟩ := I.fr
  refine PySem.W.binop_K hF I.ok.mod.kin J J'.type hc hs hf ?_
  exact wpAny_mono (wpAny_call (run_fnR (us := [.ref a, .ref b]) (vs := [V.ref a, V.ref b]) F hr pass0 I (.cons rfl (.cons rfl .nil)) q)) (fun v s' h => back_of h) fun _ _ z => z
theorem un_own (F : FnR X.prog X.w X.K X.mg X.base CX0 k f sp) (hr : Room k X.A)
    (hs : PySem.W.findIn X.K (.ref C) "__invert__" = some (some (.ref f))) (hf : PySem.W.isFn X.K (.ref f) = true) : UnR X (unaryOp .Invert) (rOwn1 C sp) := by
  intro pins s σ H x v Q I rx hq
  obtain ⟨a, dx, fs, rfl, ha, q⟩ := hq
  cases rx
  obtain ⟨mA, J, _⟩ := ins_get I.hok ha
  obtain ⟨od, J, _⟩ := J.look
  obtain ⟨m, hF⟩ := I.fr
  refine PySem.W.ksp_inv hF I.ok.mod.kin J hs hf ?_
  exact wpAny_call (run_fnR (us := [.ref a]) (vs := [V.ref a]) F hr pass0 I (.cons rfl .nil) q)
theorem eq_own (F : FnR X.prog X.w X.K X.mg X.base CX0 k f sp) (hr : Room k X.A)
    (hs : PySem.W.findIn X.K (.ref C) "__eq__" = some (some (.ref f))) (hf : PySem.W.isFn X.K (.ref f) = true) : OpR X (compareOp .Eq) (rOwn2 C sp) := by
  intro pins s σ H x y v u Q I rx ry hq
  obtain ⟨a, b, dx, fs, dy, gs, rfl, rfl, ha, hb', q⟩ := hq
  cases rx
  cases ry
  obtain ⟨mA, J, _⟩ := ins_get I.hok ha
  obtain ⟨mB, J', _⟩ := ins_get I.hok hb'
  obtain ⟨od, J, _⟩ := J.look
  obtain ⟨od', J', _⟩ := J'.look
  obtain ⟨m, hF⟩ := I.fr
  show wpAny (model X.prog X.w) X.A (richCompare .Eq (.ref a) (.ref b)) (EP X pins σ Q) X.xe s
  refine PySem.W.cmp_K (op := .Eq) (tb := .ref C) hr.units0 hF I.ok.mod.kin J J'.type (by simp [PySem.W.notFirst]) hs hf ?_
  exact wpAny_mono (wpAny_call (run_fnR (us := [.ref a, .ref b]) (vs := [V.ref a, V.ref b]) F hr pass0 I (.cons rfl (.cons rfl .nil)) q)) (fun v s' h => back_of h) fun _ _ z => z
end
/-! ### // by a number of any sign -/
def CDivX (_ j : Int) : Prop := j ≠ 0 ∧ j.natAbs.log2 < 9000
theorem op_fdivX {X : Cx} : OpR X (binaryOp .FloorDiv) (rI CDivX fun i j => .int (i.fdiv j)) := opI fun i j _ _ _ _ _ hc q =>
  PyProof.Rows.floordiv_int hc.1 q (.inl (PyProof.noPylong_of_log2 hc.2))
theorem divX {i j : Int} {b : Nat} (h : j ≠ 0) (hb : j.natAbs < 2 ^ b) (h0 : 0 < b) (h9 : b ≤ 9000) : CDivX i j := ⟨h, Nat.lt_of_lt_of_le (PySem.Flt.log2_lt_of h0 hb) h9⟩
/-! ### tuples of three ints -/
def v3 (s : T3) : List V := [.int s.1, .int s.2.1, .int s.2.2]
def IsT (K : PySem.W.Frag) (H : Hp) (v : V) (s : T3) : Prop := ∃ p, v = .ref p ∧ SqT K H p (v3 s)
theorem same_T {K : PySem.W.Frag} {H H' : Hp} {a : Addr} {xs : List V} (e : Same H H') (h : SqT K H a xs) : SqT K H' a xs := SqT.ext h e
theorem IsT.same {K : PySem.W.Frag} {H H' : Hp} {v : V} {s : T3} (h : IsT K H v s) (e : Same H H') : IsT K H' v s := by
  obtain ⟨p, rfl, q⟩ := h
  exact ⟨p, rfl, same_T e q⟩
theorem same_new {H : Hp} {p : Addr} (h : H p = none) (o : HO) : Same H (upd H p o) := fun b u q => by rw [upd_ne (ne_of_none q h)]; exact q
theorem IsT.new {K : PySem.W.Frag} {H : Hp} {p : Addr} {a b c : Int} : IsT K (upd H p (.tup [.int a, .int b, .int c])) (.ref p) (a, b, c) := ⟨p, rfl, .inl (.inl upd_same)⟩
theorem yes_of {σ : St} {H : Hp} {A B : Hp → Prop} (h : A H) : tYes σ H (fun b H3 => if b = true then A H3 else B H3) := by
  show if true = true then A H else B H
  rw [if_pos rfl]
  exact h
/-! ### displays of tuples of three written ints -/
def tT3 (K : PySem.W.Frag) (t : T3) : TE := fun _ H Q => ∀ H' p, Same H H' → SqT K H' p (v3 t) → Q (.ref p) H'
def tTups (K : PySem.W.Frag) (ts : List T3) : TA := fun _ H Q => ∀ H' (ps : List Addr), Same H H' → Paired (fun p t => SqT K H' p (v3 t)) ps ts → Q (ps.map V.ref) H'
theorem paT0 {X : Cx} : PA X [] (tTups X.K []) := ⟨fun pos pins s σ H Q I h => (pa_nil (X := X)).run pos pins s σ H Q I (h H [] (Same.refl _) .nil)⟩
theorem paT {X : Cx} {e : Expr} {es : List Expr} {te : TE} {t : T3} {ts : List T3} (he : PE X e te) (hi : ∀ σ H Q, tT3 X.K t σ H Q → te σ H Q) (hr : PA X es (tTups X.K ts))
    (hs : starEach (e :: es) X.env = (false, eval e X.env) :: starEach es X.env := by rfl) : PA X (e :: es) (tTups X.K (t :: ts)) :=
  ⟨fun pos pins s σ H Q I h => (pa_cons he hr hs).run pos pins s σ H Q I (hi σ H _ fun H1 p s1 h1 => fun H2 ps s2 h2 => h H2 (p :: ps) (s1.trans s2) (.cons (same_T s2 h1) h2))⟩
/-! ### all is kept but one list -/
def Keep (d : Addr) (H H' : Hp) : Prop := ∀ b o, b ≠ d → H b = some o → H' b = some o
theorem Keep.of {d : Addr} {H H' : Hp} (s : Same H H') : Keep d H H' := fun b o _ e => s b o e
theorem Keep.trans {d : Addr} {H H1 H2 : Hp} (a : Keep d H H1) (b : Keep d H1 H2) : Keep d H H2 := fun c o n e => b c o n (a c o n e)
theorem keep_upd {d : Addr} {H : Hp} {o : HO} : Keep d H (upd H d o) := fun b u n e => by rw [upd_ne n]; exact e
theorem keep_T {K : PySem.W.Frag} {H H' : Hp} {d p : Addr} {xs ys : List V} (h : SqT K H p xs) (hd : H d = some (.lst ys)) (k : Keep d H H') : SqT K H' p xs := by
  rcases h with (h | ⟨o, h⟩) | h
  · exact .inl (.inl (k _ _ (ne_of h hd (by intro z; cases z)) h))
  · exact .inl (.inr ⟨o, k _ _ (ne_of h hd (by intro z; cases z)) h⟩)
  · exact .inr h
theorem IsT.keep {K : PySem.W.Frag} {H H' : Hp} {v : V} {s : T3} {d : Addr} {ys : List V} (h : IsT K H v s) (hd : H d = some (.lst ys)) (k : Keep d H H') : IsT K H' v s := by
  obtain ⟨p, rfl, q⟩ := h
  exact ⟨p, rfl, keep_T q hd k⟩
/-! ### two ways that meet -/
theorem seq_join {t u : TS} {D : Ends} {σ : St} {H : Hp} (W : St → Hp → Prop) (k : ∀ σ' H', W σ' H' → u D σ' H') (h : ∀ D' : Ends, D'.rt = D.rt → (∀ σ' H', W σ' H' → D'.nx σ' H') → t D' σ H) : tSeq t u D σ H := h { D with nx := u D } rfl k
theorem exp_join {t : TT} {ta tb : TE} {σ : St} {H : Hp} {Q : VK} (W : V → Hp → Prop) (k : ∀ v H', W v H' → Q v H') (h : ∀ Q' : VK, (∀ v H', W v H' → Q' v H') → tIf t ta tb σ H Q') : tIf t ta tb σ H Q := h Q k
theorem small {n : Nat} (h : n ≤ 1000) : n ≤ sizeLine := Nat.le_of_lt (small1000 h)
end My
namespace My
open PySem L2 Mth LamX
/-! ### list.count of flat items -/
section
variable {X : Cx}
def rCount (K : PySem.W.Frag) : V → List V → Hp → VK → Prop := fun x xs H Q => ∃ (a : Addr) (ys : List V) (y : V), x = V.ref a ∧ xs = [y] ∧ SqL K H a ys ∧ flatV y = true ∧ ys.all flatV = true ∧ Q (.int ((ys.countP fun z => eqV z y) : Nat)) H
theorem count_eqU {y : V} : ∀ {ys : List V} {us : List Value}, Vals ys us → ys.all flatV = true → us.countP (eqU y) = ys.countP fun z => eqV z y
  | _, _, .nil, _ => rfl
  | z :: ys, u :: us, .cons r rs, f => by
    rw [List.all_cons, Bool.and_eq_true] at f
    rw [List.countP_cons, List.countP_cons, count_eqU rs f.2, eqU_of r f.1]
theorem mt_count : MtR X "list.count" (rCount X.K) := by
  intro pins s σ H x xs v us Q I rx rxs h
  obtain ⟨a, ys, y, rfl, rfl, hs, fy, fys, q⟩ := h
  cases rx
  cases rxs with
  | cons ry rt =>
    rename_i uy ut
    cases rt
    obtain ⟨its, rv, ⟨⟨cls, dd, data, sl⟩, n, ho, hc, hdn, hd⟩, hlen⟩ := I.list hs
    simp only at hc hd
    subst hc hd
    refine call_meets PySem.F.slot_list_count ⟨_, ho, rfl⟩ PySem.F.entry_list_count (PySem.F.args_list_count_2 _ _)
      (SeqAt.list_countAt a its.toArray n dd sl uy (eqU y)) ⟨ho, fun u' hu' => mem_eqAt ry fy rv fys u' (by simpa using hu'), ?_⟩
    have ec : its.toArray.toList.countP (eqU y) = ys.countP fun z => eqV z y := count_eqU rv fys
    refine ⟨.int ((ys.countP fun z => eqV z y) : Nat), H, I.tok _, ⟨s.toks, ?_⟩, q⟩
    show Value.int ((its.toArray.toList.countP (eqU y) : Nat) : Int) s.toks = _
    rw [ec]
end
/-! ### what is never asked -/
def tNev : TE := fun _ _ _ => False
theorem pe_nev {X : Cx} {e : Expr} : PE X e tNev := ⟨fun _ _ _ _ _ _ h => h.elim⟩
/-! ### the kinds of a caught error -/
def tIs (a : Addr) (i : Nat) (bs : List Bool) : TA := fun σ H Q => σ[i]? = some (some (.ref a)) ∧ Q (bs.map V.bl) H
section
variable {X : Cx} {a D : Addr} {oe : Obj} {pn : List (Addr × Obj)} {i : Nat}
theorem paIs0 : PA (X.suite a ((a, oe) :: pn)) [] (tIs a i []) := ⟨fun pos pins s σ H Q I h => (pa_nil (X := X.suite a ((a, oe) :: pn))).run pos pins s σ H Q I h.2⟩
theorem paIs {x n : Str} {p p1 p2 pos : Pos} {C : Addr} {b : Bool} {bs : List Bool} {es : List Expr} (EC : ExcC X.K D) (hz : Zc (.ref D) none oe) (hf : ∃ vs, oe.data = .fields vs) (hk : PySem.W.kitOne X.K (.ref D) (.ref C) = some b)
    (hm : X.mg x = some (.ref C)) (bi : X.mg "isinstance" = none) (hg : Gl X x) (hgi : Gl X "isinstance") (hd : (x == ("__debug__" : Str)) = false) (hN : X.N[i]? = some n) (hv : Vis X.env.scope n) (hnd : (n == ("__debug__" : Str)) = false) (hnc : (n == ("__classdict__" : Str)) = false)
    (hr : PA (X.suite a ((a, oe) :: pn)) es (tIs a i bs))
    (hs : starEach ((.Call (.Name "isinstance" p) [.Name n p1, .Name x p2] [] pos) :: es) X.env = (false, eval (.Call (.Name "isinstance" p) [.Name n p1, .Name x p2] [] pos) X.env) :: starEach es X.env := by rfl)
    (he : starEach (.Name n p1 :: [.Name x p2]) X.env = (false, eval (.Name n p1) X.env) :: starEach [.Name x p2] X.env := by rfl) :
    PA (X.suite a ((a, oe) :: pn)) ((.Call (.Name "isinstance" p) [.Name n p1, .Name x p2] [] pos) :: es) (tIs a i (b :: bs)) := by
  have h1 : PE (X.suite a ((a, oe) :: pn)) (.Call (.Name "isinstance" p) [.Name n p1, .Name x p2] [] pos) (tCB (rIsE X.K D a) (tCons (tVar i) (tCons (tC (.ref C)) tNil))) :=
    pe_callB (call_isE EC hz hf) hgi bi (by decide +kernel) (pa_cons (pe_var hN hv hnd hnc) (pa_cons (pe_glob (v := .ref C) hg hm rfl hd) pa_nil rfl) he) (by decide) (by decide) rfl rfl
  refine ⟨fun pos' pins s σ H Q I h => (pa_cons h1 hr hs).run pos' pins s σ H Q I ?_⟩
  exact ⟨_, h.1, .ref C, .ref C, b, rfl, fun u r => r, hk, h.1, h.2⟩
end
end My
namespace My
open PySem L2 Mth PyProof.Rows
/-! ### a op b op c op d as a test -/
def tChain3 (r r' r'' : R2) (ta tb tc td : TE) : TE := fun σ H Q => ta σ H fun x H1 => tb σ H1 fun y H2 => r x y H2 fun z H3 => ∃ k, z = .bl k ∧
  (if k = true then tc σ H3 fun w' H4 => r' y w' H4 fun z' H5 => ∃ k', z' = .bl k' ∧ (if k' = true then td σ H5 fun u' H6 => r'' w' u' H6 Q else Q (.bl false) H5) else Q (.bl false) H3)
theorem pt_chain3 {X : Cx} {a b c d : Expr} {ta tb tc td : TE} {pos : Pos} {op op' op'' : CmpOp} {r r' r'' : R2} (ho : OpR X (compareOp op) r) (ho' : OpR X (compareOp op') r') (ho'' : OpR X (compareOp op'') r'') (ha : PE X a ta) (hb : PE X b tb) (hc : PE X c tc) (hd : PE X d td)
    (hm : lastMarks [op, op', op''] [b, c, d] = false := by with_unfolding_all rfl) : PT X (.Compare a [op, op', op''] [b, c, d] pos) (tTest (tChain3 r r' r'' ta tb tc td)) := by
  refine ⟨fun pins s σ H Q I h => ?_⟩
  refine isTrue_chain (thn (ha.run pins s σ H _ I h) fun v s1 ⟨x, H1, I1, r1, q1⟩ => test_link (thn (hb.run pins s1 σ H1 _ I1 q1) fun u s2 ⟨y, H2, I2, r2, q2⟩ =>
    thn (ho pins s2 σ H2 x y v u _ I2 r1 r2 q2) fun e s3 ⟨z, H3, I3, r3, k, ek, q3⟩ => ?_)) hm
  subst ek
  cases r3
  refine wpAny_truthy_bool ?_
  cases k with
  | false =>
    obtain ⟨k', e', q'⟩ := q3
    cases e'
    exact ite_ff ⟨H3, I3, q'⟩
  | true =>
    refine ite_tt (test_link (thn (hc.run pins s3 σ H3 _ I3 q3) fun w' s4 ⟨z', H4, I4, r4, q4⟩ => thn (ho' pins s4 σ H4 y z' u w' _ I4 r2 r4 q4) fun d' s5 ⟨z2, H5, I5, r5, k2, e2, q5⟩ => ?_))
    subst e2
    cases r5
    refine wpAny_truthy_bool ?_
    cases k2 with
    | false =>
      obtain ⟨k', e', q'⟩ := q5
      cases e'
      exact ite_ff ⟨H5, I5, q'⟩
    | true =>
      refine ite_tt (test_last (thn (hd.run pins s5 σ H5 _ I5 q5) fun w2 s6 ⟨z3, H6, I6, r6, q6⟩ => thn (ho'' pins s6 σ H6 z' z3 w' w2 _ I6 r4 r6 q6) fun d3 s7 ⟨z4, H7, I7, r7, k3, e3, q7⟩ => ?_))
      subst e3
      cases r7
      exact wpAny_truthy_bool ⟨H7, I7, q7⟩
/-! ### instances made with no argument, with a starred one -/
section
variable {X : Cx} {k : Nat} {f C : Addr} {sp : Sp} {x : Str} {p pos sp_ : Pos} {e : Expr} {te : TE}
theorem pe_makeR0 (M : Mk X.K C f) (F : FnR X.prog X.w X.K X.mg X.base CX0 k f sp) (hr : Room (k + 1) X.A) (hg : Gl X x) (hm : X.mg x = some (.ref C)) (hdb : (x == ("__debug__" : Str)) = false := by decide) : PE X (.Call (.Name x p) [] [] pos) (StX.tMakeR C sp E0 tNil) := by
  refine ⟨fun pins s σ H Q I h => ?_⟩
  refine wpAny_Call_Name_kw (ld_glob I hg hm ?_ hdb)
  exact PySem.W.callWith_K0 I.kIn M.kp (StX.run_makeR (us := []) M F hr pass0 I .nil h)
def tMakeS (K : PySem.W.Frag) (C : Addr) (sp : Sp) (te : TE) : TE := fun σ H Q => te σ H fun y H1 => ∃ a xs, y = V.ref a ∧ (SqT K H1 a xs ∨ SqL K H1 a xs) ∧ ∀ x dx, H1 x = Option.none → H1 dx = Option.none → dx ≠ x →
  sp (V.ref x :: xs) (upd (upd H1 dx (.own x)) x (.ins C dx [])) (fun v H2 => v = .non ∧ Q (.ref x) H2) E0
theorem pe_makeS (M : Mk X.K C f) (F : FnR X.prog X.w X.K X.mg X.base CX0 k f sp) (hr : Room (k + 1) X.A) (hg : Gl X x) (hm : X.mg x = some (.ref C)) (he : PE X e te) (hdb : (x == ("__debug__" : Str)) = false := by decide)
    (hst : starEach [.Starred e sp_] X.env = [(true, eval e X.env)] := by rfl) : PE X (.Call (.Name x p) [.Starred e sp_] [] pos) (tMakeS X.K C sp te) := by
  refine ⟨fun pins s σ H Q I h => ?_⟩
  refine wpAny_Call_Name_kw (ld_glob I hg hm ?_ hdb)
  refine PySem.W.callWith_S (h₀ := X.base) I.ok.mod.kin M.kp (thn (he.run pins s σ H _ I h) fun v s1 ⟨y, H1, I1, ry, a, xs, ey, hxs, q⟩ => ?_) hst
  subst ey
  obtain rfl : v = Value.ref a := ry
  exact StX.star_any I1 hxs fun us s2 I2 rv => ⟨I2.kIn, StX.run_makeR M F hr pass0 I2 rv q⟩
end
/-! ### properties that tell a field -/
structure MPf (P : Program) (w : World) (K : PySem.W.Frag) (mg : Str → Option Value) (base : Heap) (C : Addr) (x f : Str) : Prop where
  cl : Cls K C
  ex : ∃ g fd p, FnOk P w K mg base CX0 1 g fd ["self"] (getSp C f) ∧ Binds K fd ["self"] [] ∧ PropOf K C x p g
theorem pe_pf {X : Cx} {C : Addr} {x f : Str} {e : Expr} {te : TE} {pos : Pos} (M : MPf X.prog X.w X.K X.mg X.base C x f) (hr : Room 2 X.A) (he : PE X e te) (hab : attributeBase e x X.env (eval e X.env) = eval e X.env := by rfl) : PE X (.Attribute e x pos) (tProp C (getSp C f) [] E0 te) := by
  obtain ⟨g, fd, p, F, b, hp⟩ := M.ex
  exact pe_prop he M.cl hp F hr b .nil pass0 hab
theorem pf_of {C p dx : Addr} {H : Hp} {Q : VK} {fs : List (Str × V)} {f : Str} {z : V} (h : H p = some (.ins C dx fs)) (l : fs.lookup f = some z) (q : Q z H) : ∃ a dx fs, V.ref p = .ref a ∧ H a = some (.ins C dx fs) ∧ getSp C f (.ref a :: []) H Q E0 :=
  ⟨p, dx, fs, rfl, h, p, dx, fs, z, rfl, h, l, q⟩
/-! ### fields -/
theorem putF_len (x : Str) (v : V) : ∀ fs : List (Str × V), (putF x v fs).length ≤ fs.length + 1
  | [] => Nat.le_refl _
  | (y, u) :: fs => by
    unfold putF
    split
    · simp
    · have := putF_len x v fs
      simp only [List.length_cons]
      omega
/-- all is kept but an instance that is being made -/
theorem keepI_T {K : PySem.W.Frag} {H H' : Hp} {d p C dx : Addr} {fs : List (Str × V)} {xs : List V} (h : SqT K H p xs) (hd : H d = some (.ins C dx fs)) (k : Keep d H H') : SqT K H' p xs := by
  rcases h with (h | ⟨o, h⟩) | h
  · exact .inl (.inl (k _ _ (ne_of h hd (by intro z; cases z)) h))
  · exact .inl (.inr ⟨o, k _ _ (ne_of h hd (by intro z; cases z)) h⟩)
  · exact .inr h
/-! ### a def with a star parameter behind its others -/
theorem fun_star {P : Program} {w : World} {K : PySem.W.Frag} {mg : Str → Option Value} {base : Heap} {x qual : Str} {st : Stmt} {f : Addr} {fd : FuncData} {N ps : List Str} {pv : Str} {k : Nat} {sp : Sp} (F : Fun K x qual st f fd) (S : FnScope N (ps ++ [pv]) (defScope st))
    (hb : ∀ (kV doc pm : Value) (an : Option Addr) (cdv ct : Value) (us rest : List Value), us.length = ps.length → bindArgs (PySem.W.fnOf x qual (defArgs st) (defBody st) (defScope st) .none kV doc pm an cdv ct) ⟨us ++ rest, []⟩ = (newTuple rest >>= fun t => pure (ps.zip us ++ [(pv, t)])))
    (hbody : ∀ (cdv : Value) (A : Around) (outer : List Env) (s : Shared) (H : Hp) (vs : List V) (Q : VK) (E : XK), Room k (A.deeper (envOfC qual (defScope st) s.heap.objs.size f cdv)) → sp vs H Q E →
      ∃ t, PSs (cxOf CX0 P w K mg base N qual (defScope st) f cdv A outer s H E).nox (defBody st) t ∧ t { nx := fun _ H' => Q .non H', rt := Q } (start N vs) H) :
    FnR P w K mg base CX0 (k + 1) f (fun vs H Q E => ∃ ws rest, vs = ws ++ rest ∧ ws.length = ps.length ∧ rest.length ≤ sizeLine ∧ ∀ p, H p = Option.none → sp (ws ++ [V.ref p]) (upd H p (.tup rest)) Q E) := by
  obtain ⟨oc, od, kV, doc, pm, an, cdv, ct, osl, rfl, lk, hcd⟩ := F.ex
  refine StX.fn_star lk hcd S StX.cxUp_none (hb kV doc pm an cdv ct) fun A outer s H vs Q E hr hsp => ?_
  obtain ⟨t, h, q⟩ := hbody cdv A outer s H vs Q E hr hsp
  exact ⟨t, h.nox, q⟩
end My
namespace My
open PySem PySem.Spec PyProof.Rows L2 TS
/-! ### sorted(a set of tuples of ints of any sign): how many there are -/
/-- ints of any sign, ranked -/
def rkS (B : Int) (ns : List Int) : Int := code (2 * B) (ns.map (· + B))
def SdS (B : Int) (ns : List Int) : Prop := ∀ m ∈ ns, -B ≤ m ∧ m < B
theorem SdS.up {B : Int} {ns : List Int} (h : SdS B ns) : Bd (2 * B) (ns.map (· + B)) := fun m hm => by
  obtain ⟨k, hk, rfl⟩ := List.mem_map.mp hm
  have := h k hk
  constructor <;> omega
theorem SdS.tl {B k : Int} {ns : List Int} (h : SdS B (k :: ns)) : SdS B ns := fun m hm => h m (List.mem_cons_of_mem _ hm)
theorem rkS_lt {B k l : Int} {ns ms : List Int} (e : ns.length = ms.length) (h1 : SdS B ns) (h2 : SdS B ms) (h : k < l) : rkS B (k :: ns) < rkS B (l :: ms) :=
  code_lt (by rw [List.length_map, List.length_map]; exact e) h1.up h2.up (show k + B < l + B by omega)
theorem rkS_eq {B k : Int} {ns ms : List Int} (e : ns.length = ms.length) : rkS B (k :: ns) < rkS B (k :: ms) ↔ rkS B ns < rkS B ms := code_same (by rw [List.length_map, List.length_map]; exact e)
section
variable {prog : Program} {w : World} {A : Around} {E : Value → Shared → Prop} {s : Shared}
theorem lexS {Q : Bool → Shared → Prop} {B : Int} {c : Bool} {us : List Value} {ns : List Int} (hu : IntsAre us ns) : ∀ {ws : List Value} {ms : List Int} (j : Nat), IntsAre ws ms → ns.length = ms.length → SdS B ns → SdS B ms → Q (decide (rkS B ns < rkS B ms)) s → PySem.W.KatLex prog w A c false Q (us.zip ws) j s := by
  induction hu with
  | nil =>
    intro ws ms j hw hl _ _ q
    cases hw with
    | nil =>
      rw [decide_eq_false (Int.lt_irrefl _)] at q
      exact PySem.W.kat_nil q
    | cons _ _ _ => cases hl
  | @cons k tk us ns hu ih =>
    intro ws ms j hw hl b1 b2 q
    cases hw with
    | nil => cases hl
    | @cons l tl ws ms hw =>
      have el : ns.length = ms.length := Nat.succ.inj hl
      show PySem.W.KatLex prog w A c false Q ((.int k tk, .int l tl) :: us.zip ws) j s
      refine PySem.W.kat_cons (wpAny_eqBool_int ?_)
      by_cases same : k = l
      · subst same
        rw [decide_eq_decide.mpr (rkS_eq el)] at q
        rw [beq_self_eq_true]
        exact PySem.W.kat_yes (ih (j + 1) hw el b1.tl b2.tl q)
      · have er : decide (rkS B (k :: ns) < rkS B (l :: ms)) = decide (k < l) := decide_eq_decide.mpr ⟨fun y => by
            rcases Int.lt_or_gt_of_ne same with z | z
            · exact z
            · have := rkS_lt el.symm b2.tl b1.tl z
              omega, rkS_lt el b1.tl b2.tl⟩
        rw [er] at q
        rw [beq_eq_false_iff_ne.mpr same]
        exact PySem.W.kat_no (oneLt_ints _ q)
/-- tuples of d ints each -/
def TupsS (h : Heap) (d : Nat) (B : Int) (us : List Value) : Prop := ∀ u ∈ us, ∃ ns, TupInts h u ns ∧ ns.length = d + 1 ∧ SdS B ns
theorem headsS {h : Heap} {d : Nat} {B : Int} : ∀ us : List Value, TupsS h d B us → ∃ fs, PySem.W.KatTups h us fs ∧ fs.length = us.length ∧ ∀ y ∈ fs, ∃ k t, y = Value.int k t
  | [], _ => ⟨[], .nil, rfl, fun y hy => nomatch hy⟩
  | u :: us, T => by
    obtain ⟨fs, k1, k2, k3⟩ := headsS us fun z hz => T z (List.mem_cons_of_mem _ hz)
    obtain ⟨ns, ⟨a, arr, rfl, ⟨ob, g1, g2, m, g3⟩, ia⟩, ln, _⟩ := T u List.mem_cons_self
    cases ea : arr.toList with
    | nil =>
      rw [ea] at ia
      have := ia.length
      rw [ln] at this
      cases this
    | cons z zs =>
      obtain ⟨k, t, ez⟩ := ia.all z (by rw [ea]; exact List.mem_cons_self)
      have e0 : arr[0]? = some z := by
        rw [← Array.getElem?_toList, ea]; rfl
      refine ⟨z :: fs, .cons g1 g2 g3 e0 k1, congrArg Nat.succ k2, fun y hy => ?_⟩
      cases hy with
      | head => exact ⟨k, t, ez⟩
      | tail _ hy => exact k3 y hy
theorem TupsS.up {h h' : Heap} {d : Nat} {B : Int} {us : List Value} (T : TupsS h d B us) (k : ∀ b o, h.get? b = some o → o.cls = .type "tuple" → h'.get? b = some o) : TupsS h' d B us := fun u hu => by
  obtain ⟨ns, t, r⟩ := T u hu
  exact ⟨ns, t.keeps k, r⟩
theorem kindS {d : Nat} {B : Int} {us : List Value} {Q : SortKind → Shared → Prop} (two : 2 ≤ us.length) (T : TupsS s.heap d B us) (q : ∀ κ, Cmp prog w A s κ (pairsOf us) (fun u => rkS B (intsOf s.heap u)) → Q κ s) : wpAny (model prog w) A (keyKind' us.toArray) Q E s := by
  obtain ⟨fs, k1, k2, k3⟩ := headsS us T
  refine PySem.W.kat_kind (T := Value.type "int") k1 (by omega) (fun y hy => ?_) rfl (q _ fun x y hx hy Q2 E2 q2 => ?_)
  · obtain ⟨k, t, rfl⟩ := k3 y hy
    exact .of_pure rfl
  rw [pairsOf_toList] at hx hy
  obtain ⟨ns, tx, lx, bx⟩ := T _ (mem_zip_self hx).2
  obtain ⟨ms, ty, ly, by_⟩ := T _ (mem_zip_self hy).2
  have q2 : Q2 (decide (rkS B (intsOf s.heap x.1) < rkS B (intsOf s.heap y.1))) s := q2
  rw [tx.ints, ty.ints] at q2
  obtain ⟨a1, r1, f1, ⟨o1, u1, u2, m1, u3⟩, j1⟩ := tx
  obtain ⟨a2, r2, f2, ⟨o2, v1, v2, m2, v3⟩, j2⟩ := ty
  have sz : decide (r1.size < r2.size) = false := decide_eq_false (by have n1 := j1.length; have n2 := j2.length; rw [Array.length_toList] at n1 n2; omega)
  rw [f1, f2]
  refine PySem.W.kat_lt u1 u3 v1 v3 ?_
  rw [sz]
  exact lexS j1 0 j2 (by omega) bx by_ q2
theorem sortS {l : Addr} {us : List Value} {n d : Nat} {B : Int} {Q : Value → Shared → Prop} (ho : s.heap.get? l = some (seqObj "list" us.toArray n)) (few : us.length < 64) (T : TupsS s.heap d B us)
    (q : ∀ out : Array Value, out.toList.Perm us → Q .none { s with heap := sortedHeap s.heap l us out }) : wpAny (model prog w) A (call (.builtin "list.sort") [.ref l]) Q E s := by
  have nl : ∀ b o, s.heap.get? b = some o → o.cls = .type "tuple" → b ≠ l := fun b o e hc z => by
    rw [z, ho] at e
    rw [← Option.some.inj e] at hc
    have hc : Value.type "list" = Value.type "tuple" := hc
    injection hc with hc
    exact absurd hc (by decide)
  refine wpAny_call_entry slot_list_sort ⟨_, ho, rfl⟩ entry_list_sort (SK.plain_sort (r := fun u => rkS B (intsOf (midHeap s.heap l us) u)) ho few (fun two Q2 q2 => ?_) fun ps out e1 e2 _ => ⟨_, rfl, q out ?_⟩) (args_list_sort _)
  · exact kindS (s := { s with heap := midHeap s.heap l us }) two (T.up fun b o e hc => midHeap_old (nl b o e hc) e) q2
  · rw [e1]
    have := e2.map Prod.snd
    rwa [List.map_snd_zip (Nat.le_refl _)] at this
end
theorem u65 {k : Nat} {A : Around} (r : Room k A) : A.units + 65 < cLine := by have := r.un; omega
/-! ### shapes of data -/
theorem canAll : ∀ {xs : List PyData}, (∀ x ∈ xs, x.canLay0 = true) → PyData.canLayAll0 xs = true
  | [], _ => rfl
  | x :: xs, h => by
    unfold PyData.canLayAll0
    rw [h x List.mem_cons_self, canAll fun y hy => h y (List.mem_cons_of_mem _ hy)]
    rfl
theorem depAll {n : Nat} : ∀ {xs : List PyData}, (∀ x ∈ xs, x.depth ≤ n) → PyData.depthAll xs ≤ n
  | [], _ => Nat.zero_le _
  | x :: xs, h => by
    unfold PyData.depthAll
    have h1 := h x List.mem_cons_self
    have h2 := depAll fun y hy => h y (List.mem_cons_of_mem _ hy)
    omega
theorem shapedL {xs : List PyData} (h : ∀ x ∈ xs, x.canLay0 = true ∧ x.depth ≤ 60) : SeqAt.shaped (.list xs) = true := by
  show (PyData.canLayAll0 xs && decide (PyData.depthAll xs + 1 ≤ 64)) = true
  rw [canAll fun x hx => (h x hx).1, decide_eq_true (by have := depAll (n := 60) fun x hx => (h x hx).2; omega)]
  rfl
theorem eqvL : ∀ (xs : List PyData), PyData.eqv (.list xs) (.list []) = xs.isEmpty
  | [] => rfl
  | _ :: _ => rfl
theorem paired_perm {α β : Type} {R : α → β → Prop} {us ws : List α} (p : ws.Perm us) : ∀ {ps : List β}, Paired R us ps → ∃ qs : List β, qs.Perm ps ∧ Paired R ws qs := by
  induction p with
  | nil => intro ps h; cases h; exact ⟨[], .nil, .nil⟩
  | cons x _ ih =>
    intro ps h
    cases h with
    | cons r t =>
      obtain ⟨qs, a, b⟩ := ih t
      exact ⟨_ :: qs, a.cons _, .cons r b⟩
  | swap x y l =>
    intro ps h
    cases h with
    | cons r t =>
      cases t with
      | cons r2 t2 => exact ⟨_ :: _ :: _, .swap _ _ _, .cons r2 (.cons r t2)⟩
  | trans _ _ ih1 ih2 =>
    intro ps h
    obtain ⟨qs, a, b⟩ := ih2 h
    obtain ⟨rs, c, d⟩ := ih1 b
    exact ⟨rs, c.trans a, d⟩
section
variable {X : Cx}
def rSortedN (K : PySem.W.Frag) (P : Program) (w : World) : List V → Hp → VK → Prop := fun vs H Q => ∃ (a : Addr) (L : List (Addr × List Int)) (d : Nat) (B : Int), vs = [V.ref a] ∧ H a = some (SetTO P w a L) ∧ (∀ p ∈ L, SqT K H p.1 (p.2.map V.int) ∧ p.2.length = d + 1 ∧ SdS B p.2) ∧
  ((L.map (·.2)).Nodup → L.length < 64 → ∀ zs p, zs.length = L.length → H p = none → Q (.ref p) (upd H p (.lst zs)))
theorem cr_sortedN (hc : X.calm = true) : CallR X (.builtin "sorted") (rSortedN X.K X.prog X.w) := by
  intro pins s σ H vs us Q I r h
  obtain ⟨a, L, d, B, rfl, ha, hL, q⟩ := h
  obtain ⟨es, ep, t, R⟩ := ((I.hok a _ ha).1 : SetT0 X.prog X.w s.heap a L).full fun p hp => I.isT (hL p hp).1
  have few := R.few
  rw [Vals.ref1 r]
  refine Calls.call_function_entry kind_sorted plain_sorted entry_sorted (args_sorted1 _) ?_
  unfold Builtin.«sorted»
  refine wpAny_bind (m := checkCount "sorted" 1 1 _) (wpAny_pure ?_)
  obtain ⟨ob, g1, g2, g3⟩ := R.ob
  have hes : es.toList.map (·.2) = L.map fun q => Value.ref q.1 := by
    rw [R.rows, rowsOf, List.map_map]; rfl
  refine wpAny_bind (collect_set (A := X.A.in1) (I.ok.hd hc) ⟨ob, g1, g2.1, g3⟩ R.fits (by rw [R.size]; exact Nat.lt_of_lt_of_le few (by decide)) R.tab.ris R.led fun s1 out k1 k2 k3 k4 pm => ?_)
  rw [hes] at pm
  have lo : out.length = L.length := by rw [pm.length_eq, List.length_map]
  refine wpAny_bind (wpAny_newList ?_ (by rw [sizeLine_eq]; omega))
  have hl : (s1.heap.push (seqObj "list" out.toArray 0)).get? s1.heap.objs.size = some (seqObj "list" out.toArray 0) := Heap.get?_push_size _ rfl
  have up : ∀ b o, s.heap.get? b = some o → (s1.heap.push (seqObj "list" out.toArray 0)).get? b = some o := fun b o e => Heap.get?_push_of_some _ (k1 b o e)
  refine wpAny_bind (wpAny_holding (sortS (s := { s1 with heap := s1.heap.push (seqObj "list" out.toArray 0) }) (d := d) (B := B) hl (by omega) (fun u hu => ?_) fun arr pa => ?_))
  · obtain ⟨p, hp, rfl⟩ := List.mem_map.mp (pm.mem_iff.mp hu)
    exact ⟨p.2, tupInts_of (P := X.prog) (w := X.w) (isT_keep (R.tup p hp) up), (hL p hp).2⟩
  obtain ⟨c, hc'⟩ := sortedHeap_at (vs := out) (out := arr) hl
  have la : arr.toList.length = L.length := by rw [pa.length_eq, lo]
  have refs : ∀ u ∈ arr.toList, ∃ b, u = Value.ref b := fun u hu => by
    obtain ⟨p, _, rfl⟩ := List.mem_map.mp (pm.mem_iff.mp (pa.mem_iff.mp hu))
    exact ⟨_, rfl⟩
  have hn : H s1.heap.objs.size = none := I.hok.fresh k2
  have kall : ∀ b o, s.heap.get? b = some o → (sortedHeap (s1.heap.push (seqObj "list" out.toArray 0)) s1.heap.objs.size out arr).get? b = some o := fun b o e => by
    have lt := Heap.lt_size (k1 b o e)
    rw [sortedHeap_old (Nat.ne_of_lt lt) (by rw [size_push']; exact Nat.lt_succ_of_lt lt)]
    exact up b o e
  have hzl : (arr.toList.map backV).length ≤ sizeLine := by rw [List.length_map, sizeLine_eq]; omega
  have J : Inv X pins σ (upd H s1.heap.objs.size (.lst (arr.toList.map backV))) { s with heap := sortedHeap (s1.heap.push (seqObj "list" out.toArray 0)) s1.heap.objs.size out arr, gens := s1.gens, drawn := s1.drawn, toks := s1.toks } :=
    I.call (ch := []) (Un.laid kall k2 hn) (I.hok.laid kall k2 ⟨hzl, arr.toList, c, vals_back refs, hc'⟩) (by rw [k3]; exact I.bare) (fun _ z => nomatch z)
  have es1 : ({ s1 with heap := sortedHeap (s1.heap.push (seqObj "list" out.toArray 0)) s1.heap.objs.size out arr } : Shared) = { s with heap := sortedHeap (s1.heap.push (seqObj "list" out.toArray 0)) s1.heap.objs.size out arr, gens := s1.gens, drawn := s1.drawn, toks := s1.toks } := by
    cases s1
    cases s
    cases k4
    rfl
  refine wpAny_pure ⟨_, rfl, ?_⟩
  show EP X pins σ Q (.ref s1.heap.objs.size) ({ s1 with heap := sortedHeap (s1.heap.push (seqObj "list" out.toArray 0)) s1.heap.objs.size out arr } : Shared)
  rw [es1]
  exact ⟨.ref s1.heap.objs.size, _, J, rfl, q R.nd few _ _ (by rw [List.length_map]; exact la) hn⟩
end
end My
namespace My
open PySem PySem.Spec PyProof.Rows L2 RZ
/-! ### list(zip(a, b)) of two tuples -/
section
variable {prog : Program} {w : World} {A : Around} {E : Value → Shared → Prop} {s : Shared}
theorem zipT_item_held {z TI TO T i1 i2 l1 l2 : Addr} {f : Bool} {oT : Obj} {k1 k2 : Nat} {xs ys : Array Value} {x y : Value} {Q : Value → Shared → Prop} (D : ZipApart z TI TO i1 i2 l1 l2)
    (hz : IsZipHeld s.heap z TI TO T f) (hT : s.heap.get? T = some oT) (hTI : IsPair s.heap TI (.ref i1) (.ref i2))
    (h1 : s.heap.IsTupleIter i1 l1 k1) (h2 : s.heap.IsTupleIter i2 l2 k2) (hl1 : s.heap.IsTuple l1 xs) (hl2 : s.heap.IsTuple l2 ys) (hx : xs[k1]? = some x) (hy : ys[k2]? = some y)
    (hQ : ∀ h', IsZipHeld h' z TI TO T true → h'.IsTupleIter i1 l1 (k1 + 1) → h'.IsTupleIter i2 l2 (k2 + 1) → IsPair h' s.heap.objs.size x y → h'.objs.size = s.heap.objs.size + 1 →
      (∀ c o, c ≠ z → c ≠ i1 → c ≠ i2 → s.heap.get? c = some o → h'.get? c = some o) → Q (.ref s.heap.objs.size) { s with heap := h' }) :
    wpAny (model prog w) A (Builtin.«zip.__next__» ⟨[.ref z], []⟩) (fun fin s' => ∃ v, fin = .done (.ret v) ∧ Q v s') E s := by
  show wpAny _ _ (field (.ref z) 2 >>= _) _ _ _
  refine wpAny_bind (wpAny_field hz rfl (x := .bool false) rfl ?_)
  show wpAny _ _ (field (.ref z) 3 >>= _) _ _ _
  refine wpAny_bind (wpAny_field hz rfl (x := .ref TI) rfl ?_)
  refine wpAny_bind (wpAny_seqItems hTI rfl ?_)
  show wpAny _ _ (Builtin.SmallTypes.ownedTupleIsFree (.ref z) >>= _) _ _ _
  refine wpAny_bind (wpAny_tupleHeld_zip hz hT fun h₁ hz₁ hs₁ => ?_)
  simp only [Bool.false_eq_true, if_false]
  refine wpAny_bind ?_
  rw [← Array.forIn_toList]
  simp only [List.forIn_cons, List.forIn_nil]
  refine wpAny_bind (wpAny_bind (wpAny_holding ?_))
  show wpAny _ _ (Builtin.SmallTypes.nextOf (.ref i1) >>= _) _ _ _
  refine wpAny_bind (nextOf_tuple_item (s := { s with heap := h₁ }) (h1.extBut hs₁.extBut D.i1z) (hl1.extBut hs₁.extBut D.l1z) hx fun h₂ h1₂ hs₂ => wpAny_pure ?_)
  refine wpAny_pure ?_
  refine wpAny_bind (wpAny_bind (wpAny_holding ?_))
  show wpAny _ _ (Builtin.SmallTypes.nextOf (.ref i2) >>= _) _ _ _
  refine wpAny_bind (nextOf_tuple_item (s := { s with heap := h₂ }) ((h2.extBut hs₁.extBut D.i2z).extBut hs₂.extBut D.i12.symm) ((hl2.extBut hs₁.extBut D.l2z).extBut hs₂.extBut D.l2i1) hy fun h₃ h2₃ hs₃ => wpAny_pure ?_)
  refine wpAny_pure (wpAny_pure ?_)
  show wpAny _ _ (newTuple [x, y] >>= _) _ _ _
  refine wpAny_bind (wpAny_newTuple ?_)
  have hsz : h₃.objs.size = s.heap.objs.size := by rw [hs₃.1, hs₂.1, hs₁.1]
  have hz₃ : IsZipHeld h₃ z TI TO T true := hs₃.extBut _ _ D.i2z.symm (hs₂.extBut _ _ D.i1z.symm hz₁)
  have hk : ∀ c o, c ≠ z → c ≠ i1 → c ≠ i2 → s.heap.get? c = some o → h₃.get? c = some o := fun c o c1 c2 c3 e => hs₃.extBut _ _ c3 (hs₂.extBut _ _ c2 (hs₁.extBut _ _ c1 e))
  have h1₃ : h₃.IsTupleIter i1 l1 (k1 + 1) := h1₂.extBut hs₃.extBut D.i12
  refine wpAny_pure ⟨_, rfl, ?_⟩
  show Q (.ref h₃.objs.size) _
  have hp : IsPair (h₃.push { cls := .type "tuple", data := .seq #[x, y] }) h₃.objs.size x y := Heap.get?_push_size _ rfl
  have hz4 : (h₃.push { cls := .type "tuple", data := .seq #[x, y] }).objs.size = h₃.objs.size + 1 := Heap.size_push ..
  rw [hsz] at hp hz4 ⊢
  exact hQ _ (Heap.get?_push_of_some _ hz₃) (h1₃.at fun o e => Heap.get?_push_of_some _ e) (h2₃.at fun o e => Heap.get?_push_of_some _ e) hp hz4 fun c o c1 c2 c3 e => Heap.get?_push_of_some _ (hk c o c1 c2 c3 e)
theorem zipT_end_held {z TI TO T i1 i2 l1 l2 : Addr} {f : Bool} {oT : Obj} {k1 k2 : Nat} {xs ys : Array Value} {Q : PySem.Fin → Shared → Prop} (hh : A.handled = none) (D : ZipApart z TI TO i1 i2 l1 l2)
    (hz : IsZipHeld s.heap z TI TO T f) (hT : s.heap.get? T = some oT) (hTI : IsPair s.heap TI (.ref i1) (.ref i2))
    (h1 : s.heap.IsTupleIter i1 l1 k1) (h2 : s.heap.IsTupleIter i2 l2 k2) (hl1 : s.heap.IsTuple l1 xs) (hl2 : s.heap.IsTuple l2 ys) (hend : xs[k1]? = none ∨ ys[k2]? = none)
    (hE : ∀ h' e, (∀ c o, c ≠ z → c ≠ i1 → c ≠ i2 → s.heap.get? c = some o → h'.get? c = some o) → (∃ o, h'.get? e = some o ∧ o.cls = .type "StopIteration") → E (.ref e) { s with heap := h' }) :
    wpAny (model prog w) A (Builtin.«zip.__next__» ⟨[.ref z], []⟩) Q E s := by
  show wpAny _ _ (field (.ref z) 2 >>= _) _ _ _
  refine wpAny_bind (wpAny_field hz rfl (x := .bool false) rfl ?_)
  show wpAny _ _ (field (.ref z) 3 >>= _) _ _ _
  refine wpAny_bind (wpAny_field hz rfl (x := .ref TI) rfl ?_)
  refine wpAny_bind (wpAny_seqItems hTI rfl ?_)
  show wpAny _ _ (Builtin.SmallTypes.ownedTupleIsFree (.ref z) >>= _) _ _ _
  refine wpAny_bind (wpAny_tupleHeld_zip hz hT fun h₁ hz₁ hs₁ => ?_)
  simp only [Bool.false_eq_true, if_false]
  refine wpAny_bind ?_
  rw [← Array.forIn_toList]
  simp only [List.forIn_cons, List.forIn_nil]
  refine wpAny_bind (wpAny_bind (wpAny_holding ?_))
  show wpAny _ _ (Builtin.SmallTypes.nextOf (.ref i1) >>= _) _ _ _
  cases hx : xs[k1]? with
  | none =>
    refine wpAny_bind (nextOf_tuple_end (s := { s with heap := h₁ }) hh (h1.extBut hs₁.extBut D.i1z) (hl1.extBut hs₁.extBut D.l1z) hx fun h₂ e hs₂ he => ?_)
    exact hE h₂ e (fun c o c1 c2 _ x => hs₂ _ _ c2 (hs₁.extBut _ _ c1 x)) he
  | some x =>
    have hy : ys[k2]? = none := by rcases hend with h | h; rw [hx] at h; cases h; exact h
    refine wpAny_bind (nextOf_tuple_item (s := { s with heap := h₁ }) (h1.extBut hs₁.extBut D.i1z) (hl1.extBut hs₁.extBut D.l1z) hx fun h₂ h1₂ hs₂ => wpAny_pure ?_)
    refine wpAny_pure ?_
    refine wpAny_bind (wpAny_bind (wpAny_holding ?_))
    show wpAny _ _ (Builtin.SmallTypes.nextOf (.ref i2) >>= _) _ _ _
    refine wpAny_bind (nextOf_tuple_end (s := { s with heap := h₂ }) hh ((h2.extBut hs₁.extBut D.i2z).extBut hs₂.extBut D.i12.symm) ((hl2.extBut hs₁.extBut D.l2z).extBut hs₂.extBut D.l2i1) hy fun h₃ e hs₃ he => ?_)
    exact hE h₃ e (fun c o c1 c2 c3 x => hs₃ _ _ c3 (hs₂.extBut _ _ c2 (hs₁.extBut _ _ c1 x))) he
theorem nextT_item_held {z TI TO T i1 i2 l1 l2 : Addr} {f : Bool} {oT : Obj} {k1 k2 : Nat} {xs ys : Array Value} {x y : Value} {Q : Option Value → Shared → Prop} (D : ZipApart z TI TO i1 i2 l1 l2)
    (hz : IsZipHeld s.heap z TI TO T f) (hT : s.heap.get? T = some oT) (hTI : IsPair s.heap TI (.ref i1) (.ref i2))
    (h1 : s.heap.IsTupleIter i1 l1 k1) (h2 : s.heap.IsTupleIter i2 l2 k2) (hl1 : s.heap.IsTuple l1 xs) (hl2 : s.heap.IsTuple l2 ys) (hx : xs[k1]? = some x) (hy : ys[k2]? = some y)
    (hQ : ∀ h', IsZipHeld h' z TI TO T true → h'.IsTupleIter i1 l1 (k1 + 1) → h'.IsTupleIter i2 l2 (k2 + 1) → IsPair h' s.heap.objs.size x y → h'.objs.size = s.heap.objs.size + 1 →
      (∀ c o, c ≠ z → c ≠ i1 → c ≠ i2 → s.heap.get? c = some o → h'.get? c = some o) → Q (some (.ref s.heap.objs.size)) { s with heap := h' }) :
    wpAny (model prog w) A (pyNext (.ref z)) Q E s := by
  have hTy : s.TypeIs (.ref z) "zip" := ⟨_, hz, rfl⟩
  unfold pyNext
  exact wpAny_bind (wpAny_attempt (wpAny_callSpecial?_slot (name := Str.ofString "__next__") hTy F.slot_zip_next
    (wpAny_call_entry F.slot_zip_next hTy F.entry_zip_next
      (zipT_item_held D hz hT hTI h1 h2 hl1 hl2 hx hy fun h' a1 a3 a4 a5 a6 a7 => wpAny_pure (hQ h' a1 a3 a4 a5 a6 a7)) (F.args_zip_next_1 _))))
theorem nextT_end_held {z TI TO T i1 i2 l1 l2 : Addr} {f : Bool} {oT : Obj} {k1 k2 : Nat} {xs ys : Array Value} {Q : Option Value → Shared → Prop} (hh : A.handled = none) (D : ZipApart z TI TO i1 i2 l1 l2)
    (hz : IsZipHeld s.heap z TI TO T f) (hT : s.heap.get? T = some oT) (hTI : IsPair s.heap TI (.ref i1) (.ref i2))
    (h1 : s.heap.IsTupleIter i1 l1 k1) (h2 : s.heap.IsTupleIter i2 l2 k2) (hl1 : s.heap.IsTuple l1 xs) (hl2 : s.heap.IsTuple l2 ys) (hend : xs[k1]? = none ∨ ys[k2]? = none)
    (hQ : ∀ h', (∀ c o, c ≠ z → c ≠ i1 → c ≠ i2 → s.heap.get? c = some o → h'.get? c = some o) → Q none { s with heap := h' }) : wpAny (model prog w) A (pyNext (.ref z)) Q E s := by
  have hTy : s.TypeIs (.ref z) "zip" := ⟨_, hz, rfl⟩
  unfold pyNext
  refine wpAny_bind (wpAny_attempt (wpAny_callSpecial?_slot (name := Str.ofString "__next__") hTy F.slot_zip_next
    (wpAny_call_entry F.slot_zip_next hTy F.entry_zip_next (zipT_end_held hh D hz hT hTI h1 h2 hl1 hl2 hend fun h' e hk he => ?_) (F.args_zip_next_1 _))))
  obtain ⟨o, ho, hc⟩ := he
  refine wpAny_bind (wpAny_isInstance (T := "StopIteration") (b := true) ⟨o, ho, hc⟩ isSubtype_stop ?_)
  exact wpAny_pure (hQ _ hk)
/-- the zip behind i turns, its first pair (at base) still held -/
structure ZSt (z TI TO i1 i2 l1 l2 base : Addr) (xs ys : Array Value) (i : Nat) (h : Heap) : Prop where
  ti : IsPair h TI (.ref i1) (.ref i2)
  a1 : h.IsTupleIter i1 l1 i
  a2 : h.IsTupleIter i2 l2 i
  t1 : h.IsTuple l1 xs
  t2 : h.IsTuple l2 ys
  zz : (i = 0 ∧ IsZip h z TI TO .none ∧ ∃ a b, IsPair h TO a b) ∨ (0 < i ∧ ∃ f, IsZipHeld h z TI TO base f)
theorem zip_no_len : typeLookup (.type "zip") "__len__" = pure none := by rw [typeLookup_type, builtinLookup_eq_fast]; kernel_rfl
theorem zip_no_hint : typeLookup (.type "zip") "__length_hint__" = pure none := by rw [typeLookup_type, builtinLookup_eq_fast]; kernel_rfl

abbrev rfs (base n : Nat) : Array Value := ((List.range n).map fun j => Value.ref (base + j)).toArray
theorem rfs_push (base i : Nat) : (rfs base i).push (.ref (base + i)) = rfs base (i + 1) := by
  show (((List.range i).map fun j => Value.ref (base + j)).toArray).push _ = ((List.range (i + 1)).map fun j => Value.ref (base + j)).toArray
  rw [List.range_succ, List.map_append, List.push_toArray]
  rfl
theorem rfs_size (base i : Nat) : (rfs base i).size = i := by
  show (((List.range i).map fun j => Value.ref (base + j)).toArray).size = i
  rw [List.size_toArray, List.length_map, List.length_range]
theorem zloop {z TI TO i1 i2 l1 l2 base S : Addr} {xs ys : Array Value} {n : Nat} {R : Result → Shared → Prop} (hh : A.handled = none) (D : ZipApart z TI TO i1 i2 l1 l2) (hn : n ≤ sizeLine) (hx : n ≤ xs.size) (hy : n ≤ ys.size) (he : xs.size ≤ n ∨ ys.size ≤ n)
    (Sz : S ≠ z) (STO : S ≠ TO) (STI : S ≠ TI) (Si1 : S ≠ i1) (Si2 : S ≠ i2) (Sl1 : S ≠ l1) (Sl2 : S ≠ l2) (bS : S < base) (bz : z < base) (bTO : TO < base) (bi1 : i1 < base) (bi2 : i2 < base) (res : Value) :
    ∀ (k i : Nat) (s : Shared) (c : Nat), n - i = k → i ≤ n → s.heap.objs.size = base + i → ZSt z TI TO i1 i2 l1 l2 base xs ys i s.heap → s.heap.get? S = some { cls := .type "list", dict := none, data := .seq (rfs base i) c, slots := #[] } →
    (∀ j x y, j < i → xs[j]? = some x → ys[j]? = some y → IsPair s.heap (base + j) x y) →
    (∀ h' c', (∀ b o, b ≠ z → b ≠ TO → b ≠ i1 → b ≠ i2 → b ≠ S → s.heap.get? b = some o → h'.get? b = some o) → h'.get? S = some { cls := .type "list", dict := none, data := .seq (rfs base n) c', slots := #[] } →
      (∀ j x y, j < n → xs[j]? = some x → ys[j]? = some y → IsPair h' (base + j) x y) → R (.ok (.ret res)) { s with heap := h' }) →
    codeAny (model prog w) A (.builtin "list.extend.loop" ⟨[.ref S, .ref z, res], []⟩) R s := by
  have hh1 : A.in1.handled = none := hh
  have nz : ∀ j, base + j ≠ z := fun j => Nat.ne_of_gt (Nat.lt_of_lt_of_le bz (Nat.le_add_right _ _))
  have nTO : ∀ j, base + j ≠ TO := fun j => Nat.ne_of_gt (Nat.lt_of_lt_of_le bTO (Nat.le_add_right _ _))
  have ni1 : ∀ j, base + j ≠ i1 := fun j => Nat.ne_of_gt (Nat.lt_of_lt_of_le bi1 (Nat.le_add_right _ _))
  have ni2 : ∀ j, base + j ≠ i2 := fun j => Nat.ne_of_gt (Nat.lt_of_lt_of_le bi2 (Nat.le_add_right _ _))
  have nS : ∀ j, base + j ≠ S := fun j => Nat.ne_of_gt (Nat.lt_of_lt_of_le bS (Nat.le_add_right _ _))
  intro k
  induction k with
  | zero =>
    intro i s c hk hi hsz st hS hp hR
    have hin : i = n := by omega
    subst hin
    refine codeAny_builtin F.entry_extend_loop ?_
    rw [Around.under_plainId F.plain_extend_loop _]
    show wpAny _ A.in1 (pyNext (.ref z) >>= _) _ _ s
    have hend : xs[i]? = none ∨ ys[i]? = none := by
      rcases he with h | h
      · exact .inl (by simp; omega)
      · exact .inr (by simp; omega)
    refine wpAny_bind ?_
    have fin : ∀ h', (∀ b o, b ≠ z → b ≠ TO → b ≠ i1 → b ≠ i2 → s.heap.get? b = some o → h'.get? b = some o) → R (.ok (.ret res)) { s with heap := h' } := fun h' hk' =>
      hR h' c (fun b o c1 c2 c3 c4 _ e => hk' b o c1 c2 c3 c4 e) (hk' S _ Sz STO Si1 Si2 hS) fun j x y hj ex ey => hk' _ _ (nz j) (nTO j) (ni1 j) (ni2 j) (hp j x y hj ex ey)
    rcases st.zz with ⟨_, hz, a, b, hTO⟩ | ⟨hp0, f, hz⟩
    · exact pyNext_zipT_end hh1 D hz st.ti hTO st.a1 st.a2 st.t1 st.t2 hend fun h' hk' => wpAny_pure (fin h' hk')
    · have x0 : ∃ x, xs[0]? = some x := ⟨xs[0]'(by omega), by simp⟩
      have y0 : ∃ y, ys[0]? = some y := ⟨ys[0]'(by omega), by simp⟩
      obtain ⟨x, ex⟩ := x0
      obtain ⟨y, ey⟩ := y0
      exact nextT_end_held hh1 D hz (hp 0 x y hp0 ex ey) st.ti st.a1 st.a2 st.t1 st.t2 hend fun h' hk' => wpAny_pure (fin h' fun b o c1 _ c3 c4 e => hk' b o c1 c3 c4 e)
  | succ k ih =>
    intro i s c hk hi hsz st hS hp hR
    have hlt : i < n := by omega
    obtain ⟨x, ex⟩ : ∃ x, xs[i]? = some x := ⟨xs[i]'(by omega), by simp⟩
    obtain ⟨y, ey⟩ : ∃ y, ys[i]? = some y := ⟨ys[i]'(by omega), by simp⟩
    refine codeAny_builtin F.entry_extend_loop ?_
    rw [Around.under_plainId F.plain_extend_loop _]
    show wpAny _ A.in1 (pyNext (.ref z) >>= _) _ _ s
    refine wpAny_bind ?_
    have go : ∀ h', (∃ f, IsZipHeld h' z TI TO base f) → h'.IsTupleIter i1 l1 (i + 1) → h'.IsTupleIter i2 l2 (i + 1) → IsPair h' s.heap.objs.size x y → h'.objs.size = s.heap.objs.size + 1 →
        (∀ c o, c ≠ z → c ≠ TO → c ≠ i1 → c ≠ i2 → s.heap.get? c = some o → h'.get? c = some o) →
        wpAny (model prog w) A.in1 (updateSeq S (·.push (.ref s.heap.objs.size)) >>= fun _ => again (.builtin "list.extend.loop" ⟨[.ref S, .ref z, res], []⟩))
          (fun fin s' => match fin with | .done f => R (.ok f) s' | .again c' => c'.quiet = true ∧ codeAny (model prog w) A c' R s') (fun e s' => R (.error e) s') { s with heap := h' } := by
      rintro h' ⟨f, hz'⟩ b1 b2 hT hs' hk'
      have hS' := hk' S _ Sz STO Si1 Si2 hS
      refine wpAny_bind ?_
      have sb : Heap.SameBut S h' (h'.update S (Obj.mapSeq (·.push (.ref s.heap.objs.size)))) := Heap.SameBut.update ..
      have up : ∀ b o, b ≠ S → h'.get? b = some o → (h'.update S (Obj.mapSeq (·.push (.ref s.heap.objs.size)))).get? b = some o := fun b o hb e => sb.extBut _ _ hb e
      obtain ⟨c2, qS⟩ : ∃ c2, (h'.update S (Obj.mapSeq (·.push (Value.ref s.heap.objs.size)))).get? S = some { cls := .type "list", dict := none, data := .seq (rfs base (i + 1)) c2, slots := #[] } := by
        have q := Heap.get?_update_self (Obj.mapSeq (·.push (Value.ref s.heap.objs.size))) hS' rfl
        have e1 : (rfs base i).push (Value.ref s.heap.objs.size) = rfs base (i + 1) := by rw [hsz]; exact rfs_push base i
        rw [← e1]
        exact ⟨_, q⟩
      refine wpAny_updateSeq hS' rfl (wpAny_pure ⟨plainId_quiet F.plain_extend_loop _, ih (i + 1) _ c2 (by omega) hlt ?_ ?_ qS ?_ ?_⟩) (by rw [rfs_size]; omega) (by show ((rfs base i).push _).size ≤ sizeLine + 1; rw [Array.size_push, rfs_size]; omega)
      · show (h'.update S _).objs.size = _
        rw [Heap.size_update, hs', hsz]
        rfl
      · refine ⟨up _ _ STI.symm (hk' _ _ D.TIz D.TITO D.TIi1 D.TIi2 st.ti), b1.at fun o e => up _ _ Si1.symm e, b2.at fun o e => up _ _ Si2.symm e, ?_, ?_, .inr ⟨by omega, f, up _ _ Sz.symm hz'⟩⟩
        · obtain ⟨o, ho, r⟩ := st.t1
          exact ⟨o, up _ _ Sl1.symm (hk' _ _ D.l1z D.l1TO D.l1i1 D.l1i2 ho), r⟩
        · obtain ⟨o, ho, r⟩ := st.t2
          exact ⟨o, up _ _ Sl2.symm (hk' _ _ D.l2z D.l2TO D.l2i1 D.l2i2 ho), r⟩
      · intro j x' y' hj ex' ey'
        by_cases hji : j = i
        · subst hji
          rw [ex] at ex'
          rw [ey] at ey'
          cases ex'
          cases ey'
          rw [hsz] at hT
          exact up _ _ (nS j) hT
        · exact up _ _ (nS j) (hk' _ _ (nz j) (nTO j) (ni1 j) (ni2 j) (hp j x' y' (by omega) ex' ey'))
      · intro h'' c' hk'' hS'' hp''
        exact hR h'' c' (fun b o c1 c2 c3 c4 c5 e => hk'' b o c1 c2 c3 c4 c5 (up _ _ c5 (hk' b o c1 c2 c3 c4 e))) hS'' hp''
    rcases st.zz with ⟨hi0, hz, a, b, hTO⟩ | ⟨hp0, f, hz⟩
    · refine pyNext_zipT_item D hz st.ti hTO st.a1 st.a2 st.t1 st.t2 ex ey fun h' z' TO' h1' h2' hT hs' hk' => go h' ⟨false, ?_⟩ h1' h2' hT hs' hk'
      have e0 : s.heap.objs.size = base := by rw [hsz, hi0]; rfl
      rw [e0] at z'
      exact z'
    · have x0 : ∃ x, xs[0]? = some x := ⟨xs[0]'(by omega), by simp⟩
      have y0 : ∃ y, ys[0]? = some y := ⟨ys[0]'(by omega), by simp⟩
      obtain ⟨x', ex'⟩ := x0
      obtain ⟨y', ey'⟩ := y0
      exact nextT_item_held D hz (hp 0 x' y' hp0 ex' ey') st.ti st.a1 st.a2 st.t1 st.t2 ex ey fun h' z' h1' h2' hT hs' hk' => go h' ⟨true, z'⟩ h1' h2' hT hs' fun c o c1 _ c3 c4 e => hk' c o c1 c3 c4 e

theorem call_list_zipT {z TI TO i1 i2 l1 l2 : Addr} {xs ys : Array Value} {n : Nat} {Q : Value → Shared → Prop} (hh : A.handled = none) (D : ZipApart z TI TO i1 i2 l1 l2) (hn : n ≤ sizeLine) (hx : n ≤ xs.size) (hy : n ≤ ys.size) (he : xs.size ≤ n ∨ ys.size ≤ n)
    (hz : IsZip s.heap z TI TO .none) (hTI : IsPair s.heap TI (.ref i1) (.ref i2)) {a b : Value} (hTO : IsPair s.heap TO a b) (h1 : s.heap.IsTupleIter i1 l1 0) (h2 : s.heap.IsTupleIter i2 l2 0) (hl1 : s.heap.IsTuple l1 xs) (hl2 : s.heap.IsTuple l2 ys)
    (hQ : ∀ h' c', (∀ b o, b ≠ z → b ≠ TO → b ≠ i1 → b ≠ i2 → s.heap.get? b = some o → h'.get? b = some o) → h'.get? s.heap.objs.size = some { cls := .type "list", dict := none, data := .seq (rfs (s.heap.objs.size + 1) n) c', slots := #[] } →
      (∀ j x y, j < n → xs[j]? = some x → ys[j]? = some y → IsPair h' (s.heap.objs.size + 1 + j) x y) → Q (.ref s.heap.objs.size) { s with heap := h' }) :
    wpAny (model prog w) A (call (.type "list") [.ref z]) Q E s := by
  have zl : z < s.heap.objs.size := Heap.lt_size hz
  have TIl : TI < s.heap.objs.size := Heap.lt_size hTI
  have TOl : TO < s.heap.objs.size := Heap.lt_size hTO
  have i1l : i1 < s.heap.objs.size := by obtain ⟨_, e, _⟩ := h1; exact Heap.lt_size e
  have i2l : i2 < s.heap.objs.size := by obtain ⟨_, e, _⟩ := h2; exact Heap.lt_size e
  have l1l : l1 < s.heap.objs.size := by obtain ⟨_, e, _⟩ := hl1; exact Heap.lt_size e
  have l2l : l2 < s.heap.objs.size := by obtain ⟨_, e, _⟩ := hl2; exact Heap.lt_size e
  have hSz : s.heap.objs.size ≠ z := Nat.ne_of_gt zl
  refine callType_codes (Q₁ := fun obj s₁ => obj = .ref s.heap.objs.size ∧ s₁ = { s with heap := s.heap.push { cls := .type "list", data := .seq #[] } }) F.called_list (F.typeCall_list_1 _) F.entry_list_init
    (code_list_new _ ⟨rfl, rfl⟩) fun obj s₁ h₁ => ?_
  obtain ⟨rfl, rfl⟩ := h₁
  have hS : (s.heap.push { cls := .type "list", data := .seq #[] }).get? s.heap.objs.size = some { cls := .type "list", data := .seq #[] } := Heap.get?_push_size _ rfl
  refine ⟨⟨_, hS, rfl⟩, F.args_list_init_2 _ _, ?_⟩
  show wpAny _ A.in1.in1 (do let old ← Builtin.List.listItems (.ref s.heap.objs.size); Builtin.List.listUpdate (.ref s.heap.objs.size) (fun _ => #[]); letGo old.toList.reverse; Builtin.List.listExtendWith (.ref s.heap.objs.size) (.ref z) .none) _ _ _
  refine wpAny_bind ?_
  unfold Builtin.List.listItems
  refine wpAny_bind (wpAny_seqItems hS rfl (wpAny_pure ?_))
  show wpAny _ A.in1.in1 (updateSeq s.heap.objs.size (fun _ => #[]) >>= fun _ => letGo (#[] : Array Value).toList.reverse >>= fun _ => Builtin.List.listExtendWith (.ref s.heap.objs.size) (.ref z) .none) _ _ _
  refine wpAny_bind (wpAny_updateSeq hS rfl ?_)
  have hS2 := Heap.get?_update_self (Obj.mapSeq (fun _ => (#[] : Array Value))) hS rfl
  refine wpAny_bind (wpAny_letGo ?_)
  unfold Builtin.List.listExtendWith
  have up : ∀ (h : Heap) (f : Obj → Obj), (∀ b o, s.heap.get? b = some o → h.get? b = some o) → ∀ b o, s.heap.get? b = some o → (h.update s.heap.objs.size f).get? b = some o := fun h f q b o e =>
    (Heap.get?_update_other _ _ (Ne.symm (Nat.ne_of_lt (Heap.lt_size e)))).trans (q b o e)
  have k1 : ∀ b o, s.heap.get? b = some o → (s.heap.push { cls := .type "list", data := .seq #[] }).get? b = some o := fun b o e => Heap.get?_push_of_some _ e
  have k2 := up _ (Obj.mapSeq (fun _ => (#[] : Array Value))) k1
  refine wpAny_bind (wpAny_typeOf (T := "zip") ⟨_, k2 _ _ hz, rfl⟩ ?_)
  have h1' : Builtin.List.listSameRef (.ref s.heap.objs.size) (.ref z) = false := by simp [Builtin.List.listSameRef, hSz]
  have h2' : (Value.type "zip" == Value.type "list") = false := by decide
  have h3' : (Value.type "zip" == Value.type "tuple") = false := by decide
  simp only [h1', h2', h3', Bool.or_false, Bool.false_eq_true, if_false]
  refine wpAny_bind (wpAny_pyIter_zip (k2 _ _ hz) ?_)
  refine wpAny_bind (wpAny_holding ?_)
  unfold Builtin.List.listLengthHint
  refine wpAny_bind (wpAny_specialOf (T := "zip") ⟨_, k2 _ _ hz, rfl⟩ zip_no_len ?_)
  show wpAny _ A.in1.in1 (specialOf (Value.ref z) (Str.ofString "__length_hint__") >>= _) _ _ _
  refine wpAny_bind (wpAny_specialOf (T := "zip") ⟨_, k2 _ _ hz, rfl⟩ zip_no_hint ?_)
  refine wpAny_pure ?_
  show wpAny _ A.in1.in1 (rule "list.extend.makes-room" >>= fun _ => Builtin.List.listTouch (.ref s.heap.objs.size) >>= fun _ =>
    again (.builtin "list.extend.loop" ⟨[.ref s.heap.objs.size, .ref z, .none], []⟩)) _ _ _
  refine wpAny_bind (wpAny_rule ?_)
  refine wpAny_bind ?_
  show wpAny _ A.in1.in1 (updateSeq s.heap.objs.size (·.push .none) >>= fun _ => updateSeq s.heap.objs.size (·.pop)) _ _ _
  refine wpAny_bind (wpAny_updateSeq hS2 rfl ?_)
  have hS3 := Heap.get?_update_self (Obj.mapSeq (·.push Value.none)) hS2 rfl
  refine wpAny_updateSeq (hz := by seq_fits) hS3 rfl ?_
  have hS4 := Heap.get?_update_self (Obj.mapSeq (·.pop)) hS3 rfl
  have k4 := up _ (Obj.mapSeq (·.pop)) (up _ (Obj.mapSeq (·.push Value.none)) k2)
  refine wpAny_pure ⟨plainId_quiet F.plain_extend_loop _, ?_⟩
  refine zloop (A := A.in1) (base := s.heap.objs.size + 1) hh D hn hx hy he hSz (Nat.ne_of_gt TOl) (Nat.ne_of_gt TIl) (Nat.ne_of_gt i1l) (Nat.ne_of_gt i2l) (Nat.ne_of_gt l1l) (Nat.ne_of_gt l2l) (Nat.lt_succ_self _) (Nat.lt_succ_of_lt zl) (Nat.lt_succ_of_lt TOl) (Nat.lt_succ_of_lt i1l) (Nat.lt_succ_of_lt i2l) .none n 0 _ _ rfl (Nat.zero_le _) ?_ ?_ hS4 (fun j x y hj => absurd hj (Nat.not_lt_zero _)) fun h' c' hk' hS' hp' => ?_
  · show (((((s.heap.push _).update _ _).update _ _).update _ _)).objs.size = _
    rw [Heap.size_update, Heap.size_update, Heap.size_update, Heap.size_push]
  · exact ⟨k4 _ _ hTI, h1.at fun o e => k4 _ _ e, h2.at fun o e => k4 _ _ e, let ⟨o, ho, r⟩ := hl1; ⟨o, k4 _ _ ho, r⟩, let ⟨o, ho, r⟩ := hl2; ⟨o, k4 _ _ ho, r⟩, .inl ⟨rfl, k4 _ _ hz, a, b, k4 _ _ hTO⟩⟩
  · exact ⟨rfl, hQ h' c' (fun b o c1 c2 c3 c4 e => hk' b o c1 c2 c3 c4 (Nat.ne_of_lt (Heap.lt_size e)) (k4 _ _ e)) hS' hp'⟩
end
/-! #### over the layer -/
section
variable {X : Cx} {pins : List (Addr × Obj)} {σ : L2.St} {H : Hp} {s : Shared}
def layZ (H : Hp) (S base n : Addr) (o : HO) (f : Nat → HO) : Hp := fun b => if b = S then some o else if base ≤ b ∧ b < base + n then some (f (b - base)) else H b
theorem layZ_S {S base n : Addr} {o : HO} {f : Nat → HO} : layZ H S base n o f S = some o := if_pos rfl
theorem layZ_T {S base n j : Addr} {o : HO} {f : Nat → HO} (hS : S < base) (hj : j < n) : layZ H S base n o f (base + j) = some (f j) := by
  unfold layZ
  rw [if_neg (Nat.ne_of_gt (Nat.lt_of_lt_of_le hS (Nat.le_add_right _ _))), if_pos ⟨Nat.le_add_right _ _, Nat.add_lt_add_left hj _⟩, Nat.add_sub_cancel_left]
theorem layZ_old {S base n b : Addr} {o : HO} {f : Nat → HO} (h1 : b < S) (h2 : b < base) : layZ H S base n o f b = H b := by
  unfold layZ
  rw [if_neg (Nat.ne_of_lt h1), if_neg (fun z => absurd h2 (Nat.not_lt.mpr z.1))]
theorem inv_layZ {h' : Heap} {t' : Nat} {S base n : Addr} {o : HO} {f : Nat → HO} (I : Inv X pins σ H s) (k : ∀ b u, s.heap.get? b = some u → h'.get? b = some u) (hS : s.heap.objs.size ≤ S) (hB : S < base)
    (oS : ObjOk X.prog X.w (layZ H S base n o f) h' S o) (oT : ∀ j, j < n → ObjOk X.prog X.w (layZ H S base n o f) h' (base + j) (f j)) : Inv X pins σ (layZ H S base n o f) { s with heap := h', toks := t' } := by
  have old : ∀ b u, H b = some u → layZ H S base n o f b = some u := fun b u e => by
    have hl : b < s.heap.objs.size := (I.hok b u e).lt
    rw [layZ_old (Nat.lt_of_lt_of_le hl hS) (Nat.lt_trans (Nat.lt_of_lt_of_le hl hS) hB)]
    exact e
  refine I.un ⟨fun b u e _ _ _ => k b u e, fun b u e _ _ _ => ⟨u.slots, k b u e⟩, fun b u e n _ => ?_, fun b u e _ => ⟨u, k b u e⟩, fun b xs e => old _ _ e, fun b u v e => old _ _ e, fun b ps e => ⟨#[], by rw [old _ _ e]; simp⟩⟩ fun b u e => ?_
  · have hl : b < s.heap.objs.size := Heap.lt_size e
    rw [layZ_old (Nat.lt_of_lt_of_le hl hS) (Nat.lt_trans (Nat.lt_of_lt_of_le hl hS) hB)]
    exact n
  · by_cases hb : b = S
    · subst hb
      rw [layZ_S] at e
      cases e
      exact oS
    · by_cases hr : base ≤ b ∧ b < base + n
      · have e' : layZ H S base n o f b = some (f (b - base)) := by unfold layZ; rw [if_neg hb, if_pos hr]
        rw [e'] at e
        cases e
        have hj := oT (b - base) (by have := hr.1; have := hr.2; exact Nat.sub_lt_left_of_lt_add hr.1 hr.2)
        rw [Nat.add_sub_cancel' hr.1] at hj
        exact hj
      · have e' : layZ H S base n o f b = H b := by unfold layZ; rw [if_neg hb, if_neg hr]
        rw [e'] at e
        exact (I.hok b u e).stay (fun c v _ q => k c v q) (fun c q => old _ _ q) fun c xs q => old _ _ q
/-- list(zip(x, y)): a new list of new pairs -/
def tLZ (K : PySem.W.Frag) (ta : TA) : TE := fun σ H Q => ta σ H fun vs H1 => ∃ a b xs ys, vs = [.ref a, .ref b] ∧ SqT K H1 a xs ∧ SqT K H1 b ys ∧
  ∀ H2 L ps, Same H1 H2 → H1 L = none → H2 L = some (.lst ps) → ps.length = min xs.length ys.length → (∀ (j : Nat) x y, xs[j]? = some x → ys[j]? = some y → ∃ T, ps[j]? = some (.ref T) ∧ H1 T = none ∧ H2 T = some (.tup [x, y])) → Q (.ref L) H2
theorem pe_listZip {e e2 : Expr} {ta : TA} {p p2 pos pos2 : Pos} (hc : X.calm = true) (hg : Gl X "list") (hm : X.mg "list" = none) (hg2 : Gl X "zip") (hm2 : X.mg "zip" = none) (ha : PA X [e, e2] ta)
    (na : starEach [.Call (.Name "zip" p2) [e, e2] [] pos2] X.env = (false, eval (.Call (.Name "zip" p2) [e, e2] [] pos2) X.env) :: starEach [] X.env := by rfl)
    (hs : starEach [e, e2] X.env = (false, eval e X.env) :: starEach [e2] X.env := by rfl) (hpl : (backTo pos2 (starEach [e2] X.env)).any (·.1) = false := by rfl) :
    PE X (.Call (.Name "list" p) [.Call (.Name "zip" p2) [e, e2] [] pos2] [] pos) (tLZ X.K ta) := by
  refine ⟨fun pins s σ H Q I h => ?_⟩
  have hz : wpAny (model X.prog X.w) X.A (eval (.Call (.Name "zip" p2) [e, e2] [] pos2) X.env) (fun v s2 => wpAny (model X.prog X.w) X.A (call (.type "list") [v]) (EP X pins σ Q) X.xe s2) X.xe s := by
    refine Call_ (ld_blt I hg2 hm2 PyProof.Rows.boot_zip (PyProof.Rows.callWith_type1 (thn (ha.run pos2 pins s σ H _ I h) fun us s1 ⟨vs, H1, I1, r1, q1⟩ => ?_) hs hpl))
    obtain ⟨a, b, xs, ys, ex, hqx, hqy, q⟩ := q1
    subst ex
    cases r1 with
    | cons r rr =>
      cases rr with
      | cons r' rr =>
        cases rr
        cases r
        cases r'
        obtain ⟨its, rv, p1, z1⟩ := I1.tuple hqx
        obtain ⟨its2, rv2, p2', z2⟩ := I1.tuple hqy
        have al : a < s1.heap.objs.size := p1.lt
        have bl : b < s1.heap.objs.size := p2'.lt
        refine call_zipT p1 p2' fun h' hz hTI hTO h1 h2 hsz hk => ?_
        have ls := rv.length
        have ls2 := rv2.length
        have ap : ZipApart (s1.heap.objs.size + 4) (s1.heap.objs.size + 2) (s1.heap.objs.size + 3) s1.heap.objs.size (s1.heap.objs.size + 1) a b := by
          have nn : ∀ {c : Addr}, c < s1.heap.objs.size → ∀ i, c ≠ s1.heap.objs.size + i := fun {c} hc i => Nat.ne_of_lt (Nat.lt_of_lt_of_le hc (Nat.le_add_right _ _))
          have nm : ∀ {i j : Nat}, i ≠ j → s1.heap.objs.size + i ≠ s1.heap.objs.size + j := fun {i j} hij z => hij (Nat.add_left_cancel z)
          exact ⟨nm (by decide), nm (by decide), nm (i := 0) (by decide), nm (by decide), nm (by decide), nm (j := 0) (by decide), nm (by decide), nm (j := 0) (by decide), nm (by decide), nm (i := 0) (by decide), nn al _, nn al _, nn al 0, nn al _, nn bl _, nn bl _, nn bl 0, nn bl _⟩
        have t1 : h'.IsTuple a its.toArray := let ⟨o, ho, r⟩ := p1; ⟨o, hk _ _ ho, r⟩
        have t2 : h'.IsTuple b its2.toArray := let ⟨o, ho, r⟩ := p2'; ⟨o, hk _ _ ho, r⟩
        refine call_list_zipT (n := min xs.length ys.length) (I1.ok.hd hc) ap (by omega) (by rw [List.size_toArray]; omega) (by rw [List.size_toArray]; omega) (by rw [List.size_toArray, List.size_toArray]; omega) hz hTI hTO h1 h2 t1 t2 fun h'' c' hk2 hS hp => ?_
        have hsz' : h'.objs.size = s1.heap.objs.size + 5 := hsz
        have gt : ∀ {c : Addr} {u : Obj}, s1.heap.get? c = some u → ∀ i, c ≠ s1.heap.objs.size + i := fun {c u} e i => Nat.ne_of_lt (Nat.lt_of_lt_of_le (Heap.lt_size e) (Nat.le_add_right _ _))
        have kk : ∀ c u, s1.heap.get? c = some u → h''.get? c = some u := fun c u e => hk2 c u (gt e 4) (gt e 3) (gt e 0) (gt e 1) (hk c u e)
        have nS : s1.heap.objs.size ≤ h'.objs.size := by rw [hsz']; exact Nat.le_add_right _ _
        have hS1 : H1 h'.objs.size = none := I1.hok.fresh nS
        have hT1 : ∀ j, H1 (h'.objs.size + 1 + j) = none := fun j => I1.hok.fresh (Nat.le_trans nS (by rw [Nat.add_assoc]; exact Nat.le_add_right _ _))
        let f : Nat → HO := fun j => .tup [xs.getD j .non, ys.getD j .non]
        let ps : List V := (List.range (min xs.length ys.length)).map fun j => V.ref (h'.objs.size + 1 + j)
        have hlen : ps.length = min xs.length ys.length := by show ((List.range _).map _).length = _; rw [List.length_map, List.length_range]
        have I2 : Inv X pins σ (layZ H1 h'.objs.size (h'.objs.size + 1) (min xs.length ys.length) (.lst ps) f) { s1 with heap := h'', toks := s1.toks } := by
          refine inv_layZ I1 kk nS (Nat.lt_succ_self _) ⟨by rw [hlen]; omega, (List.range (min xs.length ys.length)).map fun j => Value.ref (h'.objs.size + 1 + j), c', ?_, hS⟩ fun j hj => ?_
          · have key : ∀ l : List Nat, Vals (l.map fun j => V.ref (h'.objs.size + 1 + j)) (l.map fun j => Value.ref (h'.objs.size + 1 + j)) := fun l => by
              induction l with
              | nil => exact .nil
              | cons a l ih => exact .cons rfl ih
            exact key _
          · obtain ⟨x, ex⟩ : ∃ x, xs[j]? = some x := ⟨xs[j]'(Nat.lt_of_lt_of_le hj (Nat.min_le_left _ _)), by simp⟩
            obtain ⟨y, ey⟩ : ∃ y, ys[j]? = some y := ⟨ys[j]'(Nat.lt_of_lt_of_le hj (Nat.min_le_right _ _)), by simp⟩
            obtain ⟨u, hu, ru⟩ := rv.get ex
            obtain ⟨u2, hu2, ru2⟩ := rv2.get ey
            have hT := hp j u u2 hj (by simpa using hu) (by simpa using hu2)
            have ef : f j = .tup [x, y] := by show HO.tup [xs.getD j .non, ys.getD j .non] = _; rw [List.getD_eq_getElem?_getD, List.getD_eq_getElem?_getD, ex, ey]; rfl
            rw [ef]
            exact ⟨by show 2 ≤ sizeLine; decide, [u, u2], .cons ru (.cons ru2 .nil), ⟨_, hT, rfl, _, rfl⟩⟩
        have old : Same H1 (layZ H1 h'.objs.size (h'.objs.size + 1) (min xs.length ys.length) (.lst ps) f) := fun c o e => by
          have hl : c < s1.heap.objs.size := (I1.hok c o e).lt
          rw [layZ_old (Nat.lt_of_lt_of_le hl nS) (Nat.lt_succ_of_lt (Nat.lt_of_lt_of_le hl nS))]
          exact e
        refine ⟨.ref h'.objs.size, _, I2, rfl, q _ _ ps old hS1 layZ_S hlen fun j x y ex ey => ⟨h'.objs.size + 1 + j, ?_, hT1 j, ?_⟩⟩
        · have hj : j < min xs.length ys.length := by
            have := (List.getElem?_eq_some_iff.mp ex).1
            have := (List.getElem?_eq_some_iff.mp ey).1
            omega
          show ((List.range _).map _)[j]? = _
          rw [List.getElem?_map, List.getElem?_range hj]
          rfl
        · have hj : j < min xs.length ys.length := by
            have := (List.getElem?_eq_some_iff.mp ex).1
            have := (List.getElem?_eq_some_iff.mp ey).1
            omega
          rw [layZ_T (Nat.lt_succ_self _) hj]
          show some (HO.tup [xs.getD j .non, ys.getD j .non]) = _
          rw [List.getD_eq_getElem?_getD, List.getD_eq_getElem?_getD, ex, ey]
          rfl
  exact Call_ (ld_blt I hg hm boot_list (PyProof.Rows.callWith_type1 (args_cons (thn hz fun v s2 hv => args_nil hv) na) na))
end
end My
/-! isinstance of a caught error of an own class that has a dict of its own -/
namespace My
open PySem PySem.Spec PySem.W PySem.Calls PyProof.Rows
section
variable {prog : Program} {w : World} {A : Around} {E : Value → Shared → Prop} {s : Shared} {K : PySem.W.Frag} {x D : Addr} {ox : Obj} {od : Option Obj}
theorem findObj_dataO {C : Addr} {name : Str} {a g : Value} (hc : (clsIn K C).isSome = true) (ha : findIn K (.ref C) name = some (some a)) (hg : specialIn K a "__get__" = some (some g)) (ht : takesIn K a = some true) : findObj K C od name = some (.bind g a) := by
  obtain ⟨cd, hc⟩ := Option.isSome_iff_exists.mp hc
  unfold findObj
  rw [hc, Option.bind_some, ha, Option.bind_some]
  simp [hg, ht]
theorem kin_classO {Q : Option Value → Shared → Prop} (C : L2.ExcC K D) (X : K.In s.heap) (I : PySem.W.InstAt s.heap x ox D od) (h : Q (some (.ref D)) { s with toks := s.toks + 1 }) : wpAny (model prog w) A (getAttr? (.ref x) "__class__") Q E s := by
  have hf : findObj K D od "__class__" = some (.bind (.builtin "getset_descriptor.__get__") (.builtin "object.__class__")) := findObj_dataO (by obtain ⟨cd, hc, _⟩ := any_some C.hd; rw [hc]; rfl) C.ha C.hn C.ht
  obtain ⟨hp, g, d, t, os⟩ := s
  have tyL := I.type (M := model prog w)
  have gaL := looks_findIn (M := model prog w) X C.hg
  have gtL := looks_findIn (M := model prog w) X C.hk
  have fdL := looks_find (M := model prog w) X I hf
  have sub : Looks (model prog w) hp (isInstance (.ref x) (.type "BaseException")) true := tyL.andThen (looks_subIn X C.hs)
  have ne : (Value.builtin "BaseException.__getattribute__" == Value.builtin "object.__getattribute__") = false := by decide +kernel
  have ne1 : (onTheHeap (Value.ref D) && Value.builtin "BaseException.__getattribute__" == Value.builtin "object.__getattribute__") = false := by rw [ne]; rfl
  unfold getAttr? getAttrBy? getAttrBy
  refine wpAny_bind (wpAny_mkText (wpAny_bind (wpAny_attempt (wpAny_holding (wpAny_bind (tyL.at (wpAny_bind (gaL.at ?_))))))))
  show wpAny _ _ (if (onTheHeap (Value.ref D) && Value.builtin "BaseException.__getattribute__" == Value.builtin "object.__getattribute__") = true then _ else _) _ _ _
  rw [ne1, if_neg Bool.false_ne_true]
  unfold getAttrByItsOwn hookBefore
  refine wpAny_bind ?_
  rw [if_pos (show onTheHeap (Value.ref D) = true from rfl)]
  refine gtL.at (wpAny_bind (wpAny_attempt (wpAny_holding ?_)))
  unfold callGetattribute
  rw [show (false && onTheHeap (Value.builtin "BaseException.__getattribute__")) = false from rfl, if_neg Bool.false_ne_true]
  unfold boundAndCalled
  rw [PySem.F.excAttr_ValueError.ga.bind (.ref x)]
  refine wpAny_bind (wpAny_pure ?_)
  show wpAny _ _ (call (.builtin "BaseException.__getattribute__") [.ref x, .str "__class__" t]) _ _ _
  refine wpAny_call (codeAny_call_builtin PySem.F.excAttr_ValueError.ga.plain PySem.F.entry_bexc_ga ?_)
  refine @check_slot (model prog w) _ _ ⟨hp, g, d, t + 1, os⟩ "BaseException.__getattribute__" "BaseException" "__getattribute__" (.ref x) [.str "__class__" t] [] _ (by decide +kernel) (by decide +kernel) sub (PySem.F.args_bexc_ga (.ref x) (.str "__class__" t)) ?_
  unfold Builtin.«object.__getattribute__»
  refine wpAny_bind (wpAny_of_eq (a := ((Value.ref x : Value), [Value.str "__class__" t])) (by first | rfl | (simp only [slotArgs]; rfl)) ?_)
  refine wpAny_bind (wpAny_pure (wpAny_bind (tyL.at (wpAny_bind (fdL.at ?_)))))
  show wpAny _ _ (holding [Value.builtin "object.__class__"] (call (.builtin "getset_descriptor.__get__") [.builtin "object.__class__", .ref x, .ref D]) >>= ret) _ _ _
  refine wpAny_bind (wpAny_holding (wpAny_call (class_get (s := ⟨hp, g, d, t + 1, os⟩) (ox := ox) (od := od) X I C.hm ?_)))
  refine wpAny_pure ?_
  show wpAny _ _ (handedOut (.ref D)) _ _ _
  rw [handedOut_of (v := .ref D) rfl]
  first
    | exact wpAny_pure (wpAny_pure h)
    | exact wpAny_pure h
    | exact wpAny_pure (wpAny_bind (wpAny_pure (wpAny_pure h)))
theorem kitx_O (C : L2.ExcC K D) : KitX K (.ref x) (.ref D) (fun h => PySem.W.InstAt h x ox D od) where
  ty := fun _ _ _ I => I.type
  it := fun _ _ X _ => by
    obtain ⟨cdD, hcD, _⟩ := any_some C.hd
    unfold clsIn at hcD
    split at hcD
    · rename_i c' d' cd' sl' ho
      intro A' Q' E' s' k q
      unfold isType loadHead
      exact wpAny_bind (wpAny_loadPart (k _ _ (X _ _ ho)) (wpAny_pure q))
    · cases hcD
  ne := fun h tp dd its n sl X htp => by
    obtain ⟨cdD, hcD, _⟩ := any_some C.hd
    refine Bool.eq_false_iff.mpr fun q => ?_
    have e : D = tp := Value.ref.inj (beq_iff_eq.mp q)
    subst e
    unfold clsIn at hcD
    split at hcD
    · rename_i c' d' cd' sl' ho
      have z := (X _ _ ho).symm.trans htp
      cases z
    · cases hcD
  ca := fun X I k => kin_classO C X I k
end
open L2
/-- isinstance(e, c), e the exception that the suite holds, its dict at dd -/
def rIsV (K : PySem.W.Frag) (D a dd : Addr) : List V → Hp → VK → Prop := fun xs H Q => ∃ (c : V) (cv : Value) (b : Bool) (fs : List (Str × V)), xs = [.ref a, c] ∧ H dd = some (.xd fs) ∧ (∀ u, RelV c u → u = cv) ∧ PySem.W.kitOne K (.ref D) cv = some b ∧ Q (.bl b) H
theorem call_isV {X : Cx} {a D dd : Addr} {oe : Obj} {pn : List (Addr × Obj)} (C : ExcC X.K D) (hz : Zc (.ref D) (some dd) oe) (hf : ∃ vs, oe.data = .fields vs) : CallR (X.suite a ((a, oe) :: pn)) (.builtin "isinstance") (rIsV X.K D a dd) := by
  intro pins s σ H xs us Q I r h
  obtain ⟨c, cv, b, fs, rfl, hd, hcv, e, q⟩ := h
  cases r with
  | cons rx rr =>
    cases rr with
    | cons rt rr =>
      cases rr
      cases rx
      have ec := hcv _ rt
      subst ec
      obtain ⟨hget, _⟩ := I.pin (a, oe) (List.mem_append.mpr (.inl List.mem_cons_self))
      obtain ⟨vs, hv⟩ := hf
      have hx : ObjOk X.prog X.w H s.heap dd (.xd fs) := I.hok dd _ hd
      obtain ⟨mA, ⟨od, es, ep, ho, _⟩, _⟩ := hx
      have J : PySem.W.InstAt s.heap a oe D (some od) := by
        obtain ⟨oc, od', oda, osl⟩ := oe
        obtain ⟨h1, h2⟩ := hz
        dsimp only at h1 h2 hv
        subst h1 h2 hv
        exact ⟨hget, rfl, rfl, ho⟩
      exact PySem.W.kia_one (kitx_O C) I.kIn J e (fun z => nomatch z) fun tk => ⟨.bl b, H, I.kept (t' := tk) fun _ _ z => z, rfl, q⟩
def tIsV (a dd : Addr) (i : Nat) (bs : List Bool) : TA := fun σ H Q => σ[i]? = some (some (.ref a)) ∧ (∃ fs, H dd = some (.xd fs)) ∧ Q (bs.map V.bl) H
section
variable {X : Cx} {a D dd : Addr} {oe : Obj} {pn : List (Addr × Obj)} {i : Nat}
theorem paIsV0 : PA (X.suite a ((a, oe) :: pn)) [] (tIsV a dd i []) := ⟨fun pos pins s σ H Q I h => (pa_nil (X := X.suite a ((a, oe) :: pn))).run pos pins s σ H Q I h.2.2⟩
theorem paIsV {x n : Str} {p p1 p2 pos : Pos} {C : Addr} {b : Bool} {bs : List Bool} {es : List Expr} (EC : ExcC X.K D) (hz : Zc (.ref D) (some dd) oe) (hf : ∃ vs, oe.data = .fields vs) (hk : PySem.W.kitOne X.K (.ref D) (.ref C) = some b)
    (hm : X.mg x = some (.ref C)) (bi : X.mg "isinstance" = none) (hg : Gl X x) (hgi : Gl X "isinstance") (hd : (x == ("__debug__" : Str)) = false) (hN : X.N[i]? = some n) (hv : Vis X.env.scope n) (hnd : (n == ("__debug__" : Str)) = false) (hnc : (n == ("__classdict__" : Str)) = false)
    (hr : PA (X.suite a ((a, oe) :: pn)) es (tIsV a dd i bs))
    (hs : starEach ((.Call (.Name "isinstance" p) [.Name n p1, .Name x p2] [] pos) :: es) X.env = (false, eval (.Call (.Name "isinstance" p) [.Name n p1, .Name x p2] [] pos) X.env) :: starEach es X.env := by rfl)
    (he : starEach (.Name n p1 :: [.Name x p2]) X.env = (false, eval (.Name n p1) X.env) :: starEach [.Name x p2] X.env := by rfl) :
    PA (X.suite a ((a, oe) :: pn)) ((.Call (.Name "isinstance" p) [.Name n p1, .Name x p2] [] pos) :: es) (tIsV a dd i (b :: bs)) := by
  have h1 : PE (X.suite a ((a, oe) :: pn)) (.Call (.Name "isinstance" p) [.Name n p1, .Name x p2] [] pos) (tCB (rIsV X.K D a dd) (tCons (tVar i) (tCons (tC (.ref C)) tNil))) :=
    pe_callB (call_isV EC hz hf) hgi bi (by decide +kernel) (pa_cons (pe_var hN hv hnd hnc) (pa_cons (pe_glob (v := .ref C) hg hm rfl hd) pa_nil rfl) he) (by decide) (by decide) rfl rfl
  refine ⟨fun pos' pins s σ H Q I h => (pa_cons h1 hr hs).run pos' pins s σ H Q I ?_⟩
  obtain ⟨h2, ⟨fs, hx⟩, h3⟩ := h
  exact ⟨_, h2, .ref C, .ref C, b, fs, rfl, hx, fun u r => r, hk, h2, ⟨fs, hx⟩, h3⟩
end
end My
/-! t[::-1] of a tuple -/
namespace My
open PySem PySem.Spec PyProof.Rows L2
theorem adjust_rev (n : Nat) : Builtin.Slice.sliceAdjust none none (-1) (n : Int) = ((n : Int) - 1, -1) := by
  unfold Builtin.Slice.sliceAdjust
  simp
theorem places_rev (n : Nat) : Builtin.Slice.slicePlaces ((n : Int) - 1) (-1) (-1) = n := by
  unfold Builtin.Slice.slicePlaces
  simp
  try omega
theorem fm_congr {α β : Type} {f g : α → Option β} : ∀ {l : List α}, (∀ x ∈ l, f x = g x) → l.filterMap f = l.filterMap g
  | [], _ => rfl
  | a :: l, h => by
    rw [List.filterMap_cons, List.filterMap_cons, h a (List.mem_cons_self ..), fm_congr fun x hx => h x (List.mem_cons_of_mem _ hx)]
theorem pick_rev (xs : Array Value) : ((List.range xs.size).filterMap fun (m : Nat) => xs[(((xs.size : Int) - 1) + (m : Int) * (-1)).toNat]?).toArray = xs.toList.reverse.toArray := by
  have e : (List.range xs.size).filterMap (fun (m : Nat) => xs[(((xs.size : Int) - 1) + (m : Int) * (-1)).toNat]?) = ((List.range xs.size).map fun k => xs.size - 1 - k).filterMap (xs[·]?) := by
    rw [List.filterMap_map]
    refine fm_congr fun k hk => ?_
    have := List.mem_range.mp hk
    have ei : (((xs.size : Int) - 1) + (k : Int) * (-1)).toNat = xs.size - 1 - k := by omega
    rw [ei]
    rfl
  rw [e, PySem.W.krv_range, List.filterMap_reverse, PySem.W.krv_all]
section
variable {prog : Program} {w : World} {A : Around} {E : Value → Shared → Prop} {s : Shared}
theorem sliceApplied_rev {sl : Addr} {vk : Value} {n : Nat} {Q : Int × Int × Nat → Shared → Prop} (hs : s.heap.IsSliceOf sl .none .none vk) (pk : IsPart vk (some (-1)))
    (h : Q ((n : Int) - 1, -1, n) s) : wpAny (model prog w) A (Builtin.Slice.sliceApplied (.ref sl) (pure (n : Int))) Q E s := by
  obtain ⟨os, hos, hcs, hds⟩ := id hs
  unfold Builtin.Slice.sliceApplied Builtin.Slice.sliceFields
  refine wpAny_bind (wpAny_bind (wpAny_field hos hds (x := .none) rfl (wpAny_bind (wpAny_field hos hds (x := .none) rfl (wpAny_bind (wpAny_field hos hds (x := vk) rfl (wpAny_pure ?_)))))))
  refine wpAny_bind (HT.slicePart_ pk ?_)
  show wpAny _ _ (if ((-1 : Int) == 0) = true then _ else _) _ _ s
  rw [if_neg (by decide)]
  refine wpAny_bind (HT.slicePart_ .none (wpAny_bind (HT.slicePart_ .none (wpAny_bind (wpAny_pure ?_)))))
  show wpAny _ _ (match Builtin.Slice.sliceAdjust none none (-1) (n : Int) with | (lo, hi) => pure (lo, (-1 : Int), Builtin.Slice.slicePlaces lo hi (-1))) _ _ s
  rw [adjust_rev n]
  show wpAny _ _ (pure ((n : Int) - 1, (-1 : Int), Builtin.Slice.slicePlaces ((n : Int) - 1) (-1) (-1))) _ _ s
  rw [places_rev]
  exact wpAny_pure h
theorem getItem_tuple_rev {t sl : Addr} {items : Array Value} {vk : Value} {Q : Value → Shared → Prop} (ht : IsTup s.heap t items) (hs : s.heap.IsSliceOf sl .none .none vk) (pk : IsPart vk (some (-1)))
    (h : Q (.ref s.heap.objs.size) { s with heap := s.heap.push { cls := .type "tuple", data := .seq items.toList.reverse.toArray } }) (hsz : items.size ≤ sizeLine) : wpAny (model prog w) A (getItem (.ref t) (.ref sl)) Q E s := by
  have hfit : sizeOk (.seq items.toList.reverse.toArray) := by
    show items.toList.reverse.toArray.size ≤ sizeLine
    rw [List.size_toArray, List.length_reverse, Array.length_toList]
    exact hsz
  obtain ⟨os, hos, hcs, hds⟩ := id hs
  have hTs : s.TypeIs (.ref sl) "slice" := ⟨os, hos, hcs⟩
  unfold getItem
  try with_reducible refine wpAny_holding ?_
  first | refine wpAny_bind (wpAny_pure ?_) | skip
  refine wpAny_bind (wpAny_sequenceKey ht.typeIs (by decide) ?_)
  refine wpAny_bind (wpAny_callSpecial?_slot (name := Str.ofString "__getitem__") ht.typeIs PyProof.Rows.slot_tuple_getitem
    (wpAny_call_entry PyProof.Rows.slot_tuple_getitem ht.typeIs PyProof.Rows.entry_tuple_getitem ?_ (PyProof.Rows.args_tuple_getitem _ _)))
  show wpAny _ _ (Builtin.Tuple.tupleItemsOf (.ref t) >>= _) _ _ s
  refine wpAny_bind (PyProof.Rows.tupleItemsOf_ ht ?_)
  refine wpAny_bind (wpAny_typeOf hTs ?_)
  rw [if_pos (by decide)]
  refine wpAny_bind (sliceApplied_rev hs pk ?_)
  show wpAny _ _ (if (((items.size : Int) - 1) == 0 && (-1 : Int) == 1 && items.size == items.size) = true then _ else _) _ _ s
  rw [if_neg (by simp), pick_rev]
  first
    | exact wpAny_bind (m := Builtin.Tuple.tupleExact _) (wpAny_newObj_type (wpAny_pure ⟨_, rfl, wpAny_pure h⟩) hfit)
    | exact wpAny_bind (m := Builtin.Tuple.tupleExact _) (wpAny_newObj_type (wpAny_bind (wpAny_pure (wpAny_pure ⟨_, rfl, wpAny_pure h⟩))) hfit)
    | exact wpAny_bind (wpAny_bind (m := Builtin.Tuple.tupleExact _) (wpAny_newObj_type (wpAny_pure (wpAny_pure ⟨_, rfl, wpAny_pure h⟩)) hfit))
    | exact wpAny_bind (wpAny_bind (m := Builtin.Tuple.tupleExact _) (wpAny_newObj_type (wpAny_pure ⟨_, rfl, wpAny_pure h⟩) hfit))
end
section
variable {X : Cx} {e k : Expr} {te tk : TE} {p2 pos : Pos}
/-- t[::-1] -/
def tRevT (K : PySem.W.Frag) (te : TE) (tk : TO) : TE := fun σ H Q => te σ H fun x H1 => tk σ H1 fun u H2 => ∃ a xs, x = .ref a ∧ u = some (-1) ∧ SqT K H2 a xs ∧ ∀ p, H2 p = none → Q (.ref p) (upd H2 p (.tup xs.reverse))
theorem pe_revT {to : TO} (he : PE X e te) (hk : PO X (some k) to) : PE X (.Subscript e (.Slice none none (some k) p2) pos) (tRevT X.K te to) := by
  refine ⟨fun pins s σ H Q I h => ?_⟩
  refine Subscript_ (thn (he.run pins s σ H _ I h) fun v s1 ⟨x, H1, I1, r1, q1⟩ => ?_)
  refine wpAny_Slice ?_
  rw [evalPart_none]
  refine wpAny_pure (wpAny_pure ?_)
  refine thn (hk.run pins s1 σ H1 _ I1 q1) fun vk s3 ⟨u, H3, I3, pk, a, xs, ex, eu, hx, q⟩ => ?_
  subst ex
  subst eu
  cases r1
  have I4 : Inv X pins σ H3 { s3 with heap := s3.heap.push { cls := .type "slice", data := .fields #[.none, .none, vk] } } := I3.kept (t' := s3.toks) fun b ob q => Heap.get?_push_of_some _ q
  obtain ⟨its, r, ht, hz⟩ := I4.tuple hx
  show wpAny (model X.prog X.w) X.A (subscriptTail e (.Slice none none (some k) p2) (.ref a) (.ref s3.heap.objs.size)) (EP X pins σ Q) X.xe { s3 with heap := s3.heap.push { cls := .type "slice", data := .fields #[.none, .none, vk] } }
  refine tail_any (ops := [.ref a, .ref s3.heap.objs.size]) ht.typeIs PyProof.Rows.slot_tuple_getitem.lookup ?_ (by with_unfolding_all rfl)
  refine getItem_tuple_rev ht (Heap.IsSliceOf.new ..) pk ?_ (by rw [List.size_toArray, ← r.length]; exact hz)
  refine ⟨.ref _, _, I4.laid (t' := s3.toks) (o := .tup xs.reverse) (fun b ob q => Heap.get?_push_of_some _ q) (Nat.le_refl _) ?_, rfl, q _ (I4.hok.fresh (Nat.le_refl _))⟩
  have rr : ∀ {xs : List V} {us : List Value}, Vals xs us → Vals xs.reverse us.reverse := fun {xs us} r => by
    induction r with
    | nil => exact .nil
    | cons a t ih => rw [List.reverse_cons, List.reverse_cons]; exact ih.append (.cons a .nil)
  exact ⟨by rw [List.length_reverse]; exact hz, its.reverse, rr r, IsTup.new _ _⟩
end
end My
/-! rules under a comprehension's letters -/
namespace My
open PySem L2
theorem pe_conv {X : Cx} {e : Expr} {t t' : TE} (h : PE X e t) (q : t = t') : PE X e t' := q ▸ h
end My
/-! sorted of data of any kind -/
namespace My
open PySem L2 PyProof.Rows PySem.W
section
variable {X : Cx}
def RD (K : PySem.W.Frag) (H : Hp) (v : Value) (d : PyData) : Prop := ∃ x, RelV x v ∧ Dp K H x d
theorem each_RD {K : PySem.W.Frag} {H : Hp} : ∀ {xs : List V} {us : List Value} {ds : List PyData}, Vals xs us → DpAll K H xs ds → EachIs (RD K H) us ds
  | _, _, _, .nil, .nil => .nil
  | _, _, _, .cons r t, .cons h k => .cons ⟨_, r, h⟩ (each_RD t k)
theorem RD_back {K : PySem.W.Frag} {H : Hp} : ∀ {us : List Value} {ds : List PyData}, EachIs (RD K H) us ds → ∃ xs, Vals xs us ∧ DpAll K H xs ds
  | _, _, .nil => ⟨[], .nil, .nil⟩
  | _, _, .cons ⟨x, r, h⟩ t => by
    obtain ⟨xs, a, b⟩ := RD_back t
    exact ⟨x :: xs, .cons r a, .cons h b⟩
def leD : PyData → PyData → Bool := dataLe false id
def rSortedD (K : PySem.W.Frag) : List V → Hp → VK → Prop := fun vs H Q => ∃ (a : Addr) (xs : List V) (ds : List PyData), vs = [V.ref a] ∧ SqL K H a xs ∧ DpAll K H xs ds ∧ AllAlike ds ∧ Sortable ds ∧ (∀ d ∈ ds, d.depth ≤ 60) ∧
  ∀ ys p, H p = none → DpAll K H ys (ds.mergeSort leD) → Q (.ref p) (upd H p (.lst ys))
theorem cr_sortedD (hu : X.A.units + 65 < cLine) : CallR X (.builtin "sorted") (rSortedD X.K) := by
  intro pins s σ H vs us Q I r h
  obtain ⟨a, xs, ds, rfl, hs, hd, al, so, dep, q⟩ := h
  rw [Vals.ref1 r]
  obtain ⟨its, rv, hl, hz⟩ := I.list hs
  have e := each_RD rv hd
  have er : EachIs (fun v b => ∃ as, Reads s.heap v (id b) as) its ds := e.mono fun v d ⟨x, rx, hx⟩ => Dp.reads I d x v hx rx
  have hlen : ds.length = its.length := e.length.symm
  have hz' : ds.length ≤ sizeLine := by rw [hlen, ← rv.length]; exact hz
  refine sorted_data (enc := id) hl.isList e er (by rw [List.map_id]; exact al) (by rw [List.map_id]; exact so) hz' (fun b hb => by have := dep b hb; show X.A.units + 2 + b.depth < cLine; omega) fun out lo eo => ?_
  obtain ⟨ys, ry, dy⟩ := RD_back eo
  obtain ⟨ep, he'⟩ := sortedAll_at s.heap its (List.toArray out)
  have hly : ys.length ≤ sizeLine := by rw [ry.length, lo]; exact hz'
  exact ⟨.ref _, upd H (s.heap.objs.size + 1) (.lst ys), I.laid (t' := s.toks) (fun _ _ => sortedAll_old) (Nat.le_succ _) ⟨hly, out, ep, ry, he'⟩, rfl, q _ _ (I.hok.fresh (Nat.le_succ _)) dy⟩
end
end My
/-! x not in l, items by their own == -/
namespace My
open PySem PySem.Spec L2 PyProof.Rows PySem.MeetsSeq
section
variable {X : Cx} {k : Nat} {f C : Addr} {sp : Sp}
theorem eqB_own {A : Around} {pins : List (Addr × Obj)} {σ : L2.St} {H : Hp} {s : Shared} {a b dx dy : Addr} {fs gs : List (Str × V)} {e : Bool} (F : FnR X.prog X.w X.K X.mg X.base CX0 k f sp) (sb : Sub X k A)
    (hs : PySem.W.findIn X.K (.ref C) "__eq__" = some (some (.ref f))) (hf : PySem.W.isFn X.K (.ref f) = true) (I : Inv X pins σ H s) (ha : H a = some (.ins C dx fs)) (hb : H b = some (.ins C dy gs)) (self : a = b → e = true)
    (h : sp [.ref a, .ref b] H (fun v H' => v = .bl e ∧ H' = H) E0) : wpAny (model X.prog X.w) A (eqBool (.ref a) (.ref b)) (fun r s' => r = e ∧ Inv X pins σ H s') X.xe s := by
  by_cases hab : a = b
  · subst hab
    exact SeqAt.EqAt.same (A := A) (s := s) (.ref a) X.prog X.w X.xe _ ⟨(self rfl).symm, I⟩
  obtain ⟨mA, J, _⟩ := ins_get I.hok ha
  obtain ⟨mB, J', _⟩ := ins_get I.hok hb
  obtain ⟨od, J, _⟩ := J.look
  obtain ⟨od', J', _⟩ := J'.look
  obtain ⟨m, hF⟩ := I.fr
  refine GQ.eqBool_refG hab ?_
  refine PySem.W.cmp_K (op := .Eq) (tb := .ref C) sb.room.units0 hF I.ok.mod.kin J J'.type (by simp [PySem.W.notFirst]) hs hf ?_
  have e0 : Env0 X.prog X.w X.K X.mg X.base A X.stack s H := by
    have e := I.env0
    exact ⟨by rw [sb.fr]; exact e.frames, e.mod, e.bs, e.bsz, e.funs, e.frf, e.hok, e.bare⟩
  refine wpAny_call (codeAny_mono (F A X.stack s H [.ref a, .ref b] [.ref a, .ref b] _ E0 sb.room e0 (.cons rfl (.cons rfl .nil)) h) fun r s' hq => ?_)
  cases r with
  | error e => exact (show False from hq).elim
  | ok fl =>
    cases fl with
    | ret w =>
      obtain ⟨z, H', I', rz, ez, eH⟩ := I.after hq
      subst ez eH
      cases rz
      exact ⟨e, rfl, rfl, I'⟩
    | next => exact False.elim hq
    | brk => exact False.elim hq
    | cont => exact False.elim hq
open PySem.SeqAt in
theorem has_loopO {A : Around} {pins : List (Addr × Obj)} {σ : L2.St} {H : Hp} {R : Result → Shared → Prop} {l a : Addr} {xs : List V} {es : List Bool} (hl : H l = some (.lst xs)) (hle : es.length = xs.length)
    (turn : ∀ (i : Nat) (x : V), xs[i]? = some x → ∃ (b : Addr) (e : Bool), x = .ref b ∧ es[i]? = some e ∧ ∀ s, Inv X pins σ H s → wpAny (model X.prog X.w) A.in1 (eqBool (.ref b) (.ref a)) (fun r s' => r = e ∧ Inv X pins σ H s') (fun e s' => R (.error e) s') s) (n : Nat) :
    ∀ (i : Nat), xs.length - i = n → i ≤ xs.length → (∀ s, Inv X pins σ H s → R (.ok (.ret (.bool ((es.drop i).any id)))) s) → ∀ s, Inv X pins σ H s →
      wpAny (model X.prog X.w) A.in1 (Builtin.«list.__contains__.loop» ⟨[.ref l, .ref a, rawInt i], []⟩) (GQ.FinOf X.prog X.w A R) (fun e s' => R (.error e) s') s := by
  induction n with
  | zero =>
    intro i hk hi hR s I
    obtain ⟨hz, its, ep, rv, hob⟩ := I.hok l _ hl
    have hR := hR s I
    have hsz : its.toArray.size = xs.length := by rw [List.size_toArray, rv.length]
    rw [List.drop_eq_nil_of_le (by omega)] at hR
    obtain ⟨hp, g, d, tk, os⟩ := s
    wp_walk using wpAny_loadPart' hob
    have hi1 : its.toArray[((i : Nat) : Int).toNat]? = none := by simp; rw [← rv.length]; omega
    rw [hi1]
    wp_walk
    exact hR
  | succ n ih =>
    intro i hk hi hR s I
    obtain ⟨hz, its, ep, rv, hob⟩ := I.hok l _ hl
    have hlt : i < xs.length := by omega
    obtain ⟨b, e, eb, ee, ht⟩ := turn i xs[i] (List.getElem?_eq_getElem hlt)
    have ht := ht s I
    have hsz : i < its.length := by rw [← rv.length]; exact hlt
    have hv : its[i]? = some (.ref b) := by
      obtain ⟨u, hu, ru⟩ := rv.get (List.getElem?_eq_getElem hlt)
      rw [eb] at ru
      cases ru
      exact hu
    have hd : es.drop i = e :: es.drop (i + 1) := by
      obtain ⟨h1, h2⟩ := List.getElem?_eq_some_iff.mp ee
      rw [List.drop_eq_getElem_cons h1, h2]
    obtain ⟨hp, g, d, tk, os⟩ := s
    wp_walk using wpAny_loadPart' hob
    have hi1 : its.toArray[((i : Nat) : Int).toNat]? = some (.ref b) := by simpa using hv
    have hc : ((i : Int) + 1) = ((i + 1 : Nat) : Int) := by omega
    rw [hi1]
    refine wpAny_bind (wpAny_mono ht (fun r s2 h2 => ?_) fun _ _ x => x)
    obtain ⟨hr, I2⟩ := h2
    rw [← hr] at hd
    cases he : r with
    | true =>
      have := hR s2 I2
      rw [hd, List.any_cons, he] at this
      obtain ⟨hp2, g2, d2, tk2, os2⟩ := s2
      wp_walk
      exact this
    | false =>
      have hrec := ih (i + 1) (by omega) (by omega) (fun s' I' => by have := hR s' I'; rw [hd, List.any_cons, he] at this; simpa using this) s2 I2
      obtain ⟨hp2, g2, d2, tk2, os2⟩ := s2
      wp_walk
      rw [hc]
      exact ⟨plainId_quiet plain_contains_loop _, codeAny_builtin entry_contains_loop (by
        rw [Around.under_plainId plain_contains_loop _]
        exact hrec)⟩
def rNotInO (C : Addr) (sp : Sp) : R2 := fun x y H Q => ∃ l xs a dx fs, ∃ es : List Bool, y = .ref l ∧ x = .ref a ∧ H l = some (.lst xs) ∧ H a = some (.ins C dx fs) ∧ es.length = xs.length ∧ (∀ (i : Nat) (z : V), xs[i]? = some z → ∃ (b dy : Addr) (gs : List (Str × V)) (e : Bool), z = .ref b ∧ es[i]? = some e ∧ H b = some (.ins C dy gs) ∧ (b = a → e = true) ∧ sp [.ref b, .ref a] H (fun v H' => v = .bl e ∧ H' = H) E0) ∧ Q (.bl (!es.any id)) H
theorem op_notInO (F0 : FnR X.prog X.w X.K X.mg X.base CX0 k f sp) (hr : Room (k + 1) X.A)
    (hs : PySem.W.findIn X.K (.ref C) "__eq__" = some (some (.ref f))) (hf : PySem.W.isFn X.K (.ref f) = true) : OpR X (compareOp .NotIn) (rNotInO C sp) := by
  intro pins s σ H x y v u Q I rx ry hq
  obtain ⟨l, xs, a, dx, fs, es, rfl, rfl, hl, ha, hle, turn, q⟩ := hq
  cases rx
  cases ry
  obtain ⟨hz, its, ep, rv, hob⟩ := I.hok l _ hl
  have key : ∀ (Qv : Value → Shared → Prop), (∀ s', Inv X pins σ H s' → Qv (.bool (es.any id)) s') → wpAny (model X.prog X.w) X.A (call (.builtin "list.__contains__") [.ref l, .ref a]) Qv X.xe s := by
    intro Qv hQ
    refine GQ.call_here F.slot_list_contains ⟨_, hob, rfl⟩ F.entry_list_contains (F.args_list_contains_2 _ _) ?_
    have hrec := has_loopO (A := X.A) (R := wants Qv X.xe) (es := es) (a := a) hl hle (fun i z hz => by
      obtain ⟨b, dy, gs, e, rfl, ee, hb, self, h⟩ := turn i z hz
      exact ⟨b, e, rfl, ee, fun s' I' => eqB_own F0 (Sub.in1 (n := k) ⟨hr, rfl⟩) hs hf I' hb ha self h⟩) _ 0 rfl (Nat.zero_le _) (fun s' I' => hQ s' I') s I
    obtain ⟨hp, g, d, tk, os⟩ := s
    wp_walk using wpAny_loadPart' hob
    exact ⟨plainId_quiet plain_contains_loop _, codeAny_builtin entry_contains_loop (by
      rw [Around.under_plainId plain_contains_loop _]
      exact hrec)⟩
  show wpAny _ X.A (do return Value.bool (!(← contains (.ref l) (.ref a)))) _ X.xe s
  exact wpAny_bind (wpAny_contains_slot ⟨_, hob, rfl⟩ F.slot_list_contains (key _ fun s' I' => wpAny_truthy_bool (wpAny_pure ⟨.bl _, H, I', rfl, q⟩)))
end
end My
/-! sorted(xs, key=lambda a: ..) -/
namespace My
open PySem PySem.Spec L2 LamX PyProof.Rows PySem.W PySem.Calls
/-- one parameter, no other name of its own: captured ones and globals -/
structure LamS1 (sc scope : Scope) (a : Str) : Prop where
  kind : scope.kind = .function
  co : scope.isCoroutine = false
  gen : scope.isGenerator = false
  par : scope.names.lookup a = some .local
  own : ∀ y ∈ scope.names, y.2 ≠ .cell ∧ (y.2 = .local → y.1 = a)
  free : ∀ y ∈ scope.names, y.2 = .free → sc.names.lookup y.1 = some .cell ∨ sc.names.lookup y.1 = some .free
def lamS1B (sc scope : Scope) (a : Str) : Bool :=
  decide (scope.kind = .function) && !scope.isCoroutine && !scope.isGenerator && decide (scope.names.lookup a = some .local) && scope.names.all fun y => !decide (y.2 = .cell) && (!decide (y.2 = .local) || decide (y.1 = a)) && (!decide (y.2 = .free) || decide (sc.names.lookup y.1 = some .cell) || decide (sc.names.lookup y.1 = some .free))
theorem lamS1_by {sc scope : Scope} {a : Str} (h : lamS1B sc scope a = true) : LamS1 sc scope a := by
  unfold lamS1B at h
  simp only [Bool.and_eq_true, Bool.or_eq_true, Bool.not_eq_true', decide_eq_true_eq, decide_eq_false_iff_not, List.all_eq_true] at h
  obtain ⟨⟨⟨⟨h1, h2⟩, h3⟩, h5⟩, h4⟩ := h
  refine ⟨h1, h2, h3, h5, fun y hy => ⟨(h4 y hy).1.1, fun e => ?_⟩, fun y hy e => ?_⟩
  · rcases (h4 y hy).1.2 with z | z
    · exact absurd e z
    · exact z
  · rcases (h4 y hy).2 with (z | z) | z
    · exact absurd e z
    · exact .inl z
    · exact .inr z
theorem LamS1.has {X : Cx} {scope : Scope} {a : Str} (L : LamS1 X.env.scope scope a) (ok : X.Ok) : ∀ y ∈ scope.names, y.2 = .free → ∃ c, X.env.cells.lookup y.1 = some c := fun y hy e => by
  rcases L.free y hy e with k | k
  · exact ok.has _ (.inl k)
  · exact ok.has _ (.inr k)
/-- the context of the lambda's body, entered at s from the frames outer -/
def lamCx1 (X : Cx) (A : Around) (outer : List Env) (s : Shared) (H : Hp) (E : XK) (scope : Scope) (f c' : Addr) (a : Str) : Cx where
  prog := X.prog
  w := X.w
  K := X.K
  mg := X.mg
  base := X.base
  A := A.deeper (lamEnv X scope s.heap.objs.size f c')
  N := X.N ++ [a]
  s_0 := s
  H_0 := H
  env := lamEnv X scope s.heap.objs.size f c'
  outer := outer
  stack := lamEnv X scope s.heap.objs.size f c' :: outer
  ex := []
  fn := fun _ => false
  calm := true
  pn := []
  xe := fun e s' => wpAny (model X.prog X.w) (A.deeper (lamEnv X scope s.heap.objs.size f c')) (leaving (lamEnv X scope s.heap.objs.size f c') e) (fun _ s'' => L2.CX X.prog X.w outer H s E e s'') (fun e' s'' => L2.CX X.prog X.w outer H s E e' s'') s'
section
variable {X : Cx} {pins : List (Addr × Obj)} {σ : L2.St} {H : Hp} {s : Shared}
theorem lam_start1 {A : Around} {outer : List Env} {E : XK} {scope : Scope} {f c' : Addr} {a : Str} {x : V} {v : Value} {h₁ : Heap} {tk : Nat} (I : Inv X pins σ H s) (L : LamS1 X.env.scope scope a) (hna : a ∉ X.N) (e0 : Env0 X.prog X.w X.K X.mg X.base A outer s H) (hd : A.handled = none) (rx : RelV x v)
    (hns : h₁.Ns s.heap.objs.size fun y => ([(a, v)] : List (Str × Value)).reverse.lookup y) (kp : ∀ b o, s.heap.get? b = some o → h₁.get? b = some o) :
    Inv (lamCx1 X A outer s H E scope f c' a) [] (σ ++ [some x]) H { s with heap := h₁, toks := tk } := by
  have hfree := L.has I.ok
  have cm : ∀ {y c}, (cloFrom X.env.cells scope.names []).lookup y = some c → X.env.cells.lookup y = some c := fun {y c} e => by
    rcases cloFrom_mem (PySem.mem_of_lookup e) with hm | ⟨h1, h2⟩
    · cases hm
    · obtain ⟨c1, hc⟩ := hfree _ h1 rfl
      have hc : X.env.cells.lookup y = some c1 := hc
      have e2 : c = c1 := by
        rw [h2, hc] <;> rfl
      rw [e2]
      exact hc
  have look : ∀ {y}, scope.names.lookup y = some .free → ∃ c, (cloFrom X.env.cells scope.names []).lookup y = some c := fun {y} hl => by
    have hy : (y, NameKind.free) ∈ scope.names := PySem.mem_of_lookup hl
    exact mem_lookup (cloFrom_has (cells := X.env.cells) (acc := []) hy)
  have cellK : ∀ {c : Addr} {v : Option Value}, s.heap.IsCell c v → h₁.IsCell c v := fun {c v} ⟨o, ho, hd⟩ => ⟨_, kp _ _ ho, hd⟩
  have noA : ∀ b : Addr, b ∉ (lamCx1 X A outer s H E scope f c' a).ex := fun b z => absurd (show b ∈ ([] : List Addr) from z) (by simp)
  refine ⟨⟨e0.mod, L.kind, rfl, rfl, Nat.le_refl _, fun y z c e1 e2 => I.ok.inj y z c (cm e1) (cm e2), fun y hy => ?_, fun y c z _ => ?_, fun _ => hd, Around.frames_deeper e0.frames, .inr ⟨rfl, rfl⟩, fun b z => absurd z (noA b), e0.bs, e0.bsz, fun b _ _ => noA b,
      fun b z => absurd z (noA b), e0.funs, e0.frf⟩,
    rfl, e0.bare, Un.kept kp, ⟨_, hns, fun i y v' e1 e2 e3 => ?_⟩, fun y c e => ?_, e0.hok.fresh (Nat.le_refl _), fun y c e => I.freeC y c (cm e), fun q hq => absurd (show q ∈ ([] : List (Addr × Obj)) ++ [] from hq) (by simp), e0.hok.kept kp, ?_⟩
  · have hy : scope.names.lookup y = some .cell ∨ scope.names.lookup y = some .free := hy
    rcases hy with hy | hy
    · exact absurd rfl (L.own _ (PySem.mem_of_lookup hy)).1
    · exact look hy
  · have z : false = true := z
    cases z
  · have e1 : (X.N ++ [a])[i]? = some y := e1
    have e3 : Vis scope y := e3
    by_cases hi : i < X.N.length
    · rw [List.getElem?_append_left hi] at e1
      rw [List.getElem?_append_left (by rw [I.len]; exact hi)] at e2
      have ny : y ≠ a := fun z => hna (by rw [← z]; exact List.mem_of_getElem? e1)
      rcases e3 with k | k | k
      · exact absurd ((L.own _ (PySem.mem_of_lookup k)).2 rfl) ny
      · exact absurd rfl (L.own _ (PySem.mem_of_lookup k)).1
      · obtain ⟨m, hn, hl⟩ := I.loc
        have hvis : Vis X.env.scope y := (L.free _ (PySem.mem_of_lookup k) rfl).elim (fun k => .inr (.inl k)) (fun k => .inr (.inr k))
        obtain ⟨w', r, q⟩ := hl i y v' e1 e2 hvis
        obtain ⟨c2, h2⟩ := look k
        refine ⟨w', r, .inr ⟨.inr k, c2, h2, ?_⟩⟩
        have c1 := cm h2
        rcases q with ⟨k', _⟩ | ⟨_, c3, e', z⟩
        · have k' : X.env.scope.names.lookup y = some .local := k'
          rcases L.free _ (PySem.mem_of_lookup k) rfl with k2 | k2 <;> rw [show X.env.scope.names.lookup y = _ from k2] at k' <;> cases k'
        · rw [c1] at e'
          cases e'
          exact cellK z
    · rw [List.getElem?_append_right (by omega)] at e1
      rw [List.getElem?_append_right (by rw [I.len]; omega)] at e2
      have hz : i - X.N.length = 0 := by
        have := (List.getElem?_eq_some_iff.mp e1).1
        rw [List.length_singleton] at this
        omega
      rw [hz] at e1
      rw [I.len, hz] at e2
      have ey : y = a := (Option.some.inj e1).symm
      have ev : v' = x := (Option.some.inj (Option.some.inj e2)).symm
      subst ey ev
      refine ⟨v, rx, .inl ⟨L.par, ?_⟩⟩
      simp [List.lookup]
  · obtain ⟨w', z⟩ := I.cell y c (cm e)
    exact ⟨w', cellK z⟩
  · show (σ ++ [some x]).length = (X.N ++ [a]).length
    rw [List.length_append, List.length_append, I.len]
    rfl
/-- the lambda is called -/
theorem lam_call1 {A : Around} {params : Arguments} {body : Expr} {scope : Scope} {f c' : Addr} {a : Str} {k : Nat} {x : V} {v pm ctv : Value} {tb : TE} {Q : VK} {E : Value → Shared → Prop} (I : Inv X pins σ H s) (L : LamS1 X.env.scope scope a) (hna : a ∉ X.N) (sb : Sub X (k + 1) A)
    (hf : s.heap.get? f = some (PySem.W.kla_obj "<lambda>" (X.env.qual ++ "<lambda>") params body scope (cloFrom X.env.cells scope.names []) pm c' ctv)) (hfn : H f = none) (hfr : f ∉ frs X.stack) (hc : H c' = some (CodeO c' (X.env.qual ++ "<lambda>")))
    (hbind : ∀ v, bindArgs (PySem.W.kla_fn "<lambda>" (X.env.qual ++ "<lambda>") params body scope (cloFrom X.env.cells scope.names []) pm (.ref c') ctv) ⟨[v], []⟩ = pure [(a, v)])
    (hbody : ∀ (A : Around) (outer : List Env) (s : Shared) (H : Hp), Room k (A.deeper (lamEnv X scope s.heap.objs.size f c')) → PE (lamCx1 X A outer s H C8.E0 scope f c' a) body tb) (rx : RelV x v) (ht : tb (σ ++ [some x]) H Q) :
    wpAny (model X.prog X.w) A (call (.ref f) [v]) (fun r s' => ∃ z H', Inv X pins σ H' s' ∧ RelV z r ∧ Q z H' ∧ H' f = none ∧ s'.heap.get? f = some (PySem.W.kla_obj "<lambda>" (X.env.qual ++ "<lambda>") params body scope (cloFrom X.env.cells scope.names []) pm c' ctv)) E s := by
  obtain ⟨⟨oc, vs, t, hoc, hdc, hvc⟩, _, _⟩ := I.hok c' _ hc
  have e0 : Env0 X.prog X.w X.K X.mg X.base A X.stack s H := by
    have e := I.env0
    exact ⟨by rw [sb.fr]; exact e.frames, e.mod, e.bs, e.bsz, e.funs, e.frf, e.hok, e.bare⟩
  have rc : codeAny (model X.prog X.w) A (.call (.ref f) ⟨[v], []⟩) (CR (L2.CX X.prog X.w) X.stack X.prog X.w H s Q C8.E0) s := by
    refine PySem.W.kla_callFunE sb.room.depth hf rfl L.co L.gen rfl ⟨c', oc, vs, t, rfl, hoc, hdc, hvc⟩ ?_
    rw [hbind v]
    refine wpAny_pure (wpAny_newFunctionEnv (fun y hy => (L.own y hy).1) (fun y hy => by
      rw [List.mem_singleton.mp hy]; exact L.par) (fun h₁ hns hsb => ⟨I.nolimit.fresh _ hsb, ?_⟩) L.kind)
    show codeAny _ _ (.expr body (lamEnv X scope s.heap.objs.size f c')) _ _
    have kp : ∀ b o, s.heap.get? b = some o → h₁.get? b = some o := fun b o e => hsb.extBut b o (Nat.ne_of_lt (Heap.lt_size e)) (Heap.get?_push_of_some _ e)
    have J : Inv (lamCx1 X A X.stack s H C8.E0 scope f c' a) [] (σ ++ [some x]) H { s with heap := h₁, toks := s.toks + ([(a, v)] : List (Str × Value)).length } :=
      lam_start1 I L hna e0 sb.room.hd rx hns kp
    refine PySem.W.kla_codeExpr (wpAny_mono ((hbody _ _ s H (sb.room.deeper _)).run [] _ _ H Q J ht) (fun v s' hq => ?_) fun e s' hq => hq)
    obtain ⟨w', H', J', rv, q⟩ := hq
    exact ⟨w', H', J'.os, J'.bare, J'.base, J'.hok, rv, q⟩
  refine wpAny_call (codeAny_mono rc fun r s' hq => ?_)
  cases r with
  | error e =>
    exfalso
    obtain ⟨_, _, _, _, _, _, _, _, _, _, _, _, _, _, _, _, z⟩ := hq
  | ok fl =>
    cases fl with
    | ret u =>
      have un : ∃ z H', s'.os = s.os ∧ AllBare s'.gens ∧ Un (frs X.stack) [] H H' s.heap s'.heap ∧ HOk X.prog X.w H' s'.heap ∧ RelV z u ∧ Q z H' := hq
      obtain ⟨z, H', os, bare, un, hok, rz, q⟩ := un
      exact ⟨z, H', I.call' (ch := []) os un hok bare (fun b z => absurd z (by simp)), rz, q, un.free f _ hf hfn (by simp), un.keep f _ hf hfn hfr (by simp)⟩
    | next => exact False.elim hq
    | brk => exact False.elim hq
    | cont => exact False.elim hq
/-- one object, known to the letter -/
def ExactO (ob : Obj) (a : Addr) : HO := .ext fun h => h.get? a = some ob
theorem exact_ok {P : Program} {w : World} {H : Hp} {h : Heap} {a : Addr} {ob : Obj} (e : h.get? a = some ob) : ObjOk P w H h a (ExactO ob a) := ⟨e, ⟨ob, e⟩, fun g1 g2 z k => k ob z⟩
/-! keys without lists -/
mutual
def nlB : PyData → Bool
  | .list _ => false
  | .tuple xs => nlAll xs
  | _ => true
def nlAll : List PyData → Bool
  | [] => true
  | x :: xs => nlB x && nlAll xs
end
mutual
theorem Dp.keepN {K : PySem.W.Frag} {H H' : Hp} {d : Addr} {ys : List V} (hd : H d = some (.lst ys)) (k : Keep d H H') : ∀ {v : V} {p : PyData}, nlB p = true → Dp K H v p → Dp K H' v p
  | _, _, _, .non => .non
  | _, _, _, .bl b => .bl b
  | _, _, _, .int i => .int i
  | _, _, _, .str x => .str x
  | _, _, n, .lst _ _ => by cases n
  | _, _, n, .tup h t => .tup (keep_T h hd k) (DpAll.keepN hd k n t)
theorem DpAll.keepN {K : PySem.W.Frag} {H H' : Hp} {d : Addr} {ys : List V} (hd : H d = some (.lst ys)) (k : Keep d H H') : ∀ {vs : List V} {ps : List PyData}, nlAll ps = true → DpAll K H vs ps → DpAll K H' vs ps
  | _, _, _, .nil => .nil
  | _, _, n, .cons h t => by
    have n := (Bool.and_eq_true _ _).mp n
    exact .cons (Dp.keepN hd k n.1 h) (DpAll.keepN hd k n.2 t)
end
mutual
theorem dp_same {K : PySem.W.Frag} {H H' : Hp} (s : Same H H') : ∀ {v : V} {p : PyData}, Dp K H v p → Dp K H' v p
  | _, _, .non => .non
  | _, _, .bl b => .bl b
  | _, _, .int i => .int i
  | _, _, .str x => .str x
  | _, _, .lst h t => .lst (s.seq h) (dps_same s t)
  | _, _, .tup h t => .tup (same_T s h) (dps_same s t)
theorem dps_same {K : PySem.W.Frag} {H H' : Hp} (s : Same H H') : ∀ {vs : List V} {ps : List PyData}, DpAll K H vs ps → DpAll K H' vs ps
  | _, _, .nil => .nil
  | _, _, .cons h t => .cons (dp_same s h) (dps_same s t)
end
theorem nl_take : ∀ {ps : List PyData}, nlAll ps = true → ∀ i, nlAll (ps.take i) = true
  | [], _, i => by rw [List.take_nil]; rfl
  | x :: xs, n, 0 => rfl
  | x :: xs, n, i + 1 => by
    have n := (Bool.and_eq_true _ _).mp n
    show (nlB x && nlAll (xs.take i)) = true
    rw [n.1, nl_take n.2 i]
    rfl
theorem nl_at : ∀ {ps : List PyData}, nlAll ps = true → ∀ {i : Nat} {p : PyData}, ps[i]? = some p → nlB p = true
  | x :: xs, n, 0, p, h => by cases h; exact ((Bool.and_eq_true _ _).mp n).1
  | x :: xs, n, i + 1, p, h => nl_at ((Bool.and_eq_true _ _).mp n).2 (i := i) (by simpa using h)
theorem dp_snoc {K : PySem.W.Frag} {H : Hp} {v : V} {p : PyData} (h : Dp K H v p) : ∀ {vs : List V} {ps : List PyData}, DpAll K H vs ps → DpAll K H (vs ++ [v]) (ps ++ [p])
  | _, _, .nil => .cons h .nil
  | _, _, .cons g t => .cons g (dp_snoc h t)
theorem vals_snoc {v : V} {u : Value} (h : RelV v u) : ∀ {vs : List V} {us : List Value}, Vals vs us → Vals (vs ++ [v]) (us ++ [u])
  | _, _, .nil => .cons h .nil
  | _, _, .cons g t => .cons g (vals_snoc h t)
/-- the keys are let go, the items stand in the list -/
def Ended (a kS : Addr) (out : List Value) (P : PySem.Fin → Shared → Prop) (s : Shared) : Prop := ∀ tk, P (.done (.ret .none)) { s with heap := (s.heap.update kS (Obj.mapSeq fun _ => (#[] : Array Value))).update a (Obj.mapSeq fun _ => out.toArray), toks := tk }
theorem endI {A : Around} {E : Value → Shared → Prop} {P : PySem.Fin → Shared → Prop} {a kS : Addr} {e1 n : Nat} {st : SortSt} {ka : Array Value} {out : List Value} (hk : s.heap.get? kS = some (seqObj "list" ka n)) (ha : s.heap.get? a = some (seqObj "list" #[] e1)) (ne : kS ≠ a)
    (z1 : ka.size ≤ sizeLine) (z2 : out.length ≤ sizeLine) (nf : failedOf st = none) (eo : (arrOf st).map (·.2) = out.toArray) (fin : Ended a kS out P s) :
    wpAny (model X.prog X.w) A (ksk_tail a false e1 (.ref kS) st) P E s := by
  have g1 := get?_update_seq hk fun _ => (#[] : Array Value)
  have a1 : (s.heap.update kS (Obj.mapSeq fun _ => (#[] : Array Value))).get? a = some (seqObj "list" #[] e1) := by rw [Heap.get?_update_ne _ _ _ _ ne.symm]; exact ha
  unfold ksk_tail
  dsimp only
  rw [eo, nf]
  refine wpAny_bind (listUpdate_at hk rfl ?_ z1 (Nat.zero_le _))
  refine wpAny_bind (wpAny_letGo (wpAny_bind (seqEpoch_at a1 rfl ?_)))
  refine wpAny_bind (listUpdate_at a1 rfl ?_ (Nat.zero_le _) (by rw [if_neg (by decide)]; show out.toArray.size ≤ _; rw [List.size_toArray]; omega))
  simp only [bne_self_eq_false, Bool.false_eq_true, if_false]
  exact wpAny_pure (fin _)
theorem mergeI {A : Around} {E : Value → Shared → Prop} {P : PySem.Fin → Shared → Prop} {a kS : Addr} {e1 n : Nat} {ka : Array Value} {its : List Value} {κ : PyProof.Rows.KeyKind} (hk : s.heap.get? kS = some (seqObj "list" ka n)) (ha : s.heap.get? a = some (seqObj "list" #[] e1)) (ne : kS ≠ a)
    (S : SortsAt X.prog X.w A s κ ka.toList) (hz : ka.size = its.length) (z : its.length ≤ sizeLine) (fin : Ended a kS (sortVals κ false ka.toList its) P s) :
    wpAny (model X.prog X.w) A (ksk_end a false its.toArray e1 (.ref kS) ka) P E s := by
  obtain ⟨kd, lt, kn⟩ := S.kind
  have KO : PyProof.Rows.KeysOf κ (ka.zip its.toArray) := keysOf_zip S.keys
  have lo : (sortVals κ false ka.toList its).length = its.length := sortVals_length false (by rw [Array.length_toList]; exact hz)
  have zz : (ka.zip its.toArray).size = its.length := by rw [Array.size_zip, hz, List.size_toArray, Nat.min_self]
  have outs : ∀ st' : SortSt, (arrOf st').Perm (ka.zip its.toArray) → SortedToK κ (arrOf st') (ka.zip its.toArray).size → Stable κ (arrOf st') (ka.zip its.toArray) → (arrOf st').map (·.2) = (sortVals κ false ka.toList its).toArray := fun st' p1 p2 p3 => by
    have r := sort_out (rev := false) (keys := ka) (items := its.toArray) (xs := arrOf st') (κ := κ) KO p1 p2 p3
    have r := congrArg List.toArray r
    rw [Array.toArray_toList] at r
    exact r
  unfold ksk_end
  dsimp only
  rw [if_neg (show ¬ (false = true) by decide)]
  by_cases few : its.toArray.size < 2
  · rw [if_pos few, if_pos few]
    refine wpAny_bind (wpAny_pure ?_)
    rw [StateT.run_pure]
    refine wpAny_bind (wpAny_pure ?_)
    refine endI (X := X) (st := SortSt.mk' general' (ka.zip its.toArray) #[] 7 none) hk ha ne (by omega) (by omega) rfl (outs _ (Array.Perm.refl _) (fun i j hij hj => ?_) (Stable.refl _)) fin
    rw [zz] at hj
    rw [List.size_toArray] at few
    obtain rfl : i = j := by omega
    exact KeyOrd.kle_refl _
  · rw [if_neg few, if_neg few]
    rw [List.size_toArray] at few
    refine wpAny_bind (kn (by rw [Array.length_toList]; omega) _ ?_)
    refine wpAny_bind (wpAny_mono (H.wpS_sortRunsSt (κ := κ) (kd := kd) (a₀ := ka.zip its.toArray) (st := SortSt.mk' kd (ka.zip its.toArray) #[] 7 none) (Q := fun _ st' => failedOf st' = none ∧ (arrOf st').map (·.2) = (sortVals κ false ka.toList its).toArray) lt KO ⟨Array.Perm.refl _, rfl, rfl⟩ rfl (Stable.refl _) (by omega) fun st' p1 p2 p3 p4 => ⟨p2, outs st' p1 p3 p4⟩) ?_ fun _ _ e => e)
    rintro ⟨⟨⟩, st'⟩ s' ⟨rfl, f1, f2⟩
    exact endI (X := X) hk ha ne (by omega) (by omega) f1 f2 fin
/-- what stands while the keys are made -/
structure Keying (X : Cx) (pins : List (Addr × Obj)) (σ : L2.St) (H : Hp) (a kS f : Addr) (ob fo : Obj) (ds : List PyData) (i : Nat) (s : Shared) : Prop where
  ex : ∃ Hi ks, Inv X pins σ Hi s ∧ Same H Hi ∧ Hi kS = some (.lst ks) ∧ Hi a = some (ExactO ob a) ∧ Hi f = none ∧ s.heap.get? f = some fo ∧ DpAll X.K Hi ks (ds.take i)
theorem dpl {K : PySem.W.Frag} {H : Hp} : ∀ {vs : List V} {ps : List PyData}, DpAll K H vs ps → vs.length = ps.length
  | _, _, .nil => rfl
  | _, _, .cons _ t => congrArg Nat.succ (dpl t)
theorem each_reads {us : List Value} {ds : List PyData} (I : Inv X pins σ H s) : ∀ {vs : List V} {us : List Value} {ds : List PyData}, Vals vs us → DpAll X.K H vs ds → EachIs (fun v d => ∃ as, Reads s.heap v d as) us ds
  | _, _, _, .nil, .nil => .nil
  | _, _, _, .cons r t, .cons h g => .cons (Dp.reads I _ _ _ h r) (each_reads (us := us) (ds := ds) I t g)
theorem restI {A : Around} {E : Value → Shared → Prop} {P : PySem.Fin → Shared → Prop} {params : Arguments} {body : Expr} {scope : Scope} {f c' a kS : Addr} {nm : Str} {k e1 : Nat} {pm ctv : Value} {tb : TE} {xs : List V} {its : List Value} {ds : List PyData}
    (L : LamS1 X.env.scope scope nm) (hna : nm ∉ X.N) (sb : Sub X (k + 1) A) (hfr : f ∉ frs X.stack)
    (hbind : ∀ v, bindArgs (PySem.W.kla_fn "<lambda>" (X.env.qual ++ "<lambda>") params body scope (cloFrom X.env.cells scope.names []) pm (.ref c') ctv) ⟨[v], []⟩ = pure [(nm, v)])
    (hbody : ∀ (A : Around) (outer : List Env) (s : Shared) (H : Hp), Room k (A.deeper (lamEnv X scope s.heap.objs.size f c')) → PE (lamCx1 X A outer s H C8.E0 scope f c' nm) body tb)
    (K0 : Keying X pins σ H a kS f (seqObj "list" #[] e1) (PySem.W.kla_obj "<lambda>" (X.env.qual ++ "<lambda>") params body scope (cloFrom X.env.cells scope.names []) pm c' ctv) ds 0 s) (hka : kS ≠ a) (hkn : H kS = none) (hc : H c' = some (CodeO c' (X.env.qual ++ "<lambda>")))
    (rv : Vals xs its) (hz : xs.length ≤ sizeLine) (hld : ds.length = xs.length) (al : AllAlike ds) (so : Sortable ds) (nl : nlAll ds = true) (dep : ∀ d ∈ ds, A.units + d.depth < cLine)
    (turn : ∀ (i : Nat) (x : V) (d : PyData), xs[i]? = some x → ds[i]? = some d → ∀ H3, Same H H3 → tb (σ ++ [some x]) H3 (fun v H4 => Same H3 H4 ∧ Dp X.K H4 v d))
    (fin : ∀ (s' : Shared) (Hi : Hp) (ks : List V) (out : List Value), Inv X pins σ Hi s' → Same H Hi → Hi kS = some (.lst ks) → Hi a = some (ExactO (seqObj "list" #[] e1) a) → KeyedOut false ds its out → Ended a kS out P s') :
    wpAny (model X.prog X.w) A (ksk_rest a (.ref f) false its.toArray e1 (.ref kS)) P E s := by
  have hl := rv.length
  unfold ksk_rest
  refine wpAny_bind (wpAny_rule ?_)
  rw [List.forIn_toArray]
  refine wpAny_bind (ksk_fold (fun i s' => Keying X pins σ H a kS f (seqObj "list" #[] e1) (PySem.W.kla_obj "<lambda>" (X.env.qual ++ "<lambda>") params body scope (cloFrom X.env.cells scope.names []) pm c' ctv) ds i s') its 0 s K0 ?_ ?_)
  · rintro j u s' hu ⟨Hi, ks, I, sm, hk, ha, hf0, hf1, dk⟩
    rw [Nat.zero_add] at dk ⊢
    have jl : j < its.length := (List.getElem?_eq_some_iff.mp hu).1
    have hx : xs[j]? = some (xs[j]'(by omega)) := List.getElem?_eq_getElem _
    obtain ⟨u', hu', ru⟩ := rv.get hx
    rw [hu] at hu'
    cases hu'
    have hd : ds[j]? = some (ds[j]'(by omega)) := List.getElem?_eq_getElem _
    generalize xs[j]'(by omega) = x at *
    generalize ds[j]'(by omega) = d at *
    refine wpAny_bind (wpAny_attempt (wpAny_mono (lam_call1 (tb := tb) I L hna sb hf1 hf0 hfr (sm _ _ hc) hbind hbody ru (turn j x d hx hd Hi sm)) (fun v s2 h2 => ?_) fun _ _ z => z))
    obtain ⟨z, H4, I4, rz, ⟨s4, dz⟩, f4, g4⟩ := h2
    dsimp only
    have hk4 := s4 _ _ hk
    obtain ⟨hkz, ki, kn, krv, kob⟩ := I4.hok kS _ hk4
    have lks := dpl dk
    rw [List.length_take] at lks
    have lki := krv.length
    refine wpAny_bind (listUpdate_at kob rfl ?_ (by rw [List.size_toArray]; omega) (by rw [Array.size_push, List.size_toArray]; omega))
    have gk := get?_update_seq kob (·.push v)
    have nfk : f ≠ kS := fun e => by rw [e, hk4] at f4; cases f4
    have hv : ki.toArray.push v = (ki ++ [v]).toArray := by simp
    rw [hv] at gk
    have I5 := I4.write (x := kS) (e := kS) (o := .lst (ks ++ [z])) (t' := s2.toks) (h' := s2.heap.update kS (Obj.mapSeq (·.push v))) (by rw [hk4]; trivial) (.inl rfl) (fun b o nb e => by rw [Heap.get?_update_ne _ _ _ _ nb]; exact e) ⟨_, gk⟩ ⟨by rw [List.length_append, List.length_singleton]; omega, _, _, vals_snoc rz krv, gk⟩
    have kk := keep_upd (d := kS) (H := H4) (o := .lst (ks ++ [z]))
    refine wpAny_pure ⟨rfl, ⟨_, ks ++ [z], I5, ?_, upd_same, kk _ _ hka.symm (s4 _ _ ha), by rw [upd_ne nfk]; exact f4, by rw [Heap.get?_update_ne _ _ _ _ nfk]; exact g4, ?_⟩⟩
    · intro b o e
      rw [upd_ne (ne_of_none e hkn)]
      exact s4 _ _ (sm _ _ e)
    · have et : ds.take (j + 1) = ds.take j ++ [d] := by rw [List.take_succ, hd]; rfl
      rw [et]
      exact dp_snoc (Dp.keepN hk4 kk (nl_at nl hd) dz) (DpAll.keepN hk4 kk (nl_take nl j) (dps_same s4 dk))
  · rintro s' ⟨Hi, ks, I, sm, hk, ha, hf0, hf1, dk⟩
    rw [Nat.zero_add, List.take_of_length_le (by omega)] at dk
    obtain ⟨hkz, ki, kn, krv, kob⟩ := I.hok kS _ hk
    have lks := dpl dk
    have lki := krv.length
    have ga : s'.heap.get? a = some (seqObj "list" #[] e1) := (I.hok a _ ha).1
    have er := each_reads (us := []) (ds := []) I krv dk
    refine wpAny_bind (listItems_at kob rfl ?_)
    refine mergeI (X := X) (κ := dataKind s'.heap ds) kob ga hka (SortsAt.data (s := s') (by show EachIs _ ki ds; exact er) al so dep) (by rw [List.size_toArray]; omega) (by omega) (fin s' Hi ks _ I sm hk ha ⟨s'.heap, ki, al, rfl, er⟩)
theorem each_zip : ∀ {xs : List V} {us : List Value} {ds : List PyData}, Vals xs us → ds.length = xs.length → EachIs (fun v (b : V × PyData) => RelV b.1 v) us (xs.zip ds)
  | _, _, [], .nil, _ => .nil
  | _, _, d :: ds, .cons r t, h => .cons r (each_zip t (Nat.succ.inj h))
theorem vals_of_each : ∀ {us : List Value} {bs : List (V × PyData)}, EachIs (fun v (b : V × PyData) => RelV b.1 v) us bs → Vals (bs.map (·.1)) us
  | _, _, .nil => .nil
  | _, _, .cons r t => .cons r (vals_of_each t)
/-- sorted(l, key=f), f a lambda of this frame -/
theorem sortedI {params : Arguments} {body : Expr} {scope : Scope} {f c' l : Addr} {nm : Str} {k : Nat} {pm ctv : Value} {tb : TE} {xs : List V} {ds : List PyData} {Q : VK}
    (I : Inv X pins σ H s) (L : LamS1 X.env.scope scope nm) (hna : nm ∉ X.N) (hr : Room (k + 3) X.A) (hfr : f ∉ frs X.stack)
    (hbind : ∀ v, bindArgs (PySem.W.kla_fn "<lambda>" (X.env.qual ++ "<lambda>") params body scope (cloFrom X.env.cells scope.names []) pm (.ref c') ctv) ⟨[v], []⟩ = pure [(nm, v)])
    (hbody : ∀ (A : Around) (outer : List Env) (s : Shared) (H : Hp), Room k (A.deeper (lamEnv X scope s.heap.objs.size f c')) → PE (lamCx1 X A outer s H C8.E0 scope f c' nm) body tb)
    (hf : s.heap.get? f = some (PySem.W.kla_obj "<lambda>" (X.env.qual ++ "<lambda>") params body scope (cloFrom X.env.cells scope.names []) pm c' ctv)) (hfn : H f = none) (hc : H c' = some (CodeO c' (X.env.qual ++ "<lambda>")))
    (hl : SqL X.K H l xs) (hld : ds.length = xs.length) (al : AllAlike ds) (so : Sortable ds) (nl : nlAll ds = true) (dep : ∀ d ∈ ds, d.depth ≤ 60) (hu : X.A.units + 65 < cLine)
    (turn : ∀ (i : Nat) (x : V) (d : PyData), xs[i]? = some x → ds[i]? = some d → ∀ H3, Same H H3 → tb (σ ++ [some x]) H3 (fun v H4 => Same H3 H4 ∧ Dp X.K H4 v d))
    (q : ∀ H5 p, Same H H5 → H p = none → H5 p = some (.lst (((xs.zip ds).mergeSort (dataLe false (·.2))).map (·.1))) → Q (.ref p) H5) :
    wpAny (model X.prog X.w) X.A (call (.builtin "sorted") [.ref l] [(Str.ofString "key", .ref f)]) (EP X pins σ Q) X.xe s := by
  obtain ⟨its, rv, pl, hz⟩ := I.list hl
  have li := rv.length
  refine sorted_of_sort pl.isList (by omega) (ksk_s1 _ _) (fun _ => ksk_l1 _ _) fun E' => ?_
  rw [ksk_t1]
  have c0 := copyHeap_at s.heap its
  have g1 := get?_update_seq c0 fun _ => (#[] : Array Value)
  unfold ksk_tree
  refine wpAny_bind (listItems_at c0 rfl ?_)
  refine wpAny_bind (listUpdate_at c0 rfl ?_ (by rw [List.size_toArray]; omega) (Nat.zero_le _))
  refine wpAny_bind (seqEpoch_at g1 rfl ?_)
  refine wpAny_bind (wpAny_newTuple ?_ (by show its.length ≤ _; omega))
  refine wpAny_bind (wpAny_newList ?_ (Nat.zero_le _))
  refine wpAny_holding ?_
  have za : (copyHeap s.heap its).objs.size = s.heap.objs.size + 2 := by unfold copyHeap; rw [size_push', Heap.size_update, size_push']
  have old : ∀ b o, s.heap.get? b = some o → ((copyHeap s.heap its).update (s.heap.objs.size + 1) (Obj.mapSeq fun _ => (#[] : Array Value))).get? b = some o := fun b o e => by
    rw [Heap.get?_update_ne _ _ _ _ (Nat.ne_of_lt (Nat.lt_succ_of_lt (Heap.lt_size e)))]
    exact copyHeap_old e
  generalize hcase : (if ((#[] : Array Value).size == its.toArray.size) = true then 0 else 0 + 1) = e1 at *
  have za1 : ((copyHeap s.heap its).update (s.heap.objs.size + 1) (Obj.mapSeq fun _ => (#[] : Array Value))).objs.size = s.heap.objs.size + 2 := by rw [Heap.size_update, za]
  generalize (copyHeap s.heap its).update (s.heap.objs.size + 1) (Obj.mapSeq fun _ => (#[] : Array Value)) = h1 at *
  have za2 : (h1.push (seqObj "tuple" its.toArray 0)).objs.size = s.heap.objs.size + 3 := by rw [size_push', za1]
  have g2 := Heap.get?_push_of_some (seqObj "tuple" its.toArray 0) g1
  have I1 := I.laid (a := s.heap.objs.size + 1) (o := ExactO (seqObj "list" #[] e1) (s.heap.objs.size + 1)) (t' := s.toks) (h' := h1.push (seqObj "tuple" its.toArray 0)) (fun b o e => Heap.get?_push_of_some _ (old b o e)) (Nat.le_succ _) (exact_ok g2)
  generalize hh2 : h1.push (seqObj "tuple" its.toArray 0) = h2 at *
  have I2 := I1.laid (a := h2.objs.size) (o := .lst []) (t' := s.toks) (h' := h2.push (seqObj "list" #[] 0)) (fun b o e => Heap.get?_push_of_some _ e) (Nat.le_refl _) ⟨Nat.zero_le _, [], 0, .nil, Heap.get?_push_size _ rfl⟩
  have na : H (s.heap.objs.size + 1) = none := I.hok.fresh (Nat.le_succ _)
  have nk : H h2.objs.size = none := I.hok.fresh (by omega)
  have nka : h2.objs.size ≠ s.heap.objs.size + 1 := by omega
  have lf := Heap.lt_size hf
  have nfk : f ≠ h2.objs.size := Nat.ne_of_lt (Nat.lt_of_lt_of_le lf (by omega))
  have nfa : f ≠ s.heap.objs.size + 1 := Nat.ne_of_lt (Nat.lt_succ_of_lt lf)
  have sm : Same H (upd (upd H (s.heap.objs.size + 1) (ExactO (seqObj "list" #[] e1) (s.heap.objs.size + 1))) h2.objs.size (.lst [])) := (same_new na _).trans (same_new (by rw [upd_ne nka]; exact nk) _)
  have kept : ∀ b o, s.heap.get? b = some o → (h2.push (seqObj "list" #[] 0)).get? b = some o := fun b o e => Heap.get?_push_of_some _ (by rw [← hh2]; exact Heap.get?_push_of_some _ (old b o e))
  refine restI (X := X) (pins := pins) (σ := σ) (H := H) (its := its) (kS := h2.objs.size) L hna (Sub.in1 (Sub.in1 (n := k + 2) ⟨hr, rfl⟩)) hfr hbind hbody ⟨_, [], I2, sm, upd_same, by rw [upd_ne nka.symm]; exact upd_same, by rw [upd_ne nfk, upd_ne nfa]; exact hfn, kept _ _ hf, .nil⟩ nka nk hc rv hz hld al so nl (fun d hd => by have := dep d hd; show X.A.units + 1 + 1 + d.depth < cLine; omega) turn ?_
  intro s' Hi ks out J smi hk ha ko tk
  refine ⟨rfl, ?_⟩
  obtain ⟨_, ki, kn, krv, kob⟩ := J.hok _ _ hk
  have ga0 : s'.heap.get? (s.heap.objs.size + 1) = some (seqObj "list" #[] e1) := (J.hok _ _ ha).1
  generalize h2.objs.size = kS at *
  generalize s.heap.objs.size + 1 = a at *
  have gk := get?_update_seq kob fun _ => (#[] : Array Value)
  have ga1 : (s'.heap.update kS (Obj.mapSeq fun _ => (#[] : Array Value))).get? a = some (seqObj "list" #[] e1) := by rw [Heap.get?_update_ne _ _ _ _ nka.symm]; exact ga0
  have ga2 := get?_update_seq ga1 fun _ => out.toArray
  have J1 := J.write (x := kS) (e := kS) (o := .lst []) (t' := s'.toks) (h' := s'.heap.update kS (Obj.mapSeq fun _ => (#[] : Array Value))) (by rw [hk]; trivial) (.inl rfl) (fun b o nb e => by rw [Heap.get?_update_ne _ _ _ _ nb]; exact e) ⟨_, gk⟩ ⟨Nat.zero_le _, [], _, .nil, gk⟩
  have e2 : (xs.zip ds).map (·.2) = ds := List.map_snd_zip (by omega)
  have ez : EachIs (fun v (b : V × PyData) => RelV b.1 v) its (xs.zip ds) := each_zip rv hld
  have eo := keyedOut_each (β := V × PyData) (bs := xs.zip ds) (R := fun v b => RelV b.1 v) (·.2) (by rw [e2]; exact ko) ez
  have vo := vals_of_each eo
  have lo : (((xs.zip ds).mergeSort (dataLe false (·.2))).map (·.1)).length = xs.length := by rw [List.length_map, List.length_mergeSort, List.length_zip]; omega
  generalize ((xs.zip ds).mergeSort (dataLe false (·.2))).map (·.1) = ys at *
  have J2 := J1.write (x := a) (e := a) (o := .lst ys) (t' := tk) (h' := (s'.heap.update kS (Obj.mapSeq fun _ => (#[] : Array Value))).update a (Obj.mapSeq fun _ => out.toArray)) (by rw [upd_ne nka.symm, ha]; trivial) (.inl rfl) (fun b o nb e => by rw [Heap.get?_update_ne _ _ _ _ nb]; exact e) ⟨_, ga2⟩ ⟨by omega, out, _, vo, ga2⟩
  refine ⟨.ref a, _, J2, rfl, q _ _ (fun b o e => ?_) na upd_same⟩
  rw [upd_ne (ne_of_none e na), upd_ne (ne_of_none e nk)]
  exact smi _ _ e
/-- what is wanted behind the making of the lambda -/
def SortL (K : PySem.W.Frag) (tb : TE) (l : Addr) (σ : L2.St) (H : Hp) (Q : VK) : Prop := ∃ (xs : List V) (ds : List PyData), SqL K H l xs ∧ ds.length = xs.length ∧ AllAlike ds ∧ Sortable ds ∧ nlAll ds = true ∧ (∀ d ∈ ds, d.depth ≤ 60) ∧
  (∀ (i : Nat) (x : V) (d : PyData), xs[i]? = some x → ds[i]? = some d → ∀ H3, Same H H3 → tb (σ ++ [some x]) H3 (fun v H4 => Same H3 H4 ∧ Dp K H4 v d)) ∧
  ∀ H5 p, Same H H5 → H p = none → H5 p = some (.lst (((xs.zip ds).mergeSort (dataLe false (·.2))).map (·.1))) → Q (.ref p) H5
def tSortL (K : PySem.W.Frag) (T : List (Addr × Str)) (te tb : TE) : TE := fun σ H Q => te σ H fun y H1 => ∃ l, y = .ref l ∧ Tabs T H1 ∧ ∀ H2, ExtN H1 H2 → Tabs T H2 → SortL K tb l σ H2 Q
/-- sorted(e, key=lambda a: body) -/
theorem pe_sortL {T : List (Addr × Str)} {c P : Addr} {k : Nat} {params : Arguments} {e body : Expr} {scope : Scope} {te tb : TE} {nm : Str} {p lpos kpos pos : Pos} (hg : Gl X "sorted") (hm : X.mg "sorted" = none) (he : PE X e te)
    (TB : TabB X.base X.mg c P) (hcode : X.env.code = .ref c) (hmT : (P, X.env.qual ++ "<lambda>") ∈ T) (hu : ∀ p ∈ T, p.1 = P → p.2 = X.env.qual ++ "<lambda>") (hr : Room (k + 3) X.A) (hua : X.A.units + 65 < cLine) (L : LamS1 X.env.scope scope nm) (hna : nm ∉ X.N) (hdef : defaultsOf params X.env = ([], []))
    (hbind : ∀ (q : Str) (cl : List (Str × Addr)) (pm cv ctv : Value) (v : Value), bindArgs (PySem.W.kla_fn "<lambda>" q params body scope cl pm cv ctv) ⟨[v], []⟩ = pure [(nm, v)])
    (hbody : ∀ (A : Around) (outer : List Env) (s : Shared) (H : Hp) (f c' : Addr), Room k (A.deeper (lamEnv X scope s.heap.objs.size f c')) → PE (lamCx1 X A outer s H C8.E0 scope f c' nm) body tb)
    (hse : starEach [e] X.env = (false, eval e X.env) :: starEach [] X.env := by rfl) (hst : backTo pos (starEach [e] X.env) = (false, eval e X.env) :: backTo pos (starEach [] X.env) := by rfl) (hpl : (backTo pos (starEach [e] X.env)).any (·.1) = false := by rfl) :
    PE X (.Call (.Name "sorted" p) [e] [⟨some "key", .Lambda params body scope lpos, kpos⟩] pos) (tSortL X.K T te tb) := by
  refine ⟨fun pins s σ H Q I h => ?_⟩
  refine wpAny_Call_Name_kw (ld_blt (u := .builtin "sorted") I hg hm (by decide +kernel) ?_ (by decide) (by decide))
  have ha : PA X [e] (tCons te tNil) := pa_cons he pa_nil hse
  refine PyProof.Rows.callWith_kw (thn (ha.run pos pins s σ H (fun vs H1 => match vs with | [y] => ∃ l, y = V.ref l ∧ Tabs T H1 ∧ ∀ H2, ExtN H1 H2 → Tabs T H2 → SortL X.K tb l σ H2 Q | _ => False) I h) fun us s1 ⟨vs, H1, I1, r1, q1⟩ => ?_) hst hpl (by rfl) (by rfl)
  obtain ⟨l, rfl, hT, q1⟩ : ∃ l, vs = [V.ref l] ∧ Tabs T H1 ∧ ∀ H2, ExtN H1 H2 → Tabs T H2 → SortL X.K tb l σ H2 Q := by
    match vs, q1 with
    | [y], ⟨l, ey, z⟩ => exact ⟨l, by rw [ey], z⟩
  obtain rfl := Vals.ref1 r1
  show wpAny _ _ (evalAll ((do let v ← eval (.Lambda params body scope lpos) X.env; standAt pos; pure v) :: [])) _ _ s1
  refine wpAny_evalAll_cons (wpAny_bind (lam_make2 I1 TB hcode hmT hu hT hdef (L.has I1.ok) fun f c' pm ctv H2 s2 I2 eN T2 hf hfn hfr hco => wpAny_bind (wpAny_standAt (wpAny_pure (wpAny_evalAll_nil ?_)))))
  obtain ⟨xs, ds, hl, hld, al, so, nl, dep, turn, q⟩ := q1 H2 eN T2
  show wpAny _ _ (call (.builtin "sorted") [.ref l] [(Str.ofString "key", .ref f)]) _ _ s2
  exact sortedI I2 L hna hr hfr (fun v => hbind _ _ _ _ _ v) (fun A outer s H hr' => hbody A outer s H f c' hr') hf hfn hco hl hld al so nl dep hua turn q
end
end My
/-! for i, x in enumerate(t), t a tuple -/
namespace My
open PySem PySem.Spec L2 PyProof.Rows
open AutoSeq1 (wpAny_loadPart')
theorem new_enumT (t : Addr) (its : Array Value) (m : Nat) (dd : Option Addr) (ss : Array (Option Value)) :
    Meets (Builtin.«enumerate.__new__» ⟨[.type "enumerate", .ref t], []⟩) (fun _ R s => s.heap.get? t = some { cls := .type "tuple", dict := dd, data := .seq its m, slots := ss } ∧
      R (.ok (.ret (.ref (s.heap.push { cls := .type "tuple_iterator", data := .fields #[.ref t, .int 0 0] }).objs.size)))
        { s with heap := (s.heap.push { cls := .type "tuple_iterator", data := .fields #[.ref t, .int 0 0] }).push { cls := .type "enumerate", data := .fields #[.none, .bool false, .ref s.heap.objs.size, rawInt 0, .none, .none] } }) :=
  .of_wp fun P0 w0 A0 R s h => by
    obtain ⟨hp, g, d, tk, os⟩ := s
    obtain ⟨ht, h⟩ := h
    have f1 := sub_enumerate
    have f2 : Heap.IsTuple (Shared.heap ⟨hp, g, d, tk, os⟩) t its := ⟨_, ht, rfl, m, rfl⟩
    wp_walk using wpAny_loadPart' ht
    refine wpAny_stack_any fun st => wpAny_pure ?_
    split
    · rename_i cc _ _ _ _ _
      cases (cc == Value.type "enumerate") <;> (wp_walk using wpAny_loadPart' ht, wpAny_pyIter_tuple f2; exact ⟨_, rfl, h⟩)
    · wp_walk using wpAny_loadPart' ht, wpAny_pyIter_tuple f2
      exact ⟨_, rfl, h⟩
section
variable {P0 : Program} {w0 : World} {A : Around} {E : Value → Shared → Prop} {s : Shared}
theorem call_enumT {t : Addr} {its : Array Value} {Q : Value → Shared → Prop} (hT : s.heap.IsTuple t its)
    (h : ∀ g, IsEnum g (s.heap.objs.size + 1) s.heap.objs.size 0 .none → g.IsTupleIter s.heap.objs.size t 0 → (∀ b o, s.heap.get? b = some o → g.get? b = some o) → Q (.ref (s.heap.objs.size + 1)) { s with heap := g }) :
    wpAny (model P0 w0) A (call (.type "enumerate") [.ref t]) Q E s := by
  obtain ⟨⟨cc, dd, dt, ss⟩, hl, e1, m, e2⟩ := hT
  obtain rfl : cc = .type "tuple" := e1
  obtain rfl : dt = .seq its m := e2
  refine callType_new F.called_enumerate (by decide) (F.typeCall_enumerate_1 _) (F.newCall_enumerate_1 _) (fun obj => F.args_object_init_2 obj _) F.entry_enumerate_new (new_enumT t its m dd ss) ⟨hl, ?_⟩
  have z1 : (s.heap.push { cls := .type "tuple_iterator", data := .fields #[.ref t, .int 0 0] }).objs.size = s.heap.objs.size + 1 := Heap.size_push ..
  show _ ∧ _
  rw [z1]
  have en : IsEnum ((s.heap.push { cls := .type "tuple_iterator", data := .fields #[.ref t, .int 0 0] }).push { cls := .type "enumerate", data := .fields #[.none, .bool false, .ref s.heap.objs.size, rawInt 0, .none, .none] }) (s.heap.objs.size + 1) s.heap.objs.size 0 .none := by
    have z2 := Heap.get?_push_size (s.heap.push { cls := .type "tuple_iterator", data := .fields #[.ref t, .int 0 0] }) (o := { cls := .type "enumerate", data := .fields #[.none, .bool false, .ref s.heap.objs.size, rawInt 0, .none, .none] }) rfl
    rw [z1] at z2
    exact z2
  exact ⟨⟨_, en, rfl⟩, h _ en ⟨_, Heap.get?_push_of_some _ (Heap.get?_push_size _ rfl), rfl, rfl⟩ fun b o y => Heap.get?_push_of_some _ (Heap.get?_push_of_some _ y)⟩
end
/-- each item of the tuple at a in a new pair -/
def IteT (K : PySem.W.Frag) (a : Addr) : It :=
  ⟨fun i H => ∃ (xs : List V) (x : V), SqT K H a xs ∧ xs[i]? = some x, fun i H v H' => ∃ T x, v = .ref T ∧ H T = none ∧ H' = upd H T (.tup [.int (i : Nat), x]) ∧ ∀ xs, SqT K H a xs → xs[i]? = some x, fun i H => ∃ xs : List V, SqT K H a xs ∧ xs.length = i⟩
theorem turn_enumT {P : Program} {w : World} {K : PySem.W.Frag} {elts : List Expr} {kk : Nat} {tpos : Pos} (a e it : Addr) :
    Turn P w K (.Tuple elts kk tpos) (IteT K a) [e, it] e (fun i h => (∃ old, IsEnum h e it ((i : Nat) : Int) old) ∧ h.IsTupleIter it a i ∧ e ≠ it ∧ e ≠ a ∧ a ≠ it) where
  mem := by simp
  obj := fun i h ⟨⟨old, he⟩, ⟨o, ho, hc, hd⟩, _⟩ b hb => by
    rcases (show b = e ∨ b = it by simpa using hb) with rfl | rfl
    · exact ⟨_, he, fun v q => nomatch q⟩
    · exact ⟨o, ho, fun v q => by rw [hd] at q; cases q⟩
  keep := fun i h h' ⟨⟨old, he⟩, hi, r⟩ k => ⟨⟨old, k e (by simp) _ he⟩, hi.at fun o q => k it (by simp) o q, r⟩
  item := by
    intro X e1 e2 e3 hc i pins s σ H E I hf st hg
    subst e1 e2 e3
    obtain ⟨⟨old, he⟩, hit, n1, n2, n3⟩ := st
    obtain ⟨xs, x, hq, hx⟩ := hg
    obtain ⟨its, rv, p, hz⟩ := I.tuple hq
    obtain ⟨u, hu, ru⟩ := rv.get hx
    have le : e < s.heap.objs.size := Heap.lt_size he
    have li : it < s.heap.objs.size := by obtain ⟨_, q, _⟩ := hit; exact Heap.lt_size q
    have lt : i < its.toArray.size := by rw [List.size_toArray]; exact (List.getElem?_eq_some_iff.mp hu).1
    refine wpAny_pyNext_enum_itemD (Draws.tuple (A := X.A.in1) (I.ok.hd hc) it a n3 its.toArray) he ⟨hit, p⟩ lt n1 (by simp [n1, n2]) fun v h' tk pv ho st' hT hsz hk => ?_
    have ev : v = u := by
      have pv : its.toArray[i]? = some v := pv
      have pv : its[i]? = some v := by simpa using pv
      rw [hu] at pv
      exact (Option.some.inj pv).symm
    subst ev
    refine ⟨_, rfl, wpAny_letOwnedTupleGo_enum (s := { s with heap := h', toks := tk + 1 }) ho fun h2 he2 sb => ?_⟩
    have hT2 : h2.get? s.heap.objs.size = some { cls := .type "tuple", data := .seq #[.int i tk, v] } := (sb.2 _ (Nat.ne_of_gt le)).trans hT
    have I1 := I.turnedNew (t' := tk + 1) (h' := h2) (ch := [e, it]) (T := s.heap.objs.size) (ob := .tup [.int (i : Nat), x]) (fun b ob hb q => (sb.2 b (fun z => hb (by simp [z]))).trans (hk b ob (fun z => hb (by simp [z])) (fun z => hb (by simp [z])) q)) hf (Nat.le_refl _)
      ⟨by show 2 ≤ sizeLine; decide, [.int i tk, v], .cons ⟨_, rfl⟩ (.cons ru .nil), ⟨_, hT2, rfl, _, rfl⟩⟩
    refine ⟨.ref s.heap.objs.size, _, I1, rfl, ⟨_, x, rfl, I.hok.fresh (Nat.le_refl _), rfl, fun ys hy => by rw [I.tuple_inj hy hq]; exact hx⟩, ⟨⟨v, ?_⟩, st'.1.at fun o q => (sb.2 it n1.symm).trans q, n1, n2, n3⟩, fun b hb => ?_⟩
    · rw [show ((i + 1 : Nat) : Int) = (i : Int) + 1 by omega]; exact he2
    · have lb : b < s.heap.objs.size := by rcases (show b = e ∨ b = it by simpa using hb) with rfl | rfl <;> assumption
      rw [upd_ne (Nat.ne_of_lt lb)]
      exact (hf b hb).1
  done := by
    intro X e1 e2 e3 hc i pins s σ H E I hf st hg
    subst e1 e2 e3
    obtain ⟨⟨old, he⟩, hit, n1, n2, n3⟩ := st
    obtain ⟨xs, hq, hx⟩ := hg
    obtain ⟨its, rv, p, hz⟩ := I.tuple hq
    obtain ⟨f0, f1, f2, f3, f4, f5⟩ := hf it (by simp)
    have hl : i = its.toArray.size := by rw [List.size_toArray, ← rv.length]; exact hx.symm
    rw [hl] at hit
    exact wpAny_pyNext_enum_endD (Draws.tuple (A := X.A.in1) (I.ok.hd hc) it a n3 its.toArray) he ⟨hit, p⟩ fun h' eb => ⟨rfl, I.turned (t' := s.toks) (fun b o hb q => eb b o hb q) f0 f1 f3 f4 f5⟩
  self := fun A i s Q E ⟨⟨_, he⟩, _⟩ h => wpAny_pyIter_enum he h
def iEnumT (K : PySem.W.Frag) (ta : TA) : TI := fun σ H R => ta σ H fun vs H1 => ∃ a xs, vs = [.ref a] ∧ SqT K H1 a xs ∧ R (IteT K a) H1
theorem pi_enumT {X : Cx} {e : Expr} {ta : TA} {p pos tpos : Pos} {elts : List Expr} {kk : Nat} (hg : Gl X "enumerate") (hm : X.mg "enumerate" = none) (ha : PA X [e] ta) (hs : starEach [e] X.env = [(false, eval e X.env)] := by rfl) :
    PI X (.Tuple elts kk tpos) (.Call (.Name "enumerate" p) [e] [] pos) (iEnumT X.K ta) := by
  refine ⟨fun pins s σ H R I h => ?_⟩
  refine Call_ (ld_blt I hg hm boot_enumerate (PyProof.Rows.callWith_type1 (thn (ha.run pos pins s σ H _ I h) fun us s1 ⟨vs, H1, I1, r1, a, xs, ev, hq, q⟩ => ?_) hs rfl))
  subst ev
  rw [Vals.ref1 r1]
  obtain ⟨its, rv, pt, hz⟩ := I1.tuple hq
  have la : a < s1.heap.objs.size := pt.lt
  refine call_enumT pt fun g en it hk => wpAny_pyIter_enum en ?_
  have I2 : Inv X pins σ H1 { s1 with heap := g } := I1.kept (t' := s1.toks) hk
  refine ⟨s1.heap.objs.size + 1, [s1.heap.objs.size + 1, s1.heap.objs.size], _, _, H1, rfl, I2, turn_enumT a (s1.heap.objs.size + 1) s1.heap.objs.size, ⟨⟨.none, en⟩, it, Nat.succ_ne_self _, Nat.ne_of_gt (Nat.lt_succ_of_lt la), Nat.ne_of_lt la⟩, fun b hb => ?_, q⟩
  have lb : s1.heap.objs.size ≤ b := by
    rcases (show b = s1.heap.objs.size + 1 ∨ b = s1.heap.objs.size by simpa using hb) with z | z
    · rw [z]; exact Nat.le_succ _
    · rw [z]; exact Nat.le_refl _
  exact I1.fpOk lb (I1.hok.fresh lb)
/-- the loop: a new pair each turn -/
theorem for_enumT {K : PySem.W.Frag} {a : Addr} {xs : List V} {g : TG} {tb : TS} {D : Ends} {σ : L2.St} {H : Hp} (Pv : Nat → L2.St → Hp → Prop) (h0 : Pv 0 σ H) (hT : ∀ i σ H, i ≤ xs.length → Pv i σ H → SqT K H a xs)
    (hs : ∀ i x σ H T, xs[i]? = some x → Pv i σ H → H T = none → g (.ref T) σ (upd H T (.tup [.int (i : Nat), x])) fun σ2 H2 => tb { D with nx := Pv (i + 1), ct := Pv (i + 1), bk := D.nx } σ2 H2) (hd : ∀ σ H, Pv xs.length σ H → D.nx σ H) :
    ∃ W : Nat → Nat → L2.St → Hp → Prop, (∃ m, W 0 m σ H) ∧ ∀ i m σ H, W i m σ H →
      ((IteT K a).stop i H ∧ D.nx σ H) ∨ ((IteT K a).go i H ∧ ∃ N : L2.St → Hp → Prop, (∀ σ' H', N σ' H' → ∃ m', m' < m ∧ W (i + 1) m' σ' H') ∧ ∀ x H', (IteT K a).yld i H x H' → g x σ H' fun σ2 H2 => tb { D with nx := N, ct := N, bk := D.nx } σ2 H2) := by
  refine ⟨fun i m σ H => m = xs.length - i ∧ i ≤ xs.length ∧ Pv i σ H, ⟨_, rfl, Nat.zero_le _, h0⟩, ?_⟩
  rintro i m σ H ⟨rfl, hi, p⟩
  have t := hT i σ H hi p
  by_cases lt : i < xs.length
  · refine .inr ⟨⟨xs, xs[i], t, List.getElem?_eq_getElem lt⟩, Pv (i + 1), fun σ' H' p' => ⟨_, by omega, rfl, lt, p'⟩, ?_⟩
    rintro v H' ⟨T, x, rfl, n, rfl, hx⟩
    exact hs i x σ H T (hx xs t) p n
  · obtain rfl : i = xs.length := by omega
    exact .inl ⟨⟨xs, t, rfl⟩, hd σ H p⟩
end My
/-! max(xs, default=k) of a list of ints that is not empty -/
namespace My
open PySem PySem.Spec L2 PyProof.Rows
open Sem (wp)
theorem fn_kw {P0 : Program} {w0 : World} {B : Around} {Ex : Value → Shared → Prop} {z : Shared} {nm : String} {bi : Builtin} {av : List Value} {kv : List (Str × Value)} {Post : Value → Shared → Prop} (h1 : builtinKind nm = none) (h2 : plainId nm = true)
    (h3 : entryFor table nm = some bi) (h4 : argsOk nm ⟨av, kv⟩)
    (h5 : wpAny (model P0 w0) B.in1 (bi ⟨av, kv⟩) (fun fin z' => match fin with
      | .done f => (match (Except.ok f : Result) with | .ok (.ret v) => Post v z' | .ok _ => False | .error e => Ex e z')
      | .again c => c.quiet = true ∧ codeAny (model P0 w0) B c (fun r z' => match r with | .ok (.ret v) => Post v z' | .ok _ => False | .error e => Ex e z') z') Ex z) :
    wpAny (model P0 w0) B (call (.builtin nm) av kv) Post Ex z := by
  refine wpAny_call (codeAny_call_builtin h2 h3 ?_)
  simp only [checkBuiltinCall, h1]
  cases hg : Manifest.signature? nm with
  | none => exact wpAny_pure h5
  | some sg =>
    simp only [argsOk, hg] at h4
    have h6 : Bind.checkArgs nm sg ⟨av, kv⟩ = pure () := h4
    simp only [h6]
    exact wpAny_pure h5
section
variable {P0 : Program} {w0 : World} {B : Around} {Res : Result → Shared → Prop} {it : Addr} {fpr wri : List Addr} {m : Nat} {Pi : Nat → Value → Prop} {Sti : Nat → Heap → Prop} {kv : List (Str × Value)}
theorem mxd_name : (toString "max" ++ toString ".loop" : String) = "max.loop" := by decide
theorem mxd_loop (Wk : Walks P0 w0 B.in1 it fpr wri m Pi Sti) (gt : Nat → Nat → Bool) (cmp : CmpOf P0 w0 B.in1 .Gt Pi gt) (b : Addr) (bf : b ∉ fpr) :
    ∀ (r i : Nat) (z : Shared) (top : Value) (cap : Nat), m - (i + 1) = r → i + 1 ≤ m → Sti (i + 1) z.heap → Pi (argBest gt i) top →
    z.heap.get? b = some { cls := .type "list", dict := none, data := .seq #[top, top] cap, slots := #[] } →
    (∀ v hp tk, Pi (argBest gt (m - 1)) v → (∀ a o, a ∉ wri → a ≠ b → z.heap.get? a = some o → hp.get? a = some o) → Res (.ok (.ret v)) { z with heap := hp, toks := tk }) →
    codeAny (model P0 w0) B (.builtin "max.loop" ⟨[.ref it, .none, .ref b], kv⟩) Res z := by
  have bw : b ∉ wri := fun h => bf (Wk.sub _ h)
  intro r
  induction r with
  | zero =>
    intro i z top cap er ei st pt hb hR
    have em : i + 1 = m := by omega
    refine codeAny_builtin F.entry_max_loop ?_
    rw [Around.under_plainId F.plain_max_loop _]
    show wpAny _ B.in1 (seqItems? (.ref b) >>= _) _ _ z
    refine wpAny_bind (wpAny_seqItems hb rfl ?_)
    show wpAny _ B.in1 (tryCatch (pyNext (.ref it)) _ >>= _) _ _ z
    refine wpAny_bind (wpAny_tryCatch (Wk.done z _ _ (em ▸ st) fun hp tk hk => ?_))
    have hb' := hk b _ bw hb
    show wpAny _ B.in1 (updateSeq b (fun _ => #[]) >>= _) _ _ _
    refine wpAny_bind (wpAny_updateSeq hb' rfl (wpAny_bind (wpAny_letGo (wpAny_pure ?_))))
    exact hR top _ tk (em ▸ pt) fun a o aw ab e => (Heap.get?_update_other _ _ (Ne.symm ab)).trans (hk a o aw e)
  | succ r ih =>
    intro i z top cap er ei st pt hb hR
    have lt : i + 1 < m := by omega
    refine codeAny_builtin F.entry_max_loop ?_
    rw [Around.under_plainId F.plain_max_loop _]
    show wpAny _ B.in1 (seqItems? (.ref b) >>= _) _ _ z
    refine wpAny_bind (wpAny_seqItems hb rfl ?_)
    show wpAny _ B.in1 (tryCatch (pyNext (.ref it)) _ >>= _) _ _ z
    refine wpAny_bind (wpAny_tryCatch (Wk.item (i + 1) z _ _ lt st fun v hp tk pv st' hk => ?_))
    have hb' := hk b _ bw hb
    show wpAny _ B.in1 (tryCatch (holding [v, v] (richCompare .Gt v top >>= _)) _ >>= _) _ _ _
    refine wpAny_bind (wpAny_tryCatch (wpAny_holding (wpAny_bind (cmp (i + 1) (argBest gt i) v top _ _ _ pv pt ?_))))
    refine wpAny_bind (wpAny_holding (wpAny_truthy_bool (wpAny_bind (wpAny_letGo (wpAny_pure ?_)))))
    cases eb : gt (i + 1) (argBest gt i) with
    | true =>
      simp only [if_true]
      refine wpAny_bind (wpAny_updateSeq hb' rfl (wpAny_bind (wpAny_letGo ?_)))
      rw [mxd_name]
      refine wpAny_pure ⟨plainId_quiet F.plain_max_loop _, ih (i + 1) _ v _ (by omega) lt (Wk.frame _ _ _ st' fun a af o e => (Heap.get?_update_other _ _ (fun h : b = a => bf (by rw [h]; exact af))).trans e)
        (by simp only [argBest, eb, if_true]; exact pv) (Heap.get?_update_self _ hb' rfl) fun v2 hp2 tk2 p2 hk2 => hR v2 hp2 tk2 p2 fun a o aw ab e => hk2 a o aw ab ((Heap.get?_update_other _ _ (Ne.symm ab)).trans (hk a o aw e))⟩
    | false =>
      simp only [Bool.false_eq_true, if_false]
      refine wpAny_bind (wpAny_letGo ?_)
      rw [mxd_name]
      exact wpAny_pure ⟨plainId_quiet F.plain_max_loop _, ih (i + 1) _ top cap (by omega) lt st' (by simp only [argBest, eb, Bool.false_eq_true, if_false]; exact pt) hb' fun v2 hp2 tk2 p2 hk2 => hR v2 hp2 tk2 p2 fun a o aw ab e => hk2 a o aw ab (hk a o aw e)⟩
theorem mxd_first (Wk : Walks P0 w0 B.in1 it fpr wri m Pi Sti) (gt : Nat → Nat → Bool) (cmp : CmpOf P0 w0 B.in1 .Gt Pi gt) (b : Addr) (bf : b ∉ fpr) (pos : 0 < m) {z : Shared} {cap : Nat} (st : Sti 0 z.heap)
    (hb : z.heap.get? b = some { cls := .type "list", dict := none, data := .seq #[] cap, slots := #[] })
    (hR : ∀ v hp tk, Pi (argBest gt (m - 1)) v → (∀ a o, a ∉ wri → a ≠ b → z.heap.get? a = some o → hp.get? a = some o) → Res (.ok (.ret v)) { z with heap := hp, toks := tk }) :
    codeAny (model P0 w0) B (.builtin "max.loop" ⟨[.ref it, .none, .ref b], kv⟩) Res z := by
  have bw : b ∉ wri := fun h => bf (Wk.sub _ h)
  refine codeAny_builtin F.entry_max_loop ?_
  rw [Around.under_plainId F.plain_max_loop _]
  show wpAny _ B.in1 (seqItems? (.ref b) >>= _) _ _ z
  refine wpAny_bind (wpAny_seqItems hb rfl ?_)
  show wpAny _ B.in1 (tryCatch (pyNext (.ref it)) _ >>= _) _ _ z
  refine wpAny_bind (wpAny_tryCatch (Wk.item 0 z _ _ pos st fun v hp tk pv st' hk => ?_))
  have hb' := hk b _ bw hb
  show wpAny _ B.in1 (updateSeq b (fun _ => #[v, v]) >>= _) _ _ _
  refine wpAny_bind (wpAny_updateSeq hb' rfl ?_)
  rw [mxd_name]
  exact wpAny_pure ⟨plainId_quiet F.plain_max_loop _, mxd_loop Wk gt cmp b bf _ 0 _ v _ rfl pos (Wk.frame _ _ _ st' fun a af o e => (Heap.get?_update_other _ _ (fun h : b = a => bf (by rw [h]; exact af))).trans e) pv (Heap.get?_update_self _ hb' rfl)
    fun v2 hp2 tk2 p2 hk2 => hR v2 hp2 tk2 p2 fun a o aw ab e => hk2 a o aw ab ((Heap.get?_update_other _ _ (Ne.symm ab)).trans (hk a o aw e))⟩
end
section
variable {P0 : Program} {w0 : World} {B : Around} {Ex : Value → Shared → Prop} {z : Shared}
theorem mxd_args (a d : Value) : argsOk "max" ⟨[a], [(Str.ofString "default", d)]⟩ := by unfold argsOk; kernel_rfl
theorem mxd_bind (d : Value) : Builtin.Builtins.bindParams "max" ["key", "default"] 0 ⟨[], [(Str.ofString "default", d)]⟩ = pure [none, some d] := by kernel_rfl
theorem mxd_ints {l : Addr} {xs : Array (Int × Tok)} {d : Value} {Post : Value → Shared → Prop} (hh : B.handled = none) (hl : z.heap.IsList l (intItems xs)) (hne : 0 < xs.size)
    (h : ∀ v hp tk, (intItems xs)[argBest (fun i j => decide (numAt xs i > numAt xs j)) (xs.size - 1)]? = some v → (∀ a o, z.heap.get? a = some o → hp.get? a = some o) → Post v { z with heap := hp, toks := tk }) :
    wpAny (model P0 w0) B (call (.builtin "max") [.ref l] [(Str.ofString "default", d)]) Post Ex z := by
  refine fn_kw F.kind_max F.plain_max F.entry_max (mxd_args _ _) ?_
  show wpAny _ B.in1 (Builtin.Builtins.bindParams "max" ["key", "default"] 0 ⟨[], [(Str.ofString "default", d)]⟩ >>= _) _ _ z
  refine wpAny_bind (wpAny_of_eq (mxd_bind d) (wpAny_bind (wpAny_pure (wpAny_bind (iter_intList hl fun z2 e st hfp hlI => ?_)))))
  subst e
  refine wpAny_bind (wpAny_newObj_type ?_)
  rw [mxd_name]
  refine wpAny_pure ⟨plainId_quiet F.plain_max_loop _, mxd_first (Walks.list (A := B.in1) hh _ l hlI (intItems xs)) _ (CmpOf.ints_gt (numAt xs) (fun _ _ => intItems_at)) _ (fun hm => Nat.lt_irrefl _ (hfp _ hm)) (by simpa [intItems] using hne)
    ((Walks.list (prog := P0) (w := w0) (A := B.in1) hh _ l hlI (intItems xs)).frame _ _ _ st fun a _ o e => Heap.get?_push_of_some _ e) (Heap.get?_push_size _ rfl) fun v hp tk pv hk => ?_⟩
  exact h v hp tk (by simpa [intItems] using pv) (old_kept fun a o aw e => hk a o aw (Nat.ne_of_lt (Heap.lt_size e)) (Heap.get?_push_of_some _ e))
theorem mxd_raw {l : Addr} {its : List Value} {ns : List Int} {d : Value} {Post : Value → Shared → Prop} (hh : B.handled = none) (hl : z.heap.IsList l its.toArray) (hi : IntsAre its ns) (hne : 0 < ns.length)
    (h : ∀ hp tk M t, (∀ a o, z.heap.get? a = some o → hp.get? a = some o) → M ∈ ns → (∀ a, a ∈ ns → a ≤ M) → Post (.int M t) { z with heap := hp, toks := tk }) : wpAny (model P0 w0) B (call (.builtin "max") [.ref l] [(Str.ofString "default", d)]) Post Ex z := by
  obtain ⟨ys, e⟩ := hi.allInts.items
  have en : numsOf (intItems ys).toList = ns := by rw [← e]; exact hi.numsOf
  rw [nums_intItems] at en
  subst en
  rw [e] at hl
  have sz : 0 < ys.size := by simpa using hne
  refine mxd_ints hh hl sz fun v hp tk hv hk => ?_
  obtain ⟨t, rfl⟩ := intItems_at hv
  obtain ⟨g1, g2⟩ := argBest_gt (numAt ys) (ys.size - 1)
  refine h hp tk _ t hk (by rw [numAt_eq]; exact PySem.getD_mem (by rw [List.length_map, Array.length_toList]; omega)) fun a ha => ?_
  obtain ⟨j, hj, rfl⟩ := mem_getD ha
  rw [List.length_map, Array.length_toList] at hj
  rw [← numAt_eq]
  exact g2 j (by omega)
end
section
variable {X : Cx}
def tMaxD (K : PySem.W.Frag) (te tk : TE) : TE := fun σ H Q => te σ H fun y H1 => tk σ H1 fun _ H2 => rMax K [y] H2 Q
/-- max(e, default=k) -/
theorem pe_maxD {e ek : Expr} {te tk : TE} {p kpos pos : Pos} (hc : X.calm = true) (hg : Gl X "max") (hm : X.mg "max" = none) (he : PE X e te) (hek : PE X ek tk)
    (hse : starEach [e] X.env = (false, eval e X.env) :: starEach [] X.env := by rfl) (hst : backTo pos (starEach [e] X.env) = (false, eval e X.env) :: backTo pos (starEach [] X.env) := by rfl) (hpl : (backTo pos (starEach [e] X.env)).any (·.1) = false := by rfl) :
    PE X (.Call (.Name "max" p) [e] [⟨some "default", ek, kpos⟩] pos) (tMaxD X.K te tk) := by
  refine ⟨fun pins s σ H Q I h => ?_⟩
  refine wpAny_Call_Name_kw (ld_blt (u := .builtin "max") I hg hm (by decide +kernel) ?_ (by decide) (by decide))
  have ha : PA X [e] (tCons te tNil) := pa_cons he pa_nil hse
  refine PyProof.Rows.callWith_kw (thn (ha.run pos pins s σ H (fun vs H1 => match vs with | [y] => tk σ H1 fun _ H2 => rMax X.K [y] H2 Q | _ => False) I h) fun us s1 ⟨vs, H1, I1, r1, q1⟩ => ?_) hst hpl (by rfl) (by rfl)
  obtain ⟨y, rfl, q1⟩ : ∃ y, vs = [y] ∧ tk σ H1 fun _ H2 => rMax X.K [y] H2 Q := by
    match vs, q1 with
    | [y], z => exact ⟨y, rfl, z⟩
  show wpAny _ _ (evalAll ((do let v ← eval ek X.env; standAt pos; pure v) :: [])) _ _ s1
  refine wpAny_evalAll_cons (wpAny_bind (thn (hek.run _ s1 σ H1 _ I1 q1) fun u s2 ⟨d, H2, I2, rd, a, ns, ey, hs, hne, q⟩ => wpAny_bind (wpAny_standAt (wpAny_pure (wpAny_evalAll_nil ?_)))))
  cases ey
  obtain rfl := Vals.ref1 r1
  obtain ⟨its, rv, hl, _⟩ := I2.list hs
  show wpAny _ _ (call (.builtin "max") [.ref a] [(Str.ofString "default", u)]) _ _ s2
  exact mxd_raw (I2.ok.hd hc) hl.isList rv.ints hne fun h' tk m t' hk h1 h2 => ⟨.int _, H2, I2.kept hk, ⟨_, rfl⟩, q m h1 h2⟩
end
/-! [x for one in t for x in one], all of them tuples -/
theorem pairedAt {α β : Type} {R : α → β → Prop} : ∀ {ps : List α} {ts : List β}, Paired R ps ts → ∀ {i : Nat} {p : α}, ps[i]? = some p → ∃ t, ts[i]? = some t ∧ R p t
  | _, _, .nil, i, p, h => by simp at h
  | _, _, .cons r t, 0, p, h => by
    cases h
    exact ⟨_, rfl, r⟩
  | _, _, .cons r t, i + 1, p, h => pairedAt t h
theorem flat_of {K : PySem.W.Frag} {a : Addr} {xs : List V} {yss : List (List V)} {σ : L2.St} {H1 : Hp} {D : Addr} {p q : Nat} {vs vs1 : List Nat} {Qd : Hp → Prop} (hD : H1 D = none) (hT : SqT K H1 a xs) (hP : Paired (fun x ys => ∃ b, x = V.ref b ∧ SqT K H1 b ys) xs yss)
    (hl : yss.flatten.length ≤ sizeLine) (w1 : ∀ x, wipe ((wipe σ vs).set p (some x)) vs = wipe σ vs) (l1 : ∀ x : V, ((wipe σ vs).set p (some x))[p]? = some (some x))
    (w2 : ∀ x y, wipe ((wipe ((wipe σ vs).set p (some x)) vs1).set q (some y)) vs1 = wipe ((wipe σ vs).set p (some x)) vs1) (l2 : ∀ x y : V, ((wipe ((wipe σ vs).set p (some x)) vs1).set q (some y))[q]? = some (some y))
    (hQ : ∀ H', Same H1 H' → H' D = some (.lst yss.flatten) → Qd H') :
    ∃ W : Nat → Nat → Hp → Prop, (∃ m, W 0 m (upd H1 D (.lst []))) ∧ ∀ i m H, W i m H →
      ((Itt K a).stop i H ∧ Qd H) ∨ ((Itt K a).go i H ∧ ∃ Nx : Hp → Prop, (∀ H', Nx H' → ∃ m', m' < m ∧ W (i + 1) m' H') ∧ ∀ x H', (Itt K a).yld i H x H' → gName p x (wipe σ vs) H' fun σ2 H2 => wipe σ2 vs = wipe σ vs ∧ tYes σ2 H2 fun b H3 =>
        if b = true then iTup K (tVar p) σ2 H3 fun J1 H4 => ∃ W1 : Nat → Nat → Hp → Prop, (∃ m, W1 0 m H4) ∧ ∀ j k H, W1 j k H →
          (J1.stop j H ∧ Nx H) ∨ (J1.go j H ∧ ∃ Nx1 : Hp → Prop, (∀ H', Nx1 H' → ∃ k', k' < k ∧ W1 (j + 1) k' H') ∧ ∀ x H', J1.yld j H x H' → gName q x (wipe σ2 vs1) H' fun σ3 H5 => wipe σ3 vs1 = wipe σ2 vs1 ∧ tYes σ3 H5 fun b H6 =>
            if b = true then tVar q σ3 H6 fun y H7 => ∃ acc, H7 D = some (.lst acc) ∧ acc.length < sizeLine ∧ Nx1 (upd H7 D (.lst (acc ++ [y]))) else Nx1 H6)
        else Nx H3) := by
  have hlen := Paired.length hP
  refine ⟨fun i m H => m = xs.length - i ∧ i ≤ xs.length ∧ Same H1 H ∧ H D = some (.lst (yss.take i).flatten), ⟨xs.length, by simp, Nat.zero_le _, same_new hD _, by rw [upd_same]; rfl⟩, ?_⟩
  rintro i m H ⟨rfl, hi, s1, hb⟩
  by_cases hlt : i < xs.length
  · refine .inr ⟨⟨xs, xs[i], same_T s1 hT, by simp [hlt]⟩, fun H => Same H1 H ∧ H D = some (.lst (yss.take (i + 1)).flatten), fun H' p' => ⟨xs.length - (i + 1), by omega, rfl, hlt, p'⟩, fun x H' y => ?_⟩
    obtain ⟨rfl, y⟩ := y
    obtain ⟨ys, ey, b, rfl, hB⟩ := pairedAt hP (y xs (same_T s1 hT))
    have et : yss.take (i + 1) = yss.take i ++ [ys] := by rw [List.take_succ, ey]; rfl
    have le : (yss.take (i + 1)).flatten.length ≤ yss.flatten.length := by
      conv => rhs; rw [← List.take_append_drop (i + 1) yss, List.flatten_append, List.length_append]
      omega
    rw [et, List.flatten_append, List.length_append] at le
    have le : (yss.take i).flatten.length + ys.length ≤ yss.flatten.length := by simpa using le
    refine ⟨w1 _, yes_of ⟨_, l1 _, b, rfl, ⟨_, same_T s1 hB⟩, fun j k H => k = ys.length - j ∧ j ≤ ys.length ∧ Same H1 H ∧ H D = some (.lst ((yss.take i).flatten ++ ys.take j)), ⟨ys.length, by simp, Nat.zero_le _, s1, by rw [hb]; simp⟩, ?_⟩⟩
    rintro j k H2 ⟨rfl, hj, s2, hb2⟩
    by_cases hjt : j < ys.length
    · refine .inr ⟨⟨ys, ys[j], same_T s2 hB, by simp [hjt]⟩, fun H => Same H1 H ∧ H D = some (.lst ((yss.take i).flatten ++ ys.take (j + 1))), fun H' p' => ⟨ys.length - (j + 1), by omega, rfl, hjt, p'⟩, fun z H' y2 => ?_⟩
      obtain ⟨rfl, y2⟩ := y2
      have ez := y2 ys (same_T s2 hB)
      refine ⟨w2 _ _, yes_of ⟨_, l2 _ _, _, hb2, ?_, fun c o e => ?_, ?_⟩⟩
      · rw [List.length_append, List.length_take]
        omega
      · rw [upd_ne (ne_of_none e hD)]
        exact s2 _ _ e
      · rw [upd_same, List.take_succ, ez, List.append_assoc]
        rfl
    · have e : j = ys.length := by omega
      subst e
      refine .inl ⟨⟨ys, same_T s2 hB, Nat.le_refl _⟩, s2, ?_⟩
      rw [hb2, et, List.take_length]
      simp
  · have e : i = xs.length := by omega
    subst e
    refine .inl ⟨⟨xs, same_T s1 hT, Nat.le_refl _⟩, hQ H s1 ?_⟩
    rw [hb, hlen, List.take_length]
end My
/-! the end of a law where some defs hold lambdas: their tables are empty when the law is called -/
namespace My
open PySem PySem.Spec PyProof.Rows L2 LamX
def Blank (K : PySem.W.Frag) (mg : Str → Option Value) (nms : List Str) (hp : Heap) : Prop := ∀ nm ∈ nms, ∀ g : Addr, mg nm = some (.ref g) → OwnTab K g hp
theorem walk_blank {lw : PySem.W.OpenLaw} {most lev : Nat} {pr : Program} {lo : List Str} {XQ : (Str → Option Value) → Heap → Prop} {YQ : World → Heap → Prop} {dr : DefRec} {KK : Params → PySem.W.Frag} {CQ : World → CXT} {par : Str} (nms : List Str)
    (e1 : lw.most = some most) (e2 : most ≤ sizeLine) (e3 : dr.params.defaults = []) (e4 : Room lev callerA) (e5 : (nms.all fun nm => (recsOf pr).any fun r => r.name == nm) = true) (e6 : ∀ (w0 : World) (hp : Heap), YQ w0 hp → (KK w0.params).In hp)
    (e7 : ∀ (w0 : World) (mg : Str → Option Value) (fa : Addr) (hp : Heap), YQ w0 hp → (KK w0.params).In hp → hp.Ns mainGlobals mg → mg dr.name = some (.ref fa) → Blank (KK w0.params) mg nms hp → LawAtS lw w0 (KK w0.params) (CQ w0) lev most par mg fa hp)
    (e8 : ∀ (w0 : World) (H : Hp) (z : Shared) (x : Value) (z' : Shared), CQ w0 [] H z (fun _ _ _ => False) x z' → False) :
    PySem.W.WalkO pr lo XQ YQ lw.row.toRowW dr [] (fun f vs => PySem.call f vs) := by
  refine Att.attach_callB e1 e3 fun w0 z0 z1 mg mb fa o pm cd doc a vs ns G Y _ _ _ hmg hob hin hle hbi hgo => ?_
  have KI := e6 w0 _ Y
  have bl : Blank (KK w0.params) mg nms z1.heap := fun nm hnm g hg c Pt o1 fd1 e dd vs1 sl a1 a2 a3 a4 a5 => by
    have hq : ((recsOf pr).any fun r => r.name == nm) = true := List.all_eq_true.mp e5 nm hnm
    obtain ⟨dq, hd1, hd2⟩ := List.any_eq_true.mp hq
    have hd3 : dq.name = nm := beq_iff_eq.mp hd2
    obtain ⟨a', o', fd', c', P', b1, b2, b3, b4, b5, b6⟩ := G.T.tab dq hd1
    rw [hd3, hg] at b1
    cases b1
    have g1 := KI _ _ a1
    rw [g1] at b2
    cases b2
    rw [a2] at b3
    cases b3
    rw [a3] at b4
    cases b4
    obtain ⟨⟨oc, vc, k1, _, k3, k4⟩, k5⟩ := b6
    have g2 := KI _ _ a4
    rw [g2] at k1
    cases k1
    cases k3
    rw [a5] at k4
    cases k4
    exact k5
  obtain ⟨fd, cs, sp, x1, x2, x3, x4, x5, x6⟩ := e7 w0 mg fa _ Y KI G.T.g hmg bl
  exact law_callTs KI G.T.g G.T.b G.T.builtins G.T.nolimit hgo x1 x2 x3 G.T.bmain hob hin (Nat.le_trans hle e2) e4 x6 x4 (fun H hH hS => x5 H a ns hle hbi hH hS) fun H x z' => e8 w0 H z1 x z'
end My
/-! len(x) and x[i] by own defs -/
namespace My
open PySem PySem.Spec L2 PyProof.Rows
section
variable {X : Cx} {k : Nat} {f C : Addr} {sp : Sp}
theorem runIn1 {pins : List (Addr × Obj)} {σ : L2.St} {H : Hp} {s : Shared} {Q : VK} {us : List Value} {vs : List V} (F : FnR X.prog X.w X.K X.mg X.base CX0 k f sp) (hr : Room (k + 1) X.A) (I : Inv X pins σ H s) (r : Vals vs us) (h : sp vs H Q E0) {Ex : Value → Shared → Prop} :
    wpAny (model X.prog X.w) X.A.in1 (call (.ref f) us) (EP X pins σ Q) Ex s := by
  refine wpAny_call (codeAny_mono (F X.A.in1 X.stack s H us vs Q E0 hr.in1 I.env0.in1 r h) fun rr s' hq => ?_)
  cases rr with
  | error e => exact False.elim hq
  | ok fl =>
    cases fl with
    | ret u => exact I.after hq
    | next => exact False.elim hq
    | brk => exact False.elim hq
    | cont => exact False.elim hq
def rLenO (C : Addr) (sp : Sp) : List V → Hp → VK → Prop := fun vs H Q => ∃ a dx fs, vs = [.ref a] ∧ H a = some (.ins C dx fs) ∧ sp [.ref a] H (fun v H' => ∃ n : Int, v = .int n ∧ 0 ≤ n ∧ n < 1000000 ∧ Q (.int n) H') E0
theorem cr_lenO (F : FnR X.prog X.w X.K X.mg X.base CX0 k f sp) (hr : Room (k + 1) X.A) (hs : PySem.W.findIn X.K (.ref C) "__len__" = some (some (.ref f))) (hf : PySem.W.isFn X.K (.ref f) = true) : CallR X (.builtin "len") (rLenO C sp) := by
  intro pins s σ H vs us Q I r h
  obtain ⟨a, dx, fs, rfl, ha, q⟩ := h
  rw [Vals.ref1 r]
  obtain ⟨mA, J, _⟩ := ins_get I.hok ha
  obtain ⟨od, J, _⟩ := J.look
  obtain ⟨m, hF⟩ := I.fr
  refine PySem.W.len_K hF I.ok.mod.kin J hs hf ?_
  refine wpAny_mono (runIn1 (vs := [V.ref a]) F hr I (.cons rfl .nil) q) (fun v s' ⟨z, H', I', rz, n, ez, n0, n1, q'⟩ => ?_) fun _ _ z => z
  subst ez
  obtain ⟨t, rfl⟩ := rz
  exact ⟨⟨n0, by omega⟩, .int n, H', I'.tok _, ⟨_, rfl⟩, q'⟩
def rIxO (C : Addr) (sp : Sp) : R2 := fun x y H Q => ∃ a dx fs i, x = .ref a ∧ y = .int i ∧ H a = some (.ins C dx fs) ∧ sp [.ref a, .int i] H Q E0
/-- x[i], x an object with its own __getitem__ -/
theorem pe_ixO {a b : Expr} {ta tb : TE} {pos : Pos} (F : FnR X.prog X.w X.K X.mg X.base CX0 k f sp) (hr : Room (k + 1) X.A) (hs : PySem.W.findIn X.K (.ref C) "__getitem__" = some (some (.ref f))) (hf : PySem.W.isFn X.K (.ref f) = true) (hfn : PySem.W.fnIn X.K f = true) (ha : PE X a ta) (hb : PE X b tb)
    (hsl : ∀ o i, subscripted b true o i = runValue (.builtin "lifetime.subscript" ⟨[o, i], []⟩) := by intro _ _; rfl) : PE X (.Subscript a b pos) (tOp (rIxO C sp) ta tb) := by
  refine ⟨fun pins s σ H Q I h => Subscript_ (binT ha hb I h fun v u s2 x y H2 I2 rx ry q => ?_)⟩
  obtain ⟨a, dx, fs, i, rfl, rfl, ha, q⟩ := q
  cases rx
  obtain ⟨t, rfl⟩ := ry
  obtain ⟨mA, J, _⟩ := ins_get I2.hok ha
  obtain ⟨od, J, _⟩ := J.look
  obtain ⟨m, hF⟩ := I2.fr
  exact PySem.W.sub_K hF I2.ok.mod.kin J hs hfn hf (runIn1 (vs := [V.ref a, V.int i]) F hr I2 (.cons rfl (.cons ⟨t, rfl⟩ .nil)) q) (hsl _ _)
end
end My
/-! lambdas that stand in a list and are called elsewhere -/
namespace My
open PySem PySem.Spec L2 LamX PyProof.Rows PySem.W PySem.Calls
/-- a lambda as it is written: no parameter, or one (dn) with the default 0 -/
structure Lm where
  params : Arguments
  body : Expr
  scope : Scope
  dn : Option Str
def LamO (q : Str) (m : Lm) (clo : List (Str × Addr)) (dV : Value) (f c' : Addr) : HO :=
  .ext fun h => ∃ doc pm ctv : Value, h.get? f = some (kdv_obj "<lambda>" q m.params (.expr m.body) m.scope clo dV doc pm c' ctv)
def Dfl (H : Hp) (m : Lm) (dV : Value) : Prop := (m.dn = none ∧ dV = .none) ∨ ∃ (a : Str) (t : Addr), m.dn = some a ∧ dV = .ref t ∧ H t = some (.tup [.int 0])
/-- v is the lambda m of the frame with these cells -/
def LamAt (q : Str) (cells : List (Str × Addr)) (m : Lm) (H : Hp) (v : V) : Prop :=
  ∃ (f c' : Addr) (dV : Value), v = .ref f ∧ H f = some (LamO q m (cloFrom cells m.scope.names []) dV f c') ∧ H c' = some (CodeO c' q) ∧ Dfl H m dV
theorem lamO_ne {q : Str} {m : Lm} {clo : List (Str × Addr)} {dV : Value} {f c' : Addr} (ps : Array Value) : LamO q m clo dV f c' ≠ .tbl ps := fun z => by
  unfold LamO at z
  cases z
theorem LamAt.extN {q : Str} {cells : List (Str × Addr)} {m : Lm} {H H' : Hp} {v : V} (h : LamAt q cells m H v) (e : ExtN H H') : LamAt q cells m H' v := by
  obtain ⟨f, c', dV, rfl, h1, h2, h3⟩ := h
  refine ⟨f, c', dV, rfl, e _ _ h1 (fun ps => lamO_ne ps), e _ _ h2 (fun ps => codeO_ne ps), ?_⟩
  rcases h3 with h3 | ⟨a, t, e1, e2, e3⟩
  · exact .inl h3
  · exact .inr ⟨a, t, e1, e2, e _ _ e3 (fun ps z => by cases z)⟩
theorem LamAt.same {q : Str} {cells : List (Str × Addr)} {m : Lm} {H H' : Hp} {v : V} (h : LamAt q cells m H v) (e : Same H H') : LamAt q cells m H' v := h.extN (ExtN.of e)
theorem LamAt.keep {q : Str} {cells : List (Str × Addr)} {m : Lm} {H H' : Hp} {v : V} {d : Addr} {ys : List V} (h : LamAt q cells m H v) (hd : H d = some (.lst ys)) (k : Keep d H H') : LamAt q cells m H' v := by
  obtain ⟨f, c', dV, rfl, h1, h2, h3⟩ := h
  refine ⟨f, c', dV, rfl, k _ _ (ne_of h1 hd (by intro z; unfold LamO at z; cases z)) h1, k _ _ (ne_of h2 hd (by intro z; unfold CodeO at z; cases z)) h2, ?_⟩
  rcases h3 with h3 | ⟨a, t, e1, e2, e3⟩
  · exact .inl h3
  · exact .inr ⟨a, t, e1, e2, k _ _ (ne_of e3 hd (by intro z; cases z)) e3⟩
theorem lamO_ok {P : Program} {w : World} {H : Hp} {h : Heap} {q : Str} {m : Lm} {clo : List (Str × Addr)} {dV doc pm ctv : Value} {f c' : Addr} (e : h.get? f = some (kdv_obj "<lambda>" q m.params (.expr m.body) m.scope clo dV doc pm c' ctv)) :
    ObjOk P w H h f (LamO q m clo dV f c') := ⟨⟨doc, pm, ctv, e⟩, ⟨_, e⟩, fun g1 g2 z k => by
  obtain ⟨d1, d2, d3, z⟩ := z
  exact ⟨d1, d2, d3, k _ z⟩⟩
section
variable {X : Cx} {pins : List (Addr × Obj)} {σ : L2.St} {H : Hp} {s : Shared}
/-- the tail of a lambda's making: it is tracked from now on -/
theorem lam_tail {T : List (Addr × Str)} {c P : Addr} {m : Lm} {pos : Pos} {E : Value → Shared → Prop} {Q : Value → Shared → Prop} {dV : Value} {fl : Nat} (I : Inv X pins σ H s) (TB : TabB X.base X.mg c P) (hcode : X.env.code = .ref c)
    (hm : (P, X.env.qual ++ "<lambda>") ∈ T) (hu : ∀ p ∈ T, p.1 = P → p.2 = X.env.qual ++ "<lambda>") (hT : Tabs T H) (hfree : ∀ y ∈ m.scope.names, y.2 = .free → ∃ c, X.env.cells.lookup y.1 = some c) (hdv : Dfl H m dV)
    (h : ∀ (f : Addr) (H1 : Hp) (s' : Shared), Inv X pins σ H1 s' → ExtN H H1 → Tabs T H1 → H f = none → LamAt (X.env.qual ++ "<lambda>") X.env.cells m H1 (.ref f) → Q (.ref f) s') :
    wpAny (model X.prog X.w) X.A (makeTail "<lambda>" (X.env.qual ++ "<lambda>") m.params (.expr m.body) m.scope X.env dV .none none pos fl) Q E s := by
  obtain ⟨ps, hP, ht, ha⟩ := hT _ hm
  have bP : s.heap.BuiltinsAt X.mg P := TB.bm.keeps I.bk
  have hP' : s.heap.get? P = some { cls := .none, data := .fields ps } := I.hok P _ hP
  have dx : ∀ {H1 : Hp}, ExtN H H1 → Dfl H1 m dV := fun {H1} e => by
    rcases hdv with z | ⟨a, t, e1, e2, e3⟩
    · exact .inl z
    · exact .inr ⟨a, t, e1, e2, e _ _ e3 (fun ps z => by cases z)⟩
  cases hc : codeAmong pos ps.toList with
  | none =>
    refine kdv_makeTail (mg := X.mg) (c := c) (P := P) (ps := ps) (closure_ok hfree) I.ok.glob (I.mod.glob.keeps I.bk) hcode (TB.code.keeps I.bk) hP' ht hc TB.gP bP fun c' ctv doc h' tk hx hge hlt hrec htb => ?_
    obtain ⟨c2, oc, vs, t, e2, hoc, hd, hv⟩ := hrec
    cases e2
    have hsz : s.heap.objs.size ≤ h'.objs.size := Nat.le_trans hge (Nat.le_of_lt hlt)
    have nC : H c' = none := I.hok.fresh hge
    have I1 := inv_table (t' := tk) (more := #[rawInt pos.line, rawInt pos.col, .ref c']) (h' := h') (q := X.env.qual ++ "<lambda>") I hP (fun b o hb e => hx b o hb e) htb hge ⟨oc, vs, t, hoc, hd, hv⟩
    have hE : ExtN H (upd (upd H P (.tbl (ps ++ #[rawInt pos.line, rawInt pos.col, .ref c']))) c' (CodeO c' (X.env.qual ++ "<lambda>"))) := fun b o e n => by
      rw [upd_ne (ne_of_none e nC), upd_ne (fun z => n ps (Option.some.inj (e.symm.trans (by rw [z]; exact hP))))]
      exact e
    have eL : (ps ++ #[rawInt pos.line, rawInt pos.col, .ref c']).toList = ps.toList ++ [rawInt pos.line, rawInt pos.col, .ref c'] := by simp
    have nF : H h'.objs.size = none := I.hok.fresh hsz
    have n1 : h'.objs.size ≠ c' := Nat.ne_of_gt hlt
    have n2 : h'.objs.size ≠ P := Nat.ne_of_gt (Nat.lt_of_lt_of_le (Heap.lt_size hP') hsz)
    have tb : Tabs T (upd (upd H P (.tbl (ps ++ #[rawInt pos.line, rawInt pos.col, .ref c']))) c' (CodeO c' (X.env.qual ++ "<lambda>"))) := fun p hp => by
      by_cases hb : p.1 = P
      · rw [hu p hp hb, hb]
        refine ⟨_, by rw [upd_ne (ne_of_none hP nC), upd_same], by rw [eL]; exact PySem.TriplesOk_snoc _ _ _ _ ht, fun p' cv hcv => ?_⟩
        rw [eL] at hcv
        rcases among_app _ ht hcv with z | z
        · obtain ⟨c0, e1, e2⟩ := ha p' cv z
          exact ⟨c0, e1, hE _ _ e2 codeO_ne⟩
        · exact ⟨c', z, upd_same⟩
      · obtain ⟨ps', a1, a2, a3⟩ := hT p hp
        refine ⟨ps', by rw [upd_ne (ne_of_none a1 nC), upd_ne hb]; exact a1, a2, fun p' cv hcv => ?_⟩
        obtain ⟨c0, e1, e2⟩ := a3 p' cv hcv
        exact ⟨c0, e1, hE _ _ e2 codeO_ne⟩
    have hco : upd (upd H P (.tbl (ps ++ #[rawInt pos.line, rawInt pos.col, .ref c']))) c' (CodeO c' (X.env.qual ++ "<lambda>")) c' = some (CodeO c' (X.env.qual ++ "<lambda>")) := upd_same
    have nF1 : upd (upd H P (.tbl (ps ++ #[rawInt pos.line, rawInt pos.col, .ref c']))) c' (CodeO c' (X.env.qual ++ "<lambda>")) h'.objs.size = none := by rw [upd_ne n1, upd_ne n2]; exact nF
    generalize upd (upd H P (.tbl (ps ++ #[rawInt pos.line, rawInt pos.col, .ref c']))) c' (CodeO c' (X.env.qual ++ "<lambda>")) = H1 at *
    have I2 := I1.laid (a := h'.objs.size) (o := LamO (X.env.qual ++ "<lambda>") m (cloFrom X.env.cells m.scope.names []) dV h'.objs.size c') (t' := tk) (h' := h'.push (kdv_obj "<lambda>" (X.env.qual ++ "<lambda>") m.params (.expr m.body) m.scope (cloFrom X.env.cells m.scope.names []) dV doc ((X.mg "__name__").getD .none) c' ctv))
      (fun b o e => Heap.get?_push_of_some _ e) (Nat.le_refl _) (lamO_ok (Heap.get?_push_size _ rfl))
    have sm := same_new nF1 (LamO (X.env.qual ++ "<lambda>") m (cloFrom X.env.cells m.scope.names []) dV h'.objs.size c')
    exact h _ _ _ I2 (hE.trans (ExtN.of sm)) (tb.ext sm) nF ⟨_, c', dV, rfl, upd_same, sm _ _ hco, dx (hE.trans (ExtN.of sm))⟩
  | some cv =>
    obtain ⟨c', e, hco⟩ := ha pos cv hc
    subst e
    refine kdv_makeTailHit (mg := X.mg) (c := c) (P := P) (ps := ps) (closure_ok hfree) I.ok.glob (I.mod.glob.keeps I.bk) hcode (TB.code.keeps I.bk) hP' ht hc bP fun ctv doc h' tk hx hsz => ?_
    have nF : H h'.objs.size = none := I.hok.fresh hsz
    have I2 := I.laid (a := h'.objs.size) (o := LamO (X.env.qual ++ "<lambda>") m (cloFrom X.env.cells m.scope.names []) dV h'.objs.size c') (t' := tk) (h' := h'.push (kdv_obj "<lambda>" (X.env.qual ++ "<lambda>") m.params (.expr m.body) m.scope (cloFrom X.env.cells m.scope.names []) dV doc ((X.mg "__name__").getD .none) c' ctv))
      (fun b o e => Heap.get?_push_of_some _ (hx b o e)) hsz (lamO_ok (Heap.get?_push_size _ rfl))
    have sm := same_new nF (LamO (X.env.qual ++ "<lambda>") m (cloFrom X.env.cells m.scope.names []) dV h'.objs.size c')
    exact h _ _ _ I2 (ExtN.of sm) (hT.ext sm) nF ⟨_, c', dV, rfl, upd_same, sm _ _ hco, dx (ExtN.of sm)⟩
end
/-- the lambda's names: captured ones and globals; its own parameter is none of the frame's names -/
structure LamSD (sc scope : Scope) (N : List Str) (dn : Option Str) : Prop where
  kind : scope.kind = .function
  co : scope.isCoroutine = false
  gen : scope.isGenerator = false
  own : ∀ y ∈ scope.names, y.2 ≠ .cell ∧ (y.2 = .local → y.1 ∉ N)
  free : ∀ y ∈ scope.names, y.2 = .free → sc.names.lookup y.1 = some .cell ∨ sc.names.lookup y.1 = some .free
  par : ∀ a, dn = some a → scope.names.lookup a = some .local
def lamSDB (sc scope : Scope) (N : List Str) (dn : Option Str) : Bool :=
  decide (scope.kind = .function) && !scope.isCoroutine && !scope.isGenerator && (scope.names.all fun y => !decide (y.2 = .cell) && (!decide (y.2 = .local) || decide (y.1 ∉ N)) && (!decide (y.2 = .free) || decide (sc.names.lookup y.1 = some .cell) || decide (sc.names.lookup y.1 = some .free))) &&
    (match dn with | none => true | some a => decide (scope.names.lookup a = some .local))
theorem lamSD_by {sc scope : Scope} {N : List Str} {dn : Option Str} (h : lamSDB sc scope N dn = true) : LamSD sc scope N dn := by
  unfold lamSDB at h
  simp only [Bool.and_eq_true, Bool.or_eq_true, Bool.not_eq_true', decide_eq_true_eq, decide_eq_false_iff_not, List.all_eq_true] at h
  obtain ⟨⟨⟨⟨h1, h2⟩, h3⟩, h4⟩, h5⟩ := h
  refine ⟨h1, h2, h3, fun y hy => ⟨(h4 y hy).1.1, fun e => ?_⟩, fun y hy e => ?_, fun a e => ?_⟩
  · rcases (h4 y hy).1.2 with z | z
    · exact absurd e z
    · exact z
  · rcases (h4 y hy).2 with (z | z) | z
    · exact absurd e z
    · exact .inl z
    · exact .inr z
  · rw [e] at h5
    exact of_decide_eq_true h5
theorem LamSD.has {X : Cx} {scope : Scope} {N : List Str} {dn : Option Str} (L : LamSD X.env.scope scope N dn) (ok : X.Ok) : ∀ y ∈ scope.names, y.2 = .free → ∃ c, X.env.cells.lookup y.1 = some c := fun y hy e => by
  rcases L.free y hy e with k | k
  · exact ok.has _ (.inl k)
  · exact ok.has _ (.inr k)
structure LmOk (X : Cx) (m : Lm) : Prop where
  S : LamSD X.env.scope m.scope X.N m.dn
  b0 : m.dn = none → ∀ (q : Str) (cl : List (Str × Addr)) (doc pm cv ctv : Value), bindArgs (kdv_fn "<lambda>" q m.params (.expr m.body) m.scope cl .none doc pm cv ctv) ⟨[], []⟩ = pure []
  b1 : ∀ a, m.dn = some a → ∀ (q : Str) (cl : List (Str × Addr)) (t : Addr) (doc pm cv ctv v : Value), ∃ k, bindArgs (kdv_fn "<lambda>" q m.params (.expr m.body) m.scope cl (.ref t) doc pm cv ctv) ⟨[], []⟩ = seqItems? (.ref t) >>= k ∧ k (some #[v]) = pure [(a, v)]
/-- v is a lambda of the frame X, t its reading -/
def LamT (X : Cx) (k : Nat) (t : XK → TE) (H : Hp) (v : V) : Prop :=
  ∃ m : Lm, LmOk X m ∧ (∀ (A : Around) (outer : List Env) (s : Shared) (H : Hp) (E : XK) (f c' : Addr), Room k (A.deeper (lamEnv X m.scope s.heap.objs.size f c')) → PE (lamCx X A outer s H E m.scope f c') m.body (t E)) ∧ LamAt (X.env.qual ++ "<lambda>") X.env.cells m H v
theorem LamT.extN {X : Cx} {k : Nat} {t : XK → TE} {H H' : Hp} {v : V} (h : LamT X k t H v) (e : ExtN H H') : LamT X k t H' v := by
  obtain ⟨m, a, b, c⟩ := h
  exact ⟨m, a, b, c.extN e⟩
theorem LamT.same {X : Cx} {k : Nat} {t : XK → TE} {H H' : Hp} {v : V} (h : LamT X k t H v) (e : Same H H') : LamT X k t H' v := h.extN (ExtN.of e)
theorem LamT.keep {X : Cx} {k : Nat} {t : XK → TE} {H H' : Hp} {v : V} {d : Addr} {ys : List V} (h : LamT X k t H v) (hd : H d = some (.lst ys)) (e : Keep d H H') : LamT X k t H' v := by
  obtain ⟨m, a, b, c⟩ := h
  exact ⟨m, a, b, c.keep hd e⟩
def tLamV (X : Cx) (T : List (Addr × Str)) (k : Nat) (t : XK → TE) : TE := fun _ H Q => Tabs T H ∧ ∀ H1 f, ExtN H H1 → Tabs T H1 → H f = none → LamT X k t H1 (.ref f) → Q (.ref f) H1
section
variable {X : Cx}
/-- lambda: body, as a value -/
theorem pe_lamV0 {k : Nat} {t : XK → TE} {T : List (Addr × Str)} {c P : Addr} {params : Arguments} {body : Expr} {scope : Scope} {pos : Pos} (TB : TabB X.base X.mg c P) (hcode : X.env.code = .ref c) (hmT : (P, X.env.qual ++ "<lambda>") ∈ T) (hu : ∀ p ∈ T, p.1 = P → p.2 = X.env.qual ++ "<lambda>")
    (L : LmOk X ⟨params, body, scope, none⟩) (hdef : defaultsOf params X.env = ([], []))
    (hbody : ∀ (A : Around) (outer : List Env) (s : Shared) (H : Hp) (E : XK) (f c' : Addr), Room k (A.deeper (lamEnv X scope s.heap.objs.size f c')) → PE (lamCx X A outer s H E scope f c') body (t E))
    : PE X (.Lambda params body scope pos) (tLamV X T k t) := by
  refine ⟨fun pins s σ H Q I h => ?_⟩
  obtain ⟨hT, h⟩ := h
  refine PySem.W.kla_eval hdef ?_
  rw [makeFunction_eq]
  simp only [List.zip_nil_right, List.filterMap_nil, List.isEmpty_nil, if_true, pure_bind]
  exact lam_tail (m := ⟨params, body, scope, none⟩) I TB hcode hmT hu hT (L.S.has I.ok) (.inl ⟨rfl, rfl⟩) fun f H1 s' I1 eN T1 hf la => ⟨.ref f, H1, I1, rfl, h H1 f eN T1 hf ⟨_, L, hbody, la⟩⟩
/-- lambda a=0: body, as a value -/
theorem pe_lamV1 {k : Nat} {t : XK → TE} {T : List (Addr × Str)} {c P : Addr} {params : Arguments} {body : Expr} {scope : Scope} {pos pc : Pos} {a : Str} {j : Nat} (TB : TabB X.base X.mg c P) (hcode : X.env.code = .ref c) (hmT : (P, X.env.qual ++ "<lambda>") ∈ T) (hu : ∀ p ∈ T, p.1 = P → p.2 = X.env.qual ++ "<lambda>")
    (L : LmOk X ⟨params, body, scope, some a⟩) (hdef : params.defaults = [.Constant (.int 0) j pc]) (hk0 : params.kw_defaults = [])
    (hbody : ∀ (A : Around) (outer : List Env) (s : Shared) (H : Hp) (E : XK) (f c' : Addr), Room k (A.deeper (lamEnv X scope s.heap.objs.size f c')) → PE (lamCx X A outer s H E scope f c') body (t E))
    : PE X (.Lambda params body scope pos) (tLamV X T k t) := by
  refine ⟨fun pins s σ H Q I h => ?_⟩
  obtain ⟨hT, h⟩ := h
  refine kdv_lam (by rw [hdef]; rfl) hk0 ?_
  rw [hdef]
  refine kdv_all1 (thn ((pe_int (X := X) (i := 0) (j := j) (pos := pc)).run pins s σ H (fun v H' => v = .int 0 ∧ H' = H) I ⟨rfl, rfl⟩) fun u s1 hz => kdv_all0 ?_)
  obtain ⟨v, H1, I1, r1, rfl, rfl⟩ := hz
  rw [makeFunction_eq]
  simp only [List.zip_nil_right, List.filterMap_nil, List.isEmpty_nil, if_true, pure_bind, List.isEmpty_cons, Bool.false_eq_true, if_false]
  refine wpAny_bind (wpAny_newTextTuple ?_)
  have nt : H1 s1.heap.objs.size = none := I1.hok.fresh (Nat.le_refl _)
  have I2 := I1.laid (a := s1.heap.objs.size) (o := .tup [.int 0]) (t' := s1.toks) (h' := s1.heap.push { cls := .type "tuple", data := .seq [u].toArray }) (fun b o e => Heap.get?_push_of_some _ e) (Nat.le_refl _)
    ⟨(by show 1 ≤ sizeLine; decide), [u], .cons r1 .nil, _, Heap.get?_push_size _ rfl, rfl, _, rfl⟩
  have sm := same_new nt (.tup [.int 0])
  exact lam_tail (m := ⟨params, body, scope, some a⟩) I2 TB hcode hmT hu (hT.ext sm) (L.S.has I.ok) (.inr ⟨a, _, rfl, rfl, upd_same⟩) fun f H2 s' I3 eN T1 hf la => ⟨.ref f, H2, I3, rfl, h H2 f ((ExtN.of sm).trans eN) T1 (by
    by_cases e : f = s1.heap.objs.size
    · rw [e]; exact nt
    · rw [upd_ne e] at hf; exact hf) ⟨_, L, hbody, la⟩⟩
end
/-! ### a frame's cells as a part of the base -/
structure LamB (X : Cx) (σ : L2.St) (b : Heap) : Prop where
  ok : X.Ok
  sub : ∀ a o, X.base.get? a = some o → b.get? a = some o
  size : X.base.objs.size ≤ b.objs.size
  cell : ∀ x c, X.env.cells.lookup x = some c → ∃ v, b.IsCell c v
  val : ∀ (i : Nat) (x : Str) (v : V) (c : Addr), X.N[i]? = some x → σ[i]? = some (some v) → (X.env.scope.names.lookup x = some .cell ∨ X.env.scope.names.lookup x = some .free) → X.env.cells.lookup x = some c → ∃ u, RelV v u ∧ b.IsCell c (some u)
  len : σ.length = X.N.length
def bigB (X : Cx) (H : Hp) (h : Heap) : Heap := hideAll h (trk h H ++ frs X.stack)
theorem funs_re {h b b' : Heap} : ∀ {l : List Env}, h.FunFrames b l → (∀ a ∈ frs l, b'.get? a = none) → h.FunFrames b' l
  | [], _, _ => trivial
  | env :: r, ⟨hk, ⟨L, o, hf, hn, ho, hd⟩, hr⟩, q => by
    have mem : ∀ a ∈ frs r, a ∈ frs (env :: r) := fun a ha => by unfold frs; rw [List.filterMap_cons, hf]; exact List.mem_cons_of_mem _ ha
    exact ⟨hk, ⟨L, o, hf, q L (by unfold frs; rw [List.filterMap_cons, hf]; exact List.mem_cons_self), ho, hd⟩, funs_re hr fun a ha => q a (mem a ha)⟩
section
variable {X : Cx} {pins : List (Addr × Obj)} {σ : L2.St} {H : Hp} {s : Shared}
theorem big_get {h : Heap} {a : Addr} {o : Obj} (e : h.get? a = some o) (n : H a = none) (nf : a ∉ frs X.stack) : (bigB X H h).get? a = some o :=
  hideAll_get _ e fun hm => by
    rcases List.mem_append.mp hm with z | z
    · have q : (H a).isSome = true := (List.mem_filter.mp z).2
      rw [n] at q
      cases q
    · exact nf z
theorem of_big {h : Heap} {a : Addr} {o : Obj} (e : (bigB X H h).get? a = some o) : h.get? a = some o ∧ H a = none := by
  have e' : h.get? a = some o := of_hideAll _ e
  refine ⟨e', ?_⟩
  cases q : H a with
  | none => rfl
  | some x =>
    have hm : a ∈ trk h H ++ frs X.stack := List.mem_append.mpr (.inl (List.mem_filter.mpr ⟨List.mem_range.mpr (Heap.lt_size e'), by simp [q]⟩))
    have z : (bigB X H h).get? a = none := hideAll_none _ hm
    rw [z] at e
    cases e
theorem big_sub (I : Inv X pins σ H s) : ∀ a o, X.base.get? a = some o → (bigB X H s.heap).get? a = some o := fun a o e => by
  obtain ⟨h1, h2⟩ := I.bs a o e
  refine big_get h1 h2 fun z => ?_
  rcases List.mem_cons.mp (I.stkSub a z) with z | z
  · have l1 := Heap.lt_size e
    have l2 := Nat.le_trans I.ok.bsz I.ok.above
    rw [z] at l1
    exact Nat.lt_irrefl _ (Nat.lt_of_lt_of_le l1 l2)
  · exact I.ok.nofr e z
theorem big_mod (I : Inv X pins σ H s) : Mod X.K X.mg (bigB X H s.heap) := by
  have k := big_sub I
  obtain ⟨mb, h1, h2⟩ := I.mod.blt
  exact ⟨I.mod.kin.keeps k, I.mod.glob.keeps k, ⟨mb, h1.keeps k, h2⟩, I.mod.nolimit.keeps k⟩
theorem big_env0 (I : Inv X pins σ H s) : Env0 X.prog X.w X.K X.mg (bigB X H s.heap) X.A X.stack s H :=
  ⟨I.ok.frames, big_mod I, fun a o e => of_big e, by unfold bigB; rw [hideAll_size]; exact Nat.le_refl _, funs_re I.stack fun a ha => hideAll_none _ (List.mem_append.mpr (.inr ha)), I.stkFree, I.hok, I.bare⟩
theorem lamB_of (I : Inv X pins σ H s) (hfn : ∀ x, X.fn x = true) : LamB X σ (bigB X H s.heap) := by
  have nf : ∀ x c, X.env.cells.lookup x = some c → c ∉ frs X.stack := fun x c e z => by
    rcases List.mem_cons.mp (I.stkSub c z) with z | z
    · exact I.cne x c e z
    · obtain ⟨_, o, ho, _⟩ := I.ok.funs.mem z
      have l1 := Heap.lt_size ho
      have l2 := I.ok.cab x c (hfn x) e
      exact Nat.lt_irrefl _ (Nat.lt_of_lt_of_le l1 l2)
  have up : ∀ x c v, X.env.cells.lookup x = some c → s.heap.IsCell c v → (bigB X H s.heap).IsCell c v := fun x c v e ⟨o, ho, hd⟩ => ⟨o, big_get ho (I.freeC x c e) (nf x c e), hd⟩
  refine ⟨I.ok, big_sub I, ?_, fun x c e => ?_, fun i x v c e1 e2 e3 e4 => ?_, I.len⟩
  · unfold bigB
    rw [hideAll_size]
    exact Nat.le_trans I.ok.bsz I.sz
  · obtain ⟨v, z⟩ := I.cell x c e
    exact ⟨v, up x c v e z⟩
  · obtain ⟨m, _, hl⟩ := I.loc
    obtain ⟨u, r, q⟩ := hl i x v e1 e2 (.inr e3)
    refine ⟨u, r, ?_⟩
    rcases q with ⟨k, _⟩ | ⟨_, c2, k2, z⟩
    · have k : X.env.scope.names.lookup x = some .local := k
      rcases e3 with e3 | e3 <;> rw [e3] at k <;> cases k
    · rw [e4] at k2
      cases k2
      exact up x c _ e4 z
theorem lam_startB {A : Around} {outer : List Env} {E : XK} {scope : Scope} {dn : Option Str} {f c' : Addr} {b h₁ : Heap} {tk : Nat} {HZ : Hp} {s1 : Shared} {bs : List (Str × Value)} (B : LamB X σ b) (L : LamSD X.env.scope scope X.N dn) (e0 : Env0 X.prog X.w X.K X.mg b A outer s1 HZ) (hd : A.handled = none)
    (hns : h₁.Ns s1.heap.objs.size fun y => bs.reverse.lookup y) (kp : ∀ b o, s1.heap.get? b = some o → h₁.get? b = some o) :
    Inv (lamCx X A outer s1 HZ E scope f c') [] σ HZ { s1 with heap := h₁, toks := tk } := by
  have hfree := L.has B.ok
  have cm : ∀ {y c}, (cloFrom X.env.cells scope.names []).lookup y = some c → X.env.cells.lookup y = some c := fun {y c} e => by
    rcases cloFrom_mem (PySem.mem_of_lookup e) with hm | ⟨h1, h2⟩
    · cases hm
    · obtain ⟨c1, hc⟩ := hfree _ h1 rfl
      have hc : X.env.cells.lookup y = some c1 := hc
      have e2 : c = c1 := by
        rw [h2, hc] <;> rfl
      rw [e2]
      exact hc
  have look : ∀ {y}, scope.names.lookup y = some .free → ∃ c, (cloFrom X.env.cells scope.names []).lookup y = some c := fun {y} hl => mem_lookup (cloFrom_has (cells := X.env.cells) (acc := []) (PySem.mem_of_lookup hl))
  have cellK : ∀ {c : Addr} {v : Option Value}, b.IsCell c v → h₁.IsCell c v := fun {c v} ⟨o, ho, hd⟩ => ⟨o, kp _ _ (e0.bs c o ho).1, hd⟩
  have noA : ∀ b : Addr, b ∉ (lamCx X A outer s1 HZ E scope f c').ex := fun b z => absurd (show b ∈ ([] : List Addr) from z) (by simp)
  have fb : ∀ a, b.get? a = none → X.base.get? a = none := fun a n => by
    cases e : X.base.get? a with
    | none => rfl
    | some o => rw [B.sub a o e] at n; cases n
  refine ⟨⟨B.ok.mod, L.kind, rfl, rfl, Nat.le_refl _, fun y z c e1 e2 => B.ok.inj y z c (cm e1) (cm e2), fun y hy => ?_, fun y c z _ => ?_, fun _ => hd, Around.frames_deeper e0.frames, .inr ⟨rfl, rfl⟩, fun b z => absurd z (noA b), fun a o e => e0.bs a o (B.sub a o e), Nat.le_trans B.size e0.bsz, fun b _ _ => noA b,
      fun b z => absurd z (noA b), funs_re e0.funs fun a ha => fb a (e0.funs.mem ha).1, e0.frf⟩,
    rfl, e0.bare, Un.kept kp, ⟨_, hns, fun i y v e1 e2 e3 => ?_⟩, fun y c e => ?_, e0.hok.fresh (Nat.le_refl _), fun y c e => ?_, fun q hq => absurd (show q ∈ ([] : List (Addr × Obj)) ++ [] from hq) (by simp), e0.hok.kept kp, B.len⟩
  · have hy : scope.names.lookup y = some .cell ∨ scope.names.lookup y = some .free := hy
    rcases hy with hy | hy
    · exact absurd rfl (L.own _ (PySem.mem_of_lookup hy)).1
    · exact look hy
  · have z : false = true := z
    cases z
  · have e1 : X.N[i]? = some y := e1
    have e3 : Vis scope y := e3
    rcases e3 with k | k | k
    · exact absurd (List.mem_of_getElem? e1) ((L.own _ (PySem.mem_of_lookup k)).2 rfl)
    · exact absurd rfl (L.own _ (PySem.mem_of_lookup k)).1
    · obtain ⟨c2, h2⟩ := look k
      obtain ⟨u, r, z⟩ := B.val i y v c2 e1 e2 (L.free _ (PySem.mem_of_lookup k) rfl) (cm h2)
      exact ⟨u, r, .inr ⟨.inr k, c2, h2, cellK z⟩⟩
  · obtain ⟨v, z⟩ := B.cell y c (cm e)
    exact ⟨v, cellK z⟩
  · obtain ⟨v, o, ho, _⟩ := B.cell y c (cm e)
    exact (e0.bs c o ho).2
/-- x(), in a def that got the lambda m; b: a base with the cells of m's frame -/
theorem pe_actB {CXg : CXT} {Eg : XK} {Ng : List Str} {qg : Str} {sg : Scope} {g : Addr} {cdg : Value} {m : Lm} {k i : Nat} {a : Str} {pn : List (Addr × Obj)} {xe : Value → Shared → Prop} {W : WX} {E : XK} {tb : TE} {p1 p2 : Pos} {b : Heap} {AZ : Around} {outZ : List Env} {s0 : Shared} {H0 : Hp}
    (B : LamB X σ b) (L : LmOk X m) (tk : Takes ((cxOf CXg X.prog X.w X.K X.mg b Ng qg sg g cdg AZ outZ s0 H0 Eg).tr pn xe) W) (hW : ∀ cls d σ' H', E cls d H' → W cls d σ' H') (hr : Room (k + 1) (AZ.deeper (envOfC qg sg s0.heap.objs.size g cdg)))
    (hbody : ∀ (A : Around) (outer : List Env) (s : Shared) (H : Hp) (f c' : Addr), Room k (A.deeper (lamEnv X m.scope s.heap.objs.size f c')) → PE (lamCx X A outer s H E m.scope f c') m.body tb)
    (hN : Ng[i]? = some a) (hv : Vis sg a) (hd : (a == ("__debug__" : Str)) = false := by decide) (hcd : (a == ("__classdict__" : Str)) = false := by decide) :
    PE ((cxOf CXg X.prog X.w X.K X.mg b Ng qg sg g cdg AZ outZ s0 H0 Eg).tr pn xe) (.Call (.Name a p1) [] [] p2)
      (fun σZ HZ Q => ∃ v, σZ[i]? = some (some v) ∧ LamAt (X.env.qual ++ "<lambda>") X.env.cells m HZ v ∧ tb σ HZ Q) := by
  refine ⟨fun pinsZ sZ σZ HZ Q IZ h => ?_⟩
  obtain ⟨v, hs, ⟨f, c', dV, rfl, hf, hc, hdv⟩, ht⟩ := h
  refine wpAny_Call_Name_kw (thn ((pe_var (pos := p1) (i := i) hN hv hd hcd).run pinsZ sZ σZ HZ (fun v H1 => v = .ref f ∧ H1 = HZ) IZ ⟨.ref f, hs, rfl, rfl⟩) fun u s1 ⟨v, H1, I1, r1, q1⟩ => ?_)
  obtain ⟨ev, eH⟩ := q1
  subst ev
  rw [eH] at I1
  obtain rfl : u = Value.ref f := r1
  obtain ⟨⟨doc, pm, ctv, of1⟩, _, _⟩ := I1.hok f _ hf
  refine PySem.W.callWith_F0 ⟨_, _, _, _, of1⟩ ?_
  obtain ⟨⟨oc, vs, t, hoc, hdc, hvc⟩, _, _⟩ := I1.hok c' _ hc
  have bd : ∃ bs : List (Str × Value), BindsTo s1 (kdv_fn "<lambda>" (X.env.qual ++ "<lambda>") m.params (.expr m.body) m.scope (cloFrom X.env.cells m.scope.names []) dV doc pm (.ref c') ctv) ⟨[], []⟩ bs ∧ ∀ y ∈ bs, m.scope.names.lookup y.1 = some .local := by
    rcases hdv with ⟨e1, rfl⟩ | ⟨a', tt, e1, rfl, e3⟩
    · exact ⟨[], .of_eq (L.b0 e1 _ _ _ _ _ _), fun y hy => by cases hy⟩
    · obtain ⟨_, its, rv, o, ho, _, n, hn⟩ := I1.hok tt _ e3
      obtain ⟨v0, rfl⟩ : ∃ v0, its = [v0] := by
        cases rv with
        | cons _ r => cases r; exact ⟨_, rfl⟩
      obtain ⟨kk, h1, h2⟩ := L.b1 a' e1 (X.env.qual ++ "<lambda>") (cloFrom X.env.cells m.scope.names []) tt doc pm (.ref c') ctv v0
      exact ⟨[(a', v0)], BindsTo.of_defaults (T := tt) rfl ho hn h1 h2, fun y hy => by rw [List.mem_singleton.mp hy]; exact L.S.par a' e1⟩
  obtain ⟨bs, hb, hl⟩ := bd
  have rc : codeAny (model X.prog X.w) (AZ.deeper (envOfC qg sg s0.heap.objs.size g cdg)) (.call (.ref f) ⟨[], []⟩) (CR (L2.CX X.prog X.w) (envOfC qg sg s0.heap.objs.size g cdg :: outZ) X.prog X.w HZ s1 Q E) s1 := by
    refine PySem.W.kla_callFunE hr.depth of1 rfl L.S.co L.S.gen rfl ⟨c', oc, vs, t, rfl, hoc, hdc, hvc⟩ (hb _ _ _ _ ?_)
    refine wpAny_newFunctionEnv (fun y hy => (L.S.own y hy).1) hl (fun h₁ hns hsb => ⟨I1.nolimit.fresh _ hsb, ?_⟩) L.S.kind
    show codeAny _ _ (.expr m.body (lamEnv X m.scope s1.heap.objs.size f c')) _ _
    have kp : ∀ b o, s1.heap.get? b = some o → h₁.get? b = some o := fun b o e => hsb.extBut b o (Nat.ne_of_lt (Heap.lt_size e)) (Heap.get?_push_of_some _ e)
    have J : Inv (lamCx X (AZ.deeper (envOfC qg sg s0.heap.objs.size g cdg)) (envOfC qg sg s0.heap.objs.size g cdg :: outZ) s1 HZ E m.scope f c') [] σ HZ { s1 with heap := h₁, toks := s1.toks + bs.length } :=
      lam_startB B L.S I1.env0 hr.hd hns kp
    refine PySem.W.kla_codeExpr (wpAny_mono ((hbody _ _ s1 HZ f c' (hr.deeper _)).run [] _ _ HZ Q J ht) (fun v s' hq => ?_) fun e s' hq => hq)
    obtain ⟨w', H', J', rv, q⟩ := hq
    exact ⟨w', H', J'.os, J'.bare, J'.base, J'.hok, rv, q⟩
  have hx : Passes (L2.CX X.prog X.w) ((cxOf CXg X.prog X.w X.K X.mg b Ng qg sg g cdg AZ outZ s0 H0 Eg).tr pn xe) E := passes_call tk hW
  refine wpAny_call (codeAny_mono rc fun r s' hq => ?_)
  cases r with
  | error e => exact hx pinsZ σZ HZ s1 e s' I1 hq
  | ok fl =>
    cases fl with
    | ret u => exact I1.after hq
    | next => exact False.elim hq
    | brk => exact False.elim hq
    | cont => exact False.elim hq
/-- the def that calls what it got, over a base with the cells -/
def sp_errB (X : Cx) (k : Nat) (σ : L2.St) (TT : (XK → Hp → VK → Prop) → Hp → VK → Prop) : Sp := fun vs H Q _ => ∃ v t, vs = [v] ∧ LamT X k t H v ∧ TT (fun E H' Q' => (∀ m, LamAt (X.env.qual ++ "<lambda>") X.env.cells m H v → LamAt (X.env.qual ++ "<lambda>") X.env.cells m H' v) ∧ t E σ H' Q') H Q
theorem errB {TT : (XK → Hp → VK → Prop) → Hp → VK → Prop} {x a : Str} {g : Addr} {k : Nat} {pg : Arguments} {bg : List Stmt} {sg : Scope} {dV kV doc pm cdv ct oc : Value} {an od : Option Addr} {osl : Array (Option Value)} {Ng : List Str} {b : Heap}
    (lk : X.K.lookup g = some ⟨oc, od, .func (PySem.W.fnOf x x pg bg sg dV kV doc pm an cdv ct), osl⟩) (hcg : PySem.W.codeIn X.K cdv x = true) (hb : L2.Binds X.K (PySem.W.fnOf x x pg bg sg dV kV doc pm an cdv ct) [a] []) (Sg : FnScope Ng [a] sg) (hNg : Ng[0]? = some a) (hva : Vis sg a)
    (hG : ∀ (A : Around) (outer : List Env), GivesTo { X with base := b, A := A, stack := outer } Ng x sg g cdv bg a (X.env.qual ++ "<lambda>") TT) (B : LamB X σ b)
    (hd : (a == ("__debug__" : Str)) = false := by decide) (hcd : (a == ("__classdict__" : Str)) = false := by decide) :
    FnR X.prog X.w X.K X.mg b C8.CX0 (k + 2) g (sp_errB X k σ TT) := by
  intro A outer s H us vs Q E hr e0 r h
  obtain ⟨v, t, rfl, ⟨m, L, hbody, la⟩, h⟩ := h
  obtain ⟨f, c', dV, rfl, hf, hc, hdv⟩ := id la
  cases r with
  | cons rx rr =>
    cases rr
    cases rx
    have e00 : Env0 X.prog X.w X.K X.mg b A outer s H := e0
    have kin : X.K.In s.heap := e0.mod.kin.keeps fun b o e => (e0.bs b o e).1
    refine codeAny_mono (run_ofS (CX := C8.CX0) (N := Ng) (ps := [a]) (us := [.ref f]) (vs := [.ref f]) (k := k + 1) (Q := Q) (E := C8.E0) lk hcg Sg hr e0 (hb s [.ref f] kin rfl) (.cons rfl .nil) rfl fun hr' => ?_) fun r s' hq => ?_
    · obtain ⟨t', ht', hq'⟩ := hG A outer f c' s H Q (fun E H' Q' => (∀ m, LamAt (X.env.qual ++ "<lambda>") X.env.cells m H (.ref f) → LamAt (X.env.qual ++ "<lambda>") X.env.cells m H' (.ref f)) ∧ t E σ H' Q') (fun W pn xe E p1 p2 tk hW => ⟨fun pins s' σ' H' Q' I' h' => (pe_actB (X := X) (i := 0) B L tk hW hr' (fun A outer s H f c' hr2 => hbody A outer s H E f c' hr2) hNg hva hd hcd).run pins s' σ' H' Q' I' ⟨_, h'.1, h'.2.2.1 m la, h'.2.2.2⟩⟩) hc h
      exact ⟨t', ht'.nox, hq'⟩
    · cases r with
      | error e => exact (show False from hq).elim
      | ok fl => exact hq
/-- x(e, ..) by a promise over the base with the cells -/
theorem pe_big {x : Str} {g : Addr} {k : Nat} {e : Expr} {es : List Expr} {ta : TA} {sp : L2.St → Sp} {p pos : Pos} (hg : Gl X x) (hm : X.mg x = some (.ref g)) (hk : PySem.W.keepIn X.K (.ref g) = true) (hfn : ∀ x, X.fn x = true) (ha : PA X (e :: es) ta)
    (hF : ∀ σ b, LamB X σ b → FnR X.prog X.w X.K X.mg b C8.CX0 k g (sp σ)) (hr : Room k X.A) (hd : (x == ("__debug__" : Str)) = false := by decide)
    (he : starEach (e :: es) X.env = (false, eval e X.env) :: starEach es X.env := by rfl) (hpl : (backTo pos (starEach es X.env)).any (·.1) = false := by rfl) :
    PE X (.Call (.Name x p) (e :: es) [] pos) (fun σ H Q => ta σ H fun vs H1 => sp σ vs H1 Q C8.E0) := by
  refine ⟨fun pins s σ H Q I h => ?_⟩
  refine wpAny_Call_Name_kw (ld_glob I hg hm ?_ hd)
  refine PySem.W.callWith_K (h₀ := X.base) I.ok.mod.kin hk (thn (ha.run pos pins s σ H _ I h) fun us s1 ⟨vs, H1, I1, r, q⟩ => ⟨I1.kIn, ?_⟩) he hpl
  refine wpAny_call (codeAny_mono (hF σ _ (lamB_of I1 hfn) X.A X.stack s1 H1 us vs Q C8.E0 hr (big_env0 I1) r q) fun r s' hq => ?_)
  cases r with
  | error e => exact (show False from hq).elim
  | ok fl =>
    cases fl with
    | ret u => exact I1.after hq
    | next => exact False.elim hq
    | brk => exact False.elim hq
    | cont => exact False.elim hq
end
end My
/-! t == u of two tuples, items by their own == -/
namespace My
open PySem PySem.Spec L2 PyProof.Rows PySem.SeqAt
open AutoSeq1 (wpAny_loadPart')
open MeetsSeq MeetsSeq2 MeetsSeq3 SeqRoads2
section
variable {prog : Program} {w : World} {A : Around} {R : Result → Shared → Prop}
theorem tuple_eqB (l b : Addr) (items items2 : Array Value) (n n2 : Nat) (dd dd2 : Option Addr) (sl sl2 : Array (Option Value)) (I : Shared → Prop) (e : Nat → Bool)
    (turn : ∀ i (h1 : i < items.size) (h2 : i < items2.size) s, I s → wpAny (model prog w) A.in1 (eqBool items[i] items2[i]) (fun r s' => r = e i ∧ I s') (fun e s' => R (.error e) s') s)
    (fin : ∀ s, I s → R (.ok (.ret (.bool ((List.range (min items.size items2.size)).all e && items.size == items2.size)))) s) {s : Shared} (hl1 : s.heap.get? l = some { cls := .type "tuple", dict := dd, data := .seq items n, slots := sl }) (hb1 : s.heap.get? b = some { cls := .type "tuple", dict := dd2, data := .seq items2 n2, slots := sl2 }) (h : I s) :
    wpAny (model prog w) A.in1 (Builtin.«tuple.__eq__» ⟨[.ref l, .ref b], []⟩) (GQ.FinOf prog w A R) (fun e s' => R (.error e) s') s := by
  have f2 := AutoSeq1.sub_tuple_tuple
  have hZ : (items.toList.zip items2.toList).length = min items.size items2.size := by simp
  have h0 := h
  obtain ⟨hp, g, d, tk, os⟩ := s
  wp_walk using wpAny_loadPart' hl1, wpAny_loadPart' hb1, wpAny_forIn_list _ (fun rest b s' => b.1 = none ∧ ∃ i, rest = (items.toList.zip items2.toList).drop i ∧ I s' ∧ (List.range (min items.size items2.size)).all e = ((List.range (min items.size items2.size)).drop i).all e) _
  case turn =>
    rintro ⟨y, x⟩ rest b s' ⟨hb', i, hz, hI, hR⟩
    have hlt : i < (items.toList.zip items2.toList).length := by
      rcases Nat.lt_or_ge i (items.toList.zip items2.toList).length with h' | h'
      · exact h'
      · rw [List.drop_of_length_le h'] at hz; cases hz
    have hm : i < min items.size items2.size := hZ ▸ hlt
    have h1 : i < items.size := Nat.lt_of_lt_of_le hm (Nat.min_le_left _ _)
    have h2 : i < items2.size := Nat.lt_of_lt_of_le hm (Nat.min_le_right _ _)
    rw [List.drop_eq_getElem_cons hlt] at hz
    injection hz with hyx hrest
    have hy : y = items[i] := by have := congrArg Prod.fst hyx; simpa using this
    have hx : x = items2[i] := by have := congrArg Prod.snd hyx; simpa using this
    subst hy hx
    have hd : (List.range (min items.size items2.size)).drop i = i :: (List.range (min items.size items2.size)).drop (i + 1) := by simp [List.drop_eq_getElem_cons, hm]
    rw [hd, List.all_cons] at hR
    refine wpAny_bind (wpAny_mono (turn i h1 h2 s' hI) (fun r s2 q2 => ?_) fun _ _ x => x)
    obtain ⟨hr, q2⟩ := q2
    rw [← hr] at hR
    cases r with
    | true =>
      wp_walk
      exact ⟨rfl, i + 1, hrest, q2, by simpa using hR⟩
    | false =>
      have hF := fin s2 q2
      rw [hR] at hF
      wp_walk
      simpa using hF
  case fin =>
    rintro ⟨b1, b2⟩ s' ⟨hb', i, hz, hI, hR⟩
    simp only at hb'
    subst hb'
    have hge : min items.size items2.size ≤ i := by
      rcases Nat.lt_or_ge i (items.toList.zip items2.toList).length with h' | h'
      · rw [List.drop_eq_getElem_cons h'] at hz; cases hz
      · exact hZ ▸ h'
    rw [List.drop_of_length_le (by simpa using hge)] at hR
    have hF := fin s' hI
    rw [hR] at hF
    wp_walk
    simpa [Builtin.Tuple.tupleCompareSizes] using hF
  case h =>
    exact ⟨rfl, 0, rfl, h0, rfl⟩
end
/-- a tuple tells one triple only -/
def Coh (K : PySem.W.Frag) (H : Hp) : Prop := ∀ (a : Addr) (x y z x' y' z' : Int), SqT K H a [.int x, .int y, .int z] → SqT K H a [.int x', .int y', .int z'] → x = x' ∧ y = y' ∧ z = z'
theorem vals3 {x y z : Int} {its : List Value} (r : Vals [.int x, .int y, .int z] its) : ∃ t1 t2 t3, its = [.int x t1, .int y t2, .int z t3] := by
  cases r with
  | cons r1 r => cases r with
    | cons r2 r => cases r with
      | cons r3 r => cases r with
        | nil =>
          obtain ⟨t1, rfl⟩ := r1
          obtain ⟨t2, rfl⟩ := r2
          obtain ⟨t3, rfl⟩ := r3
          exact ⟨t1, t2, t3, rfl⟩
theorem coh_of {X : Cx} {pins : List (Addr × Obj)} {σ : L2.St} {H : Hp} {s : Shared} (I : Inv X pins σ H s) : Coh X.K H := by
  intro a x y z x' y' z' h h'
  obtain ⟨its, r, e, _⟩ := I.tuple h
  obtain ⟨its', r', e', _⟩ := I.tuple h'
  obtain ⟨o, ho, hc, n, hd⟩ := e
  obtain ⟨o', ho', hc', n', hd'⟩ := e'
  rw [ho] at ho'
  cases ho'
  rw [hd] at hd'
  injection hd' with hd' _
  obtain ⟨t1, t2, t3, rfl⟩ := vals3 r
  obtain ⟨u1, u2, u3, rfl⟩ := vals3 r'
  simp at hd'
  exact ⟨hd'.1.1, hd'.2.1.1, hd'.2.2.1⟩
def rEqTO (K : PySem.W.Frag) (C : Addr) (sp : Sp) : R2 := fun x y H Q => ∃ a b xs ys, x = .ref a ∧ y = .ref b ∧ SqT K H a xs ∧ SqT K H b ys ∧ (Coh K H → ∃ e : Nat → Bool, (∀ (i : Nat) (u v : V), xs[i]? = some u → ys[i]? = some v → ∃ (p q dx dy : Addr) (fs gs : List (Str × V)), u = .ref p ∧ v = .ref q ∧ H p = some (.ins C dx fs) ∧ H q = some (.ins C dy gs) ∧ (p = q → e i = true) ∧ sp [.ref p, .ref q] H (fun v H' => v = .bl (e i) ∧ H' = H) E0) ∧ Q (.bl ((List.range (min xs.length ys.length)).all e && xs.length == ys.length)) H)
section
variable {X : Cx} {k : Nat} {f C : Addr} {sp : Sp}
theorem op_eqTO (F0 : FnR X.prog X.w X.K X.mg X.base CX0 k f sp) (hr : Room (k + 1) X.A)
    (hs : PySem.W.findIn X.K (.ref C) "__eq__" = some (some (.ref f))) (hf : PySem.W.isFn X.K (.ref f) = true) : OpR X (compareOp .Eq) (rEqTO X.K C sp) := by
  intro pins s σ H x y v u Q I rx ry hq
  obtain ⟨a, b, xs, ys, rfl, rfl, ha, hb, q0⟩ := hq
  obtain ⟨e, turn, q⟩ := q0 (coh_of I)
  cases rx
  cases ry
  obtain ⟨its, r, e1, z⟩ := I.tuple ha
  obtain ⟨its2, r2, e2, z2⟩ := I.tuple hb
  obtain ⟨⟨cls, dd, data, sl⟩, ho, hc, n, hd⟩ := id e1
  obtain ⟨⟨cls2, dd2, data2, sl2⟩, ho2, hc2, n2, hd2⟩ := id e2
  simp only at hc hd hc2 hd2
  subst hc hd hc2 hd2
  show wpAny (model X.prog X.w) X.A (richCompare .Eq (.ref a) (.ref b)) (EP X pins σ Q) X.xe s
  refine wpAny_richCompare_same_room (op := .Eq) ⟨_, ho, rfl⟩ ⟨_, ho2, rfl⟩ F.slot_tuple_eq (GQ.call_here F.slot_tuple_eq ⟨_, ho, rfl⟩ F.entry_tuple_eq (F.args_tuple_eq_2 _ _) ?_) hr.units0
  refine tuple_eqB (R := wants (fun v s' => v ≠ .notImplemented ∧ EP X pins σ Q v s') X.xe) a b its.toArray its2.toArray n n2 dd dd2 sl sl2 (fun s' => Inv X pins σ H s') e (fun i h1 h2 s' I' => ?_) (fun s' I' => ⟨(fun x => nomatch x), ?_⟩) ho ho2 I
  · have k1 : i < xs.length := by rw [r.length]; simpa using h1
    have k2 : i < ys.length := by rw [r2.length]; simpa using h2
    obtain ⟨u, hu, ru⟩ := r.get (List.getElem?_eq_getElem k1)
    obtain ⟨v, hv, rv⟩ := r2.get (List.getElem?_eq_getElem k2)
    obtain ⟨p, q', dx, dy, fs, gs, eu, ev, hp, hq, self, hsp⟩ := turn i _ _ (List.getElem?_eq_getElem k1) (List.getElem?_eq_getElem k2)
    rw [eu] at ru
    rw [ev] at rv
    cases ru
    cases rv
    have g1 : its.toArray[i] = .ref p := by
      have h1' : i < its.length := by simpa using h1
      rw [List.getElem?_eq_getElem h1'] at hu
      simpa using hu
    have g2 : its2.toArray[i] = .ref q' := by
      have h2' : i < its2.length := by simpa using h2
      rw [List.getElem?_eq_getElem h2'] at hv
      simpa using hv
    rw [g1, g2]
    exact eqB_own F0 (Sub.in1 (n := k) ⟨hr, rfl⟩) hs hf I' hp hq self hsp
  · refine ⟨.bl _, H, I', rfl, ?_⟩
    rw [List.size_toArray, List.size_toArray, ← r.length, ← r2.length]
    exact q
end
end My
/-! o.m(e, ..) within a try; comprehensions with two for, by an invariant for each -/
namespace My
open PySem PySem.Spec L2 PyProof.Rows
def tMethS (C : Addr) (m : Str) (sp : Sp) (E : L2.St → XK) (ta : TE) (t : TA) : TE := fun σ H Q => ta σ H fun x H1 => ∃ a dx fs, x = .ref a ∧ H1 a = some (.ins C dx fs) ∧ fs.lookup m = none ∧ t σ H1 fun vs H2 => sp (x :: vs) H2 Q (E σ)
theorem pe_methS {X : Cx} {CX : CXT} {k : Nat} {f C : Addr} {fd : FuncData} {ps : List Str} {sp : Sp} {E : L2.St → XK} {m : Str} {pos apos : Pos} {e o : Expr} {es : List Expr} {ta : TE} {t : TA} {pl : Sem Bool} (he : PE X o ta) (c : Cls X.K C) (hm : Meth X.K C m f) (F : FnOk X.prog X.w X.K X.mg X.base CX k f fd ps sp) (hr : Room k X.A) (hb : Binds X.K fd ps []) (hx : ∀ σ, PassesAt CX X σ (E σ)) (ha : PA X (e :: es) t)
    (hst : starEach (e :: es) X.env = (false, eval e X.env) :: starEach es X.env := by rfl) (hpl : (backTo pos (starEach es X.env)).any (·.1) = false := by rfl)
    (ht : eval (.Call (.Attribute o m apos) (e :: es) [] pos) X.env = (do
      let ov ← eval o X.env
      standAt apos.atName
      let (f, first) ← holding [ov] (getMethod ov m pl)
      callWith pos f first (backTo pos (starEach (e :: es) X.env)) (backToKw pos (keywordEach [] X.env))) := by rfl) :
    PE X (.Call (.Attribute o m apos) (e :: es) [] pos) (tMethS C m sp E ta t) := by
  refine ⟨fun pins s σ H Q I h => ?_⟩
  refine PySem.W.methodCall_KW (pl := pl) (thn (he.run pins s σ H _ I h) fun u s1 ⟨x, H1, I1, rx, a, dx, fs, ex, ea, l, q⟩ => ?_) ht
  subst ex
  obtain rfl : u = Value.ref a := rx
  refine getmeth_ok I1 ea c hm l ?_
  refine PySem.W.callWith_K (first := [.ref a]) (h₀ := X.base) I.ok.mod.kin hm.kp (thn (ha.run pos pins s1 σ H1 _ I1 q) fun us s2 ⟨vs, H2, I2, r, q2⟩ => ⟨I2.kIn, ?_⟩) hst hpl
  exact run_fnS (us := .ref a :: us) (vs := .ref a :: vs) F hr hb (hx σ) I2 (.cons rfl r) q2
theorem FnOk.or {P : Program} {w : World} {K : PySem.W.Frag} {mg : Str → Option Value} {base : Heap} {k : Nat} {f : Addr} {fd : FuncData} {ps : List Str} {sp1 sp2 : Sp} (F1 : FnOk P w K mg base CX0 k f fd ps sp1) (F2 : FnOk P w K mg base (L2.CX P w) k f fd ps sp2) : FnOk P w K mg base (L2.CX P w) k f fd ps (fun vs H Q E => sp1 vs H Q E ∨ sp2 vs H Q E) := by
  refine ⟨fun vs H Q E h => h.elim (F1.len vs H Q E) (F2.len vs H Q E), fun A outer s H a us vs Q E hr e0 hb r h => ?_⟩
  rcases h with h | h
  · refine PySem.codeAny_mono (F1.run A outer s H a us vs Q E hr e0 hb r h) fun x s' hx => ?_
    match x, hx with
    | .ok (.ret u), hx => exact hx
    | .error e, hx => exact hx.elim
    | .ok .next, hx => exact hx
    | .ok .brk, hx => exact hx
    | .ok .cont, hx => exact hx
  · exact F2.run A outer s H a us vs Q E hr e0 hb r h
/-- one walk of the inner for -/
def LcIn (J1 : It) (g1 : TG) (tt1 : TT) (te : TE) (vs1 : List Nat) (D : Addr) (σ2 : L2.St) (Nx : Hp → Prop) (H4 : Hp) : Prop :=
  ∃ W1 : Nat → Nat → Hp → Prop, (∃ m, W1 0 m H4) ∧ ∀ j k H, W1 j k H →
    (J1.stop j H ∧ Nx H) ∨ (J1.go j H ∧ ∃ Nx1 : Hp → Prop, (∀ H', Nx1 H' → ∃ k', k' < k ∧ W1 (j + 1) k' H') ∧ ∀ x H', J1.yld j H x H' → g1 x (wipe σ2 vs1) H' fun σ3 H5 => wipe σ3 vs1 = wipe σ2 vs1 ∧ tt1 σ3 H5 fun b H6 =>
      if b = true then te σ3 H6 fun y H7 => ∃ acc, H7 D = some (.lst acc) ∧ acc.length < sizeLine ∧ Nx1 (upd H7 D (.lst (acc ++ [y]))) else Nx1 H6)
theorem in_list {K : PySem.W.Frag} {b : Addr} {ys : List V} {g1 : TG} {tt1 : TT} {te : TE} {vs1 : List Nat} {D : Addr} {σ2 : L2.St} {Nx : Hp → Prop} {H4 : Hp} (S : Nat → Hp → Prop) (h0 : S 0 H4) (hT : ∀ j H, j ≤ ys.length → S j H → SqL K H b ys)
    (hs : ∀ j x H, ys[j]? = some x → S j H → g1 x (wipe σ2 vs1) H fun σ3 H5 => wipe σ3 vs1 = wipe σ2 vs1 ∧ tt1 σ3 H5 fun c H6 => if c = true then te σ3 H6 fun y H7 => ∃ acc, H7 D = some (.lst acc) ∧ acc.length < sizeLine ∧ S (j + 1) (upd H7 D (.lst (acc ++ [y]))) else S (j + 1) H6)
    (hd : ∀ H, S ys.length H → Nx H) : LcIn (Itl K b) g1 tt1 te vs1 D σ2 Nx H4 := by
  refine ⟨fun j m H => m = ys.length - j ∧ j ≤ ys.length ∧ S j H, ⟨_, rfl, Nat.zero_le _, h0⟩, ?_⟩
  rintro j m H ⟨rfl, hj, p⟩
  have t := hT j H hj p
  by_cases lt : j < ys.length
  · refine .inr ⟨⟨ys, ys[j], t, List.getElem?_eq_getElem lt⟩, S (j + 1), fun H' p' => ⟨_, by omega, rfl, lt, p'⟩, ?_⟩
    rintro v H' ⟨rfl, hx⟩
    exact hs j v _ (hx ys t) p
  · obtain rfl : j = ys.length := by omega
    exact .inl ⟨⟨ys, t, Nat.le_refl _⟩, hd H p⟩
theorem in_tup {K : PySem.W.Frag} {b : Addr} {ys : List V} {g1 : TG} {tt1 : TT} {te : TE} {vs1 : List Nat} {D : Addr} {σ2 : L2.St} {Nx : Hp → Prop} {H4 : Hp} (S : Nat → Hp → Prop) (h0 : S 0 H4) (hT : ∀ j H, j ≤ ys.length → S j H → SqT K H b ys)
    (hs : ∀ j x H, ys[j]? = some x → S j H → g1 x (wipe σ2 vs1) H fun σ3 H5 => wipe σ3 vs1 = wipe σ2 vs1 ∧ tt1 σ3 H5 fun c H6 => if c = true then te σ3 H6 fun y H7 => ∃ acc, H7 D = some (.lst acc) ∧ acc.length < sizeLine ∧ S (j + 1) (upd H7 D (.lst (acc ++ [y]))) else S (j + 1) H6)
    (hd : ∀ H, S ys.length H → Nx H) : LcIn (Itt K b) g1 tt1 te vs1 D σ2 Nx H4 := by
  refine ⟨fun j m H => m = ys.length - j ∧ j ≤ ys.length ∧ S j H, ⟨_, rfl, Nat.zero_le _, h0⟩, ?_⟩
  rintro j m H ⟨rfl, hj, p⟩
  have t := hT j H hj p
  by_cases lt : j < ys.length
  · refine .inr ⟨⟨ys, ys[j], t, List.getElem?_eq_getElem lt⟩, S (j + 1), fun H' p' => ⟨_, by omega, rfl, lt, p'⟩, ?_⟩
    rintro v H' ⟨rfl, hx⟩
    exact hs j v _ (hx ys t) p
  · obtain rfl : j = ys.length := by omega
    exact .inl ⟨⟨ys, t, Nat.le_refl _⟩, hd H p⟩
theorem lc2_tup {K : PySem.W.Frag} {a : Addr} {xs : List V} {σ : L2.St} {g g1 : TG} {tt tt1 : TT} {wi1 : TI} {te : TE} {vs vs1 : List Nat} {D : Addr} {H0 : Hp} {Qd : Hp → Prop} (P : Nat → Hp → Prop) (h0 : P 0 H0) (hT : ∀ i H, i ≤ xs.length → P i H → SqT K H a xs)
    (hs : ∀ i x H, xs[i]? = some x → P i H → g x (wipe σ vs) H fun σ2 H2 => wipe σ2 vs = wipe σ vs ∧ tt σ2 H2 fun b H3 => if b = true then wi1 σ2 H3 fun J1 H4 => LcIn J1 g1 tt1 te vs1 D σ2 (P (i + 1)) H4 else P (i + 1) H3)
    (hd : ∀ H, P xs.length H → Qd H) :
    ∃ W : Nat → Nat → Hp → Prop, (∃ m, W 0 m H0) ∧ ∀ i m H, W i m H → ((Itt K a).stop i H ∧ Qd H) ∨ ((Itt K a).go i H ∧ ∃ Nx : Hp → Prop, (∀ H', Nx H' → ∃ m', m' < m ∧ W (i + 1) m' H') ∧ ∀ x H', (Itt K a).yld i H x H' → g x (wipe σ vs) H' fun σ2 H2 => wipe σ2 vs = wipe σ vs ∧ tt σ2 H2 fun b H3 =>
      if b = true then wi1 σ2 H3 fun J1 H4 => LcIn J1 g1 tt1 te vs1 D σ2 Nx H4 else Nx H3) := by
  refine ⟨fun i m H => m = xs.length - i ∧ i ≤ xs.length ∧ P i H, ⟨_, rfl, Nat.zero_le _, h0⟩, ?_⟩
  rintro i m H ⟨rfl, hi, p⟩
  have t := hT i H hi p
  by_cases lt : i < xs.length
  · refine .inr ⟨⟨xs, xs[i], t, List.getElem?_eq_getElem lt⟩, P (i + 1), fun H' p' => ⟨_, by omega, rfl, lt, p'⟩, ?_⟩
    rintro v H' ⟨rfl, hx⟩
    exact hs i v _ (hx xs t) p
  · obtain rfl : i = xs.length := by omega
    exact .inl ⟨⟨xs, t, Nat.le_refl _⟩, hd H p⟩
theorem lc2_list {K : PySem.W.Frag} {a : Addr} {xs : List V} {σ : L2.St} {g g1 : TG} {tt tt1 : TT} {wi1 : TI} {te : TE} {vs vs1 : List Nat} {D : Addr} {H0 : Hp} {Qd : Hp → Prop} (P : Nat → Hp → Prop) (h0 : P 0 H0) (hT : ∀ i H, i ≤ xs.length → P i H → SqL K H a xs)
    (hs : ∀ i x H, xs[i]? = some x → P i H → g x (wipe σ vs) H fun σ2 H2 => wipe σ2 vs = wipe σ vs ∧ tt σ2 H2 fun b H3 => if b = true then wi1 σ2 H3 fun J1 H4 => LcIn J1 g1 tt1 te vs1 D σ2 (P (i + 1)) H4 else P (i + 1) H3)
    (hd : ∀ H, P xs.length H → Qd H) :
    ∃ W : Nat → Nat → Hp → Prop, (∃ m, W 0 m H0) ∧ ∀ i m H, W i m H → ((Itl K a).stop i H ∧ Qd H) ∨ ((Itl K a).go i H ∧ ∃ Nx : Hp → Prop, (∀ H', Nx H' → ∃ m', m' < m ∧ W (i + 1) m' H') ∧ ∀ x H', (Itl K a).yld i H x H' → g x (wipe σ vs) H' fun σ2 H2 => wipe σ2 vs = wipe σ vs ∧ tt σ2 H2 fun b H3 =>
      if b = true then wi1 σ2 H3 fun J1 H4 => LcIn J1 g1 tt1 te vs1 D σ2 Nx H4 else Nx H3) := by
  refine ⟨fun i m H => m = xs.length - i ∧ i ≤ xs.length ∧ P i H, ⟨_, rfl, Nat.zero_le _, h0⟩, ?_⟩
  rintro i m H ⟨rfl, hi, p⟩
  have t := hT i H hi p
  by_cases lt : i < xs.length
  · refine .inr ⟨⟨xs, xs[i], t, List.getElem?_eq_getElem lt⟩, P (i + 1), fun H' p' => ⟨_, by omega, rfl, lt, p'⟩, ?_⟩
    rintro v H' ⟨rfl, hx⟩
    exact hs i v _ (hx xs t) p
  · obtain rfl : i = xs.length := by omega
    exact .inl ⟨⟨xs, t, Nat.le_refl _⟩, hd H p⟩
end My
/-! dicts whose keys are tuples: values() walked; {k: v for ..} of any keys -/
namespace My
open PySem PySem.Spec L2 PyProof.Rows
section
variable {X : Cx} {pins : List (Addr × Obj)} {σ : L2.St} {H : Hp} {s : Shared} {d : Addr} {o : Obj}
/-- a locked dict with tuple keys: its entries' values -/
theorem frzTv {kvs : List (List Key × V)} (I : Inv X pins σ H s) (h : H d = some (.frz o (.dT kvs))) :
    (d == sysModules) = false ∧ s.heap.get? d = some o ∧ o.ExactDict ∧ ∃ (es : Array DictEntry) (ep : Nat), o.data = .dict es ep ∧ es.size = kvs.length ∧
      ∀ (i : Nat) (hi : i < es.size), ∃ k v, kvs[i]? = some (k, v) ∧ RelV v es[i].val := by
  obtain ⟨hd, z, hs, xs, pr, ob, es, ep, ho, hx, hdt, he, _⟩ := I.hok d _ h
  rw [hd] at ho
  cases ho
  have n1 : es.size = xs.length := size_of_entries he
  have n2 : kvs.length = xs.length := Paired.length pr
  refine ⟨hs, hd, hx, es, ep, hdt, by omega, fun i hi => ?_⟩
  obtain ⟨⟨k, v⟩, hkv⟩ : ∃ p, kvs[i]? = some p := ⟨kvs[i]'(by omega), List.getElem?_eq_getElem _⟩
  obtain ⟨b, hb, _, _, hv⟩ := paired_get pr hkv
  have q := entry_at he i
  rw [hb, Array.getElem?_eq_getElem hi] at q
  refine ⟨k, v, hkv, ?_⟩
  rw [Option.some.inj q]
  exact hv
end
/-- the values, in their order -/
def Itvt (d : Addr) (o : Obj) (kvs : List (List Key × V)) : It :=
  ⟨fun i H => H d = some (.frz o (.dT kvs)) ∧ i < kvs.length, fun i H x H' => H' = H ∧ ∃ k, kvs[i]? = some (k, x), fun i H => H d = some (.frz o (.dT kvs)) ∧ kvs.length ≤ i⟩
theorem turnVt {P : Program} {w : World} {K : PySem.W.Frag} {tg : Expr} {d : Addr} {o : Obj} {es : Array DictEntry} {ep : Nat} {kvs : List (List Key × V)} (it : Addr) (hod : o.data = .dict es ep) : Turn P w K tg (Itvt d o kvs) [it] it (fun i h => h.IsValIter it d i es.size ep) where
  mem := by simp
  obj := fun i h st b hb => by
    obtain rfl : b = it := List.mem_singleton.mp hb
    obtain ⟨oi, e, _, dd⟩ := st
    exact ⟨oi, e, fun v z => by rw [dd] at z; cases z⟩
  keep := fun i h h' st k => st.at fun oi e => k it (.head _) oi e
  item := by
    intro X hP hw hK hc i pins s σ H E I hf st hg
    subst hP hw hK
    obtain ⟨f0, f1, f2, f3, f4, f5⟩ := hf it (.head _)
    obtain ⟨hs, hgd, hx, es', ep', hdt, hsz, ent⟩ := frzTv I hg.1
    obtain ⟨rfl, rfl⟩ := dict_ep hod hdt
    have hi : i < es'.size := by rw [hsz]; exact hg.2
    obtain ⟨k, v, hkv, rv⟩ := ent i hi
    refine PySem.wpAny_pyNext_values_item_raw st ⟨o, hgd, hx, hdt⟩ hi fun h' st' sb => ?_
    have I1 : Inv X pins σ H { s with heap := h' } := I.turned (t' := s.toks) (fun b ob hb e => (sb.2 b hb).trans e) f0 f1 f3 f4 f5
    obtain ⟨oi, e, c, dd⟩ := id st'
    exact ⟨_, rfl, go_of (s := { s with heap := h' }) e c dd (by decide) ⟨v, H, I1, rv, ⟨rfl, k, hkv⟩, st', fun b hb => (hf b hb).1⟩⟩
  done := by
    intro X hP hw hK hc i pins s σ H E I hf st hg
    subst hP hw hK
    obtain ⟨f0, f1, f2, f3, f4, f5⟩ := hf it (.head _)
    obtain ⟨hs, hgd, hx, es', ep', hdt, hsz, _⟩ := frzTv I hg.1
    obtain ⟨rfl, rfl⟩ := dict_ep hod hdt
    exact PySem.wpAny_pyNext_values_end_raw (I.ok.hd hc) st ⟨o, hgd, hx, hdt⟩ (by rw [hsz]; exact hg.2) fun h' eb => ⟨rfl, I.turned (t' := s.toks) (fun b ob hb e => eb b ob hb e) f0 f1 f3 f4 f5⟩
  self := fun A i s Q E st h => wpAny_pyIter_valiter st h
/-- for v in e.values(), the dict locked -/
def iValsT (td : TE) : TI := fun σ H R => td σ H fun x H1 => ∃ d o kvs, x = .ref d ∧ H1 d = some (.frz o (.dT kvs)) ∧ R (Itvt d o kvs) H1
section
variable {X : Cx} {tg e : Expr} {td : TE} {apos cpos : Pos}
theorem pi_valuesT (he : PE X e td) (hbase : attributeBase e "values" X.env (eval e X.env) = eval e X.env := by rfl) (hline : (apos.endLine == cpos.line) = true := by rfl) : PI X tg (.Call (.Attribute e "values" apos) [] [] cpos) (iValsT td) := by
  refine ⟨fun pins s σ H R I h => ?_⟩
  refine wpAny_Call_method (T := "dict") (id := "dict.values") hbase rfl hline F.plainAttrs_dict F.slot_dict_values F.type_dict_values (thn (he.run pins s σ H _ I h) fun u s1 ⟨x, H1, I1, rx, d, o, kvs, ex, hd, q⟩ => ?_)
  subst ex
  obtain rfl : u = Value.ref d := rx
  obtain ⟨hs, hgd, hx, es, ep, hdt, _, _⟩ := frzTv I1 hd
  have raw : s1.heap.DictRaw d es ep := ⟨o, hgd, hx, hdt⟩
  have ty : s1.TypeIs (.ref d) "dict" := ⟨o, hgd, hx.1⟩
  refine ⟨ty, (fun a ea => by cases ea; exact ⟨o, hgd, hx.2.1⟩), ?_⟩
  have I2 : Inv X pins σ H1 { s1 with heap := s1.heap.push { cls := .type "dict_values", data := .fields #[.ref d] } } := I1.kept (t' := s1.toks) fun b ob q => Heap.get?_push_of_some _ q
  have fin : wpAny (model X.prog X.w) X.A (pyIter (.ref s1.heap.objs.size)) (PIE X pins σ tg R) X.xe { s1 with heap := s1.heap.push { cls := .type "dict_values", data := .fields #[.ref d] } } :=
    PySem.wpAny_pyIter_values_raw (d := d) ⟨_, Heap.get?_push_size _ rfl, rfl, rfl⟩ (raw.at fun o e => Heap.get?_push_of_some _ e) (pi_one (tk := s1.toks) I2 _ (turnVt _ hdt) ⟨_, Heap.get?_push_size _ rfl, rfl, rfl⟩ q)
  show wpAny _ _ (callWith cpos (.builtin "dict.values") [.ref d] [] []) _ X.xe s1
  exact method_meetsIn F.slot_dict_values F.entry_dict_values rfl (PySem.evalArgs_none ⟨rfl, ty, F.args_dict_values_1 _, _, PySem.meets_dict_values_raw d hs, ⟨⟨_, _, raw⟩, fin⟩⟩)
end
/-! ### {k: v for ..}, whatever the keys are -/
/-- what d[y] = z makes of the heap, at D; the model's own store does it -/
structure PutOk (P : Program) (w : World) (K : PySem.W.Frag) (n : Nat) (put : Addr → V → V → Hp → Hp → Prop) : Prop where
  run : ∀ {X : Cx} (_ : X.prog = P) (_ : X.w = w) (_ : X.K = K) (_ : X.A.units + n < cLine) {pins : List (Addr × Obj)} {σ : L2.St} {H H' : Hp} {s : Shared} {E : Value → Shared → Prop} {D : Addr} {y z : V} {u r : Value} {Q : Unit → Shared → Prop},
    Inv X pins σ H s → put D y z H H' → RelV y u → RelV z r → (∀ s', Inv X pins σ H' s' → Q () s') → wpAny (model X.prog X.w) X.A (dictSet D u r) Q E s
/-- a tuple of ints and texts as a key -/
def putT (D : Addr) (y z : V) (H H' : Hp) : Prop := ∃ kvs k b, H D = some (.dT kvs) ∧ y = .ref b ∧ H b = some (.tup (k.map kV)) ∧ kvs.length < sizeLine ∧ H' = upd H D (.dT (putK kvs k z))
theorem putT_ok {P : Program} {w : World} {K : PySem.W.Frag} : PutOk P w K 1 putT := ⟨fun {X} _ _ _ hu {pins σ H H' s E D y z u r Q} I p ry rz h => by
  obtain ⟨kvs, k, b, e, rfl, eb, l, rfl⟩ := p
  cases (show u = Value.ref b from ry)
  obtain ⟨zz, hd, xs, rel, dd⟩ := dt_of I.hok e
  have hz : xs.length ≤ sizeLine := by rw [← Paired.length rel]; exact zz
  have hl : (putK kvs k z).length ≤ sizeLine := by have := length_putK kvs k z; omega
  refine wpAny_dictSet_heap (hsz := hz) (show X.A.units < cLine by omega) (key_of I.hok eb) dd fun h' dd' hs => h _ ?_
  obtain ⟨q, es, ep, hq, h2, h3, h4, _, h5⟩ := dd'
  refine d_write I (by rw [e]; exact True.intro) hs ⟨q, hq⟩ ⟨hl, hd, _, (rel.put k eb rz).keeps fun c ys ec => ?_, q, es, ep, hq, h2, h3, h4, h5⟩
  rw [upd_ne (ne_of ec e (fun z => nomatch z))]
  exact ec⟩
section
variable {X : Cx}
def tDcG (o0 : Addr → HO) (put : Addr → V → V → Hp → Hp → Prop) (wi : TI) (g : TG) (tt : TT) (tk tv : TE) (vs : List Nat) : TE := fun σ H Q => wi σ H fun J H1 => ∀ D, H1 D = none → ∃ W : Nat → Nat → Hp → Prop, (∃ m, W 0 m (upd H1 D (o0 D))) ∧ ∀ i m H, W i m H →
  (J.stop i H ∧ Q (.ref D) H) ∨ (J.go i H ∧ ∃ Nx : Hp → Prop, (∀ H', Nx H' → ∃ m', m' < m ∧ W (i + 1) m' H') ∧ ∀ x H', J.yld i H x H' → g x (wipe σ vs) H' fun σ2 H2 => wipe σ2 vs = wipe σ vs ∧ tt σ2 H2 fun b H3 =>
    if b = true then tk σ2 H3 fun y H4 => tv σ2 H4 fun z H5 => ∃ H6, put D y z H5 H6 ∧ Nx H6 else Nx H3)
theorem dcG_core {o0 : Addr → HO} {put : Addr → V → V → Hp → Hp → Prop} {n : Nat} (po : PutOk X.prog X.w X.K n put) (hu : X.A.units + n < cLine) (o0n : ∀ {H : Hp} (h : Heap), sysModules < h.objs.size → ObjOk X.prog X.w H (h.push { cls := .type "dict", data := .dict #[] }) h.objs.size (o0 h.objs.size))
    {pins : List (Addr × Obj)} {s : Shared} {σ : L2.St} {H : Hp} {Q : VK} {kx vx tg iter : Expr} {ifs : List Expr} {scope : Scope} {own : List (Str × Nat)} {pos pos' : Pos} {wi : TI} {g : TG} {tt : TT} {tk tv : TE} {use : Option (Value → Sem Unit)} {Qf : Value → Shared → Prop}
    (hc : X.calm = true) (hN : X.N.Nodup) (I : Inv X pins σ H s) (hi : PI X tg iter wi) (ok : BlkOk X.N X.env.scope scope own)
    (hg : ∀ (s : Shared) (H : Hp) (C : Addr) (cl : List (Str × Addr)) (fp : List Addr), PG (X.blk s H scope (compEnvC scope cl C X.env) fp) tg g) (ht : ∀ (s : Shared) (H : Hp) (C : Addr) (cl : List (Str × Addr)) (fp : List Addr), PTs (X.blk s H scope (compEnvC scope cl C X.env) fp) ifs tt)
    (hk : ∀ (s : Shared) (H : Hp) (C : Addr) (cl : List (Str × Addr)) (fp : List Addr), PE (X.blk s H scope (compEnvC scope cl C X.env) fp) kx tk)
    (he : ∀ (s : Shared) (H : Hp) (C : Addr) (cl : List (Str × Addr)) (fp : List Addr), PE (X.blk s H scope (compEnvC scope cl C X.env) fp) vx tv) (hs : ∀ x, foldedSetIterable iter X.env x = pure x)
    (h : tDcG o0 put wi g tt tk tv (own.map (·.2)) σ H Q)
    (hRR : ∀ D C s' m H', Inv X pins σ H' s' → Q (.ref D) H' → s'.heap.Ns C m → FpOk X pins H' C → compPost (model X.prog X.w) X.A X.xe use Qf (.ref D) C (.ok .next) s') :
    wpAny (model X.prog X.w) X.A (comprehension (.DictComp kx vx [⟨tg, iter, ifs, 0⟩] scope pos) scope X.env pos' newDict false (eval iter X.env) use) Qf X.xe s := by
  have hfree : ∀ y ∈ scope.names, y.2 = .free → ∃ c, X.env.cells.lookup y.1 = some c := fun y hy e =>
    (ok.free y hy e).elim (fun k => I.ok.has _ (.inl k)) (fun k => I.ok.has _ (.inr k))
  refine wpAny_comprehension_free (use := use) rfl hs (closure_ok hfree) ok.kind (fun y hy e => by rw [ok.uniq y hy, e]) (thn (hi.run pins s σ H _ I h) fun xv s1 hx => thn hx fun itv s2 h2 => ?_)
  obtain ⟨it, fp, tn, J, H2, rfl, I2, T, st2, f2, q⟩ := h2
  refine wpAny_newObj_type (newEnv_comp ?_)
  generalize hD : s2.heap.objs.size = D
  have hDn : H2 D = none := I2.hok.fresh (Nat.le_of_eq hD)
  obtain ⟨W, ⟨m0, w0⟩, turn⟩ := q D hDn
  generalize hs3 : ({ s2 with heap := s2.heap.push { cls := .type "dict", data := .dict #[] } } : Shared) = s3
  have I3 : Inv X pins σ (upd H2 D (o0 D)) s3 := by
    rw [← hs3]
    refine I2.laid (t' := s2.toks) (fun b o e => Heap.get?_push_of_some _ e) (Nat.le_of_eq hD) ?_
    rw [← hD]
    exact o0n s2.heap I2.big
  have h3 : s3.heap = s2.heap.push { cls := .type "dict", data := .dict #[] } := by rw [← hs3]
  have sz : ∀ b ∈ fp, b < s2.heap.objs.size := fun b hb => let ⟨o, e, _⟩ := T.obj _ _ st2 b hb; Heap.lt_size e
  have f3 : ∀ b ∈ fp, FpOk X pins (upd H2 D (o0 D)) b ∧ b < s3.heap.objs.size := fun b hb =>
    ⟨⟨by rw [upd_ne (by rw [← hD]; exact Nat.ne_of_lt (sz b hb))]; exact (f2 b hb).1, (f2 b hb).2⟩, by rw [h3, Heap.size_push]; exact Nat.lt_succ_of_lt (sz b hb)⟩
  have st3 : tn 0 s3.heap := T.keep _ _ _ st2 fun b _ o e => by rw [h3]; exact Heap.get?_push_of_some _ e
  have I4 := block_start I3 ok hN f3
  have pg := hg s3 (upd H2 D (o0 D)) s3.heap.objs.size (cellsFrom (s3.heap.objs.size + 1) scope.names (cloFrom X.env.cells scope.names [])) fp
  have pt := ht s3 (upd H2 D (o0 D)) s3.heap.objs.size (cellsFrom (s3.heap.objs.size + 1) scope.names (cloFrom X.env.cells scope.names [])) fp
  have pk := hk s3 (upd H2 D (o0 D)) s3.heap.objs.size (cellsFrom (s3.heap.objs.size + 1) scope.names (cloFrom X.env.cells scope.names [])) fp
  have pe := he s3 (upd H2 D (o0 D)) s3.heap.objs.size (cellsFrom (s3.heap.objs.size + 1) scope.names (cloFrom X.env.cells scope.names [])) fp
  show codeAny _ _ (.compStart (.DictComp kx vx [⟨tg, iter, ifs, 0⟩] scope pos) 0 (.ref it) (.ref D) (compEnvC scope (cellsFrom (s3.heap.objs.size + 1) scope.names (cloFrom X.env.cells scope.names [])) s3.heap.objs.size X.env)) (compPost (model X.prog X.w) X.A X.xe use Qf (.ref D) s3.heap.objs.size) { s3 with heap := pushCells (s3.heap.push { cls := .type "dict", data := .dict #[] }) scope.names }
  have nfp : ∀ b ∈ fp, (upd H2 D (o0 D)) b = none := fun b hb => (f3 b hb).1.1
  generalize hce : compEnvC scope (cellsFrom (s3.heap.objs.size + 1) scope.names (cloFrom X.env.cells scope.names [])) s3.heap.objs.size X.env = ce at I4 pg pt pk pe ⊢
  have cL : ce.locals = s3.heap.objs.size := by subst hce; rfl
  generalize hH3 : upd H2 D (o0 D) = H3 at I3 I4 pg pt pk pe w0 nfp f3
  generalize hs4 : ({ s3 with heap := pushCells (s3.heap.push { cls := .type "dict", data := .dict #[] }) scope.names } : Shared) = s4 at I4 ⊢
  have st4 : tn 0 s4.heap := T.keep _ _ _ st3 fun b _ o e => by rw [← hs4]; exact pushCells_keeps _ _ _ _ (Heap.get?_push_of_some _ e)
  have stat : ∀ {σ' : L2.St} {H' : Hp} {s' : Shared}, Inv (X.blk s3 H3 scope ce fp) [] σ' H' s' → (∀ b ∈ fp, H' b = none) → ∀ b ∈ fp, FpOk (X.blk s3 H3 scope ce fp) [] H' b := fun {σ' H' s'} I' hn b hb =>
    ⟨hn b hb, (I'.ok.exf b hb).1, I'.ok.exfs b hb, .inl hb, fun x c e => (I'.ok.exf b hb).2 x c e, fun p hp => absurd (show p ∈ ([] : List (Addr × Obj)) ++ [] from hp) (by simp)⟩
  refine (fun loop => codeAny_compStart_dict loop (T.self X.A 0 _ _ _ st4 loop)) ?_
  refine compLoop_anyD (fun n s' => ∃ i H', Inv (X.blk s3 H3 scope ce fp) [] (wipe σ (own.map (·.2))) H' s' ∧ tn i s'.heap ∧ (∀ b ∈ fp, H' b = none) ∧ W i n H') ?_ m0 ⟨0, H3, I4, st4, nfp, w0⟩
  rintro n s5 ⟨i, H5, I5, st5, n5, w5⟩
  rcases turn i n H5 w5 with ⟨stop, qq⟩ | ⟨go, Nx, hNx, step⟩
  · refine thnF (T.done (X.blk s3 H3 scope ce fp) rfl rfl rfl hc i [] s5 _ H5 (fun _ _ => False) I5 (stat I5 n5) st5 stop) fun r s6 ⟨hr, I6⟩ => ?_
    subst hr
    have I7 : Inv X pins σ H5 s6 := I3.call' (ch := fp) I6.os I6.base I6.hok I6.bare fun b hb => ⟨(f3 b hb).1.2.2.2.1, (f3 b hb).1.2.1, (f3 b hb).1.2.2.2.2.1, (f3 b hb).1.2.2.2.2.2⟩
    have nC : H5 s3.heap.objs.size = none := by rw [← cL]; exact I6.free
    obtain ⟨m, hn, _⟩ := I6.loc
    have hn : s6.heap.Ns ce.locals m := hn
    rw [cL] at hn
    exact hRR D s3.heap.objs.size s6 m H5 I7 qq hn (I3.fpOk (Nat.le_refl _) nC)
  · refine thnF (T.item (X.blk s3 H3 scope ce fp) rfl rfl rfl hc i [] s5 _ H5 (fun _ _ => False) I5 (stat I5 n5) st5 go) fun r s6 ⟨u, hr, h6⟩ => ?_
    subst hr
    refine thnF h6 fun _ s7 ⟨x, H7, I7, r7, y7, st7, n7⟩ => ?_
    have I7' := I7.pinned (stat I7 n7) (T.obj _ _ st7)
    refine thnF (pg.run _ s7 _ H7 x u _ I7' r7 (step x H7 y7)) fun _ s8 ⟨σ8, H8, I8, hw8, q8⟩ => ?_
    refine thnF (pt.run _ s8 σ8 H8 _ I8 q8) fun b s9 ⟨H9, I9, q9⟩ => ?_
    have fin : ∀ {s' : Shared} {H' : Hp}, Inv (X.blk s3 H3 scope ce fp) ([] ++ pinsAt fp s7.heap) σ8 H' s' → Nx H' → ∃ m, m < n ∧ ∃ i H', Inv (X.blk s3 H3 scope ce fp) [] (wipe σ (own.map (·.2))) H' s' ∧ tn i s'.heap ∧ (∀ b ∈ fp, H' b = none) ∧ W i m H' := fun {s' H'} I' nx => by
      obtain ⟨m', hm, w'⟩ := hNx H' nx
      have pin' : ∀ b ∈ fp, ∀ o, s7.heap.get? b = some o → s'.heap.get? b = some o ∧ H' b = none := fun b hb o e =>
        let z := I'.pin (b, o) (List.mem_append_right _ (List.mem_append_right _ (mem_pinsAt hb e)))
        ⟨z.1, z.2.1⟩
      refine ⟨m', hm, i + 1, H', (I'.unpinned (pins := [])).weak (by rw [← hw8, wipe_length]) (fun j v e => ?_), T.keep _ _ _ st7 fun b hb o e => (pin' b hb o e).1, fun b hb => ?_, w'⟩
      · rw [← hw8] at e
        exact (wipe_some e).1
      · obtain ⟨o, e, _⟩ := T.obj _ _ st7 b hb
        exact (pin' b hb o e).2
    cases b with
    | false => exact fin I9 q9
    | true =>
      refine thnF (pk.run _ s9 σ8 H9 _ I9 q9) fun z s10 ⟨yk, H10, I10, r10, q10⟩ => ?_
      refine thnF (pe.run _ s10 σ8 H10 _ I10 q10) fun z2 s11 ⟨yv, H11, I11, r11, H12, hp, nx⟩ => ?_
      exact po.run (X := X.blk s3 H3 scope ce fp) rfl rfl rfl hu I11 hp r10 r11 fun s12 I12 => fin I12 nx
/-- as a value -/
theorem pe_dcG {o0 : Addr → HO} {put : Addr → V → V → Hp → Hp → Prop} {n : Nat} (po : PutOk X.prog X.w X.K n put) (hu : X.A.units + n < cLine) (o0n : ∀ {H : Hp} (h : Heap), sysModules < h.objs.size → ObjOk X.prog X.w H (h.push { cls := .type "dict", data := .dict #[] }) h.objs.size (o0 h.objs.size))
    {kx vx tg iter : Expr} {ifs : List Expr} {scope : Scope} {own : List (Str × Nat)} {pos : Pos} {wi : TI} {g : TG} {tt : TT} {tk tv : TE} (hc : X.calm = true) (hN : X.N.Nodup) (hi : PI X tg iter wi) (ok : BlkOk X.N X.env.scope scope own)
    (hg : ∀ (s : Shared) (H : Hp) (C : Addr) (cl : List (Str × Addr)) (fp : List Addr), PG (X.blk s H scope (compEnvC scope cl C X.env) fp) tg g) (ht : ∀ (s : Shared) (H : Hp) (C : Addr) (cl : List (Str × Addr)) (fp : List Addr), PTs (X.blk s H scope (compEnvC scope cl C X.env) fp) ifs tt)
    (hk : ∀ (s : Shared) (H : Hp) (C : Addr) (cl : List (Str × Addr)) (fp : List Addr), PE (X.blk s H scope (compEnvC scope cl C X.env) fp) kx tk)
    (he : ∀ (s : Shared) (H : Hp) (C : Addr) (cl : List (Str × Addr)) (fp : List Addr), PE (X.blk s H scope (compEnvC scope cl C X.env) fp) vx tv) (hs : ∀ x, foldedSetIterable iter X.env x = pure x := by intro _; rfl) :
    PE X (.DictComp kx vx [⟨tg, iter, ifs, 0⟩] scope pos) (tDcG o0 put wi g tt tk tv (own.map (·.2))) := by
  refine ⟨fun pins s σ H Q I h => ?_⟩
  rw [arm_eval_DictComp]
  refine dcG_core po hu o0n hc hN I hi ok hg ht hk he hs h fun D C s' m H' I' q hn f => ⟨m, hn, fun h'' sb => ?_⟩
  obtain ⟨f0, f1, f2, f3, f4, f5⟩ := f
  exact ⟨.ref D, H', I'.turned (t' := s'.toks) (fun b o hb e => (sb.2 b hb).trans e) f0 f1 f3 f4 f5, rfl, q⟩
theorem dT0 {P : Program} {w : World} {H : Hp} (h : Heap) (hb : sysModules < h.objs.size) : ObjOk P w H (h.push { cls := .type "dict", data := .dict #[] }) h.objs.size (.dT []) := dt_empty h hb
end
end My
/-! max(xs, default=k) of any list of ints; t < u of two tuples of ints -/
namespace My
open PySem PySem.Spec L2 PyProof.Rows
open Sem (wp)
section
variable {P0 : Program} {w0 : World} {B : Around} {Res : Result → Shared → Prop} {it : Addr} {fpr wri : List Addr} {Pi : Nat → Value → Prop} {Sti : Nat → Heap → Prop}
theorem mxd_none (Wk : Walks P0 w0 B.in1 it fpr wri 0 Pi Sti) (b : Addr) (bf : b ∉ fpr) {z : Shared} {cap : Nat} {d : Value} (st : Sti 0 z.heap)
    (hb : z.heap.get? b = some { cls := .type "list", dict := none, data := .seq #[] cap, slots := #[] })
    (hR : ∀ hp tk, (∀ a o, a ∉ wri → a ≠ b → z.heap.get? a = some o → hp.get? a = some o) → Res (.ok (.ret d)) { z with heap := hp, toks := tk }) :
    codeAny (model P0 w0) B (.builtin "max.loop" ⟨[.ref it, .none, .ref b], [(Str.ofString "default", d)]⟩) Res z := by
  refine codeAny_builtin F.entry_max_loop ?_
  rw [Around.under_plainId F.plain_max_loop _]
  show wpAny _ B.in1 (seqItems? (.ref b) >>= _) _ _ z
  refine wpAny_bind (wpAny_seqItems hb rfl ?_)
  show wpAny _ B.in1 (tryCatch (pyNext (.ref it)) _ >>= _) _ _ z
  refine wpAny_bind (wpAny_tryCatch (Wk.done z _ _ st fun hp tk hk => ?_))
  exact wpAny_bind (wpAny_rule (wpAny_pure (hR _ tk fun a o aw ab e => hk a o aw e)))
end
section
variable {P0 : Program} {w0 : World} {B : Around} {Ex : Value → Shared → Prop} {z : Shared}
theorem mxd_ints0 {l : Addr} {xs : Array (Int × Tok)} {d : Value} {Post : Value → Shared → Prop} (hh : B.handled = none) (hl : z.heap.IsList l (intItems xs)) (hne : xs.size = 0)
    (h : ∀ hp tk, (∀ a o, z.heap.get? a = some o → hp.get? a = some o) → Post d { z with heap := hp, toks := tk }) :
    wpAny (model P0 w0) B (call (.builtin "max") [.ref l] [(Str.ofString "default", d)]) Post Ex z := by
  refine fn_kw F.kind_max F.plain_max F.entry_max (mxd_args _ _) ?_
  show wpAny _ B.in1 (Builtin.Builtins.bindParams "max" ["key", "default"] 0 ⟨[], [(Str.ofString "default", d)]⟩ >>= _) _ _ z
  refine wpAny_bind (wpAny_of_eq (mxd_bind d) (wpAny_bind (wpAny_pure (wpAny_bind (iter_intList hl fun z2 e st hfp hlI => ?_)))))
  subst e
  refine wpAny_bind (wpAny_newObj_type ?_)
  rw [mxd_name]
  have W := Walks.list (prog := P0) (w := w0) (A := B.in1) hh _ l hlI (intItems xs)
  have e0 : (intItems xs).size = 0 := by simpa [intItems] using hne
  rw [e0] at W
  refine wpAny_pure ⟨plainId_quiet F.plain_max_loop _, mxd_none W _ (fun hm => Nat.lt_irrefl _ (hfp _ hm)) (W.frame _ _ _ st fun a _ o e => Heap.get?_push_of_some _ e) (Heap.get?_push_size _ rfl) fun hp tk hk => ?_⟩
  exact h hp tk (old_kept fun a o aw e => hk a o aw (Nat.ne_of_lt (Heap.lt_size e)) (Heap.get?_push_of_some _ e))
theorem mxd_raw0 {l : Addr} {its : List Value} {d : Value} {Post : Value → Shared → Prop} (hh : B.handled = none) (hl : z.heap.IsList l its.toArray) (hi : IntsAre its [])
    (h : ∀ hp tk, (∀ a o, z.heap.get? a = some o → hp.get? a = some o) → Post d { z with heap := hp, toks := tk }) : wpAny (model P0 w0) B (call (.builtin "max") [.ref l] [(Str.ofString "default", d)]) Post Ex z := by
  obtain ⟨ys, e⟩ := hi.allInts.items
  have en : numsOf (intItems ys).toList = [] := by rw [← e]; exact hi.numsOf
  rw [nums_intItems] at en
  rw [e] at hl
  exact mxd_ints0 hh hl (by simpa using congrArg List.length en) h
end
section
variable {X : Cx}
def tMaxE (K : PySem.W.Frag) (te tk : TE) : TE := fun σ H Q => te σ H fun y H1 => tk σ H1 fun d H2 => ∃ (a : Addr) (ns : List Int), y = .ref a ∧ SqL K H2 a (ns.map V.int) ∧ (0 < ns.length → ∀ m, m ∈ ns → (∀ y ∈ ns, y ≤ m) → Q (.int m) H2) ∧ (ns = [] → Q d H2)
/-- max(e, default=k), whether or not there is anything -/
theorem pe_maxE {e ek : Expr} {te tk : TE} {p kpos pos : Pos} (hc : X.calm = true) (hg : Gl X "max") (hm : X.mg "max" = none) (he : PE X e te) (hek : PE X ek tk)
    (hse : starEach [e] X.env = (false, eval e X.env) :: starEach [] X.env := by rfl) (hst : backTo pos (starEach [e] X.env) = (false, eval e X.env) :: backTo pos (starEach [] X.env) := by rfl) (hpl : (backTo pos (starEach [e] X.env)).any (·.1) = false := by rfl) :
    PE X (.Call (.Name "max" p) [e] [⟨some "default", ek, kpos⟩] pos) (tMaxE X.K te tk) := by
  refine ⟨fun pins s σ H Q I h => ?_⟩
  refine wpAny_Call_Name_kw (ld_blt (u := .builtin "max") I hg hm (by decide +kernel) ?_ (by decide) (by decide))
  have ha : PA X [e] (tCons te tNil) := pa_cons he pa_nil hse
  refine PyProof.Rows.callWith_kw (thn (ha.run pos pins s σ H (fun vs H1 => match vs with | [y] => tk σ H1 fun d H2 => ∃ (a : Addr) (ns : List Int), y = V.ref a ∧ SqL X.K H2 a (ns.map V.int) ∧ (0 < ns.length → ∀ m, m ∈ ns → (∀ y ∈ ns, y ≤ m) → Q (.int m) H2) ∧ (ns = [] → Q d H2) | _ => False) I h) fun us s1 ⟨vs, H1, I1, r1, q1⟩ => ?_) hst hpl (by rfl) (by rfl)
  obtain ⟨y, rfl, q1⟩ : ∃ y, vs = [y] ∧ tk σ H1 fun d H2 => ∃ (a : Addr) (ns : List Int), y = V.ref a ∧ SqL X.K H2 a (ns.map V.int) ∧ (0 < ns.length → ∀ m, m ∈ ns → (∀ y ∈ ns, y ≤ m) → Q (.int m) H2) ∧ (ns = [] → Q d H2) := by
    match vs, q1 with
    | [y], z => exact ⟨y, rfl, z⟩
  show wpAny _ _ (evalAll ((do let v ← eval ek X.env; standAt pos; pure v) :: [])) _ _ s1
  refine wpAny_evalAll_cons (wpAny_bind (thn (hek.run _ s1 σ H1 _ I1 q1) fun u s2 ⟨d, H2, I2, rd, a, ns, ey, hs, qn, q0⟩ => wpAny_bind (wpAny_standAt (wpAny_pure (wpAny_evalAll_nil ?_)))))
  cases ey
  obtain rfl := Vals.ref1 r1
  obtain ⟨its, rv, hl, _⟩ := I2.list hs
  show wpAny _ _ (call (.builtin "max") [.ref a] [(Str.ofString "default", u)]) _ _ s2
  by_cases hne : 0 < ns.length
  · exact mxd_raw (I2.ok.hd hc) hl.isList rv.ints hne fun h' tk m t' hk h1 h2 => ⟨.int _, H2, I2.kept hk, ⟨_, rfl⟩, qn hne m h1 h2⟩
  · have e0 : ns = [] := List.length_eq_zero_iff.mp (by omega)
    subst e0
    exact mxd_raw0 (I2.ok.hd hc) hl.isList rv.ints fun h' tk hk => ⟨d, H2, I2.kept hk, rd, q0 rfl⟩
/-- t < u, as the first pair that differs says -/
def ltII (ns ms : List Int) : Bool := Ob.lexAt (fun j => decide (ns.getD j 0 = ms.getD j 0)) (fun j => decide (ns.getD j 0 < ms.getD j 0)) (decide (ns.length < ms.length)) 0 (min ns.length ms.length)
def rLtT (K : PySem.W.Frag) : R2 := fun x y H Q => ∃ (a b : Addr) (ns ms : List Int), x = .ref a ∧ y = .ref b ∧ SqT K H a (ns.map V.int) ∧ SqT K H b (ms.map V.int) ∧ Q (.bl (ltII ns ms)) H
theorem op_ltT (hu : X.A.units < cLine) : OpR X (compareOp .Lt) (rLtT X.K) := by
  intro pins s σ H x y v u Q I rx ry h
  obtain ⟨a, b, ns, ms, rfl, rfl, ha, hb, q⟩ := h
  cases rx
  cases ry
  obtain ⟨ws, r1, p1, _⟩ := I.tuple ha
  obtain ⟨us, r2, p2, _⟩ := I.tuple hb
  have i1 : IntsAre ws ns := Vals.ints r1
  have i2 : IntsAre us ms := Vals.ints r2
  have n1 : ws.toArray.size = ns.length := by rw [List.size_toArray]; exact i1.length
  have n2 : us.toArray.size = ms.length := by rw [List.size_toArray]; exact i2.length
  have g1 : ∀ j (h1 : j < ws.toArray.size), ∃ t, ws.toArray[j] = .int (ns.getD j 0) t := fun j h1 => PyProof.Rows.IntsAre.int_at i1 _ _ (by simp at h1; simp [h1])
  have g2 : ∀ j (h1 : j < us.toArray.size), ∃ t, us.toArray[j] = .int (ms.getD j 0) t := fun j h1 => PyProof.Rows.IntsAre.int_at i2 _ _ (by simp at h1; simp [h1])
  have R := Ob.RcOp.tuples_lt (A := X.A) (s := s) (e := fun j => decide (ns.getD j 0 = ms.getD j 0)) (r := fun j => decide (ns.getD j 0 < ms.getD j 0)) p1 p2 hu (fun j h1 h2 => by
    obtain ⟨t, et⟩ := g1 j h1
    obtain ⟨t', et'⟩ := g2 j h2
    rw [et, et', show decide (ns.getD j 0 = ms.getD j 0) = (ns.getD j 0 == ms.getD j 0) by rw [Bool.eq_iff_iff]; simp]
    exact SeqAt.EqAt.int_int _ _ _ _) (fun j h1 h2 _ => by
    obtain ⟨t, et⟩ := g1 j h1
    obtain ⟨t', et'⟩ := g2 j h2
    rw [et, et']
    exact Ob.RcOp.lt_int _ _ _ _)
  rw [n1, n2] at R
  exact R X.prog X.w X.xe (EP X pins σ Q) ⟨.bl _, H, I, rfl, q⟩
theorem ltII2 (a b c d : Int) : ltII [a, b] [c, d] = decide (a < c ∨ (a = c ∧ b < d)) := by
  unfold ltII
  simp only [List.length_cons, List.length_nil, Nat.min_self, Nat.zero_add, Nat.lt_irrefl, decide_false]
  rw [Ob.lexAt_succ, Ob.lexAt_succ, Ob.lexAt_zero]
  simp only [List.getD_cons_zero, List.getD_cons_succ, Nat.zero_add]
  by_cases h : a = c
  · subst h
    by_cases h2 : b = d
    · subst h2; simp
    · simp [h2]
  · simp [h]
end
section
variable {X : Cx}
/-- x in a list or a tuple of data -/
def rInE (K : PySem.W.Frag) : R2 := fun x y H Q => ∃ d ds, Dp K H x d ∧ (Dp K H y (.list ds) ∨ Dp K H y (.tuple ds)) ∧ SeqAt.shaped d = true ∧ SeqAt.shaped (.list ds) = true ∧ Q (.bl (ds.any fun z => PyData.eqv z d)) H
theorem op_inE (hu : X.A.units + 65 < cLine) : OpR X (compareOp .In) (rInE X.K) := by
  intro pins s σ H x y v u Q I rx ry h
  obtain ⟨d, ds, hd, he, sd, se, q⟩ := h
  obtain ⟨as, r1⟩ := Dp.reads I d x v hd rx
  rcases he with he | he
  · obtain ⟨bs, r2⟩ := Dp.reads I (.list ds) y u he ry
    exact SeqAt.in_list_reads r2 r1 (SeqAt.canLay_of_shaped se) (SeqAt.canLay_of_shaped sd) (room_in_shaped sd hu) ⟨.bl _, H, I, rfl, q⟩
  · obtain ⟨bs, r2⟩ := Dp.reads I (.tuple ds) y u he ry
    exact SeqAt.in_tuple_reads r2 r1 (SeqAt.canLay_of_shaped se) (SeqAt.canLay_of_shaped sd) (room_in_shaped sd hu) ⟨.bl _, H, I, rfl, q⟩
end
end My
/-! dicts whose keys are tuples of any depth, told by their keys, the keys' addresses and their values -/
namespace My
open PySem PySem.Spec L2 PyProof.Rows
/-! ### a key as data -/
mutual
def nk : PyData → NestedKey
  | .none => .none
  | .bool b => .num (if b = true then 1 else 0)
  | .int i => .num i
  | .str x => .text x
  | .tuple ds => .tup (nks ds)
  | .list _ => .none
  | .dict _ => .none
def nks : List PyData → List NestedKey
  | [] => []
  | d :: ds => nk d :: nks ds
end
section
variable {X : Cx} {pins : List (Addr × Obj)} {σ : L2.St} {H : Hp} {s : Shared}
mutual
theorem nested_of (I : Inv X pins σ H s) : ∀ {v : V} {d : PyData} {u : Value}, Dp X.K H v d → nlB d = true → RelV v u → NestedIs s.heap (nk d) u
  | _, _, u, .non, _, r => by
    obtain rfl : u = Value.none := r
    exact .none
  | _, _, u, .bl b, _, r => by
    obtain rfl : u = Value.bool b := r
    exact .bool rfl
  | _, _, u, .int i, _, r => by
    obtain ⟨t, rfl⟩ : ∃ t, u = Value.int i t := r
    exact .int i t
  | _, _, u, .str x, _, r => by
    obtain ⟨t, rfl⟩ : ∃ t, u = Value.str x t := r
    exact .text x t
  | _, _, u, .lst _ _, nl, _ => by cases nl
  | _, _, u, @Dp.tup _ _ a xs ds h t, nl, r => by
    obtain rfl : u = Value.ref a := r
    obtain ⟨its, rv, ⟨o, ho, hc, n, hd⟩, _⟩ := I.tuple h
    refine NestedIs.tup ho hc hd ?_
    exact nested_all I t (show nlAll ds = true from nl) rv
theorem nested_all (I : Inv X pins σ H s) : ∀ {vs : List V} {ds : List PyData} {us : List Value}, DpAll X.K H vs ds → nlAll ds = true → Vals vs us → NestedAll s.heap (nks ds) us
  | _, _, _, .nil, _, .nil => .nil
  | _, d :: ds, _, .cons h t, nl, .cons r rs => by
    have nl : (nlB d && nlAll ds) = true := nl
    rw [Bool.and_eq_true] at nl
    exact .cons (nested_of I h nl.1 r) (nested_all I t nl.2 rs)
end
end
mutual
theorem dp_mono {K : PySem.W.Frag} {H H' : Hp} (e : ∀ p xs, SqT K H p xs → SqT K H' p xs) : ∀ {v : V} {d : PyData}, nlB d = true → Dp K H v d → Dp K H' v d
  | _, _, _, .non => .non
  | _, _, _, .bl b => .bl b
  | _, _, _, .int i => .int i
  | _, _, _, .str x => .str x
  | _, .list _, nl, .lst _ _ => by cases nl
  | _, .tuple ds, nl, .tup h t => .tup (e _ _ h) (dps_mono e (show nlAll ds = true from nl) t)
theorem dps_mono {K : PySem.W.Frag} {H H' : Hp} (e : ∀ p xs, SqT K H p xs → SqT K H' p xs) : ∀ {vs : List V} {ds : List PyData}, nlAll ds = true → DpAll K H vs ds → DpAll K H' vs ds
  | _, _, _, .nil => .nil
  | _, d :: ds, nl, .cons h t => by
    have nl : (nlB d && nlAll ds) = true := nl
    rw [Bool.and_eq_true] at nl
    exact .cons (dp_mono e nl.1 h) (dps_mono e nl.2 t)
end
/-- at b stands the tuple that the key is -/
def KeyAt (K : PySem.W.Frag) (H : Hp) (b : Addr) (k : NestedKey) : Prop := ∃ ds, Dp K H (.ref b) (.tuple ds) ∧ nlAll ds = true ∧ k = nk (.tuple ds) ∧ k.depth ≤ 8
theorem KeyAt.mono {K : PySem.W.Frag} {H H' : Hp} {b : Addr} {k : NestedKey} (h : KeyAt K H b k) (e : ∀ p xs, SqT K H p xs → SqT K H' p xs) : KeyAt K H' b k := by
  obtain ⟨ds, h1, h2, h3, h4⟩ := h
  exact ⟨ds, dp_mono e (show nlB (.tuple ds) = true from h2) h1, h2, h3, h4⟩
abbrev KVs := List (NestedKey × Addr × V)
def KeysIn (K : PySem.W.Frag) (H : Hp) (kvs : KVs) : Prop := ∀ p ∈ kvs, KeyAt K H p.2.1 p.1
theorem KeysIn.mono {K : PySem.W.Frag} {H H' : Hp} {kvs : KVs} (h : KeysIn K H kvs) (e : ∀ p xs, SqT K H p xs → SqT K H' p xs) : KeysIn K H' kvs := fun p hp => (h p hp).mono e
def RelN (p : NestedKey × Addr × V) (q : NestedKey × Addr × Value) : Prop := q.1 = p.1 ∧ q.2.1 = p.2.1 ∧ RelV p.2.2 q.2.2
/-- the dict at D -/
def DN (P : Program) (w : World) (D : Addr) (kvs : KVs) : HO := .ext fun h => kvs.length ≤ sizeLine ∧ (D == sysModules) = false ∧ ∃ xs : List (NestedKey × Addr × Value), Paired RelN kvs xs ∧
  ∃ o es ep, h.get? D = some o ∧ o.ExactDict ∧ o.data = .dict es ep ∧ es.toList = xs.map (entryOfKey (nestedKind P w)) ∧ (xs.map (·.1)).Nodup
theorem dn_ok {P : Program} {w : World} {H : Hp} {h : Heap} {D : Addr} {kvs : KVs} (z : kvs.length ≤ sizeLine) (hs : (D == sysModules) = false) {xs : List (NestedKey × Addr × Value)} (pr : Paired RelN kvs xs) {o : Obj} {es : Array DictEntry} {ep : Nat}
    (ho : h.get? D = some o) (hx : o.ExactDict) (hd : o.data = .dict es ep) (he : es.toList = xs.map (entryOfKey (nestedKind P w))) (hn : (xs.map (·.1)).Nodup) : ObjOk P w H h D (DN P w D kvs) :=
  ⟨⟨z, hs, xs, pr, o, es, ep, ho, hx, hd, he, hn⟩, ⟨o, ho⟩, fun h1 h2 ⟨z, hs, xs, pr, o, es, ep, ho, r⟩ k => ⟨z, hs, xs, pr, o, es, ep, k o ho, r⟩⟩
theorem dn_at {P : Program} {w : World} {H : Hp} {h : Heap} {D : Addr} {kvs : KVs} (x : ObjOk P w H h D (DN P w D kvs)) : kvs.length ≤ sizeLine ∧ (D == sysModules) = false ∧ ∃ xs : List (NestedKey × Addr × Value), Paired RelN kvs xs ∧
  ∃ o es ep, h.get? D = some o ∧ o.ExactDict ∧ o.data = .dict es ep ∧ es.toList = xs.map (entryOfKey (nestedKind P w)) ∧ (xs.map (·.1)).Nodup := x.1
def atN (kvs : KVs) (k : NestedKey) : Option (Addr × V) := atK kvs k where
  atK : KVs → NestedKey → Option (Addr × V)
    | [], _ => none
    | p :: r, k => if p.1 = k then some p.2 else atK r k
def putN (kvs : KVs) (k : NestedKey) (b : Addr) (v : V) : KVs := match atN kvs k with
  | none => kvs ++ [(k, b, v)]
  | some _ => kvs.map fun p => if p.1 = k then (p.1, p.2.1, v) else p
theorem atK_rel {kvs : KVs} {xs : List (NestedKey × Addr × Value)} (pr : Paired RelN kvs xs) (k : NestedKey) : match atN.atK kvs k, atKey xs k with
    | none, none => True
    | some p, some q => q.1 = p.1 ∧ RelV p.2 q.2
    | _, _ => False := by
  induction pr with
  | nil => exact True.intro
  | @cons p q ps qs r t ih =>
    obtain ⟨e1, e2, e3⟩ := r
    by_cases h : p.1 = k
    · rw [show atN.atK (p :: ps) k = some p.2 from if_pos h, show atKey (q :: qs) k = some q.2 from by unfold atKey; rw [List.find?_cons, decide_eq_true (e1.trans h)]; rfl]
      exact ⟨e2, e3⟩
    · rw [show atN.atK (p :: ps) k = atN.atK ps k from if_neg h, show atKey (q :: qs) k = atKey qs k from by unfold atKey; rw [List.find?_cons, decide_eq_false (fun z => h (e1.symm.trans z))]]
      exact ih
theorem atN_some {kvs : KVs} {xs : List (NestedKey × Addr × Value)} (pr : Paired RelN kvs xs) {k : NestedKey} {p : Addr × V} (h : atN kvs k = some p) : ∃ q, atKey xs k = some q ∧ q.1 = p.1 ∧ RelV p.2 q.2 := by
  have := atK_rel pr k
  rw [show atN.atK kvs k = some p from h] at this
  cases e : atKey xs k with
  | none => rw [e] at this; exact this.elim
  | some q => rw [e] at this; exact ⟨q, rfl, this⟩
theorem atN_none {kvs : KVs} {xs : List (NestedKey × Addr × Value)} (pr : Paired RelN kvs xs) {k : NestedKey} (h : atN kvs k = none) : atKey xs k = none := by
  have := atK_rel pr k
  rw [show atN.atK kvs k = none from h] at this
  cases e : atKey xs k with
  | none => rfl
  | some q => rw [e] at this; exact this.elim
theorem atN_isSome {kvs : KVs} {xs : List (NestedKey × Addr × Value)} (pr : Paired RelN kvs xs) (k : NestedKey) : (atKey xs k).isSome = (atN kvs k).isSome := by
  cases e : atN kvs k with
  | none => rw [atN_none pr e]; rfl
  | some p => obtain ⟨q, hq, _⟩ := atN_some pr e; rw [hq]; rfl
theorem pairedN_app {α β : Type} {R : α → β → Prop} : ∀ {as : List α} {bs : List β} {cs : List α} {ds : List β}, Paired R as bs → Paired R cs ds → Paired R (as ++ cs) (bs ++ ds)
  | _, _, _, _, .nil, t => t
  | _, _, _, _, .cons r t, u => .cons r (pairedN_app t u)
theorem putN_rel {kvs : KVs} {xs : List (NestedKey × Addr × Value)} (pr : Paired RelN kvs xs) {k : NestedKey} {b : Addr} {v : V} {r : Value} (rv : RelV v r) : Paired RelN (putN kvs k b v) (storedH xs k b r) := by
  unfold putN
  cases e : atN kvs k with
  | none =>
    rw [storedH_new (atN_none pr e)]
    exact pairedN_app pr (.cons ⟨rfl, rfl, rv⟩ .nil)
  | some p =>
    obtain ⟨q, hq, _⟩ := atN_some pr e
    rw [storedH_old hq]
    clear e hq
    induction pr with
    | nil => exact .nil
    | @cons p q ps qs t _ ih =>
      refine .cons ?_ ih
      obtain ⟨e1, e2, e3⟩ := t
      show RelN (if p.1 = k then _ else p) (putAt k r q)
      unfold putAt
      by_cases h : p.1 = k
      · rw [if_pos h, if_pos (e1.trans h)]
        exact ⟨e1, e2, rv⟩
      · rw [if_neg h, if_neg (fun z => h (e1.symm.trans z))]
        exact ⟨e1, e2, e3⟩
theorem putN_len (kvs : KVs) (k : NestedKey) (b : Addr) (v : V) : (putN kvs k b v).length ≤ kvs.length + 1 := by
  unfold putN
  split
  · simp
  · rw [List.length_map]; omega
theorem putN_keys {K : PySem.W.Frag} {H : Hp} {kvs : KVs} (h : KeysIn K H kvs) {k : NestedKey} {b : Addr} (hb : KeyAt K H b k) (v : V) : KeysIn K H (putN kvs k b v) := by
  intro p hp
  unfold putN at hp
  split at hp
  · rcases List.mem_append.mp hp with hp | hp
    · exact h p hp
    · rw [List.mem_singleton.mp hp]; exact hb
  · obtain ⟨q, hq, rfl⟩ := List.mem_map.mp hp
    split
    · exact h q hq
    · exact h q hq
section
variable {X : Cx} {pins : List (Addr × Obj)} {σ : L2.St} {H : Hp} {s : Shared}
theorem key_is (I : Inv X pins σ H s) {b : Addr} {k : NestedKey} (h : KeyAt X.K H b k) : (nestedKind X.prog X.w).is s.heap k b := by
  obtain ⟨ds, h1, h2, rfl, h4⟩ := h
  exact ⟨nested_of I h1 (show nlB (.tuple ds) = true from h2) (show RelV (.ref b) (.ref b) from rfl), h4⟩
theorem keys_are (I : Inv X pins σ H s) {kvs : KVs} {xs : List (NestedKey × Addr × Value)} (pr : Paired RelN kvs xs) (h : KeysIn X.K H kvs) : ∀ x ∈ xs, (nestedKind X.prog X.w).is s.heap x.1 x.2.1 := by
  induction pr with
  | nil => intro x hx; cases hx
  | @cons p q ps qs r t ih =>
    intro x hx
    rcases List.mem_cons.mp hx with rfl | hx
    · rw [r.1, r.2.1]; exact key_is I (h p (.head _))
    · exact ih (fun y hy => h y (.tail _ hy)) x hx
theorem dn_of (I : Inv X pins σ H s) {D : Addr} {kvs : KVs} (hd : Rd H D (DN X.prog X.w D kvs)) (hk : KeysIn X.K H kvs) : kvs.length ≤ sizeLine ∧ (D == sysModules) = false ∧ ∃ xs, Paired RelN kvs xs ∧ s.heap.DictOfH (nestedKind X.prog X.w) D xs := by
  obtain ⟨z, hs, xs, pr, o, es, ep, ho, hx, hdt, he, hn⟩ := dn_at (hd.ok I.hok)
  exact ⟨z, hs, xs, pr, o, es, ep, ho, hx, hdt, he, keys_are I pr hk, hn⟩
/-- D[b] = v -/
theorem dn_set {A : Around} {E : Value → Shared → Prop} {D b : Addr} {kvs : KVs} {k : NestedKey} {v : V} {r : Value} {Q : Unit → Shared → Prop} (hu : A.units + 9 < cLine) (I : Inv X pins σ H s) (hd : H D = some (DN X.prog X.w D kvs)) (hk : KeysIn X.K H kvs) (hb : KeyAt X.K H b k) (hl : kvs.length < sizeLine) (rv : RelV v r)
    (h : ∀ s', Inv X pins σ (upd H D (DN X.prog X.w D (putN kvs k b v))) s' → Q () s') : wpAny (model X.prog X.w) A (setItem (.ref D) (.ref b) r) Q E s := by
  obtain ⟨z, hs, xs, pr, dd⟩ := dn_of I (.inl hd) hk
  have hz : xs.length ≤ sizeLine := by rw [← Paired.length pr]; exact z
  refine wpAny_setItem_heap (hsz := hz) (show A.units + 1 + 8 < cLine by omega) (key_is I hb) dd fun h' dd' sb => h _ ?_
  obtain ⟨q, es, ep, hq, h2, h3, h4, _, h5⟩ := dd'
  exact d_write I (by rw [hd]; exact True.intro) sb ⟨q, hq⟩ (dn_ok (by have := putN_len kvs k b v; omega) hs (putN_rel pr rv) hq h2 h3 h4 h5)
theorem dn_set2 {E : Value → Shared → Prop} {D b : Addr} {kvs : KVs} {k : NestedKey} {v : V} {r : Value} {Q : Unit → Shared → Prop} (hu : X.A.units + 9 < cLine) (I : Inv X pins σ H s) (hd : H D = some (DN X.prog X.w D kvs)) (hk : KeysIn X.K H kvs) (hb : KeyAt X.K H b k) (hl : kvs.length < sizeLine) (rv : RelV v r)
    (h : ∀ s', Inv X pins σ (upd H D (DN X.prog X.w D (putN kvs k b v))) s' → Q () s') : wpAny (model X.prog X.w) X.A (dictSet D (.ref b) r) Q E s := by
  obtain ⟨z, hs, xs, pr, dd⟩ := dn_of I (.inl hd) hk
  have hz : xs.length ≤ sizeLine := by rw [← Paired.length pr]; exact z
  refine wpAny_dictSet_heap (hsz := hz) (show X.A.units + 8 < cLine by omega) (key_is I hb) dd fun h' dd' sb => h _ ?_
  obtain ⟨q, es, ep, hq, h2, h3, h4, _, h5⟩ := dd'
  exact d_write I (by rw [hd]; exact True.intro) sb ⟨q, hq⟩ (dn_ok (by have := putN_len kvs k b v; omega) hs (putN_rel pr rv) hq h2 h3 h4 h5)
end
/-! ### the rules -/
def tDNew (P : Program) (w : World) : TE := fun _ H Q => ∀ p, H p = none → Q (.ref p) (upd H p (DN P w p []))
def tDInN (P : Program) (w : World) (K : PySem.W.Frag) (n : Bool) (ty td : TE) : TE := fun σ H Q => ty σ H fun y H1 => td σ H1 fun x H2 => ∃ D kvs b k, x = .ref D ∧ y = .ref b ∧ Rd H2 D (DN P w D kvs) ∧ KeysIn K H2 kvs ∧ KeyAt K H2 b k ∧ Q (.bl (n != (atN kvs k).isSome)) H2
def tDGetN (P : Program) (w : World) (K : PySem.W.Frag) (td ty : TE) : TE := fun σ H Q => td σ H fun x H1 => ty σ H1 fun y H2 => ∃ D kvs b k p, x = .ref D ∧ y = .ref b ∧ Rd H2 D (DN P w D kvs) ∧ KeysIn K H2 kvs ∧ KeyAt K H2 b k ∧ atN kvs k = some p ∧ Q p.2 H2
def sDPutN (P : Program) (w : World) (K : PySem.W.Frag) (td ty tv : TE) : TS := fun D0 σ H => tv σ H fun v H1 => td σ H1 fun x H2 => ty σ H2 fun y H3 => ∃ D kvs b k, x = .ref D ∧ y = .ref b ∧ H3 D = some (DN P w D kvs) ∧ KeysIn K H3 kvs ∧ KeyAt K H3 b k ∧ kvs.length < sizeLine ∧ D0.nx σ (upd H3 D (DN P w D (putN kvs k b v)))
section
variable {X : Cx} {o i e f value : Expr} {pos pos' tpos : Pos} {td ty tv : TE}
theorem pe_dnewN : PE X (.Dict [] [] pos) (tDNew X.prog X.w) := ⟨fun pins s σ H Q I h =>
  wpAny_Dict_empty ⟨.ref s.heap.objs.size, _, I.laid (a := s.heap.objs.size) (o := DN X.prog X.w s.heap.objs.size []) (t' := s.toks) (fun _ _ q => Heap.get?_push_of_some _ q) (Nat.le_refl _)
    (dn_ok (xs := []) (Nat.zero_le _) (beq_eq_false_iff_ne.mpr (Nat.ne_of_gt I.big)) .nil (Heap.get?_push_size _ rfl) ⟨rfl, rfl, rfl⟩ rfl rfl .nil), rfl, h _ (I.hok.fresh (Nat.le_refl _))⟩⟩
theorem pc_dinN (hu : X.A.units + 9 < cLine) (hi : PE X i ty) (ho : PE X o td) : PC X .In i o (tDInN X.prog X.w X.K false ty td) := by
  refine ⟨fun pins s σ H Q I h => ?_⟩
  refine thn (hi.run pins s σ H _ I h) fun iv s1 ⟨y, H1, I1, ry, q1⟩ => thn (ho.run pins s1 σ H1 _ I1 q1) fun u s2 ⟨x, H2, I2, rx, D, kvs, b, k, ex, ey, hd, hk, hb, q2⟩ => ?_
  subst ex ey
  obtain rfl : u = Value.ref D := rx
  obtain rfl : iv = Value.ref b := ry
  obtain ⟨z, hs, xs, pr, dd⟩ := dn_of I2 hd hk
  refine wpAny_in_heap (show X.A.units + 1 + 8 < cLine by omega) (key_is I2 hb) hs dd ?_
  rw [atN_isSome pr k]
  exact ⟨.bl (atN kvs k).isSome, H2, I2.tok _, rfl, by simpa using q2⟩
theorem pc_dnotinN (hu : X.A.units + 9 < cLine) (hi : PE X i ty) (ho : PE X o td) : PC X .NotIn i o (tDInN X.prog X.w X.K true ty td) := by
  refine ⟨fun pins s σ H Q I h => ?_⟩
  refine thn (hi.run pins s σ H _ I h) fun iv s1 ⟨y, H1, I1, ry, q1⟩ => thn (ho.run pins s1 σ H1 _ I1 q1) fun u s2 ⟨x, H2, I2, rx, D, kvs, b, k, ex, ey, hd, hk, hb, q2⟩ => ?_
  subst ex ey
  obtain rfl : u = Value.ref D := rx
  obtain rfl : iv = Value.ref b := ry
  obtain ⟨z, hs, xs, pr, dd⟩ := dn_of I2 hd hk
  refine wpAny_notIn_heap (show X.A.units + 1 + 8 < cLine by omega) (key_is I2 hb) hs dd ?_
  rw [atN_isSome pr k]
  exact ⟨.bl (!(atN kvs k).isSome), H2, I2.tok _, rfl, by simpa using q2⟩
theorem pe_dgetN (hu : X.A.units + 9 < cLine) (ho : PE X o td) (hi : PE X i ty) (hs : NoSl i) : PE X (.Subscript o i pos) (tDGetN X.prog X.w X.K td ty) := by
  refine ⟨fun pins s σ H Q I h => ?_⟩
  refine subD_of PySem.F.slot_dict_getitem.lookup hs (thn (ho.run pins s σ H _ I h) fun u s1 ⟨x, H1, I1, rx, q1⟩ => thn (hi.run pins s1 σ H1 _ I1 q1) fun iv s2 ⟨y, H2, I2, ry, D, kvs, b, k, p, ex, ey, hd, hk, hb, hp, q2⟩ => ?_)
  subst ex ey
  obtain rfl : u = Value.ref D := rx
  obtain rfl : iv = Value.ref b := ry
  obtain ⟨z, hs, xs, pr, dd⟩ := dn_of I2 hd hk
  obtain ⟨q, hq, _, rq⟩ := atN_some pr hp
  exact ⟨dd.typeIs, wpAny_getItem_heap (show X.A.units + 1 + 8 < cLine by omega) (key_is I2 hb) dd hq ⟨p.2, H2, I2.tok _, rq, q2⟩⟩
theorem ps_dputN (hu : X.A.units + 9 < cLine) (ho : PE X o td) (hi : PE X i ty) (hv : PE X value tv) (hs : swapsWith value (some (.Subscript o i pos')) pos.line X.env = pure false) :
    PS X (.Assign [.Subscript o i pos'] value pos) (sDPutN X.prog X.w X.K td ty tv) := by
  refine ⟨fun pins s σ H D0 I h => ?_⟩
  refine wpAny_Assign_Subscript (thn (hv.run pins s σ H _ I h) fun r s1 ⟨v, H1, I1, rv, q1⟩ => thn (ho.run pins s1 σ H1 _ I1 q1) fun u s2 ⟨x, H2, I2, rx, q2⟩ => thn (hi.run pins s2 σ H2 _ I2 q2) fun iv s3 ⟨y, H3, I3, ry, D, kvs, b, k, ex, ey, hd, hk, hb, hl, q3⟩ => ?_) hs
  subst ex ey
  obtain rfl : u = Value.ref D := rx
  obtain rfl : iv = Value.ref b := ry
  exact dn_set hu I3 hd hk hb hl rv fun s4 I4 => ⟨σ, _, I4, q3⟩
end
/-- a comprehension's store -/
def putD (P : Program) (w : World) (K : PySem.W.Frag) (D : Addr) (y z : V) (H H' : Hp) : Prop := ∃ kvs b k, y = .ref b ∧ H D = some (DN P w D kvs) ∧ KeysIn K H kvs ∧ KeyAt K H b k ∧ kvs.length < sizeLine ∧ H' = upd H D (DN P w D (putN kvs k b z))
theorem putD_ok {P : Program} {w : World} {K : PySem.W.Frag} : PutOk P w K 9 (putD P w K) := ⟨fun {X} hP hw hK hu {pins σ H H' s E D y z u r Q} I p ry rz h => by
  subst hP hw hK
  obtain ⟨kvs, b, k, rfl, hd, hk, hb, hl, rfl⟩ := p
  cases (show u = Value.ref b from ry)
  exact dn_set2 hu I hd hk hb hl rz h⟩
theorem dN0 {P : Program} {w : World} {H : Hp} (h : Heap) (hb : sysModules < h.objs.size) : ObjOk P w H (h.push { cls := .type "dict", data := .dict #[] }) h.objs.size (DN P w h.objs.size []) :=
  dn_ok (xs := []) (Nat.zero_le _) (beq_eq_false_iff_ne.mpr (Nat.ne_of_gt hb)) .nil (Heap.get?_push_size _ rfl) ⟨rfl, rfl, rfl⟩ rfl rfl .nil
/-! ### list(d): the keys, as they stand -/
section
variable {X : Cx}
theorem relN_len {kvs : KVs} {xs : List (NestedKey × Addr × Value)} (pr : Paired RelN kvs xs) : kvs.length = xs.length := Paired.length pr
theorem relN_keys {kvs : KVs} {xs : List (NestedKey × Addr × Value)} (pr : Paired RelN kvs xs) : xs.map (fun x => Value.ref x.2.1) = kvs.map fun p => Value.ref p.2.1 := by
  induction pr with
  | nil => rfl
  | cons r t ih => rw [List.map_cons, List.map_cons, ih, r.2.1]
theorem valsRefs : ∀ kvs : KVs, Vals (kvs.map fun p => V.ref p.2.1) (kvs.map fun p => Value.ref p.2.1)
  | [] => .nil
  | _ :: r => .cons rfl (valsRefs r)
theorem call_listN (hc : X.calm = true) : CallR X (.type "list") (fun xs H Q => ∃ D kvs, xs = [V.ref D] ∧ Rd H D (DN X.prog X.w D kvs) ∧ ∀ p, H p = none → Q (.ref p) (upd H p (.lst (kvs.map fun p => V.ref p.2.1)))) := by
  intro pins s σ H xs us Q I r h
  obtain ⟨D, kvs, rfl, hd, q⟩ := h
  obtain ⟨u, rfl, rx⟩ := r.one
  cases rx
  obtain ⟨z, hs, ks, pr, o, es, ep, ho, hx, hdt, he, hn⟩ := dn_at (hd.ok I.hok)
  have l1 : es.size = ks.length := size_of_entries he
  have l2 := relN_len pr
  refine PySem.W.kdl_call (kdl_raw hs hx hdt) (I.ok.hd hc) ho (by omega) fun h' tk acc c kp e it => ?_
  have ea : acc.toList = ks.map fun x => Value.ref x.2.1 := by
    apply List.ext_getElem?
    intro j
    rw [List.getElem?_map]
    have hl : acc.toList.length = ks.length := by rw [Array.length_toList, it.1]; exact l1
    cases hj : acc.toList[j]? with
    | none =>
      have h1 := List.getElem?_eq_none_iff.mp hj
      rw [List.getElem?_eq_none (by omega)]
      rfl
    | some v =>
      obtain ⟨en, hen, hv⟩ := it.2 j v (by rw [← Array.getElem?_toList]; exact hj)
      have qe := entry_at he j
      rw [hen] at qe
      cases hb : ks[j]? with
      | none => rw [hb] at qe; cases qe
      | some b =>
        rw [hb] at qe
        rw [hv, Option.some.inj qe]
        rfl
  rw [relN_keys pr] at ea
  have rv : Vals (kvs.map fun p => V.ref p.2.1) acc.toList := by rw [ea]; exact valsRefs _
  refine ⟨.ref s.heap.objs.size, _, I.laid (t' := tk) (o := .lst (kvs.map fun p => V.ref p.2.1)) kp (Nat.le_refl _) ?_, rfl, q _ (I.hok.fresh (Nat.le_refl _))⟩
  exact ⟨by rw [List.length_map]; exact z, acc.toList, c, rv, by rw [Array.toArray_toList]; exact e⟩
end
/-! ### d.values(), walked -/
section
variable {X : Cx} {pins : List (Addr × Obj)} {σ : L2.St} {H : Hp} {s : Shared} {d : Addr} {o : Obj}
theorem pairedN_at {kvs : KVs} {xs : List (NestedKey × Addr × Value)} (pr : Paired RelN kvs xs) : ∀ {i : Nat} {x : NestedKey × Addr × Value}, xs[i]? = some x → ∃ p, kvs[i]? = some p ∧ RelN p x := by
  induction pr with
  | nil => intro i x e; simp at e
  | @cons a b as bs r t ih =>
    intro i x e
    cases i with
    | zero => simp at e; subst e; exact ⟨a, rfl, r⟩
    | succ j => simp at e; obtain ⟨p, hp, hr⟩ := ih e; exact ⟨p, by simpa using hp, hr⟩
theorem frzN {kvs : KVs} (I : Inv X pins σ H s) (h : H d = some (.frz o (DN X.prog X.w d kvs))) :
    (d == sysModules) = false ∧ s.heap.get? d = some o ∧ o.ExactDict ∧ ∃ (es : Array DictEntry) (ep : Nat), o.data = .dict es ep ∧ es.size = kvs.length ∧
      ∀ (i : Nat) (hi : i < es.size), ∃ p, kvs[i]? = some p ∧ es[i].key = .ref p.2.1 ∧ RelV p.2.2 es[i].val := by
  obtain ⟨hd, u⟩ := I.hok d _ h
  obtain ⟨z, hs, xs, pr, ob, es, ep, ho, hx, hdt, he, _⟩ := dn_at u
  rw [hd] at ho
  cases ho
  have n1 : es.size = xs.length := size_of_entries he
  have n2 := relN_len pr
  refine ⟨hs, hd, hx, es, ep, hdt, by omega, fun i hi => ?_⟩
  have q := entry_at he i
  rw [Array.getElem?_eq_getElem hi, List.getElem?_eq_getElem (by omega)] at q
  obtain ⟨p, hp, r⟩ := pairedN_at pr (List.getElem?_eq_getElem (show i < xs.length by omega))
  have q := Option.some.inj q
  refine ⟨p, hp, ?_, ?_⟩
  · rw [q]; show Value.ref _ = _; rw [r.2.1]
  · rw [q]; exact r.2.2
end
def Itvn (P : Program) (w : World) (d : Addr) (o : Obj) (kvs : KVs) : It :=
  ⟨fun i H => H d = some (.frz o (DN P w d kvs)) ∧ i < kvs.length, fun i H x H' => H' = H ∧ ∃ p, kvs[i]? = some p ∧ x = p.2.2, fun i H => H d = some (.frz o (DN P w d kvs)) ∧ kvs.length ≤ i⟩
theorem turnVn {P : Program} {w : World} {K : PySem.W.Frag} {tg : Expr} {d : Addr} {o : Obj} {es : Array DictEntry} {ep : Nat} {kvs : KVs} (it : Addr) (hod : o.data = .dict es ep) : Turn P w K tg (Itvn P w d o kvs) [it] it (fun i h => h.IsValIter it d i es.size ep) where
  mem := by simp
  obj := fun i h st b hb => by
    obtain rfl : b = it := List.mem_singleton.mp hb
    obtain ⟨oi, e, _, dd⟩ := st
    exact ⟨oi, e, fun v z => by rw [dd] at z; cases z⟩
  keep := fun i h h' st k => st.at fun oi e => k it (.head _) oi e
  item := by
    intro X hP hw hK hc i pins s σ H E I hf st hg
    subst hP hw hK
    obtain ⟨f0, f1, f2, f3, f4, f5⟩ := hf it (.head _)
    obtain ⟨hs, hgd, hx, es', ep', hdt, hsz, ent⟩ := frzN I hg.1
    obtain ⟨rfl, rfl⟩ := dict_ep hod hdt
    have hi : i < es'.size := by rw [hsz]; exact hg.2
    obtain ⟨p, hp, _, rv⟩ := ent i hi
    refine PySem.wpAny_pyNext_values_item_raw st ⟨o, hgd, hx, hdt⟩ hi fun h' st' sb => ?_
    have I1 : Inv X pins σ H { s with heap := h' } := I.turned (t' := s.toks) (fun b ob hb e => (sb.2 b hb).trans e) f0 f1 f3 f4 f5
    obtain ⟨oi, e, c, dd⟩ := id st'
    exact ⟨_, rfl, go_of (s := { s with heap := h' }) e c dd (by decide) ⟨p.2.2, H, I1, rv, ⟨rfl, p, hp, rfl⟩, st', fun b hb => (hf b hb).1⟩⟩
  done := by
    intro X hP hw hK hc i pins s σ H E I hf st hg
    subst hP hw hK
    obtain ⟨f0, f1, f2, f3, f4, f5⟩ := hf it (.head _)
    obtain ⟨hs, hgd, hx, es', ep', hdt, hsz, _⟩ := frzN I hg.1
    obtain ⟨rfl, rfl⟩ := dict_ep hod hdt
    exact PySem.wpAny_pyNext_values_end_raw (I.ok.hd hc) st ⟨o, hgd, hx, hdt⟩ (by rw [hsz]; exact hg.2) fun h' eb => ⟨rfl, I.turned (t' := s.toks) (fun b ob hb e => eb b ob hb e) f0 f1 f3 f4 f5⟩
  self := fun A i s Q E st h => wpAny_pyIter_valiter st h
/-- for v in e.values(), the dict locked -/
def iValsN (P : Program) (w : World) (td : TE) : TI := fun σ H R => td σ H fun x H1 => ∃ d o kvs, x = .ref d ∧ H1 d = some (.frz o (DN P w d kvs)) ∧ R (Itvn P w d o kvs) H1
section
variable {X : Cx} {tg e : Expr} {td : TE} {apos cpos : Pos}
theorem pi_valuesN (he : PE X e td) (hbase : attributeBase e "values" X.env (eval e X.env) = eval e X.env := by rfl) (hline : (apos.endLine == cpos.line) = true := by rfl) : PI X tg (.Call (.Attribute e "values" apos) [] [] cpos) (iValsN X.prog X.w td) := by
  refine ⟨fun pins s σ H R I h => ?_⟩
  refine wpAny_Call_method (T := "dict") (id := "dict.values") hbase rfl hline F.plainAttrs_dict F.slot_dict_values F.type_dict_values (thn (he.run pins s σ H _ I h) fun u s1 ⟨x, H1, I1, rx, d, o, kvs, ex, hd, q⟩ => ?_)
  subst ex
  obtain rfl : u = Value.ref d := rx
  obtain ⟨hs, hgd, hx, es, ep, hdt, _, _⟩ := frzN I1 hd
  have raw : s1.heap.DictRaw d es ep := ⟨o, hgd, hx, hdt⟩
  have ty : s1.TypeIs (.ref d) "dict" := ⟨o, hgd, hx.1⟩
  refine ⟨ty, (fun a ea => by cases ea; exact ⟨o, hgd, hx.2.1⟩), ?_⟩
  have I2 : Inv X pins σ H1 { s1 with heap := s1.heap.push { cls := .type "dict_values", data := .fields #[.ref d] } } := I1.kept (t' := s1.toks) fun b ob q => Heap.get?_push_of_some _ q
  have fin : wpAny (model X.prog X.w) X.A (pyIter (.ref s1.heap.objs.size)) (PIE X pins σ tg R) X.xe { s1 with heap := s1.heap.push { cls := .type "dict_values", data := .fields #[.ref d] } } :=
    PySem.wpAny_pyIter_values_raw (d := d) ⟨_, Heap.get?_push_size _ rfl, rfl, rfl⟩ (raw.at fun o e => Heap.get?_push_of_some _ e) (pi_one (tk := s1.toks) I2 _ (turnVn _ hdt) ⟨_, Heap.get?_push_size _ rfl, rfl, rfl⟩ q)
  show wpAny _ _ (callWith cpos (.builtin "dict.values") [.ref d] [] []) _ X.xe s1
  exact method_meetsIn F.slot_dict_values F.entry_dict_values rfl (PySem.evalArgs_none ⟨rfl, ty, F.args_dict_values_1 _, _, PySem.meets_dict_values_raw d hs, ⟨⟨_, _, raw⟩, fin⟩⟩)
end
open LamX
/-! ### what such a dict is not -/
theorem dn_code {P : Program} {w : World} {D : Addr} {kvs : KVs} {q : Str} : DN P w D kvs ≠ CodeO D q := by
  intro e
  have e : (fun h : Heap => kvs.length ≤ sizeLine ∧ (D == sysModules) = false ∧ ∃ xs : List (NestedKey × Addr × Value), Paired RelN kvs xs ∧
    ∃ o es ep, h.get? D = some o ∧ o.ExactDict ∧ o.data = .dict es ep ∧ es.toList = xs.map (entryOfKey (nestedKind P w)) ∧ (xs.map (·.1)).Nodup) = (fun h => ∃ (oc : Obj) (vs : Array Value) (t : Tok), h.get? D = some oc ∧ oc.data = .fields vs ∧ vs[1]? = some (.str q t)) := HO.ext.inj e
  have g : ({ objs := Array.replicate (D + 1) { cls := .none, data := .fields #[.none, .str q 0] } } : Heap).get? D = some { cls := .none, data := .fields #[.none, .str q 0] } := by
    unfold Heap.get?
    simp
  have z := (congrFun e { objs := Array.replicate (D + 1) { cls := .none, data := .fields #[.none, .str q 0] } }).mpr ⟨_, _, 0, g, rfl, rfl⟩
  obtain ⟨_, _, xs, _, o, es, ep, h1, _, h3, _⟩ := z
  rw [g] at h1
  cases h1
  cases h3
/-- all but what is at D stays -/
theorem keepN_T {P : Program} {w : World} {K : PySem.W.Frag} {H H' : Hp} {D a : Addr} {kvs : KVs} {xs : List V} (hd : H D = some (DN P w D kvs)) (k : Keep D H H') (h : SqT K H a xs) : SqT K H' a xs := by
  rcases h with (h | ⟨o, h⟩) | h
  · exact .inl (.inl (k _ _ (ne_of h hd (fun z => nomatch z)) h))
  · exact .inl (.inr ⟨o, k _ _ (ne_of h hd (fun z => nomatch z)) h⟩)
  · exact .inr h
theorem keepF_T {K : PySem.W.Frag} {H H' : Hp} {D a : Addr} {o : Obj} {P : Program} {w : World} {kvs : KVs} {xs : List V} (hd : H D = some (.frz o (DN P w D kvs))) (k : Keep D H H') (h : SqT K H a xs) : SqT K H' a xs := by
  rcases h with (h | ⟨o, h⟩) | h
  · exact .inl (.inl (k _ _ (ne_of h hd (fun z => nomatch z)) h))
  · exact .inl (.inr ⟨o, k _ _ (ne_of h hd (fun z => by injection z with _ z; exact nomatch z)) h⟩)
  · exact .inr h
theorem TabS.keepN {P : Program} {w : World} {H H' : Hp} {D p : Addr} {q : Str} {kvs : KVs} (t : TabS H p q) (hd : H D = some (DN P w D kvs)) (k : Keep D H H') : TabS H' p q := by
  obtain ⟨ps, h1, h2, h3⟩ := t
  refine ⟨ps, k _ _ (ne_of h1 hd (by intro z; exact nomatch z)) h1, h2, fun pos cv hc => ?_⟩
  obtain ⟨c, e1, e2⟩ := h3 pos cv hc
  refine ⟨c, e1, k _ _ (fun z => ?_) e2⟩
  subst z
  rw [hd] at e2
  exact dn_code (Option.some.inj e2)
theorem lc2_valsN {P0 : Program} {w0 : World} {d : Addr} {o : Obj} {kvs : KVs} {σ : L2.St} {g g1 : TG} {tt tt1 : TT} {wi1 : TI} {te : TE} {vs vs1 : List Nat} {D : Addr} {H0 : Hp} {Qd : Hp → Prop} (P : Nat → Hp → Prop) (h0 : P 0 H0) (hT : ∀ i H, i ≤ kvs.length → P i H → H d = some (.frz o (DN P0 w0 d kvs)))
    (hs : ∀ i p H, kvs[i]? = some p → P i H → g p.2.2 (wipe σ vs) H fun σ2 H2 => wipe σ2 vs = wipe σ vs ∧ tt σ2 H2 fun b H3 => if b = true then wi1 σ2 H3 fun J1 H4 => LcIn J1 g1 tt1 te vs1 D σ2 (P (i + 1)) H4 else P (i + 1) H3)
    (hd : ∀ H, P kvs.length H → Qd H) :
    ∃ W : Nat → Nat → Hp → Prop, (∃ m, W 0 m H0) ∧ ∀ i m H, W i m H → ((Itvn P0 w0 d o kvs).stop i H ∧ Qd H) ∨ ((Itvn P0 w0 d o kvs).go i H ∧ ∃ Nx : Hp → Prop, (∀ H', Nx H' → ∃ m', m' < m ∧ W (i + 1) m' H') ∧ ∀ x H', (Itvn P0 w0 d o kvs).yld i H x H' → g x (wipe σ vs) H' fun σ2 H2 => wipe σ2 vs = wipe σ vs ∧ tt σ2 H2 fun b H3 =>
      if b = true then wi1 σ2 H3 fun J1 H4 => LcIn J1 g1 tt1 te vs1 D σ2 Nx H4 else Nx H3) := by
  refine ⟨fun i m H => m = kvs.length - i ∧ i ≤ kvs.length ∧ P i H, ⟨_, rfl, Nat.zero_le _, h0⟩, ?_⟩
  rintro i m H ⟨rfl, hi, p⟩
  have t := hT i H hi p
  by_cases lt : i < kvs.length
  · refine .inr ⟨⟨t, lt⟩, P (i + 1), fun H' p' => ⟨_, by omega, rfl, lt, p'⟩, ?_⟩
    rintro v H' ⟨rfl, q, hq, rfl⟩
    exact hs i q _ hq p
  · obtain rfl : i = kvs.length := by omega
    exact .inl ⟨⟨t, Nat.le_refl _⟩, hd H p⟩
/-! ### keys that are three ints -/
def nk3 (a b c : Int) : NestedKey := .tup [.num a, .num b, .num c]
theorem nk3_inj {a b c x y z : Int} (e : nk3 a b c = nk3 x y z) : a = x ∧ b = y ∧ c = z := by
  unfold nk3 at e
  injection e with e
  simp only [List.cons.injEq, NestedKey.num.injEq, and_true] at e
  exact e
theorem keyAt3 {K : PySem.W.Frag} {H : Hp} {b : Addr} {x y z : Int} (h : SqT K H b [.int x, .int y, .int z]) : KeyAt K H b (nk3 x y z) :=
  ⟨[.int x, .int y, .int z], .tup h (.cons (.int _) (.cons (.int _) (.cons (.int _) .nil))), rfl, rfl, by simp [nk3, NestedKey.depth, NestedKey.depthAll]⟩
/-! ### {k: v for x in l if ..} over a list -/
theorem dcN_list {P : Program} {w : World} {K : PySem.W.Frag} {a : Addr} {xs : List V} {g : TG} {tt : TT} {tk tv : TE} {vs : List Nat} {σ : L2.St} {H1 : Hp} {D : Addr} {Qd : Hp → Prop} (Pv : Nat → Hp → Prop) (h0 : Pv 0 (upd H1 D (DN P w D []))) (hl : ∀ i H, i ≤ xs.length → Pv i H → SqL K H a xs)
    (hs : ∀ i x H, xs[i]? = some x → Pv i H → g x (wipe σ vs) H fun σ2 H2 => wipe σ2 vs = wipe σ vs ∧ tt σ2 H2 fun b H3 =>
      if b = true then tk σ2 H3 fun y H4 => tv σ2 H4 fun z H5 => ∃ H6, putD P w K D y z H5 H6 ∧ Pv (i + 1) H6 else Pv (i + 1) H3) (hd : ∀ H, Pv xs.length H → Qd H) :
    ∃ W : Nat → Nat → Hp → Prop, (∃ m, W 0 m (upd H1 D (DN P w D []))) ∧ ∀ i m H, W i m H →
      ((Itl K a).stop i H ∧ Qd H) ∨ ((Itl K a).go i H ∧ ∃ Nx : Hp → Prop, (∀ H', Nx H' → ∃ m', m' < m ∧ W (i + 1) m' H') ∧ ∀ x H', (Itl K a).yld i H x H' → g x (wipe σ vs) H' fun σ2 H2 => wipe σ2 vs = wipe σ vs ∧ tt σ2 H2 fun b H3 =>
        if b = true then tk σ2 H3 fun y H4 => tv σ2 H4 fun z H5 => ∃ H6, putD P w K D y z H5 H6 ∧ Nx H6 else Nx H3) := by
  refine ⟨fun i m H => m = xs.length - i ∧ i ≤ xs.length ∧ Pv i H, ⟨_, rfl, Nat.zero_le _, h0⟩, ?_⟩
  rintro i m H ⟨rfl, hi, p⟩
  have t := hl i H hi p
  by_cases lt : i < xs.length
  · refine .inr ⟨⟨xs, xs[i], t, List.getElem?_eq_getElem lt⟩, Pv (i + 1), fun H' p' => ⟨_, by omega, rfl, lt, p'⟩, ?_⟩
    rintro v H' ⟨rfl, hx⟩
    exact hs i v _ (hx xs t) p
  · obtain rfl : i = xs.length := by omega
    exact .inl ⟨⟨xs, t, Nat.le_refl _⟩, hd H p⟩
def rListN (P : Program) (w : World) : List V → Hp → VK → Prop := fun xs H Q => ∃ D kvs, xs = [V.ref D] ∧ Rd H D (DN P w D kvs) ∧ ∀ p, H p = none → Q (.ref p) (upd H p (.lst (kvs.map fun p => V.ref p.2.1)))
section
variable {X : Cx}
/-- name = {..} on one line, the name a local -/
theorem ps_setDcG {o0 : Addr → HO} {put : Addr → V → V → Hp → Hp → Prop} {n : Nat} (po : PutOk X.prog X.w X.K n put) (hu : X.A.units + n < cLine) (o0n : ∀ {H : Hp} (h : Heap), sysModules < h.objs.size → ObjOk X.prog X.w H (h.push { cls := .type "dict", data := .dict #[] }) h.objs.size (o0 h.objs.size))
    {i : Nat} {y : Str} {py : Pos} {kx vx tg iter : Expr} {ifs : List Expr} {scope : Scope} {own : List (Str × Nat)} {pos spos : Pos} {wi : TI} {g : TG} {tt : TT} {tk tv : TE} (hc : X.calm = true) (hN : X.N.Nodup) (hy : X.N[i]? = some y) (hyl : X.env.scope.names.lookup y = some .local)
    (hsw : swapsWith (.DictComp kx vx [⟨tg, iter, ifs, 0⟩] scope pos) (some (.Name y py)) spos.line X.env = pure true) (hi : PI X tg iter wi) (ok : BlkOk X.N X.env.scope scope own)
    (hg : ∀ (s : Shared) (H : Hp) (C : Addr) (cl : List (Str × Addr)) (fp : List Addr), PG (X.blk s H scope (compEnvC scope cl C X.env) fp) tg g) (ht : ∀ (s : Shared) (H : Hp) (C : Addr) (cl : List (Str × Addr)) (fp : List Addr), PTs (X.blk s H scope (compEnvC scope cl C X.env) fp) ifs tt)
    (hk : ∀ (s : Shared) (H : Hp) (C : Addr) (cl : List (Str × Addr)) (fp : List Addr), PE (X.blk s H scope (compEnvC scope cl C X.env) fp) kx tk)
    (he : ∀ (s : Shared) (H : Hp) (C : Addr) (cl : List (Str × Addr)) (fp : List Addr), PE (X.blk s H scope (compEnvC scope cl C X.env) fp) vx tv) (hs : ∀ x, foldedSetIterable iter X.env x = pure x := by intro _; rfl) :
    PS X (.Assign [.Name y py] (.DictComp kx vx [⟨tg, iter, ifs, 0⟩] scope pos) spos) (tAsg (tDcG o0 put wi g tt tk tv (own.map (·.2))) (gName i)) := by
  refine ⟨fun pins s σ H D I h => ?_⟩
  rw [exec_Assign_Name_used _ _ _ _ hsw]
  refine wpAny_bind (wpAny_standAt (wpAny_bind ?_))
  show wpAny _ X.A (do let _ ← comprehension (.DictComp kx vx [⟨tg, iter, ifs, 0⟩] scope pos) scope X.env (firstIterPos [⟨tg, iter, ifs, 0⟩] pos) newDict false (eval iter X.env) (some (assign (.Name y py) X.env))) _ _ s
  have h : tDcG o0 put wi g tt tk tv (own.map (·.2)) σ H (fun x H1 => gName i x σ H1 D.nx) := h
  refine wpAny_bind (thn (dcG_core (Qf := fun _ s' => SP X pins D .next s') po hu o0n hc hN I hi ok hg ht hk he hs h fun L C s' m H' I' q hn f => ?_) fun _ s' hq => wpAny_pure (wpAny_pure hq))
  show wpAny _ _ (assign (.Name y py) X.env (.ref L)) _ _ _
  refine wpAny_assign_Name (store_ok2 (v := V.ref L) I' hN hy (.inl hyl) rfl (fun s2 I2 ⟨a, sb, ha⟩ => ?_) (.inr hyl))
  obtain ⟨f0, f1, f2, f3, f4, f5⟩ := f
  have haC : C ≠ a := ha.elim (fun z => by rw [z]; exact f1) (fun z e => f4 y a z e.symm)
  refine ⟨m, hn.sameBut sb haC, fun h3 sb3 => ?_⟩
  exact ⟨_, H', I2.turned (t' := s2.toks) (fun b o hb e => (sb3.2 b hb).trans e) f0 f1 f3 f4 f5, q⟩
theorem sw_trueD {kx vx : Expr} {gs : List Comprehension} {scope : Scope} {pos py : Pos} {y : Str} {l : Nat} {env : Env} (hk : env.scope.kind = .function) (hy : env.scope.names.lookup y = some .local) (hl : (py.line == pos.line) = true)
    (ha : (scope.names.any fun (n, k) => n == y && (k == .local || k == .cell)) = false) : swapsWith (.DictComp kx vx gs scope pos) (some (.Name y py)) l env = pure true := by
  have ky : env.kindOf y = some .local := hy
  have hb : env.blockKind = .function := by unfold Env.blockKind; rw [hk]; rfl
  unfold swapsWith
  simp only [hb, ky, ha, Expr.pos, hl]
  rfl
end
end My
/-! a text times a number -/
namespace My
open PySem L2
section
variable {X : Cx}
def rMulS : R2 := fun x y H Q => ∃ (z : Str) (n : Int), x = .str z ∧ y = .int n ∧ 2 ≤ n ∧ n ≤ 1000 ∧ 0 < z.length ∧ z.length ≤ 1000 ∧ Q (.str ⟨(List.replicate n.toNat z.cps).foldl (· ++ ·) #[]⟩) H
theorem rep_size (a : Array Nat) : ∀ (m : Nat) (acc : Array Nat), ((List.replicate m a).foldl (· ++ ·) acc).size = acc.size + m * a.size
  | 0, acc => by simp
  | m + 1, acc => by
    rw [List.replicate_succ, List.foldl_cons, rep_size a m, Array.size_append, Nat.succ_mul]
    omega
theorem op_mulS : OpR X (binaryOp .Mult) rMulS := by
  intro pins s σ H x y v u Q I rx ry h
  obtain ⟨z, n, rfl, rfl, n2, n3, z0, z1, q⟩ := h
  obtain ⟨t, rfl⟩ := rx
  obtain ⟨t', rfl⟩ := ry
  have hn : ¬ n < 1 := by omega
  have hz : (n == 1 || z.length == 0) = false := by
    rw [Bool.or_eq_false_iff]
    exact ⟨by simp; omega, by simp; omega⟩
  refine PySem.P.mul_str (by simp; omega) (fun _ _ => ?_) (fun _ _ => ?_) ?_
  · have := Int.le_ediv_of_mul_le (show 0 < n by omega) (show 1000 * n ≤ 2 ^ 63 - 1 by omega)
    omega
  · have h := Nat.mul_le_mul z1 (show n.toNat ≤ 1000 by omega)
    have k : 1000 * 1000 ≤ sizeLine := by decide
    exact decide_eq_false (by omega)
  · rw [if_neg hn, if_neg (by rw [hz]; decide)]
    refine ⟨?_, ⟨.str _, H, I.tok _, ⟨_, rfl⟩, q⟩⟩
    show ((List.replicate n.toNat z.cps).foldl (· ++ ·) #[]).size ≤ sizeLine
    rw [rep_size]
    have h := Nat.mul_le_mul (show n.toNat ≤ 1000 by omega) z1
    have h : n.toNat * z.cps.size ≤ 1000 * 1000 := h
    have k : 1000 * 1000 ≤ sizeLine := by decide
    have e : (#[] : Array Nat).size = 0 := rfl
    omega
end
end My
/-! list.count of nested data -/
namespace My
open PySem PySem.W PySem.Spec L2 PyProof.Rows
section
variable {X : Cx}
def rCountD (K : PySem.W.Frag) : V → List V → Hp → VK → Prop := fun x xs H Q => ∃ (a : Addr) (y : V) (d : PyData) (ds : List PyData), x = V.ref a ∧ xs = [y] ∧ Dp K H (V.ref a) (.list ds) ∧ Dp K H y d ∧
  SeqAt.shaped (.list ds) = true ∧ SeqAt.shaped d = true ∧ Q (.int ((ds.countP fun z => PyData.eqv z d) : Nat)) H
theorem mt_countD (hu : X.A.units + 65 < cLine) : MtR X "list.count" (rCountD X.K) := by
  intro pins s σ H x xs v us Q I rx rxs h
  obtain ⟨a, y, d, ds, rfl, rfl, hl, hy, sl, sd, q⟩ := h
  cases rx
  cases rxs with
  | cons ry rt =>
    rename_i uy ut
    cases rt
    obtain ⟨bs, r1⟩ := Dp.reads I d y uy hy ry
    have hxs : PyData.canLayAll0 ds = true := SeqAt.canLay_of_shaped sl
    have hroom : X.A.units + 1 + min (PyData.depthAll ds) d.depth < cLine := room_in_shaped sd hu
    cases hl with
    | lst hs ha =>
      obtain ⟨its, rv, ⟨⟨cls, dd, data, sls⟩, n, ho, hc, hdn, hdt⟩, hlen⟩ := I.list hs
      simp only at hc hdt
      subst hc hdt
      obtain ⟨as, h4⟩ := Dp.readsAll I ds _ its ha rv
      have hmap : its.map (SeqAt.readOf s.heap) = ds := SeqAt.readsAll_map ds its as hxs h4
      refine call_meets PySem.F.slot_list_count ⟨_, ho, rfl⟩ PySem.F.entry_list_count (PySem.F.args_list_count_2 _ _)
        (SeqAt.list_countAt a its.toArray n dd sls uy (fun u => PyData.eqv (SeqAt.readOf s.heap u) d)) ⟨ho, SeqAt.items_eqAt (vs := its.toArray) (show ReadsAll s.heap its.toArray.toList ds as from h4) r1 hxs (SeqAt.canLay_of_shaped sd) hroom, ?_⟩
      refine ⟨.int ((ds.countP fun z => PyData.eqv z d) : Nat), H, I.tok _, ⟨s.toks, ?_⟩, q⟩
      have e : its.toArray.toList.countP (fun u => PyData.eqv (SeqAt.readOf s.heap u) d) = ds.countP fun z => PyData.eqv z d := by
        rw [← hmap, List.countP_map]
        rfl
      show Value.int ((its.toArray.toList.countP _ : Nat) : Int) s.toks = _
      rw [e]
end
end My
/-! sets whose members are tuples of any depth (no texts within): told by the members' keys -/
namespace My
open PySem PySem.Spec L2 PyProof.Rows
open Sem (wp)
/-! ### what a set asks of its members besides what a dict asks -/
mutual
def noTx : NestedKey → Bool
  | .none => true
  | .num _ => true
  | .text _ => false
  | .tup ks => noTxs ks
def noTxs : List NestedKey → Bool
  | [] => true
  | k :: ks => noTx k && noTxs ks
end
section
variable {P : Program} {w : World}
/-- a question that walks a value down, answered b for every key -/
def AsksN (P : Program) (w : World) (f : Value → Sem Bool) (b : Bool) (s : Shared) (v : Value) : Prop := ∀ (A : Around) (E : Value → Shared → Prop) (Q : Bool → Shared → Prop), Q b s → wpAny (model P w) A (f v) Q E s
mutual
theorem ofA_key : ∀ (k : NestedKey) (v : Value) (n : Nat) (s : Shared), NestedIs s.heap k v → k.depth ≤ n → AsksN P w (ofAClassStatement n) false s v
  | .none, _, n, s, x, _ => by
    cases x
    intro A E Q h
    rw [show ofAClassStatement n .none = pure false from by cases n <;> rfl]
    exact wpAny_pure h
  | .num i, _, n, s, x, _ => by
    cases x with
    | int _ t =>
      intro A E Q h
      rw [show ofAClassStatement n (.int i t) = pure false from by cases n <;> rfl]
      exact wpAny_pure h
    | @bool b _ e =>
      intro A E Q h
      rw [show ofAClassStatement n (.bool b) = pure false from by cases n <;> rfl]
      exact wpAny_pure h
  | .text y, _, n, s, x, _ => by
    cases x with
    | text _ t =>
      intro A E Q h
      rw [show ofAClassStatement n (.str y t) = pure false from by cases n <;> rfl]
      exact wpAny_pure h
  | .tup ks, _, n, s, x, hn => by
    cases x with
    | @tup a o vs m _ hg hc hd hk =>
      cases n with
      | zero => simp only [NestedKey.depth] at hn; omega
      | succ n =>
        simp only [NestedKey.depth] at hn
        have items := ofA_keys ks vs.toList n s hk (by omega)
        intro A E Q h
        unfold ofAClassStatement
        refine wpAny_bind (wpAny_typeOf ⟨o, hg, hc⟩ ?_)
        have e : (("tuple" : String) == "tuple") = true := by decide
        simp only [e, if_true, Bool.not_true, Bool.false_eq_true, if_false]
        try refine wpAny_bind (wpAny_pure ?_)
        try simp only [Bool.not_true, Bool.false_eq_true, if_false]
        show wpAny _ _ (seqItems? (.ref a) >>= _) _ _ s
        refine wpAny_bind (wpAny_seqItems hg hd ?_)
        dsimp only
        refine wpAny_bind ?_
        show wpAny _ _ (forIn vs _ _) _ _ s
        rw [← Array.forIn_toList]
        refine wpAny_forIn_list _ (fun rest r s' => r.1 = none ∧ s' = s ∧ ∀ v ∈ rest, AsksN P w (ofAClassStatement n) false s v) _ ?_ ?_ _ _ ⟨rfl, rfl, items⟩
        · rintro v rest r s' ⟨hr, rfl, hall⟩
          refine wpAny_bind (hall v List.mem_cons_self _ _ _ ?_)
          simp only [Bool.false_eq_true, if_false]
          exact wpAny_pure ⟨rfl, rfl, fun u hu' => hall u (List.mem_cons_of_mem _ hu')⟩
        · rintro ⟨r1, r2⟩ s' ⟨hr, rfl, _⟩
          simp only at hr
          subst hr
          exact wpAny_pure h
theorem ofA_keys : ∀ (ks : List NestedKey) (vs : List Value) (n : Nat) (s : Shared), NestedAll s.heap ks vs → NestedKey.depthAll ks ≤ n → ∀ v ∈ vs, AsksN P w (ofAClassStatement n) false s v
  | [], _, n, s, x, _, v, hv => by cases x; cases hv
  | k :: ks, _, n, s, x, hn, v, hv => by
    cases x with
    | cons x1 x2 =>
      simp only [NestedKey.depthAll] at hn
      rcases List.mem_cons.mp hv with e | hv
      · rw [e]; exact ofA_key k _ n s x1 (by omega)
      · exact ofA_keys ks _ n s x2 (by omega) v hv
end
mutual
theorem byV_key : ∀ (k : NestedKey) (v : Value) (n : Nat) (s : Shared), NestedIs s.heap k v → k.depth ≤ n → noTx k = true → AsksN P w (hashByValue n) true s v
  | .none, _, n, s, x, _, _ => by
    cases x
    intro A E Q h
    rw [show hashByValue n .none = pure true from by cases n <;> rfl]
    exact wpAny_pure h
  | .num i, _, n, s, x, _, _ => by
    cases x with
    | int _ t =>
      intro A E Q h
      rw [show hashByValue n (.int i t) = pure true from by cases n <;> rfl]
      exact wpAny_pure h
    | @bool b _ e =>
      intro A E Q h
      rw [show hashByValue n (.bool b) = pure true from by cases n <;> rfl]
      exact wpAny_pure h
  | .text y, _, n, s, x, _, t => by cases t
  | .tup ks, _, n, s, x, hn, nt => by
    cases x with
    | @tup a o vs m _ hg hc hd hk =>
      cases n with
      | zero => simp only [NestedKey.depth] at hn; omega
      | succ n =>
        simp only [NestedKey.depth] at hn
        have items := byV_keys ks vs.toList n s hk (by omega) nt
        intro A E Q h
        unfold hashByValue
        refine wpAny_bind (wpAny_specialOf (T := "tuple") ⟨o, hg, hc⟩ F.slot_tuple_hash.lookup ?_)
        show wpAny _ _ (seqItems? (.ref a) >>= _) _ _ s
        refine wpAny_bind (wpAny_seqItems hg hd ?_)
        refine wpAny_bind ?_
        show wpAny _ _ (forIn vs _ _) _ _ s
        rw [← Array.forIn_toList]
        refine wpAny_forIn_list _ (fun rest r s' => r.1 = none ∧ s' = s ∧ ∀ v ∈ rest, AsksN P w (hashByValue n) true s v) _ ?_ ?_ _ _ ⟨rfl, rfl, items⟩
        · rintro v rest r s' ⟨hr, rfl, hall⟩
          refine wpAny_bind (hall v List.mem_cons_self _ _ _ ?_)
          simp only [Bool.not_true, Bool.false_eq_true, if_false]
          exact wpAny_pure ⟨rfl, rfl, fun u hu' => hall u (List.mem_cons_of_mem _ hu')⟩
        · rintro ⟨r1, r2⟩ s' ⟨hr, rfl, _⟩
          simp only at hr
          subst hr
          exact wpAny_pure h
theorem byV_keys : ∀ (ks : List NestedKey) (vs : List Value) (n : Nat) (s : Shared), NestedAll s.heap ks vs → NestedKey.depthAll ks ≤ n → noTxs ks = true → ∀ v ∈ vs, AsksN P w (hashByValue n) true s v
  | [], _, n, s, x, _, _, v, hv => by cases x; cases hv
  | k :: ks, _, n, s, x, hn, nt, v, hv => by
    cases x with
    | cons x1 x2 =>
      simp only [NestedKey.depthAll] at hn
      have nt : (noTx k && noTxs ks) = true := nt
      rw [Bool.and_eq_true] at nt
      rcases List.mem_cons.mp hv with e | hv
      · rw [e]; exact byV_key k _ n s x1 (by omega) nt.1
      · exact byV_keys ks _ n s x2 (by omega) nt.2 v hv
end
end
/-- the tuple at a is the member k -/
def MemIs (P : Program) (w : World) (h : Heap) (k : NestedKey) (a : Addr) : Prop := (nestedKind P w).is h k a ∧ noTx k = true
abbrev Row := Addr × NestedKey
abbrev rowsK (w : World) (L : List Row) : List (Int × Value) := L.map fun p => (p.2.hash w, Value.ref p.1)
abbrev hashK (w : World) (L : List Row) : List Int := L.map fun p => p.2.hash w
theorem MemIs.up {P : Program} {w : World} {h h' : Heap} {k : NestedKey} {a : Addr} (x : MemIs P w h k a) (hk : ∀ b o vs n, h.get? b = some o → o.data = .seq vs n → h'.get? b = some o) : MemIs P w h' k a :=
  ⟨⟨NestedIs.at hk k _ x.1.1, x.1.2⟩, x.2⟩
theorem MemIs.upO {P : Program} {w : World} {h h' : Heap} {k : NestedKey} {a : Addr} (x : MemIs P w h k a) (hk : ∀ b o, h.get? b = some o → h'.get? b = some o) : MemIs P w h' k a := x.up fun b o _ _ e _ => hk b o e
theorem MemIs.but {P : Program} {w : World} {h h' : Heap} {k : NestedKey} {a d : Addr} {o : Obj} {es : Array (Int × Value)} {ep : Nat} {t : SetTable} (x : MemIs P w h k a) (ho : h.get? d = some o) (hd : o.data = .set es ep t) (sb : Heap.SameBut d h h') : MemIs P w h' k a := x.up fun b ob vs n hb hc => by
  refine (sb.2 b fun e => ?_).trans hb
  subst e
  rw [ho] at hb
  cases hb
  rw [hd] at hc
  cases hc
/-- the set at a, its table and its rows -/
structure SetK (P : Program) (w : World) (h : Heap) (a : Addr) (L : List Row) (es : Array (Int × Value)) (ep : Nat) (t : SetTable) : Prop where
  ob : ∃ o, h.get? a = some o ∧ o.ExactSet ∧ o.data = .set es ep t
  rows : es.toList = rowsK w L
  tab : TabOk t (hashK w L)
  nd : (L.map (·.2)).Nodup
  mem : ∀ p ∈ L, MemIs P w h p.2 p.1
  plain : t.plain = true
  led : w.params.followText "set-order" = true ∨ t.led = true
  room : L.length * 5 < t.mask * 3
  few : L.length ≤ 76
section
variable {P : Program} {w : World} {A : Around} {E : Value → Shared → Prop} {s : Shared} {a : Addr} {L : List Row} {es : Array (Int × Value)} {ep : Nat} {t : SetTable}
theorem rowsK_len {es : Array (Int × Value)} (h : es.toList = rowsK w L) : es.size = L.length := by
  rw [← Array.length_toList, h, List.length_map]
theorem rowsK_at {es : Array (Int × Value)} (h : es.toList = rowsK w L) {i : Nat} {p : Row} (hp : L[i]? = some p) : es[i]? = some (p.2.hash w, Value.ref p.1) := by
  rw [← Array.getElem?_toList, h, List.getElem?_map, hp]; rfl
theorem SetK.size (R : SetK P w s.heap a L es ep t) : es.size = L.length := rowsK_len R.rows
theorem SetK.psz (R : SetK P w s.heap a L es ep t) : t.place.toList.length = L.length := by
  rw [Array.length_toList, R.tab.sz, List.length_map]
theorem SetK.fits (R : SetK P w s.heap a L es ep t) : t.fits es.size = true := by
  have h1 := R.psz
  rw [Array.length_toList] at h1
  have h3 := R.room
  unfold SetTable.fits SetTable.fill
  rw [R.tab.dm, R.size, Bool.and_eq_true, beq_iff_eq, decide_eq_true_eq]
  exact ⟨h1, by show t.place.size + 0 ≤ t.mask; omega⟩
theorem SetK.gw (R : SetK P w s.heap a L es ep t) : ¬ t.gaveWay = true := by
  unfold SetTable.gaveWay
  rw [mask_odd R.tab.mok]
  decide
/-- a search among members shows nothing -/
theorem seenK {k : NestedKey} {b : Addr} {Q : Bool → Shared → Prop} (hk : MemIs P w s.heap k b) {ys : List Value} (hy : ∀ y ∈ ys, ∃ k' c, y = Value.ref c ∧ MemIs P w s.heap k' c) (h : Q false s) :
    wpAny (model P w) A (searchCouldBeSeen (.ref b) ys) Q E s := by
  unfold searchCouldBeSeen
  refine wpAny_bind (wpAny_forIn_list _ (fun rest r s' => r.1 = none ∧ s' = s ∧ ∀ y ∈ rest, ∃ k' c, y = Value.ref c ∧ MemIs P w s.heap k' c) _ ?_ ?_ _ _ ⟨rfl, rfl, hy⟩)
  · rintro v rest r s' ⟨hr, rfl, hall⟩
    obtain ⟨k', c, rfl, hc⟩ := hall v List.mem_cons_self
    have rest' : ∀ y ∈ rest, ∃ k' c, y = Value.ref c ∧ MemIs P w s'.heap k' c := fun u hu' => hall u (List.mem_cons_of_mem _ hu')
    dsimp only
    by_cases hv : (b == c || (carriedByValue (.ref b) && carriedByValue (.ref c))) = true
    · exact wp_if_pos hv (wpAny_pure ⟨rfl, rfl, rest'⟩)
    · refine wp_if_neg hv ?_
      refine wpAny_bind (quiet_key k _ 8 s' hk.1.1 hk.1.2 _ _ _ ?_)
      simp only [Bool.not_true, Bool.false_eq_true, if_false]
      refine wpAny_bind (quiet_key k' _ 8 s' hc.1.1 hc.1.2 _ _ _ ?_)
      simp only [Bool.not_true, Bool.false_eq_true, if_false]
      refine wpAny_bind (ofA_key k _ 8 s' hk.1.1 hk.1.2 _ _ _ ?_)
      simp only [Bool.false_eq_true, if_false]
      refine wpAny_bind (ofA_key k' _ 8 s' hc.1.1 hc.1.2 _ _ _ ?_)
      simp only [Bool.false_eq_true, if_false]
      exact wpAny_pure ⟨rfl, rfl, rest'⟩
  · rintro ⟨r1, r2⟩ s' ⟨hr, rfl, _⟩
    simp only at hr
    subst hr
    exact wpAny_pure h
abbrev stAt (t : SetTable) (h : Int) : SetTable.Probe := runAt t.mask (SetTable.bits h % (t.mask + 1)) (SetTable.bits h)
theorem nth_dm (m : Nat) : ∀ (n : Nat) (p : SetTable.Probe), p.dummy = none → (nth m p n).dummy = none
  | 0, _, h => h
  | n + 1, p, h => nth_dm m n (adv m p) (by unfold adv; split <;> exact h)
/-- the search, from the c-th step of the way on: none is found, or the very key is met -/
theorem searchK (R : SetK P w s.heap a L es ep t) {x : Addr} {k : NestedKey} (hx : MemIs P w s.heap k x) (hu : A.units + 8 < cLine) {K : Nat} (hKf : K < 10 * SetTable.turns t.mask)
    (hK : way t.mask (k.hash w) K ∉ t.place.toList) (hKb : ∀ c, c < K → way t.mask (k.hash w) c ∈ t.place.toList) {Q : SetFound → Shared → Prop}
    (hin : k ∈ L.map (·.2) → Q (.there none) s) (hout : k ∉ L.map (·.2) → Q (.free (way t.mask (k.hash w) K) false) s) :
    ∀ (f c : Nat) (stand : Option SetTable.Probe), stand.getD (t.probeStart (k.hash w)) = nth t.mask (stAt t (k.hash w)) c → c ≤ K → K - c < f →
      (∀ (i : Nat) p, L[i]? = some p → p.2 = k → ∃ c', c ≤ c' ∧ c' < K ∧ t.place.toList[i]? = some (way t.mask (k.hash w) c')) →
      wpAny (model P w) A (setSearchFrom a (.ref x) (k.hash w) true f stand) Q E s
  | 0, c, stand, _, _, hf, _ => absurd hf (Nat.not_lt_zero _)
  | f + 1, c, stand, hst, hc, hf, hre => by
    obtain ⟨o, ho, hex, hd⟩ := R.ob
    rw [setSearchFrom_succ]
    refine wpAny_bind (wpAny_setState_of ho hd R.fits ?_)
    dsimp only
    refine wp_if_neg R.gw ?_
    try refine wpAny_bind (wpAny_pure ?_)
    have wayAt : ∀ q, (nth t.mask (nth t.mask (stAt t (k.hash w)) c) q).j = way t.mask (k.hash w) (c + q) := fun q => congrArg SetTable.Probe.j (nth_add t.mask c _ q).symm
    have hashAt : ∀ (i : Nat) p, L[i]? = some p → (fun i => (es[i]?.map (·.1)).getD 0) i = p.2.hash w := fun i p hp => by
      show (es[i]?.map (·.1)).getD 0 = _
      rw [rowsK_at R.rows hp]; rfl
    rcases go_spec t R.tab.ris R.tab.dm (fun i => (es[i]?.map (·.1)).getD 0) (k.hash w) (10 * SetTable.turns t.mask) (K - c) _ (nth_dm t.mask c (stAt t (k.hash w)) rfl) (by omega)
      (fun q hq => by rw [wayAt]; exact hKb (c + q) (by omega)) (by rw [wayAt, show c + (K - c) = K by omega]; exact hK) with ⟨q, i, hq, hi, hh, hno, hpr⟩ | ⟨hno, hpr⟩
    · have met : t.probe (fun i => (es[i]?.map (·.1)).getD 0) (k.hash w) (stand.getD (t.probeStart (k.hash w))) = some (.candidate (way t.mask (k.hash w) (c + q)) i (nth t.mask (stAt t (k.hash w)) (c + (q + 1)))) := by
        rw [hst, ← wayAt, nth_add t.mask c]
        exact hpr
      rw [met]
      dsimp only
      rw [wayAt] at hi
      have hil : i < L.length := by
        have h1 := (List.getElem?_eq_some_iff.mp hi).1
        rw [R.psz] at h1
        exact h1
      have hp : L[i]? = some L[i] := List.getElem?_eq_getElem hil
      generalize L[i] = p at hp
      have hmem : p ∈ L := List.mem_of_getElem? hp
      have hsl : t.slot (way t.mask (k.hash w) (c + q)) = .live i := slot_live R.tab.ris hi
      have rest : wpAny (model P w) A (searchRest a (.ref x) (k.hash w) true f es t (way t.mask (k.hash w) (c + q)) i (nth t.mask (stAt t (k.hash w)) (c + (q + 1)))) Q E s := by
        unfold searchRest
        rw [rowsK_at R.rows hp]
        dsimp only
        refine wpAny_bind (wpAny_holding ((nestedKind P w).eqBool hu (R.mem p hmem).1 hx.1 ?_))
        refine wpAny_bind (wpAny_setState_of ho hd R.fits ?_)
        dsimp only
        by_cases hkk : p.2 = k
        · refine wp_if_pos (by simp [hkk]) (wpAny_pure (hin (List.mem_map.mpr ⟨p, hmem, hkk⟩)))
        · refine wp_if_neg (by simp [hkk]) ?_
          try refine wpAny_bind (wpAny_pure ?_)
          rw [sameMem]
          dsimp only
          simp only [if_true, hsl, rowsK_at R.rows hp]
          refine wpAny_bind (wpAny_isSame_ref_self (wpAny_bind (wpAny_pure ?_)))
          simp only [if_true]
          refine wp_if_neg (by simp [hkk]) ?_
          refine searchK R hx hu hKf hK hKb hin hout f (c + (q + 1)) _ rfl (by omega) (by omega) fun i0 p0 h0 hk0 => ?_
          obtain ⟨c', a1, a2, a3⟩ := hre i0 p0 h0 hk0
          refine ⟨c', ?_, a2, a3⟩
          rcases Nat.lt_trichotomy c' (c + q) with z | z | z
          · exact absurd ((hashAt i0 p0 h0).trans (congrArg (NestedKey.hash w) hk0)) (hno (c' - c) i0 (by omega) (by rw [wayAt, show c + (c' - c) = c' by omega]; exact a3))
          · rw [z] at a3
            have s0 := slot_live R.tab.ris a3
            rw [hsl] at s0
            injection s0 with s0
            rw [← s0, hp] at h0
            exact absurd ((congrArg Prod.snd (Option.some.inj h0)).trans hk0) hkk
          · omega
      by_cases hl : t.led = true
      · refine wp_if_neg (by simp [hl]) ?_
        try refine wpAny_bind (wpAny_pure ?_)
        exact rest
      · refine wp_if_pos (by simp [hl]) ?_
        refine wpAny_bind (seenK hx (fun y hy => ?_) ?_)
        · obtain ⟨e, he, ee⟩ := List.mem_map.mp hy
          have he1 : e ∈ es ∧ e.1 = k.hash w := by simpa using he
          have he2 : e ∈ es.toList := by simpa using he1.1
          rw [R.rows] at he2
          obtain ⟨p2, hp2, e2⟩ := List.mem_map.mp he2
          exact ⟨p2.2, p2.1, by rw [← ee, ← e2], R.mem p2 hp2⟩
        · refine wp_if_neg (by decide) ?_
          try refine wpAny_bind (wpAny_pure ?_)
          exact rest
    · have met : t.probe (fun i => (es[i]?.map (·.1)).getD 0) (k.hash w) (stand.getD (t.probeStart (k.hash w))) = some (.empty (way t.mask (k.hash w) K) none) := by
        have e2 : way t.mask (k.hash w) K = (nth t.mask (nth t.mask (stAt t (k.hash w)) c) (K - c)).j := by
          rw [wayAt, show c + (K - c) = K by omega]
        rw [hst, e2]
        exact hpr
      rw [met]
      dsimp only
      refine wpAny_pure (hout fun hm => ?_)
      obtain ⟨p0, h0, hk0⟩ := List.mem_map.mp hm
      obtain ⟨i0, hi0, e0⟩ := List.getElem_of_mem h0
      have h00 : L[i0]? = some p0 := by rw [List.getElem?_eq_getElem hi0, e0]
      obtain ⟨c', a1, a2, a3⟩ := hre i0 p0 h00 hk0
      exact hno (c' - c) i0 (by omega) (by rw [wayAt, show c + (c' - c) = c' by omega]; exact a3) ((hashAt i0 p0 h00).trans (congrArg (NestedKey.hash w) hk0))
theorem searchK_at (R : SetK P w s.heap a L es ep t) {x : Addr} {k : NestedKey} (hx : MemIs P w s.heap k x) (hu : A.units + 8 < cLine) {Q : SetFound → Shared → Prop}
    (hin : k ∈ L.map (·.2) → Q (.there none) s)
    (hout : ∀ K, k ∉ L.map (·.2) → way t.mask (k.hash w) K ∉ t.place.toList → (∀ c, c < K → way t.mask (k.hash w) c ∈ t.place.toList) → Q (.free (way t.mask (k.hash w) K) false) s) :
    wpAny (model P w) A (setSearch a (.ref x) (k.hash w) true) Q E s := by
  have hroom := R.room
  obtain ⟨K, hKf, hK, hKb⟩ := R.tab.first (by rw [List.length_map]; omega) (k.hash w)
  have hbig : K < 100000 := by
    have : 10 * SetTable.turns t.mask ≤ 1420 := by
      unfold SetTable.turns
      rcases R.tab.mok with e | e | e <;> omega
    omega
  unfold setSearch
  refine searchK R hx hu hKf hK hKb hin (fun hn => hout K hn hK hKb) 100000 0 none rfl (Nat.zero_le _) (by omega) fun i p hp hk => ?_
  have hi : (hashK w L)[i]? = some (k.hash w) := by rw [List.getElem?_map, hp, ← hk]; rfl
  have hil : i < t.place.toList.length := by
    rw [R.psz]
    exact (List.getElem?_eq_some_iff.mp hp).1
  obtain ⟨c, hc, e⟩ := R.tab.before hK hi (List.getElem?_eq_getElem hil)
  exact ⟨c, Nat.zero_le _, hc, by rw [List.getElem?_eq_getElem hil, e]⟩
end
end My
/-! one more member; set(xs) of a list -/
namespace My
open PySem PySem.Spec L2 PyProof.Rows
open Sem (wp)
/-! ### rows in another order -/
theorem pick_all {α : Type} (L : List α) : ∀ n, n ≤ L.length → (List.range n).filterMap (fun i => L[i]?) = L.take n
  | 0, _ => rfl
  | n + 1, hn => by
    rw [List.range_succ, List.filterMap_append, pick_all L n (Nat.le_of_succ_le hn), List.take_succ]
    have e : L[n]? = some L[n] := List.getElem?_eq_getElem hn
    rw [List.filterMap_cons_some e, e]
    rfl
theorem pick_perm {α : Type} {L : List α} {order : List Nat} (hp : order.Perm (List.range L.length)) : (order.filterMap fun i => L[i]?).Perm L := by
  have h := hp.filterMap (fun i => L[i]?)
  rw [pick_all L L.length (Nat.le_refl _), List.take_length] at h
  exact h
theorem pick_map {α β : Type} (f : α → β) (L : List α) : ∀ order : List Nat, (order.filterMap fun i => (L.map f)[i]?) = (order.filterMap fun i => L[i]?).map f
  | [] => rfl
  | i :: order => by
    have ih := pick_map f L order
    cases e : L[i]? with
    | none => rw [List.filterMap_cons_none e, List.filterMap_cons_none (by rw [List.getElem?_map, e]; rfl), ih]
    | some x => rw [List.filterMap_cons_some e, List.filterMap_cons_some (by rw [List.getElem?_map, e]; rfl), ih]; rfl
theorem pick_getD (hs : List Int) : ∀ order : List Nat, (∀ i ∈ order, i < hs.length) → (order.filterMap fun i => hs[i]?) = order.map fun i => hs.getD i 0
  | [], _ => rfl
  | i :: order, h => by
    have e := List.getElem?_eq_getElem (h i List.mem_cons_self)
    rw [List.filterMap_cons_some e, pick_getD hs order fun j hj => h j (List.mem_cons_of_mem _ hj), List.map_cons, List.getD_eq_getElem?_getD, e]
    rfl
section
variable {P : Program} {w : World} {A : Around} {E : Value → Shared → Prop} {s : Shared} {a : Addr} {L : List Row} {es : Array (Int × Value)} {ep : Nat} {t : SetTable}
/-- the table laid anew, larger -/
theorem relayK {o : Obj} (ho : s.heap.get? a = some o) (hex : o.ExactSet) (hd : o.data = .set es ep t) (hrows : es.toList = rowsK w L) (hsz : t.place.size = es.size) (hdm : t.dummies = #[]) (hfl : es.size ≤ t.mask)
    (nd : (L.map (·.2)).Nodup) (mem : ∀ p ∈ L, MemIs P w s.heap p.2 p.1) (pl : t.plain = true) (ld : w.params.followText "set-order" = true ∨ t.led = true) (few : L.length ≤ 76) {wanted M : Nat}
    (hw : SetTable.sizeAbove wanted - 1 = M) (hM : MaskOk M) (hw2 : SetTable.sizeAbove wanted ≤ 128) (hn : L.length * 5 < M * 3) {Q : Unit → Shared → Prop}
    (hQ : ∀ h' L' es' ep' t', Heap.SameBut a s.heap h' → SetK P w h' a L' es' ep' t' → L'.Perm L → Q () { s with heap := h' }) : wpAny (model P w) A (setRelay a wanted) Q E s := by
  have hsl := rowsK_len hrows
  have hfits : t.fits es.size = true := by
    unfold SetTable.fits SetTable.fill
    rw [hdm, Bool.and_eq_true, beq_iff_eq, decide_eq_true_eq]
    exact ⟨hsz, by show t.place.size + 0 ≤ t.mask; omega⟩
  obtain ⟨t', order, e, hp, T, em, el, ep', ed⟩ := relaid_ok t (hs := es.map (·.1)) (wanted := wanted) hw hM (by rw [Array.size_map, hsl]; omega)
  rw [Array.size_map, hsl] at hp
  have pm : (order.toList.filterMap fun i => L[i]?).Perm L := pick_perm hp
  have hrl : (order.filterMap (es[·]?)).toList = rowsK w (order.toList.filterMap fun i => L[i]?) := by
    refine Eq.trans ?_ (pick_map (fun p : Row => (p.2.hash w, Value.ref p.1)) L order.toList)
    rw [show L.map (fun p : Row => (p.2.hash w, Value.ref p.1)) = es.toList from hrows.symm, Array.toList_filterMap]
    exact congrArg (fun f => List.filterMap f order.toList) (funext fun i => (Array.getElem?_toList (xs := es) (i := i)).symm)
  have hhs : (order.toList.map fun i => (es.map (·.1)).getD i 0) = hashK w (order.toList.filterMap fun i => L[i]?) := by
    refine Eq.trans ?_ (pick_map (fun p : Row => p.2.hash w) L order.toList)
    rw [pick_getD _ _ fun i hi => ?_]
    · refine List.map_congr_left fun i hi => ?_
      rw [Array.getD_eq_getD_getElem?, List.getD_eq_getElem?_getD, Array.getElem?_map, ← Array.getElem?_toList, hrows, List.getElem?_map, List.getElem?_map]
      cases L[i]? <;> rfl
    · rw [List.length_map]
      exact List.mem_range.mp (hp.mem_iff.mp hi)
  rw [hhs] at T
  generalize order.toList.filterMap (fun i => L[i]?) = L2 at pm hrl T
  have hs2 : (order.filterMap (es[·]?)).size = es.size := by
    rw [rowsK_len hrl, pm.length_eq, hsl]
  rw [setRelay_eq]
  refine wpAny_bind (wpAny_setState_of ho hd hfits ?_)
  dsimp only
  refine wp_if_neg (by rw [sizeLine_eq]; omega) ?_
  try refine wpAny_bind (wpAny_pure ?_)
  rw [e]
  dsimp only
  refine wpAny_bind ?_
  refine wp_if_neg (by rw [hs2]; simp) ?_
  try refine wpAny_bind (wpAny_pure ?_)
  refine wpAny_pure ?_
  dsimp only
  refine wpAny_storeSet_of ho hd ?_ (by rw [hs2, hsl, sizeLine_eq]; omega)
  have sb : Heap.SameBut a s.heap (s.heap.update a (Obj.putSet (order.filterMap (es[·]?)) t')) := Heap.SameBut.update ..
  exact hQ _ L2 (order.filterMap (es[·]?)) (ep + 1) t' sb ⟨⟨_, store_at ho hd, ⟨hex.1, hex.2.1, hex.2.2⟩, rfl⟩, hrl, T, (pm.map (·.2)).nodup_iff.mpr nd, fun p hpm => (mem p (pm.mem_iff.mp hpm)).but ho hd sb, by rw [ep']; exact pl, by rw [el]; exact ld,
    by rw [pm.length_eq, em]; exact hn, by rw [pm.length_eq]; exact few⟩ pm
/-- adding -/
theorem addK (R : SetK P w s.heap a L es ep t) {x : Addr} {k : NestedKey} (hx : MemIs P w s.heap k x) (hu : A.units + 8 < cLine) (hfew : L.length + 1 ≤ 76) {Q : Bool → Shared → Prop}
    (hQ : ∀ b h' L' es' ep' t', Heap.SameBut a s.heap h' → SetK P w h' a L' es' ep' t' → (k ∈ L.map (·.2) → L' = L) → (k ∉ L.map (·.2) → L'.Perm ((x, k) :: L)) → Q b { s with heap := h' }) :
    wpAny (model P w) A (setAddHashed a (.ref x) (k.hash w)) Q E s := by
  obtain ⟨o, ho, hex, hd⟩ := R.ob
  have hsl := R.size
  have hroom := R.room
  unfold setAddHashed
  refine wpAny_holding ?_
  rw [show (100000 : Nat) = 99999 + 1 from rfl, setAddHashedIn_succ]
  refine wpAny_bind (wpAny_setState_of ho hd R.fits ?_)
  dsimp only
  refine wp_if_neg (by simp [byScan, Value.scannable]) ?_
  try refine wpAny_bind (wpAny_pure ?_)
  refine wpAny_bind (searchK_at R hx hu (fun hm => ?_) fun K hm hK hb => ?_)
  · exact wpAny_pure (hQ false s.heap L es ep t (Heap.SameBut.refl a s.heap) R (fun _ => rfl) fun z => absurd hm z)
  · dsimp only
    refine wpAny_bind (wpAny_setState_of ho hd R.fits ?_)
    dsimp only
    obtain ⟨q1, q2, q3, q4, q5, q6, q7, q8, q9⟩ := R.tab.put hK hb
    have hp1 : (t.put (way t.mask (k.hash w) K)).1.plain = true := by rw [q6]; exact R.plain
    generalize t.put (way t.mask (k.hash w) K) = pt at q1 q3 q4 q5 q6 q7 q8 q9 hp1 ⊢
    obtain ⟨t1, p⟩ := pt
    dsimp only at q1 q3 q4 q5 q6 q7 q8 q9 hp1 ⊢
    subst q1
    first
      | (refine wpAny_bind ?_; refine wp_if_pos hp1 ?_; refine byV_key k _ 8 s hx.1.1 hx.1.2 hx.2 _ _ _ ?_)
      | refine wp_if_pos hp1 (wpAny_bind (byV_key k _ 8 s hx.1.1 hx.1.2 hx.2 _ _ _ ?_))
    simp only [if_true]
    generalize SetTable.below t.place (way t.mask (k.hash w) K) = p at q2 q3 ⊢
    have hin : (SetTable.insertAt es p (k.hash w, Value.ref x)).toList = rowsK w (L.take p ++ (x, k) :: L.drop p) := by
      rw [SetTable.toList_insertAt, R.rows]
      simp only [rowsK, List.map_append, List.map_cons, List.map_take, List.map_drop]
    have hhs : hashK w (L.take p ++ (x, k) :: L.drop p) = (hashK w L).take p ++ k.hash w :: (hashK w L).drop p := by
      simp only [hashK, List.map_append, List.map_cons, List.map_take, List.map_drop]
    have pm := put_perm L p (x, k)
    have hlen : (L.take p ++ (x, k) :: L.drop p).length = L.length + 1 := pm.length_eq
    rw [← hhs] at q3
    have nd1 : ((L.take p ++ (x, k) :: L.drop p).map (·.2)).Nodup := (pm.map (·.2)).nodup_iff.mpr (List.nodup_cons.mpr ⟨hm, R.nd⟩)
    have hes : (SetTable.insertAt es p (k.hash w, Value.ref x)).size = L.length + 1 := by rw [rowsK_len hin, hlen]
    generalize SetTable.insertAt es p (k.hash w, Value.ref x) = es1 at hin hes ⊢
    generalize L.take p ++ (x, k) :: L.drop p = L1 at pm hlen q3 nd1 hin
    refine wpAny_bind (wpAny_storeSet_of ho hd ?_ (by rw [hes, sizeLine_eq]; omega))
    have sb : Heap.SameBut a s.heap (s.heap.update a (Obj.putSet es1 t1)) := Heap.SameBut.update ..
    have ho1 := store_at (es' := es1) (t' := t1) ho hd
    generalize s.heap.update a (Obj.putSet es1 t1) = h1 at sb ho1 ⊢
    have mem1 : ∀ p ∈ L1, MemIs P w h1 p.2 p.1 := fun p hp => by
      rcases List.mem_cons.mp (pm.mem_iff.mp hp) with e | hp
      · rw [e]; exact hx.but ho hd sb
      · exact (R.mem p hp).but ho hd sb
    have ld1 : w.params.followText "set-order" = true ∨ t1.led = true := by rw [q5]; exact R.led
    have q9 : t1.fill = L.length + 1 := by rw [q9, List.length_map]
    by_cases hf : t1.tooFull = true
    · first
        | (refine wpAny_bind ?_; refine wp_if_pos (by simp [hf]) ?_)
        | (refine wp_if_pos (by simp [hf]) ?_; refine wpAny_bind ?_)
      have hfull : (L.length + 1) * 5 ≥ t1.mask * 3 := by
        have h := hf
        unfold SetTable.tooFull at h
        rw [decide_eq_true_eq, q9] at h
        exact h
      rw [hsl]
      have hsz1 : t1.place.size = es1.size := by
        have h := q3.sz
        rw [List.length_map, hlen] at h
        rw [h, hes]
      have two : (t.mask = 7 ∧ L.length = 4) ∨ (t.mask = 31 ∧ L.length = 18) := by
        rcases R.tab.mok with e | e | e <;> rw [q4, e] at hfull <;> rw [e] at hroom
        · exact .inl ⟨e, by omega⟩
        · exact .inr ⟨e, by omega⟩
        · omega
      have go : ∀ M, SetTable.sizeAbove (SetTable.grown (L.length + 1)) - 1 = M → MaskOk M → SetTable.sizeAbove (SetTable.grown (L.length + 1)) ≤ 128 → (L.length + 1) * 5 < M * 3 →
          wpAny (model P w) A (setRelay a (SetTable.grown (L.length + 1))) (fun _ s' => wpAny (model P w) A (pure true) Q E s') E { s with heap := h1 } := fun M h1' h2' h3' h4' => by
        refine relayK (s := { s with heap := h1 }) ho1 ⟨hex.1, hex.2.1, hex.2.2⟩ rfl hin hsz1 q3.dm (by rw [hes, q4]; rcases two with ⟨e, e2⟩ | ⟨e, e2⟩ <;> omega) nd1 mem1 hp1 ld1 (by rw [hlen]; exact hfew) h1' h2' h3' (by rw [hlen]; exact h4') ?_
        intro h2 L2 es2 ep2 t2 sb2 R2 pm2
        exact wpAny_pure (hQ true h2 L2 es2 ep2 t2 (sb.trans sb2) R2 (fun z => absurd z hm) fun _ => pm2.trans pm)
      rcases two with ⟨_, e2⟩ | ⟨_, e2⟩
      · exact go 31 (by rw [e2, size_20]) (.inr (.inl rfl)) (by rw [e2, size_20]; decide) (by omega)
      · exact go 127 (by rw [e2, size_76]) (.inr (.inr rfl)) (by rw [e2, size_76]; decide) (by omega)
    · first
        | refine wp_if_neg (by simp [hf]) ?_
        | (refine wpAny_bind ?_; refine wp_if_neg (by simp [hf]) ?_; refine wpAny_pure ?_)
      refine wpAny_pure (hQ true h1 L1 es1 (ep + 1) t1 sb ⟨⟨_, ho1, ⟨hex.1, hex.2.1, hex.2.2⟩, rfl⟩, hin, q3, nd1, mem1, hp1, ld1, ?_, by rw [hlen]; exact hfew⟩ (fun z => absurd z hm) fun _ => pm)
      have h := hf
      unfold SetTable.tooFull at h
      rw [decide_eq_true_eq, q9] at h
      rw [hlen]
      omega
theorem SetK.keep {h h' : Heap} {a : Addr} {L : List Row} {es : Array (Int × Value)} {ep : Nat} {t : SetTable} (R : SetK P w h a L es ep t) (ha : ∀ o, h.get? a = some o → h'.get? a = some o) (hm : ∀ p ∈ L, MemIs P w h' p.2 p.1) : SetK P w h' a L es ep t := by
  obtain ⟨o, ho, r⟩ := R.ob
  exact ⟨⟨o, ha o ho, r⟩, R.rows, R.tab, R.nd, hm, R.plain, R.led, R.room, R.few⟩
end
/-! ### what the first i items have put in -/
structure GotK (ks : List Row) (i : Nat) (L : List Row) : Prop where
  sub : ∀ p ∈ L, p ∈ ks.take i
  all : ∀ p ∈ ks.take i, p.2 ∈ L.map (·.2)
  len : L.length ≤ i
theorem GotK.more {ks L L' : List Row} {i : Nat} {x : Row} (g : GotK ks i L) (h : ks[i]? = some x) (c1 : x.2 ∈ L.map (·.2) → L' = L) (c2 : x.2 ∉ L.map (·.2) → L'.Perm (x :: L)) : GotK ks (i + 1) L' := by
  have tk : ks.take (i + 1) = ks.take i ++ [x] := by rw [List.take_succ, h]; rfl
  by_cases c : x.2 ∈ L.map (·.2)
  · rw [c1 c]
    refine ⟨fun p hp => by rw [tk]; exact List.mem_append_left _ (g.sub p hp), fun p hp => ?_, Nat.le_succ_of_le g.len⟩
    rw [tk] at hp
    rcases List.mem_append.mp hp with z | z
    · exact g.all p z
    · rw [List.mem_singleton.mp z]; exact c
  · have pm := c2 c
    refine ⟨fun p hp => ?_, fun p hp => ?_, by rw [pm.length_eq, List.length_cons]; exact Nat.succ_le_succ g.len⟩
    · rw [tk]
      rcases List.mem_cons.mp (pm.mem_iff.mp hp) with e | z
      · rw [e]; exact List.mem_append_right _ (List.mem_singleton.mpr rfl)
      · exact List.mem_append_left _ (g.sub p z)
    · rw [(pm.map (·.2)).mem_iff, List.map_cons]
      rw [tk] at hp
      rcases List.mem_append.mp hp with z | z
      · exact List.mem_cons_of_mem _ (g.all p z)
      · rw [List.mem_singleton.mp z]; exact List.mem_cons_self
section
variable {P : Program} {w : World} {A : Around} {E : Value → Shared → Prop} {s : Shared}
abbrev newSet (w : World) : Obj := { cls := .type "set", dict := none, data := .set #[] 0 (.fresh 0 0 (!w.params.followText "set-order")) }
theorem setK_new {h : Heap} {a : Addr} (ho : h.get? a = some (newSet w)) : SetK P w h a [] #[] 0 (.fresh 0 0 (!w.params.followText "set-order")) where
  ob := ⟨_, ho, ⟨rfl, rfl, rfl⟩, rfl⟩
  rows := rfl
  tab := ⟨List.Pairwise.nil, rfl, rfl, .inl rfl, fun x hx => (by cases hx), fun i h j hi => (by simp at hi)⟩
  nd := List.nodup_nil
  mem := fun p hp => (by cases hp)
  plain := rfl
  led := by
    show _ ∨ (!w.params.followText "set-order") = true
    cases w.params.followText "set-order"
    · exact .inr rfl
    · exact .inl rfl
  room := by
    show 0 * 5 < 7 * 3
    decide
  few := by
    show 0 ≤ 76
    decide
/-- the loop that fills a set -/
theorem fillK {I : Addr} {fp wr : List Addr} {G : Array GenState → Array GenState → Prop} {n : Nat} {Pv : Nat → Value → Prop} {St : Nat → Shared → Prop} {R : Result → Shared → Prop}
    (W : WalksS P w A.in1 I fp wr G n Pv St) (S : Addr) (hSf : S ∉ fp) (ks : List Row) (hn : n = ks.length) (hfew : ks.length ≤ 76) (hval : ∀ i v, Pv i v → ∃ p, ks[i]? = some p ∧ v = .ref p.1)
    (h0 : Heap) (hk : ∀ p ∈ ks, MemIs P w h0 p.2 p.1) (hS0 : h0.get? S = none) (hw0 : ∀ b ∈ wr, h0.get? b = none) (hu : A.in1.units + 8 < cLine) :
    ∀ (k i : Nat) (s : Shared), n - i = k → i ≤ n → St i s → (∀ b o, h0.get? b = some o → s.heap.get? b = some o) → (∃ L es ep t, SetK P w s.heap S L es ep t ∧ GotK ks i L) →
      (∀ s' L es ep t, Moved (S :: wr) G s s' → SetK P w s'.heap S L es ep t → GotK ks n L → (∀ b o, h0.get? b = some o → s'.heap.get? b = some o) → R (.ok (.ret .none)) s') →
      codeAny (model P w) A (.builtin "set.update.loop" ⟨[.ref S, .ref I], []⟩) R s := by
  have hSw : S ∉ wr := fun h => hSf (W.sub _ h)
  have hsub : ∀ b ∈ wr, b ∈ S :: wr := fun b hb => List.mem_cons_of_mem _ hb
  have keepM : ∀ {s s' : Shared}, Moved wr G s s' → (∀ b o, h0.get? b = some o → s.heap.get? b = some o) → ∀ b o, h0.get? b = some o → s'.heap.get? b = some o := fun hm hkp b o e =>
    hm.heap b o (fun hb => by rw [hw0 b hb] at e; cases e) (hkp b o e)
  intro k
  induction k with
  | zero =>
    intro i s hk' hi hst hkp ⟨L, es, ep, t, hS, g⟩ hR
    obtain rfl : i = n := by omega
    refine codeAny_builtin F.entry_set_update_loop ?_
    rw [Around.under_plainId F.plain_set_update_loop _]
    show wpAny _ A.in1 (pyNext (.ref I) >>= _) _ _ s
    refine wpAny_bind (W.done s _ _ hst fun s' hm => ?_)
    have hkp' := keepM hm hkp
    exact wpAny_pure (hR s' L es ep t (hm.mono hsub) (hS.keep (fun o e => hm.heap S o hSw e) fun p hp => (hk p (List.mem_of_mem_take (g.sub p hp))).upO hkp') g hkp')
  | succ k ih =>
    intro i s hk' hi hst hkp ⟨L, es, ep, t, hS, g⟩ hR
    refine codeAny_builtin F.entry_set_update_loop ?_
    rw [Around.under_plainId F.plain_set_update_loop _]
    show wpAny _ A.in1 (pyNext (.ref I) >>= _) _ _ s
    refine wpAny_bind (W.item i s _ _ (by omega) hst fun v s' hP hst' hm => ?_)
    obtain ⟨p, hp, rfl⟩ := hval i v hP
    have hkp' := keepM hm hkp
    have hS' : SetK P w s'.heap S L es ep t := hS.keep (fun o e => hm.heap S o hSw e) fun q hq => (hk q (List.mem_of_mem_take (g.sub q hq))).upO hkp'
    have hx : MemIs P w s'.heap p.2 p.1 := (hk p (List.mem_of_getElem? hp)).upO hkp'
    show wpAny _ A.in1 (holding [Value.ref p.1] (setAdd S (.ref p.1)) >>= _) _ _ s'
    refine wpAny_bind (wpAny_holding ?_)
    unfold setAdd
    refine wpAny_holding ?_
    refine wpAny_bind ((nestedKind P w).pyHash hu hx.1 ?_)
    refine addK (s := { s' with toks := s'.toks + p.2.draws }) hS' hx hu (by have := g.len; omega) fun b h' L' es' ep' t' hsb hS2 c1 c2 => ?_
    have hkp2 : ∀ b o, h0.get? b = some o → h'.get? b = some o := fun b o e => (hsb.2 b (fun z => by rw [z, hS0] at e; cases e)).trans (hkp' b o e)
    refine wpAny_pure ⟨plainId_quiet F.plain_set_update_loop _, ih (i + 1) _ (by omega) (by omega) (W.frame _ s' _ _ hst' (Nat.le_add_right _ _) fun b hb o e => ?_) hkp2 ⟨L', es', ep', t', hS2, g.more hp c1 c2⟩ fun s'' L2 es2 ep2 t2 hm'' hS'' g'' hkp'' => ?_⟩
    · rw [hsb.2 b (fun h : b = S => hSf (by rw [← h]; exact hb))]; exact e
    · refine hR s'' L2 es2 ep2 t2 (Moved.trans W.gtrans ((hm.mono hsub).then_heap (Nat.le_add_right _ _) fun b o hb e => ?_) hm'') hS'' g'' hkp''
      rw [hsb.2 b (fun h : b = S => hb (by rw [h]; exact List.mem_cons_self))]; exact e
/-- what filling it comes to -/
def FilledK (P : Program) (w : World) (s : Shared) (ks : List Row) (r : Value) (s2 : Shared) : Prop :=
  r = .none ∧ ∃ (g : Heap) (tk : Nat) (L : List Row) (es : Array (Int × Value)) (ep : Nat) (t : SetTable), s2 = { s with heap := g, toks := tk } ∧ SetK P w g s.heap.objs.size L es ep t ∧ GotK ks ks.length L ∧ ∀ b o, s.heap.get? b = some o → g.get? b = some o
theorem call_setK {l : Addr} {its : Array Value} (ks : List Row) {Qf : Value → Shared → Prop} (h0 : A.handled = none) (hL : s.heap.IsList l its) (hI : its.toList = ks.map fun p => Value.ref p.1) (hk : ∀ p ∈ ks, MemIs P w s.heap p.2 p.1) (hB : ks.length ≤ 76) (hu : A.units + 20 < cLine)
    (fin : ∀ (g : Heap) (tk : Nat) L es ep t, SetK P w g s.heap.objs.size L es ep t → GotK ks ks.length L → (∀ b o, s.heap.get? b = some o → g.get? b = some o) → Qf (.ref s.heap.objs.size) { s with heap := g, toks := tk }) :
    wpAny (model P w) A (call (.type "set") [.ref l]) Qf E s := by
  have size : its.size = ks.length := by rw [← Array.length_toList, hI, List.length_map]
  obtain ⟨c, tl, mro⟩ := F.called_set.mro
  have m1 := F.called_set.made
  have m2 := F.called_set.sub
  have m3 := F.called_set.notType
  have m4 := F.called_set.canCreate
  have m5 := F.typeCall_set_1 (.ref l)
  have a0 : (s.heap.push (newSet w)).get? s.heap.objs.size = some (newSet w) := Heap.get?_push_size _ rfl
  refine wpAny_call (codeAny_of_tree (show wpAny _ _ (callAny (.type "set") _) _ _ _ from wpAny_pure ⟨Code.quiet_builtin _ (by decide +kernel), codeAny_builtin F.entry_type_call ?_⟩))
  rw [Around.under_plain (weight_type_call_type "set" [.ref l] []) rfl]
  repeat (any_goals (first | assumption | wp_step))
  refine codeAny_mono (code_set_led1 (.ref l) (E := E) (Q₁ := fun v t => v = .ref s.heap.objs.size ∧ t = { s with heap := s.heap.push (newSet w) }) ⟨rfl, rfl⟩) fun res t got => ?_
  match res, got with
  | .error e, got => exact got
  | .ok .next, got => exact got.elim
  | .ok .brk, got => exact got.elim
  | .ok .cont, got => exact got.elim
  | .ok (.ret v), got =>
    obtain ⟨rfl, rfl⟩ := got
    have isS : Shared.TypeIs { s with heap := s.heap.push (newSet w) } (.ref s.heap.objs.size) "set" := ⟨_, a0, rfl⟩
    have m6 := F.called_set.init.lookup
    have m7 := F.called_set.init.bind (.ref s.heap.objs.size)
    repeat (any_goals (first | assumption | wp_step))
    refine codeAny_mono (codeAny_call_builtin (R := wants (FilledK P w s ks) E) F.called_set.init.plain F.entry_set_init (check_set_init_1 isS ?_)) fun res2 t2 got2 => ?_
    · obtain ⟨⟨ocls, odict, odata, oslots⟩, ho, hc, num, hd⟩ := hL
      simp only at hc hd
      subst hc hd
      have hl' : (s.heap.push (newSet w)).get? l = some ⟨.type "list", odict, .seq its num, oslots⟩ := Heap.get?_push_of_some _ ho
      have q1 := F.sub_list_set
      have q2 := F.sub_list_frozenset
      have q3 : (Value.type "list" == Value.type "dict") = false := by decide
      have asL : (s.heap.push (newSet w)).IsList l its := ⟨_, hl', rfl, num, rfl⟩
      unfold Builtin.«set.__init__» noKeywords Builtin.Frozenset.updateFrom
      generalize hPI : pyIter = PI
      wp_walk
      subst hPI
      refine wpAny_pyIter_list asL (wpAny_bind (wpAny_runValue ?_))
      have below : l < s.heap.objs.size := Heap.lt_size ho
      have grown : (s.heap.push (newSet w)).objs.size = s.heap.objs.size + 1 := Heap.size_push ..
      have l_it : l ≠ (s.heap.push (newSet w)).objs.size := grown ▸ Nat.ne_of_lt (Nat.lt_succ_of_lt below)
      have own : s.heap.objs.size ∉ [(s.heap.push (newSet w)).objs.size, l] := fun hm => by
        rw [grown] at hm
        rcases List.mem_cons.mp hm with e | hm
        · exact absurd e (Nat.ne_of_lt (Nat.lt_succ_self _))
        · exact absurd (List.mem_singleton.mp hm) (Nat.ne_of_gt below)
      have each : ∀ (i : Nat) (v : Value), its[i]? = some v → ∃ p, ks[i]? = some p ∧ v = .ref p.1 := fun i v hv => by
        have q : its.toList[i]? = some v := by rw [Array.getElem?_toList]; exact hv
        rw [hI, List.getElem?_map] at q
        obtain ⟨p, hp, e⟩ := Option.map_eq_some_iff.mp q
        exact ⟨p, hp, e.symm⟩
      have none_of : ∀ b, s.heap.objs.size ≤ b → s.heap.get? b = none := fun b hb => by
        cases q : s.heap.get? b with
        | none => rfl
        | some o => exact absurd (Nat.lt_of_lt_of_le (Heap.lt_size q) hb) (Nat.lt_irrefl _)
      have still : (s.heap.push (newSet w) |>.push { cls := .type "list_iterator", data := .fields #[.ref l, .int 0 0] }).get? s.heap.objs.size = some (newSet w) := Heap.get?_push_of_some _ a0
      refine fillK (Walks.list (show A.in1.in1.in1.handled = none by simp [h0]) _ l l_it its).toS s.heap.objs.size own ks size hB each s.heap hk (none_of _ (Nat.le_refl _)) (fun b hb => none_of b (by
        rw [List.mem_singleton.mp hb, grown]
        exact Nat.le_succ _)) (by simp only [Around.in1_units]; omega) (its.size - 0) 0 _ (Nat.sub_zero _) (Nat.zero_le _) ⟨⟨_, Heap.get?_push_size _ rfl, rfl, rfl⟩, asL.push _⟩ (fun b o e => Heap.get?_push_of_some _ (Heap.get?_push_of_some _ e))
        ⟨[], #[], 0, _, setK_new still, ⟨fun p h => (by cases h), fun p h => (by simp at h), Nat.le_refl _⟩⟩ ?_
      rintro ⟨g, gs, dr, tk, os⟩ L es ep t mv R got kp
      have e1 : gs = s.gens := mv.gens
      have e2 : dr = s.drawn := mv.drawn
      have e3 : os = s.os := mv.os
      subst e1 e2 e3
      rw [size] at got
      exact wpAny_pure (wpAny_pure ⟨rfl, g, tk, L, es, ep, t, rfl, R, got, kp⟩)
    · match res2, got2 with
      | .error e, g => exact g
      | .ok .next, g => exact g.elim
      | .ok .brk, g => exact g.elim
      | .ok .cont, g => exact g.elim
      | .ok (.ret r), g =>
        obtain ⟨rfl, h2, tk, L, es, ep, t, rfl, k1, k2, k3⟩ := g
        repeat (any_goals (first | assumption | wp_step))
        exact fin _ _ _ _ _ _ k1 k2 k3
end
end My
/-! set(xs) and sorted(a set), xs a list of tuples of any depth -/
namespace My
open PySem PySem.Spec L2 PyProof.Rows PySem.W TS
open Sem (wp)
/-! ### alike data -/
mutual
theorem alike_nk : ∀ (x y : PyData), nlB x = true → alike x y = true → nk x = nk y → x = y
  | .none, .none, _, _, _ => rfl
  | .bool a, .bool b, _, _, e => by
    have e : NestedKey.num (if a = true then 1 else 0) = NestedKey.num (if b = true then 1 else 0) := e
    injection e with e
    cases a <;> cases b <;> first | rfl | (exact absurd e (by decide))
  | .int a, .int b, _, _, e => by
    have e : NestedKey.num a = NestedKey.num b := e
    injection e with e
    rw [e]
  | .str a, .str b, _, _, e => by
    have e : NestedKey.text a = NestedKey.text b := e
    injection e with e
    rw [e]
  | .tuple xs, .tuple ys, nl, al, e => by
    have e : NestedKey.tup (nks xs) = NestedKey.tup (nks ys) := e
    injection e with e
    rw [alike_nks xs ys nl (by simpa [alike] using al) e]
  | .list _, _, nl, _, _ => by cases nl
  | .dict _, y, _, al, _ => absurd al (by cases y <;> simp [alike])
  | .none, .bool _, _, al, _ | .none, .int _, _, al, _ | .none, .str _, _, al, _ | .none, .list _, _, al, _ | .none, .tuple _, _, al, _ | .none, .dict _, _, al, _ => absurd al (by simp [alike])
  | .bool _, .none, _, al, _ | .bool _, .int _, _, al, _ | .bool _, .str _, _, al, _ | .bool _, .list _, _, al, _ | .bool _, .tuple _, _, al, _ | .bool _, .dict _, _, al, _ => absurd al (by simp [alike])
  | .int _, .none, _, al, _ | .int _, .bool _, _, al, _ | .int _, .str _, _, al, _ | .int _, .list _, _, al, _ | .int _, .tuple _, _, al, _ | .int _, .dict _, _, al, _ => absurd al (by simp [alike])
  | .str _, .none, _, al, _ | .str _, .bool _, _, al, _ | .str _, .int _, _, al, _ | .str _, .list _, _, al, _ | .str _, .tuple _, _, al, _ | .str _, .dict _, _, al, _ => absurd al (by simp [alike])
  | .tuple _, .none, _, al, _ | .tuple _, .bool _, _, al, _ | .tuple _, .int _, _, al, _ | .tuple _, .str _, _, al, _ | .tuple _, .list _, _, al, _ | .tuple _, .dict _, _, al, _ => absurd al (by simp [alike])
theorem alike_nks : ∀ (xs ys : List PyData), nlAll xs = true → alikeAll xs ys = true → nks xs = nks ys → xs = ys
  | [], [], _, _, _ => rfl
  | x :: xs, y :: ys, nl, al, e => by
    have nl : (nlB x && nlAll xs) = true := nl
    rw [Bool.and_eq_true] at nl
    have e : nk x :: nks xs = nk y :: nks ys := e
    injection e with e1 e2
    rw [alike_nk x y nl.1 (alike_all_cons al).1 e1, alike_nks xs ys nl.2 (alike_all_cons al).2 e2]
  | [], _ :: _, _, _, e => by cases (show ([] : List NestedKey) = _ :: _ from e)
  | _ :: _, [], _, _, e => by cases (show _ :: _ = ([] : List NestedKey) from e)
end
mutual
theorem alike_eqv : ∀ (x y : PyData), nlB x = true → alike x y = true → PyData.eqv x y = true → nk x = nk y
  | .none, .none, _, _, _ => rfl
  | .bool a, .bool b, _, _, e => by
    have e' : a = b := by simpa [PyData.eqv] using e
    rw [e']
  | .int a, .int b, _, _, e => by
    have e' : a = b := by simpa [PyData.eqv] using e
    rw [e']
  | .str a, .str b, _, _, e => by
    have e' : a = b := by simpa [PyData.eqv] using e
    rw [e']
  | .tuple xs, .tuple ys, nl, al, e => congrArg NestedKey.tup (alike_eqvs xs ys nl (by simpa [alike] using al) (by simpa [PyData.eqv] using e))
  | .list _, _, nl, _, _ => by cases nl
  | .dict _, y, _, al, _ => absurd al (by cases y <;> simp [alike])
  | .none, .bool _, _, al, _ | .none, .int _, _, al, _ | .none, .str _, _, al, _ | .none, .list _, _, al, _ | .none, .tuple _, _, al, _ | .none, .dict _, _, al, _ => absurd al (by simp [alike])
  | .bool _, .none, _, al, _ | .bool _, .int _, _, al, _ | .bool _, .str _, _, al, _ | .bool _, .list _, _, al, _ | .bool _, .tuple _, _, al, _ | .bool _, .dict _, _, al, _ => absurd al (by simp [alike])
  | .int _, .none, _, al, _ | .int _, .bool _, _, al, _ | .int _, .str _, _, al, _ | .int _, .list _, _, al, _ | .int _, .tuple _, _, al, _ | .int _, .dict _, _, al, _ => absurd al (by simp [alike])
  | .str _, .none, _, al, _ | .str _, .bool _, _, al, _ | .str _, .int _, _, al, _ | .str _, .list _, _, al, _ | .str _, .tuple _, _, al, _ | .str _, .dict _, _, al, _ => absurd al (by simp [alike])
  | .tuple _, .none, _, al, _ | .tuple _, .bool _, _, al, _ | .tuple _, .int _, _, al, _ | .tuple _, .str _, _, al, _ | .tuple _, .list _, _, al, _ | .tuple _, .dict _, _, al, _ => absurd al (by simp [alike])
theorem alike_eqvs : ∀ (xs ys : List PyData), nlAll xs = true → alikeAll xs ys = true → PyData.eqvAll xs ys = true → nks xs = nks ys
  | [], [], _, _, _ => rfl
  | x :: xs, y :: ys, nl, al, e => by
    have nl : (nlB x && nlAll xs) = true := nl
    rw [Bool.and_eq_true] at nl
    rw [eqv_all_cons, Bool.and_eq_true] at e
    show nk x :: nks xs = nk y :: nks ys
    rw [alike_eqv x y nl.1 (alike_all_cons al).1 e.1, alike_eqvs xs ys nl.2 (alike_all_cons al).2 e.2]
  | [], _ :: _, _, _, e => absurd e (by simp [PyData.eqvAll])
  | _ :: _, [], _, _, e => absurd e (by simp [PyData.eqvAll])
end
theorem leD_tot : TotalLe leD := sortLe_total (listOrd itemOrd) false _
theorem leD_anti {x y : PyData} (nl : nlB x = true) (al : alike x y = true) (h1 : leD x y = true) (h2 : leD y x = true) : x = y := by
  have h1 : (!(listOrd itemOrd).blt (keyToks y) (keyToks x)) = true := h1
  have h2 : (!(listOrd itemOrd).blt (keyToks x) (keyToks y)) = true := h2
  rw [Bool.not_eq_true'] at h1 h2
  have e : keyToks x = keyToks y := (listOrd itemOrd).total _ _ h2 h1
  refine alike_nk x y nl al (alike_eqv x y nl al ?_)
  cases q : PyData.eqv x y with
  | true => rfl
  | false =>
    have t := (toks_eqv x y al).2 q [.inl 0] [.inl 1]
    rw [← e, lex_pre] at t
    have t2 : PyProof.Rows.lexLt itemOrd (keyToks x) (keyToks x) = false := (listOrd itemOrd).irrefl (keyToks x)
    rw [t2] at t
    exact absurd t (by decide +kernel)
/-- the same data in two orders, sorted -/
theorem sortD_perm {l m : List PyData} (nl : ∀ d ∈ l, nlB d = true) (al : AllAlike l) (p : l.Perm m) : l.mergeSort leD = m.mergeSort leD := by
  have pl := List.mergeSort_perm l leD
  have pm := List.mergeSort_perm m leD
  refine List.Perm.eq_of_pairwise (le := fun a b => leD a b = true) (fun a b ha hb h1 h2 => ?_) (sort_pairwise leD_tot l) (sort_pairwise leD_tot m) (pl.trans (p.trans pm.symm))
  have ha := pl.mem_iff.mp ha
  exact leD_anti (nl a ha) (al a ha b (p.mem_iff.mpr (pm.mem_iff.mp hb))) h1 h2
/-! ### the letter -/
def SetK0 (P : Program) (w : World) (h : Heap) (a : Addr) (L : List Row) : Prop := ∃ (es : Array (Int × Value)) (ep : Nat) (t : SetTable), (∃ o, h.get? a = some o ∧ o.ExactSet ∧ o.data = .set es ep t) ∧ es.toList = rowsK w L ∧ TabOk t (hashK w L) ∧ (L.map (·.2)).Nodup ∧ t.plain = true ∧
  (w.params.followText "set-order" = true ∨ t.led = true) ∧ L.length * 5 < t.mask * 3 ∧ L.length ≤ 76
abbrev RowD := Addr × PyData
abbrev rwD (L : List RowD) : List Row := L.map fun p => (p.1, nk p.2)
def SetDO (P : Program) (w : World) (a : Addr) (L : List RowD) : HO := .ext fun h => SetK0 P w h a (rwD L)
theorem setDO_new {P : Program} {w : World} {H : Hp} {h : Heap} {a : Addr} {L : List RowD} {es : Array (Int × Value)} {ep : Nat} {t : SetTable} (R : SetK P w h a (rwD L) es ep t) : ObjOk P w H h a (SetDO P w a L) := by
  have ⟨o, ho, r⟩ := R.ob
  refine ⟨⟨es, ep, t, R.ob, R.rows, R.tab, R.nd, R.plain, R.led, R.room, R.few⟩, ⟨o, ho⟩, fun h1 h2 p k => ?_⟩
  have ⟨es', ep', t', ⟨o', ho', r'⟩, q'⟩ := (show SetK0 P w h1 a (rwD L) from p)
  exact ⟨es', ep', t', ⟨o', k o' ho', r'⟩, q'⟩
/-- a member as data -/
def TupD (d : PyData) : Prop := (∃ es, d = .tuple es) ∧ nlB d = true ∧ noTx (nk d) = true ∧ (nk d).depth ≤ 8
def MemD (K : PySem.W.Frag) (H : Hp) (p : RowD) : Prop := Dp K H (.ref p.1) p.2 ∧ TupD p.2
theorem MemD.mono {K : PySem.W.Frag} {H H' : Hp} {p : RowD} (h : MemD K H p) (e : ∀ p xs, SqT K H p xs → SqT K H' p xs) : MemD K H' p := ⟨dp_mono e h.2.2.1 h.1, h.2⟩
section
variable {X : Cx} {pins : List (Addr × Obj)} {σ : L2.St} {H : Hp} {s : Shared}
theorem mem_is (I : Inv X pins σ H s) {p : RowD} (h : MemD X.K H p) : MemIs X.prog X.w s.heap (nk p.2) p.1 := ⟨⟨nested_of I h.1 h.2.2.1 (show RelV (.ref p.1) (.ref p.1) from rfl), h.2.2.2.2⟩, h.2.2.2.1⟩
theorem rows_of {K : PySem.W.Frag} {H : Hp} : ∀ {xs : List V} {ds : List PyData}, DpAll K H xs ds → (∀ d ∈ ds, TupD d) → ∃ ks : List RowD, xs = ks.map (fun p => V.ref p.1) ∧ ds = ks.map (·.2) ∧ ∀ p ∈ ks, MemD K H p
  | _, _, .nil, _ => ⟨[], rfl, rfl, fun p hp => nomatch hp⟩
  | _, _, @DpAll.cons _ _ x xs d ds h t, td => by
    obtain ⟨ks, e1, e2, m⟩ := rows_of t fun d hd => td d (.tail _ hd)
    obtain ⟨⟨es, rfl⟩, r⟩ := td d (.head _)
    cases h with
    | @tup a vs es q u =>
      refine ⟨(a, .tuple es) :: ks, by rw [e1]; rfl, by rw [e2]; rfl, fun p hp => ?_⟩
      rcases List.mem_cons.mp hp with rfl | hp
      · exact ⟨.tup q u, ⟨es, rfl⟩, r⟩
      · exact m p hp
theorem vals_rows : ∀ {ks : List RowD} {us : List Value}, Vals (ks.map fun p => V.ref p.1) us → us = ks.map fun p => Value.ref p.1
  | [], _, .nil => rfl
  | p :: ks, _, .cons r t => by
    cases r
    rw [vals_rows t]; rfl
theorem pick_rows {ks : List RowD} : ∀ {L' : List Row}, (∀ p ∈ L', p ∈ rwD ks) → ∃ L : List RowD, L' = rwD L ∧ ∀ p ∈ L, p ∈ ks
  | [], _ => ⟨[], rfl, fun p hp => nomatch hp⟩
  | q :: L', h => by
    obtain ⟨L, e, m⟩ := pick_rows (L' := L') fun p hp => h p (.tail _ hp)
    obtain ⟨p, hp, e2⟩ := List.mem_map.mp (h q (.head _))
    refine ⟨p :: L, by rw [e, ← e2]; rfl, fun r hr => ?_⟩
    rcases List.mem_cons.mp hr with rfl | hr
    · exact hp
    · exact m r hr
/-- set(xs) -/
def rSetOfD (K : PySem.W.Frag) (P : Program) (w : World) : List V → Hp → VK → Prop := fun vs H Q => ∃ (l : Addr) (xs : List V) (ds : List PyData), vs = [V.ref l] ∧ SqL K H l xs ∧ DpAll K H xs ds ∧ (∀ d ∈ ds, TupD d) ∧ ds.length ≤ 76 ∧
  ∀ (a : Addr) (L : List RowD), H a = none → (∀ p ∈ L, MemD K H p ∧ p.2 ∈ ds) → (∀ d ∈ ds, nk d ∈ L.map fun p => nk p.2) → (L.map fun p => nk p.2).Nodup → Q (.ref a) (upd H a (SetDO P w a L))
theorem cr_setOfD (hc : X.calm = true) (hu : X.A.units + 20 < cLine) : CallR X (.type "set") (rSetOfD X.K X.prog X.w) := by
  intro pins s σ H vs us Q I r h
  obtain ⟨l, xs, ds, rfl, hl, hd, td, few, q⟩ := h
  obtain ⟨ks, rfl, rfl, mk⟩ := rows_of hd td
  rw [Vals.ref1 r]
  obtain ⟨its, rv, pl, _⟩ := I.list hl
  refine call_setK (rwD ks) (I.ok.hd hc) pl.isList (by rw [List.map_map]; exact (by simpa using vals_rows rv : its.toArray.toList = ks.map fun p => Value.ref p.1)) (fun p hp => ?_) (by rw [List.length_map] at few ⊢; exact few) hu fun g tk L es ep t R got k => ?_
  · obtain ⟨p', hp', rfl⟩ := List.mem_map.mp hp
    exact mem_is I (mk p' hp')
  rw [List.length_map] at got
  obtain ⟨L2, rfl, m2⟩ := pick_rows (ks := ks) fun p hp => List.mem_of_mem_take (got.sub p hp)
  refine ⟨.ref s.heap.objs.size, _, I.laid (t' := tk) k (Nat.le_refl _) (setDO_new R), rfl, q _ L2 (I.hok.fresh (Nat.le_refl _)) (fun p hp => ⟨mk p (m2 p hp), List.mem_map.mpr ⟨p, m2 p hp, rfl⟩⟩) (fun d hd => ?_) ?_⟩
  · obtain ⟨p, hp, rfl⟩ := List.mem_map.mp hd
    have z := got.all (p.1, nk p.2) (by rw [List.take_of_length_le (by rw [List.length_map]; exact Nat.le_refl _)]; exact List.mem_map.mpr ⟨p, hp, rfl⟩)
    rw [List.map_map] at z
    exact z
  · have z := R.nd
    rw [List.map_map] at z
    exact z
/-- sorted(set) -/
def rSortedSD (K : PySem.W.Frag) (P : Program) (w : World) : List V → Hp → VK → Prop := fun vs H Q => ∃ (a : Addr) (L : List RowD), vs = [V.ref a] ∧ H a = some (SetDO P w a L) ∧ (∀ p ∈ L, MemD K H p) ∧ AllAlike (L.map (·.2)) ∧ PySem.W.Sortable (L.map (·.2)) ∧ (∀ p ∈ L, p.2.depth ≤ 60) ∧
  ∀ ys p, H p = none → DpAll K H ys ((L.map (·.2)).mergeSort leD) → Q (.ref p) (upd H p (.lst ys))
theorem perm_rows {L : List RowD} {vs : List Value} (pm : vs.Perm (L.map fun p => Value.ref p.1)) : ∃ L1 : List RowD, L1.Perm L ∧ vs = L1.map fun p => Value.ref p.1 := by
  have pr : Paired (fun (v : Value) (p : RowD) => v = Value.ref p.1) (L.map fun p => Value.ref p.1) L := by
    clear pm
    induction L with
    | nil => exact .nil
    | cons p L ih => exact .cons rfl ih
  obtain ⟨L1, p1, r1⟩ := paired_perm pm pr
  refine ⟨L1, p1, ?_⟩
  clear pm pr p1
  induction r1 with
  | nil => rfl
  | cons e _ ih => rw [List.map_cons, ← ih, e]
mutual
theorem reads_no {K : PySem.W.Frag} {H : Hp} {h : Heap} : ∀ {x : V} {v : Value} {d : PyData} {as : List Addr}, Dp K H x d → Reads h v d as → nlB d = true → as = []
  | _, _, _, _, .non, r, _ => by cases r; rfl
  | _, _, _, _, .bl _, r, _ => by cases r; rfl
  | _, _, _, _, .int _, r, _ => by cases r; rfl
  | _, _, _, _, .str _, r, _ => by cases r; rfl
  | _, _, _, _, .lst _ _, _, nl => by cases nl
  | _, _, .tuple ds, _, .tup _ t, r, nl => by
    cases r with
    | tuple _ _ _ r => exact readsAll_no t r (show nlAll ds = true from nl)
theorem readsAll_no {K : PySem.W.Frag} {H : Hp} {h : Heap} : ∀ {xs : List V} {vs : List Value} {ds : List PyData} {as : List Addr}, DpAll K H xs ds → ReadsAll h vs ds as → nlAll ds = true → as = []
  | _, _, _, _, .nil, r, _ => by cases r; rfl
  | _, _, d :: ds, _, .cons q t, r, nl => by
    have nl : (nlB d && nlAll ds) = true := nl
    rw [Bool.and_eq_true] at nl
    cases r with
    | cons r1 r2 => rw [reads_no q r1 nl.1, readsAll_no t r2 nl.2]; rfl
end
theorem vals_refsD : ∀ ks : List RowD, Vals (ks.map fun p => V.ref p.1) (ks.map fun p => Value.ref p.1)
  | [] => .nil
  | _ :: r => .cons rfl (vals_refsD r)
theorem dps_rows {K : PySem.W.Frag} {H : Hp} : ∀ {ks : List RowD}, (∀ p ∈ ks, MemD K H p) → DpAll K H (ks.map fun p => V.ref p.1) (ks.map (·.2))
  | [], _ => .nil
  | p :: ks, h => .cons (h p (.head _)).1 (dps_rows fun q hq => h q (.tail _ hq))
theorem cr_sortedSD (hc : X.calm = true) (hu : X.A.units + 65 < cLine) : CallR X (.builtin "sorted") (rSortedSD X.K X.prog X.w) := by
  intro pins s σ H vs us Q I r h
  obtain ⟨a, L, rfl, ha, hL, al, so, dep, q⟩ := h
  obtain ⟨es, ep, t, ⟨ob, g1, g2, g3⟩, k2, k3, k4, k5, k6, k7, k8⟩ := (show SetK0 X.prog X.w s.heap a (rwD L) from (I.hok a _ ha).1)
  have R : SetK X.prog X.w s.heap a (rwD L) es ep t := ⟨⟨ob, g1, g2, g3⟩, k2, k3, k4, fun p hp => by
    obtain ⟨p', hp', rfl⟩ := List.mem_map.mp hp
    exact mem_is I (hL p' hp'), k5, k6, k7, k8⟩
  have few : L.length ≤ 76 := by have := R.few; rw [List.length_map] at this; exact this
  have esz : es.size ≤ 76 := by have := R.size; rw [List.length_map] at this; omega
  rw [Vals.ref1 r]
  refine Calls.call_function_entry kind_sorted plain_sorted entry_sorted (args_sorted1 _) ?_
  unfold Builtin.«sorted»
  refine wpAny_bind (m := checkCount "sorted" 1 1 _) (wpAny_pure ?_)
  have hes : es.toList.map (·.2) = L.map fun q => Value.ref q.1 := by
    rw [k2, List.map_map, List.map_map]; rfl
  refine wpAny_bind (collect_set (A := X.A.in1) (I.ok.hd hc) ⟨ob, g1, g2.1, g3⟩ R.fits (by unfold scanBound; omega) R.tab.ris R.led fun s1 out k1 k2' k3' k4' pm => ?_)
  rw [hes] at pm
  obtain ⟨L1, p1, rfl⟩ := perm_rows pm
  have lo : L1.length = L.length := p1.length_eq
  refine wpAny_bind (wpAny_newList ?_ (by rw [sizeLine_eq, List.length_map]; omega))
  have up : ∀ b o, s.heap.get? b = some o → (s1.heap.push (seqObj "list" (L1.map fun p => Value.ref p.1).toArray 0)).get? b = some o := fun b o e => Heap.get?_push_of_some _ (k1 b o e)
  have hn : H s1.heap.objs.size = none := I.hok.fresh k2'
  have hl : (s1.heap.push (seqObj "list" (L1.map fun p => Value.ref p.1).toArray 0)).get? s1.heap.objs.size = some (seqObj "list" (L1.map fun p => Value.ref p.1).toArray 0) := Heap.get?_push_size _ rfl
  have perm2 : (L1.map (·.2)).Perm (L.map (·.2)) := p1.map _
  have mem1 : ∀ p ∈ L1, MemD X.K H p := fun p hp => hL p (p1.mem_iff.mp hp)
  have al1 : AllAlike (L1.map (·.2)) := fun d hd d' hd' => al d (perm2.mem_iff.mp hd) d' (perm2.mem_iff.mp hd')
  have so1 : PySem.W.Sortable (L1.map (·.2)) := so.imp (fun z d hd => z d (perm2.mem_iff.mp hd)) fun z d hd => z d (perm2.mem_iff.mp hd)
  have eR := each_RD (vals_refsD L1) (dps_rows mem1)
  have er : EachIs (fun v b => ∃ as, Reads (s1.heap.push (seqObj "list" (L1.map fun p => Value.ref p.1).toArray 0)) v (id b) as ∧ s1.heap.objs.size ∉ as) (L1.map fun p => Value.ref p.1) (L1.map (·.2)) := by
    refine (each_mem eR).mono fun v d ⟨⟨x, rx, hx⟩, hd⟩ => ?_
    obtain ⟨as, r⟩ := Dp.reads I d x v hx rx
    obtain ⟨p, hp, rfl⟩ := List.mem_map.mp hd
    rw [reads_no hx r (mem1 p hp).2.2.1] at r
    exact ⟨[], PyProof.Rows.Reads.keeps up r, fun hm => nomatch hm⟩
  refine wpAny_bind (wpAny_holding (list_sort_data (enc := id) (s := { s1 with heap := s1.heap.push (seqObj "list" (L1.map fun p => Value.ref p.1).toArray 0) }) hl eR er (by rw [List.map_id]; exact al1) (by rw [List.map_id]; exact so1) (by rw [List.length_map, sizeLine_eq]; omega)
    (fun b hb => by obtain ⟨p, hp, rfl⟩ := List.mem_map.mp hb; have := dep p (p1.mem_iff.mp hp); show X.A.in1.units + 1 + p.2.depth < cLine; simp only [Around.in1_units]; omega) fun out2 lo2 eo => ?_))
  obtain ⟨ys, ry, dy⟩ := RD_back eo
  obtain ⟨c, hc'⟩ := sortedHeap_at (vs := L1.map fun p => Value.ref p.1) (out := List.toArray out2) hl
  have kall : ∀ b o, s.heap.get? b = some o → (sortedHeap (s1.heap.push (seqObj "list" (L1.map fun p => Value.ref p.1).toArray 0)) s1.heap.objs.size (L1.map fun p => Value.ref p.1) (List.toArray out2)).get? b = some o := fun b o e => by
    have lt := Heap.lt_size (k1 b o e)
    rw [sortedHeap_old (Nat.ne_of_lt lt) (by rw [size_push']; exact Nat.lt_succ_of_lt lt)]
    exact up b o e
  have hly : ys.length ≤ sizeLine := by rw [ry.length, lo2, List.length_map, sizeLine_eq]; omega
  have J : Inv X pins σ (upd H s1.heap.objs.size (.lst ys)) { s with heap := sortedHeap (s1.heap.push (seqObj "list" (L1.map fun p => Value.ref p.1).toArray 0)) s1.heap.objs.size (L1.map fun p => Value.ref p.1) (List.toArray out2), gens := s1.gens, drawn := s1.drawn, toks := s1.toks } :=
    I.call (ch := []) (Un.laid kall k2' hn) (I.hok.laid kall k2' ⟨hly, out2, c, ry, by simpa using hc'⟩) (by rw [k3']; exact I.bare) (fun _ z => nomatch z)
  have es1 : ({ s1 with heap := sortedHeap (s1.heap.push (seqObj "list" (L1.map fun p => Value.ref p.1).toArray 0)) s1.heap.objs.size (L1.map fun p => Value.ref p.1) (List.toArray out2) } : Shared) = { s with heap := sortedHeap (s1.heap.push (seqObj "list" (L1.map fun p => Value.ref p.1).toArray 0)) s1.heap.objs.size (L1.map fun p => Value.ref p.1) (List.toArray out2), gens := s1.gens, drawn := s1.drawn, toks := s1.toks } := by
    cases s1
    cases s
    cases k4'
    rfl
  refine wpAny_pure ⟨_, rfl, ?_⟩
  show EP X pins σ Q (.ref s1.heap.objs.size) ({ s1 with heap := sortedHeap (s1.heap.push (seqObj "list" (L1.map fun p => Value.ref p.1).toArray 0)) s1.heap.objs.size (L1.map fun p => Value.ref p.1) (List.toArray out2) } : Shared)
  rw [es1]
  refine ⟨.ref s1.heap.objs.size, _, J, rfl, q _ _ hn ?_⟩
  rw [← sortD_perm (fun d hd => by obtain ⟨p, hp, rfl⟩ := List.mem_map.mp hd; exact (mem1 p hp).2.2.1) al1 perm2]
  exact dy
end
end My
/-! len of a dict whose keys are tuples of any depth -/
namespace My
open PySem PySem.Spec L2 PyProof.Rows
section
theorem u0 {k : Nat} {A : Around} (r : Room k A) : A.units < cLine := by have := r.un; omega
theorem u9 {k : Nat} {A : Around} (r : Room k A) : A.units + 9 < cLine := by have := r.un; omega
end
section
variable {X : Cx}
theorem call_lenN : CallR X (.builtin "len") (fun xs H Q => ∃ D kvs, xs = [V.ref D] ∧ Rd H D (DN X.prog X.w D kvs) ∧ Q (.int (kvs.length : Int)) H) := by
  intro pins s σ H xs us Q I r h
  obtain ⟨D, kvs, rfl, hd, q⟩ := h
  obtain ⟨u, rfl, rx⟩ := r.one
  cases rx
  obtain ⟨z, hs, ks, pr, o, es, ep, ho, hx, hdt, he, hn⟩ := dn_at (hd.ok I.hok)
  have l1 : es.size = ks.length := size_of_entries he
  have l2 := relN_len pr
  have big : sizeLine < 2 ^ 63 := by decide
  refine call_len_slot (T := "dict") (id := "dict.__len__") (n := (kvs.length : Int)) ⟨o, ho, hx.1⟩ F.slot_dict_len (fun Q' hq => ?_) (by omega) (by omega) ?_
  · refine GQ.call_here F.slot_dict_len ⟨_, ho, hx.1⟩ F.entry_dict_len (F.args_dict_len_1 _) ?_
    obtain ⟨hp, g, d, tk, os⟩ := s
    wp_walk
    rw [hdt]
    wp_walk
    rw [show ((es.size : Int) + ((0 : Nat) : Int)) = (List.length kvs : Int) by omega]
    exact hq
  · exact ⟨.int _, H, I.kept (t' := s.toks + 1 + 1) (fun _ _ e => e), ⟨_, rfl⟩, q⟩
end
end My
/-! a tuple times a number -/
namespace My
open PySem PySem.Spec L2 PyProof.Rows
section
variable {X : Cx}
theorem foldl_rep (b : List Value) : ∀ (m : Nat) (acc : Array Value), (List.replicate m b.toArray).foldl (fun x1 x2 => x1 ++ x2) acc = acc ++ ((List.replicate m b).flatten).toArray
  | 0, acc => by simp
  | m + 1, acc => by
    rw [List.replicate_succ, List.foldl_cons, foldl_rep b m, List.replicate_succ, List.flatten_cons]
    simp [Array.append_assoc]
theorem vals_app : ∀ {xs : List V} {us : List Value} {ys : List V} {vs : List Value}, Vals xs us → Vals ys vs → Vals (xs ++ ys) (us ++ vs)
  | _, _, _, _, .nil, h => h
  | _, _, _, _, .cons r t, h => .cons r (vals_app t h)
theorem vals_rep {xs : List V} {us : List Value} (h : Vals xs us) : ∀ m : Nat, Vals (List.replicate m xs).flatten (List.replicate m us).flatten
  | 0 => .nil
  | m + 1 => by
    rw [List.replicate_succ, List.replicate_succ, List.flatten_cons, List.flatten_cons]
    exact vals_app h (vals_rep h m)
def rMulT (K : PySem.W.Frag) : R2 := fun x y H Q => ∃ (a : Addr) (n : Int) (xs : List V), x = .ref a ∧ y = .int n ∧ SqT K H a xs ∧ xs ≠ [] ∧ 2 ≤ n ∧ n ≤ 1000 ∧ xs.length ≤ 1000 ∧ ∀ p, H p = none → Q (.ref p) (upd H p (.tup (List.replicate n.toNat xs).flatten))
theorem op_mulT : OpR X (binaryOp .Mult) (rMulT X.K) := by
  intro pins s σ H x y v u Q I rx ry h
  obtain ⟨a, n, xs, rfl, rfl, ha, ne, n2, n3, l1, q⟩ := h
  cases rx
  obtain ⟨t, rfl⟩ := ry
  obtain ⟨its, rv, ⟨o, ho, hc, ep, hd⟩, hz⟩ := I.tuple ha
  refine wpAny_binaryOp_repeat_ref (T := "tuple") (U := "int") (id := "tuple.__mul__") (idr := "int.__rmul__") (ix := .builtin "int.__index__") (by decide) ⟨o, ho, hc⟩ (fun s' => by rfl) (by kernel_rfl) (by kernel_rfl) F.slot_int_rmul (by kernel_rfl) (by kernel_rfl) ?_
  refine GQ.call_here F.slot_int_rmul (by rfl) F.entry_int_rmul (F.args_int_rmul_2 _ _) ?_
  obtain ⟨hp, g, d, tk, os⟩ := s
  wp_walk
  rw [hd]
  wp_walk
  refine ⟨rfl, ⟨o, ho, hc⟩, ?_⟩
  refine GQ.call_here F.slot_tuple_mul ⟨o, ho, hc⟩ F.entry_tuple_mul (F.args_tuple_mul_2 _ _) ?_
  wp_walk
  have lr := rv.length
  have hne : its ≠ [] := fun e => ne (List.length_eq_zero_iff.mp (by rw [lr, e]; rfl))
  have hem : its.toArray.isEmpty = false := by
    cases its with
    | nil => exact absurd rfl hne
    | cons _ _ => simp
  rw [if_neg (by simp; omega)]
  wp_walk
  rw [hd]
  wp_walk
  rw [if_neg (by rw [hem]; simp; omega)]
  wp_walk
  rw [if_neg (by rw [hem]; simp; omega)]
  wp_walk
  have hs : its.toArray.size = xs.length := by rw [List.size_toArray, lr]
  have hm : (its.toArray.size : Int) * n ≤ 1000 * 1000 := by
    rw [hs]
    exact Int.mul_le_mul (by omega) n3 (by omega) (by omega)
  rw [if_neg (by omega)]
  wp_walk
  have ht : Builtin.Tuple.tupleTooMany (↑its.toArray.size * n) = false := by
    unfold Builtin.Tuple.tupleTooMany
    refine decide_eq_false ?_
    have k : (1000 * 1000 : Int) ≤ sizeLine := by decide
    omega
  rw [if_neg (by rw [ht]; decide)]
  rw [foldl_rep, Array.empty_append]
  wp_walk
  have hl : ((List.replicate n.toNat its).flatten).length = n.toNat * its.length := by rw [List.length_flatten, List.map_replicate, List.sum_replicate_nat]
  have hb : n.toNat * its.length ≤ 1000 * 1000 := Nat.mul_le_mul (by omega) (by omega)
  have k : 1000 * 1000 ≤ sizeLine := by decide
  rw [if_neg (by rw [List.size_toArray, hl]; omega)]
  wp_walk
  have rv2 := vals_rep rv n.toNat
  refine ⟨.ref _, _, I.laid (t' := tk) (o := .tup (List.replicate n.toNat xs).flatten) (fun b o e => Heap.get?_push_of_some _ e) (Nat.le_refl _) ?_, rfl, q _ (I.hok.fresh (Nat.le_refl _))⟩
  refine ⟨?_, _, rv2, ?_⟩
  · rw [rv2.length, hl]; omega
  · exact IsTup.new _ _
end
end My
namespace My
open PySem L2 Mth
def topS (i : Nat) : Stmt := PySem.Challenge.pw_copyarms_k28_rows_of_arms.main.body.getD i (.Pass ⟨0, 0, 0, 0⟩)
end My
namespace My
open PySem L2 Mth
abbrev s_carried : Stmt := topS 39
theorem sc_carried : FnScope ["turn", "shift", "mirrored", "spot"] ["turn", "shift", "mirrored", "spot"] (defScope s_carried) := ⟨rfl, rfl, rfl, by decide +kernel, rfl, by decide +kernel, by decide +kernel⟩
abbrev s_common_divisor : Stmt := topS 27
theorem sc_common_divisor : FnScope ["one", "other"] ["one", "other"] (defScope s_common_divisor) := ⟨rfl, rfl, rfl, by decide +kernel, rfl, by decide +kernel, by decide +kernel⟩
abbrev s_faced : Stmt := topS 38
theorem sc_faced : FnScope ["number", "mirrored", "x", "y", "d"] ["number", "mirrored"] (defScope s_faced) := ⟨rfl, rfl, rfl, by decide +kernel, rfl, by decide +kernel, by decide +kernel⟩
abbrev s_inverse : Stmt := topS 37
theorem sc_inverse : FnScope ["number", "x", "y", "d"] ["number"] (defScope s_inverse) := ⟨rfl, rfl, rfl, by decide +kernel, rfl, by decide +kernel, by decide +kernel⟩
abbrev s_negative : Stmt := topS 34
theorem sc_negative : FnScope ["number", "x", "y", "d"] ["number"] (defScope s_negative) := ⟨rfl, rfl, rfl, by decide +kernel, rfl, by decide +kernel, by decide +kernel⟩
abbrev s_plus : Stmt := topS 33
theorem sc_plus : FnScope ["one", "other", "x", "y", "d", "u", "v", "e"] ["one", "other"] (defScope s_plus) := ⟨rfl, rfl, rfl, by decide +kernel, rfl, by decide +kernel, by decide +kernel⟩
abbrev s_product : Stmt := topS 36
theorem sc_product : FnScope ["one", "other", "x", "y", "d", "u", "v", "e"] ["one", "other"] (defScope s_product) := ⟨rfl, rfl, rfl, by decide +kernel, rfl, by decide +kernel, by decide +kernel⟩
abbrev s_spot_at : Stmt := topS 31
theorem sc_spot_at : FnScope ["x", "y", "d", "divisor"] ["x", "y", "d"] (defScope s_spot_at) := ⟨rfl, rfl, rfl, by decide +kernel, rfl, by decide +kernel, by decide +kernel⟩
section
variable {P : Program} {w : World} {K : PySem.W.Frag} {mg : Str → Option Value} {base : Heap}
/-- a def with keyword-only parameters, out of which nothing is raised -/
theorem ok0 {x qual : Str} {params : Arguments} {body : List Stmt} {scope : Scope} {dvs : List V} {kws : List (Str × V)} {f : Addr} {fd : FuncData} {N ps : List Str} {k : Nat} {sp : Sp} (F : FunD K x qual params body scope dvs kws f fd) (S : FnScope N ps scope) (len : ∀ vs H Q E, sp vs H Q E → vs.length = ps.length)
    (hbody : ∀ (cdv : Value) (A : Around) (outer : List Env) (s : Shared) (H : Hp) (vs : List V) (Q : VK) (E : XK), Room k (A.deeper (PyProof.Rows.envOfC qual scope s.heap.objs.size f cdv)) → sp vs H Q E →
      ∃ t, PSs (cxOf CX0 P w K mg base N qual scope f cdv A outer s H E).nox body t ∧ t { nx := fun _ H' => Q .non H', rt := Q } (start N vs) H) : FnOk P w K mg base CX0 (k + 1) f fd ps sp :=
  F.ok S len fun cdv A outer s H vs Q E hr hsp => by
    obtain ⟨t, h, q⟩ := hbody cdv A outer s H vs Q E hr hsp
    exact ⟨t, h.nox, q⟩
/-- the greatest common divisor -/
def sp_gcd : Sp := fun vs H Q _ => ∃ a b : Int, vs = [.int a, .int b] ∧ Q (.int ((Int.gcd a b : Nat) : Int)) H
theorem ok_common_divisor {f : Addr} {fd : FuncData} (b_abs : mg "abs" = none) (F : Fun K "common_divisor" "common_divisor" s_common_divisor f fd) : FnOk P w K mg base CX0 1 f fd ["one", "other"] sp_gcd := by
  refine F.ok sc_common_divisor (fun vs H Q E h => ?_) (fun cdv A outer s H vs Q E hr h => ?_)
  · obtain ⟨a, b, rfl, _⟩ := h
    rfl
  obtain ⟨a, b, rfl, q⟩ := h
  refine ⟨_, (pss_cons (ps_while PassesOwn.never (pt_cmpR (op_ne) (pv 1) pe_int (nomark _)) (pss_one (ps_par (i := 0) (j := 1) (by rfl) sc_common_divisor.nd rfl rfl (by decide) rfl rfl (pa_cons (pv 1) (pa_cons (pe_op op_modN (pv 0) (pv 1)) pa_nil)) (by rfl))))
    (pss_one (ps_ret (pe_callB call_abs (by rfl) b_abs (by decide +kernel) (pa_cons (pv 0) pa_nil))))), ?_⟩
  refine while_by (fun σ H' => H' = H ∧ ∃ x y : Int, σ = [some (.int x), some (.int y)] ∧ Int.gcd x y = Int.gcd a b) (fun σ _ => match σ with | [_, some (.int y)] => y.natAbs | _ => 0) ⟨rfl, a, b, rfl, rfl⟩ ?_ ?_
  · rintro σ H' ⟨rfl, x, y, rfl, e⟩
    refine ⟨_, rfl, rfl, _, rfl, ?_⟩
    by_cases c : y = 0
    · subst c
      refine if_neg (by decide) |>.mpr ?_
      refine ⟨_, rfl, _, rfl, ?_⟩
      rw [← e, gcd_0] at q
      exact q
    · refine (if_pos (show (!decide (V.int y = V.int 0)) = true by rw [decide_eq_false (fun z => c (V.int.inj z))]; rfl)).mpr ?_
      refine ⟨_, rfl, _, rfl, _, rfl, _, _, rfl, rfl, c, _, _, rfl, ⟨rfl, _, _, rfl, ?_⟩, ?_⟩
      · rw [gcd_fmod]; exact e
      · exact fmod_small c
  · rintro σ H' Q1 Q2 hq ⟨v, h1, h2, k, h3, h4⟩
    exact ⟨v, h1, h2, k, h3, hq _ _ h4⟩
/-- (x, y, d) in lowest terms -/
def sp_low (K : PySem.W.Frag) : Sp := fun vs H Q _ => ∃ x y d : Int, vs = [.int x, .int y, .int d] ∧ d ≠ 0 ∧ d.natAbs < 2 ^ 8500 ∧ ∀ H' r, Same H H' → IsT K H' r (low x y d) → Q r H'
theorem g3_lt {x y d : Int} (hd : d ≠ 0) {n : Nat} (h : d.natAbs < 2 ^ n) : (sg x y d).natAbs < 2 ^ n := by
  obtain ⟨u, hu⟩ := @sg_dd x y d
  have hu0 : u ≠ 0 := fun z => by rw [z, Int.mul_zero] at hu; exact hd hu
  have e : (sg x y d).natAbs * u.natAbs = d.natAbs := by rw [← Int.natAbs_mul, ← hu]
  have : 1 ≤ u.natAbs := by omega
  have : (sg x y d).natAbs * 1 ≤ (sg x y d).natAbs * u.natAbs := Nat.mul_le_mul_left _ this
  omega
theorem ok_spot_at {f : Addr} {fd : FuncData} (d_common_divisor : D P w K mg base "common_divisor" 1 sp_gcd) (F : Fun K "spot_at" "spot_at" s_spot_at f fd) : FnOk P w K mg base CX0 2 f fd ["x", "y", "d"] (sp_low K) := by
  refine F.ok sc_spot_at (fun vs H Q E h => ?_) (fun cdv A outer s H vs Q E hr h => ?_)
  · obtain ⟨x, y, d, rfl, _⟩ := h
    rfl
  obtain ⟨x, y, d, rfl, hd, hB, q⟩ := h
  refine ⟨_, (pss_cons (ps_set (i := 3) sc_spot_at.nd rfl (by first | exact Or.inl rfl | exact Or.inr rfl) (pc d_common_divisor (hr.mono (by decide)) (pa_cons (pc d_common_divisor (hr.mono (by decide)) (pa_cons (pv 0) (pa_cons (pv 1) pa_nil))) (pa_cons (pv 2) pa_nil))))
    (pss_cons (ps_if (pt_cmpR (op_lt) (pv 2) pe_int (nomark _)) (pss_one (ps_set (i := 3) sc_spot_at.nd rfl (by first | exact Or.inl rfl | exact Or.inr rfl) (pe_un un_neg (pv 3)))) pss_nil)
    (pss_one (ps_ret (pe_tup (pa_cons (pe_op op_fdivX (pv 0) (pv 3)) (pa_cons (pe_op op_fdivX (pv 1) (pv 3)) (pa_cons (pe_op op_fdivX (pv 2) (pv 3)) pa_nil)))))))), ?_⟩
  refine ⟨_, rfl, _, rfl, _, _, rfl, _, rfl, _, _, rfl, ?_⟩
  refine ⟨_, rfl, _, _, rfl, rfl, _, rfl, ?_⟩
  have hc : CDivX x (sg x y d) ∧ CDivX y (sg x y d) ∧ CDivX d (sg x y d) := ⟨divX (sg_ne hd) (g3_lt hd hB) (by decide) (by decide), divX (sg_ne hd) (g3_lt hd hB) (by decide) (by decide), divX (sg_ne hd) (g3_lt hd hB) (by decide) (by decide)⟩
  refine ite2 (fun c => ?_) (fun c => ?_)
  · have es : sg x y d = -(g3 x y d) := if_pos (of_decide_eq_true c)
    refine ⟨_, rfl, _, rfl, ?_⟩
    rw [es] at hc
    refine ⟨_, rfl, _, rfl, _, _, rfl, rfl, hc.1, _, rfl, _, rfl, _, _, rfl, rfl, hc.2.1, _, rfl, _, rfl, _, _, rfl, rfl, hc.2.2, (by show 3 ≤ sizeLine; decide), fun p hp => ?_⟩
    refine q _ _ (same_new hp _) ?_
    unfold low
    rw [es]
    exact IsT.new
  · have es : sg x y d = g3 x y d := if_neg (of_decide_eq_false (Bool.eq_false_iff.mpr c))
    rw [es] at hc
    refine ⟨_, rfl, _, rfl, _, _, rfl, rfl, hc.1, _, rfl, _, rfl, _, _, rfl, rfl, hc.2.1, _, rfl, _, rfl, _, _, rfl, rfl, hc.2.2, (by show 3 ≤ sizeLine; decide), fun p hp => ?_⟩
    refine q _ _ (same_new hp _) ?_
    unfold low
    rw [es]
    exact IsT.new
/-- two parts of numbers of bounded size -/
def sp_two (K : PySem.W.Frag) (g : T3 → T3 → T3) : Sp := fun vs H Q _ => ∃ va vb a b, vs = [va, vb] ∧ IsT K H va a ∧ IsT K H vb b ∧ Ok a ∧ Ok b ∧ B 4000 a ∧ B 4000 b ∧ ∀ H' r, Same H H' → IsT K H' r (g a b) → Q r H'
theorem mulW {i j : Int} {a b : Nat} (ha : i.natAbs < 2 ^ (a + 1)) (hb : j.natAbs < 2 ^ (b + 1)) (h : a + b + 2 ≤ 1000000 := by decide) : CMulW i j := wide_mul ha hb (by omega) (by omega) (by omega)
theorem ok_plus {f : Addr} {fd : FuncData} (d_spot_at : D P w K mg base "spot_at" 2 (sp_low K)) (F : Fun K "plus" "plus" s_plus f fd) : FnOk P w K mg base CX0 3 f fd ["one", "other"] (sp_two K plus) := by
  refine F.ok sc_plus (fun vs H Q E h => ?_) (fun cdv A outer s H vs Q E hr h => ?_)
  · obtain ⟨va, vb, a, b, rfl, _⟩ := h
    rfl
  obtain ⟨va, vb, ⟨x, y, d⟩, ⟨u, v, e⟩, rfl, ⟨pa, rfl, ta⟩, ⟨pb, rfl, tb⟩, oa, ob, ⟨a1, a2, a3⟩, ⟨b1, b2, b3⟩, q⟩ := h
  refine ⟨_, (pss_cons (ps_asg (pv 0) (pg_tup rfl (pgs_cons (pg_name (i := 2) sc_plus.nd rfl (by first | exact Or.inl rfl | exact Or.inr rfl)) (pgs_cons (pg_name (i := 3) sc_plus.nd rfl (by first | exact Or.inl rfl | exact Or.inr rfl)) (pgs_cons (pg_name (i := 4) sc_plus.nd rfl (by first | exact Or.inl rfl | exact Or.inr rfl)) pgs_nil)))))
    (pss_cons (ps_asg (pv 1) (pg_tup rfl (pgs_cons (pg_name (i := 5) sc_plus.nd rfl (by first | exact Or.inl rfl | exact Or.inr rfl)) (pgs_cons (pg_name (i := 6) sc_plus.nd rfl (by first | exact Or.inl rfl | exact Or.inr rfl)) (pgs_cons (pg_name (i := 7) sc_plus.nd rfl (by first | exact Or.inl rfl | exact Or.inr rfl)) pgs_nil)))))
    (pss_one (ps_ret (pc d_spot_at (hr.mono (by decide)) (pa_cons (pe_op op_add (pe_op op_mulW (pv 2) (pv 7)) (pe_op op_mulW (pv 5) (pv 4))) (pa_cons (pe_op op_add (pe_op op_mulW (pv 3) (pv 7)) (pe_op op_mulW (pv 6) (pv 4))) (pa_cons (pe_op op_mulW (pv 4) (pv 7)) pa_nil)))))))), ?_⟩
  refine ⟨_, rfl, _, _, rfl, ta, rfl, _, _, rfl, _, _, rfl, _, _, rfl, rfl, ?_⟩
  refine ⟨_, rfl, _, _, rfl, tb, rfl, _, _, rfl, _, _, rfl, _, _, rfl, rfl, ?_⟩
  refine ⟨_, rfl, _, rfl, _, _, rfl, rfl, mulW a1 b3, _, rfl, _, rfl, _, _, rfl, rfl, mulW b1 a3, _, _, rfl, rfl, ?_⟩
  refine ⟨_, rfl, _, rfl, _, _, rfl, rfl, mulW a2 b3, _, rfl, _, rfl, _, _, rfl, rfl, mulW b2 a3, _, _, rfl, rfl, ?_⟩
  refine ⟨_, rfl, _, rfl, _, _, rfl, rfl, mulW a3 b3, ?_⟩
  exact ⟨_, _, _, rfl, mul_ne oa.ne ob.ne, up_lt (by decide) (mul_lt a3 b3), q⟩
theorem ok_product {f : Addr} {fd : FuncData} (d_spot_at : D P w K mg base "spot_at" 2 (sp_low K)) (F : Fun K "product" "product" s_product f fd) : FnOk P w K mg base CX0 3 f fd ["one", "other"] (sp_two K times) := by
  refine F.ok sc_product (fun vs H Q E h => ?_) (fun cdv A outer s H vs Q E hr h => ?_)
  · obtain ⟨va, vb, a, b, rfl, _⟩ := h
    rfl
  obtain ⟨va, vb, ⟨x, y, d⟩, ⟨u, v, e⟩, rfl, ⟨pa, rfl, ta⟩, ⟨pb, rfl, tb⟩, oa, ob, ⟨a1, a2, a3⟩, ⟨b1, b2, b3⟩, q⟩ := h
  refine ⟨_, (pss_cons (ps_asg (pv 0) (pg_tup rfl (pgs_cons (pg_name (i := 2) sc_product.nd rfl (by first | exact Or.inl rfl | exact Or.inr rfl)) (pgs_cons (pg_name (i := 3) sc_product.nd rfl (by first | exact Or.inl rfl | exact Or.inr rfl)) (pgs_cons (pg_name (i := 4) sc_product.nd rfl (by first | exact Or.inl rfl | exact Or.inr rfl)) pgs_nil)))))
    (pss_cons (ps_asg (pv 1) (pg_tup rfl (pgs_cons (pg_name (i := 5) sc_product.nd rfl (by first | exact Or.inl rfl | exact Or.inr rfl)) (pgs_cons (pg_name (i := 6) sc_product.nd rfl (by first | exact Or.inl rfl | exact Or.inr rfl)) (pgs_cons (pg_name (i := 7) sc_product.nd rfl (by first | exact Or.inl rfl | exact Or.inr rfl)) pgs_nil)))))
    (pss_one (ps_ret (pc d_spot_at (hr.mono (by decide)) (pa_cons (pe_op op_sub (pe_op op_mulW (pv 2) (pv 5)) (pe_op op_mulW (pv 3) (pv 6))) (pa_cons (pe_op op_add (pe_op op_mulW (pv 2) (pv 6)) (pe_op op_mulW (pv 3) (pv 5))) (pa_cons (pe_op op_mulW (pv 4) (pv 7)) pa_nil)))))))), ?_⟩
  refine ⟨_, rfl, _, _, rfl, ta, rfl, _, _, rfl, _, _, rfl, _, _, rfl, rfl, ?_⟩
  refine ⟨_, rfl, _, _, rfl, tb, rfl, _, _, rfl, _, _, rfl, _, _, rfl, rfl, ?_⟩
  refine ⟨_, rfl, _, rfl, _, _, rfl, rfl, mulW a1 b1, _, rfl, _, rfl, _, _, rfl, rfl, mulW a2 b2, _, _, rfl, rfl, ?_⟩
  refine ⟨_, rfl, _, rfl, _, _, rfl, rfl, mulW a1 b2, _, rfl, _, rfl, _, _, rfl, rfl, mulW a2 b1, _, _, rfl, rfl, ?_⟩
  refine ⟨_, rfl, _, rfl, _, _, rfl, rfl, mulW a3 b3, ?_⟩
  exact ⟨_, _, _, rfl, mul_ne oa.ne ob.ne, up_lt (by decide) (mul_lt a3 b3), q⟩
def sp_one (K : PySem.W.Frag) (g : T3 → T3) : Sp := fun vs H Q _ => ∃ va a, vs = [va] ∧ IsT K H va a ∧ ∀ H' r, Same H H' → IsT K H' r (g a) → Q r H'
theorem ok_negative {f : Addr} {fd : FuncData} (F : Fun K "negative" "negative" s_negative f fd) : FnOk P w K mg base CX0 1 f fd ["number"] (sp_one K neg) := by
  refine F.ok sc_negative (fun vs H Q E h => ?_) (fun cdv A outer s H vs Q E hr h => ?_)
  · obtain ⟨va, a, rfl, _⟩ := h
    rfl
  obtain ⟨va, ⟨x, y, d⟩, rfl, ⟨pa, rfl, ta⟩, q⟩ := h
  refine ⟨_, (pss_cons (ps_asg (pv 0) (pg_tup rfl (pgs_cons (pg_name (i := 1) sc_negative.nd rfl (by first | exact Or.inl rfl | exact Or.inr rfl)) (pgs_cons (pg_name (i := 2) sc_negative.nd rfl (by first | exact Or.inl rfl | exact Or.inr rfl)) (pgs_cons (pg_name (i := 3) sc_negative.nd rfl (by first | exact Or.inl rfl | exact Or.inr rfl)) pgs_nil)))))
    (pss_one (ps_ret (pe_tup (pa_cons (pe_un un_neg (pv 1)) (pa_cons (pe_un un_neg (pv 2)) (pa_cons (pv 3) pa_nil))))))), ?_⟩
  refine ⟨_, rfl, _, _, rfl, ta, rfl, _, _, rfl, _, _, rfl, _, _, rfl, rfl, ?_⟩
  exact ⟨_, rfl, _, rfl, _, rfl, _, rfl, _, rfl, (by show 3 ≤ sizeLine; decide), fun p hp => q _ _ (same_new hp _) IsT.new⟩
def sp_inv (K : PySem.W.Frag) : Sp := fun vs H Q _ => ∃ va a, vs = [va] ∧ IsT K H va a ∧ Nz a ∧ B 4000 a ∧ ∀ H' r, Same H H' → IsT K H' r (inv a) → Q r H'
theorem ok_inverse {f : Addr} {fd : FuncData} (d_spot_at : D P w K mg base "spot_at" 2 (sp_low K)) (F : Fun K "inverse" "inverse" s_inverse f fd) : FnOk P w K mg base CX0 3 f fd ["number"] (sp_inv K) := by
  refine F.ok sc_inverse (fun vs H Q E h => ?_) (fun cdv A outer s H vs Q E hr h => ?_)
  · obtain ⟨va, a, rfl, _⟩ := h
    rfl
  obtain ⟨va, ⟨x, y, d⟩, rfl, ⟨pa, rfl, ta⟩, na, ⟨a1, a2, a3⟩, q⟩ := h
  refine ⟨_, (pss_cons (ps_asg (pv 0) (pg_tup rfl (pgs_cons (pg_name (i := 1) sc_inverse.nd rfl (by first | exact Or.inl rfl | exact Or.inr rfl)) (pgs_cons (pg_name (i := 2) sc_inverse.nd rfl (by first | exact Or.inl rfl | exact Or.inr rfl)) (pgs_cons (pg_name (i := 3) sc_inverse.nd rfl (by first | exact Or.inl rfl | exact Or.inr rfl)) pgs_nil)))))
    (pss_one (ps_ret (pc d_spot_at (hr.mono (by decide)) (pa_cons (pe_op op_mulW (pv 1) (pv 3)) (pa_cons (pe_op op_mulW (pe_un un_neg (pv 2)) (pv 3)) (pa_cons (pe_op op_add (pe_op op_mulW (pv 1) (pv 1)) (pe_op op_mulW (pv 2) (pv 2))) pa_nil))))))), ?_⟩
  refine ⟨_, rfl, _, _, rfl, ta, rfl, _, _, rfl, _, _, rfl, _, _, rfl, rfl, ?_⟩
  refine ⟨_, rfl, _, rfl, _, _, rfl, rfl, mulW a1 a3, _, rfl, _, rfl, _, rfl, _, _, rfl, rfl, mulW (neg_lt a2) a3, ?_⟩
  refine ⟨_, rfl, _, rfl, _, _, rfl, rfl, mulW a1 a1, _, rfl, _, rfl, _, _, rfl, rfl, mulW a2 a2, _, _, rfl, rfl, ?_⟩
  exact ⟨_, _, _, rfl, sq_ne na, up_lt (by decide) (add_lt (mul_lt a1 a1) (mul_lt a2 a2)), q⟩
def sp_face (K : PySem.W.Frag) : Sp := fun vs H Q _ => ∃ va a m, vs = [va, .bl m] ∧ IsT K H va a ∧ ∀ H' r, Same H H' → IsT K H' r (face a m) → Q r H'
theorem ok_faced {f : Addr} {fd : FuncData} (F : Fun K "faced" "faced" s_faced f fd) : FnOk P w K mg base CX0 1 f fd ["number", "mirrored"] (sp_face K) := by
  refine F.ok sc_faced (fun vs H Q E h => ?_) (fun cdv A outer s H vs Q E hr h => ?_)
  · obtain ⟨va, a, m, rfl, _⟩ := h
    rfl
  obtain ⟨va, ⟨x, y, d⟩, m, rfl, ⟨pa, rfl, ta⟩, q⟩ := h
  refine ⟨_, (pss_cons (ps_asg (pv 0) (pg_tup rfl (pgs_cons (pg_name (i := 2) sc_faced.nd rfl (by first | exact Or.inl rfl | exact Or.inr rfl)) (pgs_cons (pg_name (i := 3) sc_faced.nd rfl (by first | exact Or.inl rfl | exact Or.inr rfl)) (pgs_cons (pg_name (i := 4) sc_faced.nd rfl (by first | exact Or.inl rfl | exact Or.inr rfl)) pgs_nil)))))
    (pss_one (ps_ret (pe_ifExp (pt_val (pv 1)) (pe_tup (pa_cons (pv 2) (pa_cons (pe_un un_neg (pv 3)) (pa_cons (pv 4) pa_nil)))) (pv 0))))), ?_⟩
  refine ⟨_, rfl, _, _, rfl, ta, rfl, _, _, rfl, _, _, rfl, _, _, rfl, rfl, ?_⟩
  refine ⟨_, rfl, _, rfl, ?_⟩
  cases m with
  | true => exact iteT ⟨_, rfl, _, rfl, _, rfl, _, rfl, (by show 3 ≤ sizeLine; decide), fun p hp => q _ _ (same_new hp _) IsT.new⟩
  | false => exact iteF ⟨_, rfl, q _ _ (Same.refl _) ⟨pa, rfl, ta⟩⟩
/-- where a copy carries a spot -/
def sp_car (K : PySem.W.Frag) : Sp := fun vs H Q _ => ∃ vt vs' m vz t s z, vs = [vt, vs', .bl m, vz] ∧ IsT K H vt t ∧ IsT K H vs' s ∧ IsT K H vz z ∧ Ok t ∧ Ok s ∧ Ok z ∧ B 1900 t ∧ B 4000 s ∧ B 1900 z ∧ ∀ H' r, Same H H' → IsT K H' r (car t s m z) → Q r H'
theorem ok_carried {f : Addr} {fd : FuncData} (d_plus : D P w K mg base "plus" 3 (sp_two K plus)) (d_product : D P w K mg base "product" 3 (sp_two K times)) (d_faced : D P w K mg base "faced" 1 (sp_face K)) (F : Fun K "carried" "carried" s_carried f fd) : FnOk P w K mg base CX0 4 f fd ["turn", "shift", "mirrored", "spot"] (sp_car K) := by
  refine F.ok sc_carried (fun vs H Q E h => ?_) (fun cdv A outer s H vs Q E hr h => ?_)
  · obtain ⟨vt, vs', m, vz, t, s', z, rfl, _⟩ := h
    rfl
  obtain ⟨vt, vs', m, vz, t, s', z, rfl, it, is, iz, ot, os, oz, bt, bs, bz, q⟩ := h
  refine ⟨_, (pss_one (ps_ret (pc d_plus (hr.mono (by decide)) (pa_cons (pc d_product (hr.mono (by decide)) (pa_cons (pv 0) (pa_cons (pc d_faced (hr.mono (by decide)) (pa_cons (pv 3) (pa_cons (pv 2) pa_nil))) pa_nil))) (pa_cons (pv 1) pa_nil))))), ?_⟩
  refine ⟨_, rfl, _, rfl, _, rfl, _, _, _, rfl, iz, fun H1 r1 s1 i1 => ?_⟩
  refine ⟨_, _, _, _, rfl, it.same s1, i1, ot, face_ok oz m, bt.mono (by decide), (face_B bz m).mono (by decide), fun H2 r2 s2 i2 => ?_⟩
  refine ⟨_, rfl, _, _, _, _, rfl, i2, is.same (s1.trans s2), times_ok ot (face_ok oz m), os, (times_B ot (face_ok oz m) bt (face_B bz m)).mono (by decide), bs, fun H3 r3 s3 i3 => ?_⟩
  exact q _ _ (s1.trans (s2.trans s3)) i3
def sp_fr (K : PySem.W.Frag) : Sp := fun vs H Q _ => ∃ p q' : Int, vs = [.int p, .int q'] ∧ q' ≠ 0 ∧ q'.natAbs < 2 ^ 8500 ∧ ∀ H' a, Same H H' → SqT K H' a [.int (fr p q').1, .int (fr p q').2] → Q (.ref a) H'
theorem g3_0 (p q : Int) : g3 p 0 q = ((Int.gcd p q : Nat) : Int) := by
  unfold g3
  rw [Int.gcd_zero_right]
  unfold Int.gcd
  rw [Int.natAbs_natCast]
def BC (n : Nat) (c : Cp) : Prop := B n c.t ∧ B n c.s
end
end My

namespace My
open PySem L2 Mth
abbrev s_fraction : Stmt := topS 32
theorem sc_fraction : FnScope ["p", "q", "divisor"] ["p", "q"] (defScope s_fraction) := ⟨rfl, rfl, rfl, by decide +kernel, rfl, by decide +kernel, by decide +kernel⟩
section
variable {P : Program} {w : World} {K : PySem.W.Frag} {mg : Str → Option Value} {base : Heap}
theorem ok_fraction {f : Addr} {fd : FuncData} (d_common_divisor : D P w K mg base "common_divisor" 1 sp_gcd) (F : Fun K "fraction" "fraction" s_fraction f fd) : FnOk P w K mg base CX0 2 f fd ["p", "q"] (sp_fr K) := by
  refine F.ok sc_fraction (fun vs H Q E h => ?_) (fun cdv A outer s H vs Q E hr h => ?_)
  · obtain ⟨x, d, rfl, _⟩ := h
    rfl
  obtain ⟨x, d, rfl, hd, hB, q⟩ := h
  refine ⟨_, (pss_cons (ps_set (i := 2) sc_fraction.nd rfl (by first | exact Or.inl rfl | exact Or.inr rfl) (pc d_common_divisor (hr.mono (by decide)) (pa_cons (pv 0) (pa_cons (pv 1) pa_nil))))
    (pss_cons (ps_if (pt_cmpR (op_lt) (pv 1) pe_int (nomark _)) (pss_one (ps_set (i := 2) sc_fraction.nd rfl (by first | exact Or.inl rfl | exact Or.inr rfl) (pe_un un_neg (pv 2)))) pss_nil)
    (pss_one (ps_ret (pe_tup (pa_cons (pe_op op_fdivX (pv 0) (pv 2)) (pa_cons (pe_op op_fdivX (pv 1) (pv 2)) pa_nil))))))), ?_⟩
  refine ⟨_, rfl, _, rfl, _, _, rfl, ?_⟩
  refine ⟨_, rfl, _, _, rfl, rfl, _, rfl, ?_⟩
  have hc : CDivX x (sg x 0 d) ∧ CDivX d (sg x 0 d) := ⟨divX (sg_ne hd) (g3_lt hd hB) (by decide) (by decide), divX (sg_ne hd) (g3_lt hd hB) (by decide) (by decide)⟩
  have fin : ∀ H' a, Same H H' → SqT K H' a [.int (x.fdiv (sg x 0 d)), .int (d.fdiv (sg x 0 d))] → Q (.ref a) H' := q
  refine ite2 (fun c => ?_) (fun c => ?_)
  · have es : sg x 0 d = -((Int.gcd x d : Nat) : Int) := by rw [← g3_0]; exact if_pos (of_decide_eq_true c)
    refine ⟨_, rfl, _, rfl, ?_⟩
    rw [es] at hc fin
    refine ⟨_, rfl, _, rfl, _, _, rfl, rfl, hc.1, _, rfl, _, rfl, _, _, rfl, rfl, hc.2, (by show 2 ≤ sizeLine; decide), fun p hp => ?_⟩
    exact fin _ _ (same_new hp _) (.inl (.inl upd_same))
  · have es : sg x 0 d = ((Int.gcd x d : Nat) : Int) := by rw [← g3_0]; exact if_neg (of_decide_eq_false (Bool.eq_false_iff.mpr c))
    rw [es] at hc fin
    refine ⟨_, rfl, _, rfl, _, _, rfl, rfl, hc.1, _, rfl, _, rfl, _, _, rfl, rfl, hc.2, (by show 2 ≤ sizeLine; decide), fun p hp => ?_⟩
    exact fin _ _ (same_new hp _) (.inl (.inl upd_same))
end
end My

namespace My
open PySem L2 Mth
abbrev s_check_spot : Stmt := topS 29
theorem sc_check_spot : FnScope ["value"] ["value"] (defScope s_check_spot) := ⟨rfl, rfl, rfl, by decide +kernel, rfl, by decide +kernel, by decide +kernel⟩
abbrev s_check_turn : Stmt := topS 30
theorem sc_check_turn : FnScope ["value"] ["value"] (defScope s_check_turn) := ⟨rfl, rfl, rfl, by decide +kernel, rfl, by decide +kernel, by decide +kernel⟩
abbrev s_is_spot : Stmt := topS 28
theorem sc_is_spot : FnScope ["value", "number", "x", "y", "d"] ["value"] (defScope s_is_spot) := ⟨rfl, rfl, rfl, by decide +kernel, rfl, by decide +kernel, by decide +kernel⟩
abbrev s_is_whole : Stmt := topS 26
theorem sc_is_whole : FnScope ["value"] ["value"] (defScope s_is_whole) := ⟨rfl, rfl, rfl, by decide +kernel, rfl, by decide +kernel, by decide +kernel⟩
section
variable {P : Program} {w : World} {K : PySem.W.Frag} {mg : Str → Option Value} {base : Heap}
theorem ty_T {K : PySem.W.Frag} {H : Hp} {a : Addr} {xs : List V} (h : SqT K H a xs) : TyX K H (.ref a) (.type "tuple") := by
  rcases h with (h | ⟨o, h⟩) | ⟨o, its, n, h, c, _⟩
  · exact .base (.tup h)
  · exact .fTuple h
  · exact .kTuple h c
def sp_whole : Sp := fun vs H Q _ => ∃ i : Int, vs = [.int i] ∧ Q (.bl true) H
theorem ok_is_whole {f : Addr} {fd : FuncData} (b_isinstance : mg "isinstance" = none) (b_int : mg "int" = none) (b_bool : mg "bool" = none) (F : Fun K "is_whole" "is_whole" s_is_whole f fd) : FnOk P w K mg base CX0 1 f fd ["value"] sp_whole := by
  refine F.ok sc_is_whole (fun vs H Q E h => ?_) (fun cdv A outer s H vs Q E hr h => ?_)
  · obtain ⟨i, rfl, _⟩ := h
    rfl
  obtain ⟨i, rfl, q⟩ := h
  refine ⟨_, (pss_one (ps_ret (pe_and (pe_callB (r := rIsi K) call_isi (by rfl) b_isinstance (by decide +kernel) (pa_cons (pv 0) (pa_cons (pe_bltn (v := .ty "int") (by rfl) b_int (by decide +kernel) rfl) pa_nil))) (pe_one (pe_not (pe_callB (r := rIsi K) call_isi (by rfl) b_isinstance (by decide +kernel) (pa_cons (pv 0) (pa_cons (pe_bltn (v := .ty "bool") (by rfl) b_bool (by decide +kernel) rfl) pa_nil)))))))), ?_⟩
  refine ⟨_, rfl, _, _, _, _, _, rfl, .ty _, .base (.int i), kit_ty (by decide +kernel), true, rfl, iteT ?_⟩
  exact ⟨_, rfl, _, _, _, _, _, rfl, .ty _, .base (.int i), kit_ty (by decide +kernel), false, rfl, q⟩
/-- what is a spot is one -/
def sp_isspot (K : PySem.W.Frag) : Sp := fun vs H Q _ => ∃ va a, vs = [va] ∧ IsT K H va a ∧ Ok a ∧ ∀ H', Same H H' → Q (.bl true) H'
theorem v3_at {a : T3} {i : Nat} {x : V} (h : (v3 a)[i]? = some x) : ∃ z : Int, x = .int z := by
  unfold v3 at h
  match i, h with
  | 0, h => exact ⟨_, (Option.some.inj h).symm⟩
  | 1, h => exact ⟨_, (Option.some.inj h).symm⟩
  | 2, h => exact ⟨_, (Option.some.inj h).symm⟩
  | (n + 3), h => simp at h
theorem ok_is_spot {f : Addr} {fd : FuncData} (b_isinstance : mg "isinstance" = none) (b_tuple : mg "tuple" = none) (b_len : mg "len" = none) (b_all : mg "all" = none) (d_common_divisor : D P w K mg base "common_divisor" 1 sp_gcd) (d_is_whole : D P w K mg base "is_whole" 1 sp_whole)
    (F : Fun K "is_spot" "is_spot" s_is_spot f fd) : FnOk P w K mg base CX0 2 f fd ["value"] (sp_isspot K) := by
  refine F.ok sc_is_spot (fun vs H Q E h => ?_) (fun cdv A outer s H vs Q E hr h => ?_)
  · obtain ⟨va, a, rfl, _⟩ := h
    rfl
  obtain ⟨va, a, rfl, ⟨p, rfl, ta⟩, oa, q⟩ := h
  refine ⟨_, (pss_cons (ps_if (PW.pt (pw_or (pt_not (pt_val (pe_callB (r := rIsi K) call_isi (by rfl) b_isinstance (by decide +kernel) (pa_cons (pv 0) (pa_cons (pe_bltn (v := .ty "tuple") (by rfl) b_tuple (by decide +kernel) rfl) pa_nil))))) (pw_or1 (pt_cmpR (op_ne) (pe_callB call_len_seq (by rfl) b_len PySem.boot_len (pa_cons (pv 0) pa_nil)) pe_int (nomark _))))) (pss_one (ps_ret pe_bl)) pss_nil)
    (pss_cons (ps_if (pt_not (pt_val (pe_callB (cr_all rfl) (by rfl) b_all (by decide +kernel) (pa_cons (pe_lc (own := [("number", 1)]) (g := gName 1) (tt := tYes) (by rfl) sc_is_spot.nd (pi_tup (pv 0)) (blkOk_by (own := [("number", 1)]) (N := ["value", "number", "x", "y", "d"]) (sc := defScope s_is_spot) (by decide +kernel)) (fun _ _ _ _ _ => (pg_name (i := 1) sc_is_spot.nd rfl (by first | exact Or.inl rfl | exact Or.inr rfl))) (fun _ _ _ _ _ => pts_nil) (fun _ _ _ _ _ => (pc d_is_whole (hr.mono (by decide)) (pa_cons (pv 1) pa_nil)))) pa_nil)))) (pss_one (ps_ret pe_bl)) pss_nil)
    (pss_cons (ps_asg (pv 0) (pg_tup rfl (pgs_cons (pg_name (i := 2) sc_is_spot.nd rfl (by first | exact Or.inl rfl | exact Or.inr rfl)) (pgs_cons (pg_name (i := 3) sc_is_spot.nd rfl (by first | exact Or.inl rfl | exact Or.inr rfl)) (pgs_cons (pg_name (i := 4) sc_is_spot.nd rfl (by first | exact Or.inl rfl | exact Or.inr rfl)) pgs_nil)))))
    (pss_one (ps_ret (pe_and (pe_cmpR (op_ge) (pv 4) pe_int (nomark _)) (pe_one (pe_cmpR (op_eq) (pc d_common_divisor (hr.mono (by decide)) (pa_cons (pc d_common_divisor (hr.mono (by decide)) (pa_cons (pv 2) (pa_cons (pv 3) pa_nil))) (pa_cons (pv 4) pa_nil))) pe_int (nomark _))))))))), ?_⟩
  refine ⟨_, rfl, _, _, _, _, _, rfl, .ty _, ty_T ta, kit_ty (by decide +kernel), true, rfl, ?_⟩
  refine iteF ?_
  refine ⟨_, rfl, _, _, rfl, .inr ta, rfl, _, rfl, iteF ?_⟩
  refine ⟨_, rfl, _, rfl, ⟨_, ta⟩, fun L hL => lc_tup (K := K) (a := p) (xs := v3 a) (fun i H' => ∃ acc : List V, H' = upd H L (.lst acc) ∧ acc = (List.replicate i true).map V.bl) ⟨[], rfl, rfl⟩ ?_ ?_ ?_⟩
  · rintro i H' hi ⟨acc, rfl, _⟩
    exact same_T (same_new hL _) ta
  · rintro i x H' hx ⟨acc, rfl, ea⟩
    obtain ⟨z, rfl⟩ := v3_at hx
    refine ⟨rfl, ?_⟩
    refine yes_of ?_
    refine ⟨_, rfl, z, rfl, acc, upd_same, ?_, ?_⟩
    · have := (List.getElem?_eq_some_iff.mp hx).1
      rw [ea, List.length_map, List.length_replicate]
      exact small1000 (by have : (v3 a).length = 3 := rfl; omega)
    · refine ⟨acc ++ [.bl true], upd_upd, ?_⟩
      rw [ea, List.replicate_succ', List.map_append]
      rfl
  · rintro H' ⟨acc, rfl, ea⟩
    refine ⟨_, [true, true, true], rfl, .inl (.inl ?_), ?_⟩
    · rw [ea]; exact upd_same
    refine ⟨_, rfl, iteF ?_⟩
    have s1 := same_new hL (.lst acc)
    refine ⟨_, rfl, _, _, rfl, same_T s1 ta, rfl, _, _, rfl, _, _, rfl, _, _, rfl, rfl, ?_⟩
    refine ⟨_, rfl, _, _, rfl, rfl, true, congrArg V.bl (decide_eq_true (show (1 : Int) ≤ a.2.2 from oa.1)), iteT ?_⟩
    refine ⟨_, rfl, _, rfl, _, _, rfl, _, rfl, _, _, rfl, rfl, ?_⟩
    have e : V.int ((Int.gcd ((Int.gcd a.1 a.2.1 : Nat) : Int) a.2.2 : Nat) : Int) = V.int 1 := congrArg V.int oa.2
    have z := q _ s1
    show Q (.bl (decide (V.int ((Int.gcd ((Int.gcd a.1 a.2.1 : Nat) : Int) a.2.2 : Nat) : Int) = V.int 1))) _
    rw [decide_eq_true e]
    exact z
def sp_check (K : PySem.W.Frag) : Sp := fun vs H Q _ => ∃ va a, vs = [va] ∧ IsT K H va a ∧ Ok a ∧ ∀ H', Same H H' → Q .non H'
theorem ok_check_spot {f : Addr} {fd : FuncData} (d_is_spot : D P w K mg base "is_spot" 2 (sp_isspot K)) (F : Fun K "check_spot" "check_spot" s_check_spot f fd) : FnOk P w K mg base CX0 3 f fd ["value"] (sp_check K) := by
  refine F.ok sc_check_spot (fun vs H Q E h => ?_) (fun cdv A outer s H vs Q E hr h => ?_)
  · obtain ⟨va, a, rfl, _⟩ := h
    rfl
  obtain ⟨va, a, rfl, ia, oa, q⟩ := h
  refine ⟨_, (pss_one (ps_if (pt_not (pt_val (pc d_is_spot (hr.mono (by decide)) (pa_cons (pv 0) pa_nil)))) (pss_one ps_never) pss_nil)), ?_⟩
  exact ⟨_, rfl, _, _, rfl, ia, oa, fun H1 s1 => ⟨_, rfl, iteF (q _ s1)⟩⟩
def d3 (s : T3) : PyData := .tuple [.int s.1, .int s.2.1, .int s.2.2]
theorem Dp3 {K : PySem.W.Frag} {H : Hp} {p : Addr} {s : T3} (h : SqT K H p (v3 s)) : Dp K H (.ref p) (d3 s) := .tup h (.cons (.int _) (.cons (.int _) (.cons (.int _) .nil)))
theorem shaped3 (s : T3) : SeqAt.shaped (d3 s) = true := rfl
theorem eqv3 (s t : T3) : PyData.eqv (d3 s) (d3 t) = decide (s = t) := by
  obtain ⟨a, b, c⟩ := s
  obtain ⟨u, v, w⟩ := t
  show ((a == u) && ((b == v) && ((c == w) && true))) = decide ((a, b, c) = (u, v, w))
  by_cases h1 : a = u
  · by_cases h2 : b = v
    · by_cases h3 : c = w
      · subst h1 h2 h3; simp
      · rw [decide_eq_false (fun z => h3 (by injection z with _ z; injection z))]; simp [h3]
    · rw [decide_eq_false (fun z => h2 (by injection z with _ z; injection z))]; simp [h2]
  · rw [decide_eq_false (fun z => h1 (by injection z))]; simp [h1]
def sp_checkT (K : PySem.W.Frag) : Sp := fun vs H Q _ => ∃ va a, vs = [va] ∧ IsT K H va a ∧ Ok a ∧ Nz a ∧ ∀ H', Same H H' → Q .non H'
theorem ok_check_turn {f aM : Addr} {fd : FuncData} (d_is_spot : D P w K mg base "is_spot" 2 (sp_isspot K)) (m_MIDDLE : mg "MIDDLE" = some (.ref aM)) (t_MIDDLE : ∀ H, SqT K H aM (v3 (0, 0, 1))) (F : Fun K "check_turn" "check_turn" s_check_turn f fd) : FnOk P w K mg base CX0 3 f fd ["value"] (sp_checkT K) := by
  refine F.ok sc_check_turn (fun vs H Q E h => ?_) (fun cdv A outer s H vs Q E hr h => ?_)
  · obtain ⟨va, a, rfl, _⟩ := h
    rfl
  obtain ⟨va, a, rfl, ⟨p, rfl, ta⟩, oa, na, q⟩ := h
  refine ⟨_, (pss_one (ps_if (PW.pt (pw_or (pt_not (pt_val (pc d_is_spot (hr.mono (by decide)) (pa_cons (pv 0) pa_nil)))) (pw_or1 (pt_cmpR (op_eqD hr.units) (pv 0) (pe_glob (v := .ref aM) (by rfl) m_MIDDLE rfl) (nomark _))))) (pss_one ps_never) pss_nil)), ?_⟩
  refine ⟨_, rfl, _, _, rfl, ⟨p, rfl, ta⟩, oa, fun H1 s1 => ⟨_, rfl, iteF ?_⟩⟩
  refine ⟨_, rfl, _, _, Dp3 (same_T s1 ta), Dp3 (t_MIDDLE H1), shaped3 _, shaped3 _, _, rfl, ?_⟩
  rw [eqv3, decide_eq_false (fun z => by rw [z] at na; rcases na with n | n <;> exact n rfl)]
  exact iteF (q _ s1)
end
end My

namespace My
open PySem L2 Mth
abbrev s_minus : Stmt := topS 35
theorem sc_minus : FnScope ["one", "other"] ["one", "other"] (defScope s_minus) := ⟨rfl, rfl, rfl, by decide +kernel, rfl, by decide +kernel, by decide +kernel⟩
section
variable {P : Program} {w : World} {K : PySem.W.Frag} {mg : Str → Option Value} {base : Heap}
theorem dI (a b : Int) : decide (V.int a = V.int b) = decide (a = b) := by
  by_cases h : a = b
  · rw [h]; simp
  · rw [decide_eq_false h, decide_eq_false (fun z => h (V.int.inj z))]
theorem ok_minus {f : Addr} {fd : FuncData} (d_plus : D P w K mg base "plus" 3 (sp_two K plus)) (d_negative : D P w K mg base "negative" 1 (sp_one K neg)) (F : Fun K "minus" "minus" s_minus f fd) : FnOk P w K mg base CX0 4 f fd ["one", "other"] (sp_two K minus) := by
  refine F.ok sc_minus (fun vs H Q E h => ?_) (fun cdv A outer s H vs Q E hr h => ?_)
  · obtain ⟨va, vb, a, b, rfl, _⟩ := h
    rfl
  obtain ⟨va, vb, a, b, rfl, ia, ib, oa, ob, ba, bb, q⟩ := h
  refine ⟨_, (pss_one (ps_ret (pc d_plus (hr.mono (by decide)) (pa_cons (pv 0) (pa_cons (pc d_negative (hr.mono (by decide)) (pa_cons (pv 1) pa_nil)) pa_nil))))), ?_⟩
  refine ⟨_, rfl, _, rfl, _, b, rfl, ib, fun H1 r1 s1 i1 => ?_⟩
  exact ⟨_, _, a, _, rfl, ia.same s1, i1, oa, neg_ok ob, ba, neg_B bb, fun H2 r2 s2 i2 => q _ _ (s1.trans s2) i2⟩
end
end My

namespace My
open PySem L2 Mth
abbrev s_Copy___init__ : Stmt := inClass (topS 41) 0
theorem sc_Copy___init__ : FnScope ["self", "turn", "shift", "mirrored"] ["self", "turn", "shift", "mirrored"] (defScope s_Copy___init__) := ⟨rfl, rfl, rfl, by decide +kernel, rfl, by decide +kernel, by decide +kernel⟩
section
variable {P : Program} {w : World} {K : PySem.W.Frag} {mg : Str → Option Value} {base : Heap}
def cf (a b : Addr) (m : Bool) : List (Str × V) := [("factor", .ref a), ("offset", .ref b), ("flips", .bl m)]
theorem cf_put {a b : Addr} {m : Bool} : putF "flips" (.bl m) (putF "offset" (.ref b) (putF "factor" (.ref a) [])) = cf a b m := by
  have h1 : ¬ (("factor" : Str) = "offset") := by decide +kernel
  have h2 : ¬ (("factor" : Str) = "flips") := by decide +kernel
  have h3 : ¬ (("offset" : Str) = "flips") := by decide +kernel
  simp only [putF, if_neg h1, if_neg h2, if_neg h3]
  rfl
theorem cf_f {a b : Addr} {m : Bool} : (cf a b m).lookup ("factor" : Str) = some (.ref a) := by
  unfold cf
  simp only [List.lookup, beq_self_eq_true]
theorem cf_o {a b : Addr} {m : Bool} : (cf a b m).lookup ("offset" : Str) = some (.ref b) := by
  unfold cf
  simp only [List.lookup, beq_self_eq_true, show (("offset" : Str) == "factor") = false by decide +kernel]
theorem cf_m {a b : Addr} {m : Bool} : (cf a b m).lookup ("flips" : Str) = some (.bl m) := by
  unfold cf
  simp only [List.lookup, beq_self_eq_true, show (("flips" : Str) == "factor") = false by decide +kernel, show (("flips" : Str) == "offset") = false by decide +kernel]
structure CTxt (K : PySem.W.Frag) (C : Addr) : Prop where
  cl : Cls K C
  nF : NoAttr K C "factor"
  nO : NoAttr K C "offset"
  nL : NoAttr K C "flips"
  ha : PySem.W.findIn K (.ref C) "__class__" = some (some (.builtin "object.__class__"))
  hn : PySem.W.specialIn K (.builtin "object.__class__") "__get__" = some (some (.builtin "getset_descriptor.__get__"))
  htk : PySem.W.takesIn K (.builtin "object.__class__") = some true
  hm : PySem.W.mroIn K C (.type "object") = some true
/-- a copy as an object -/
def IsC (K : PySem.W.Frag) (C : Addr) (H : Hp) (v : V) (c : Cp) : Prop := ∃ p dx a b, v = .ref p ∧ H p = some (.ins C dx (cf a b c.m)) ∧ SqT K H a (v3 c.t) ∧ SqT K H b (v3 c.s)
theorem IsC.same {C : Addr} {H H' : Hp} {v : V} {c : Cp} (h : IsC K C H v c) (e : Same H H') : IsC K C H' v c := by
  obtain ⟨p, dx, a, b, rfl, h1, h2, h3⟩ := h
  exact ⟨p, dx, a, b, rfl, e _ _ h1, same_T e h2, same_T e h3⟩
def sp_init (K : PySem.W.Frag) (C : Addr) : Sp := fun vs H Q _ => ∃ (H0 : Hp) (p dx : Addr) (vt vs' : V) (m : Bool) (t s : T3), vs = [.ref p, vt, vs', .bl m] ∧ Same H0 H ∧ H0 p = none ∧ H p = some (.ins C dx []) ∧ IsT K H0 vt t ∧ IsT K H0 vs' s ∧ Ok t ∧ Nz t ∧ Ok s ∧
  ∀ H', Same H0 H' → IsC K C H' (.ref p) ⟨t, s, m⟩ → Q .non H'
theorem ok_init {f C : Addr} {fd : FuncData} {kws : List (Str × V)} (T : CTxt K C) (d_check_turn : D P w K mg base "check_turn" 3 (sp_checkT K)) (d_check_spot : D P w K mg base "check_spot" 3 (sp_check K))
    (F : FunD K "__init__" "Copy.__init__" (defArgs s_Copy___init__) (defBody s_Copy___init__) (defScope s_Copy___init__) [] kws f fd) : FnOk P w K mg base CX0 4 f fd ["self", "turn", "shift", "mirrored"] (sp_init K C) := by
  refine ok0 F sc_Copy___init__ (fun vs H Q E h => ?_) (fun cdv A outer s H vs Q E hr h => ?_)
  · obtain ⟨H0, p, dx, vt, vs', m, t, s, rfl, _⟩ := h
    rfl
  obtain ⟨H0, p, dx, vt, vs', m, t, s', rfl, s0, p0, hp, it, is, ot, nt, os, q⟩ := h
  refine ⟨_, (pss_cons (ps_expr (pc d_check_turn (hr.mono (by decide)) (pa_cons (pv 1) pa_nil)))
    (pss_cons (ps_expr (pc d_check_spot (hr.mono (by decide)) (pa_cons (pv 2) pa_nil)))
    (pss_cons (ps_fld (pv 0) (pv 1) rfl)
    (pss_cons (ps_fld (pv 0) (pv 2) rfl)
    (pss_one (ps_fld (pv 0) (pv 3) rfl)))))), ?_⟩
  refine ⟨_, rfl, _, _, rfl, it.same s0, ot, nt, fun H1 s1 => ?_⟩
  refine ⟨_, rfl, _, _, rfl, is.same (s0.trans s1), os, fun H2 s2 => ?_⟩
  obtain ⟨a, rfl, ta⟩ := it
  obtain ⟨b, rfl, tb⟩ := is
  have hp2 : H2 p = some (.ins C dx []) := s2 _ _ (s1 _ _ hp)
  refine ⟨_, rfl, _, rfl, p, C, dx, _, rfl, hp2, T.cl, T.nF, (by show 0 < 1000; decide), ?_⟩
  refine ⟨_, rfl, _, rfl, p, C, dx, _, rfl, upd_same, T.cl, T.nO, (by show 1 < 1000; decide), ?_⟩
  refine ⟨_, rfl, _, rfl, p, C, dx, _, rfl, upd_same, T.cl, T.nL, (by show _ < 1000; simp only [putF]; rw [if_neg (show ¬ (("factor" : Str) = "offset") by decide +kernel)]; exact (by decide : 2 < 1000)), ?_⟩
  have sm : Same H0 (upd (upd (upd H2 p (.ins C dx (putF "factor" (.ref a) []))) p (.ins C dx (putF "offset" (.ref b) (putF "factor" (.ref a) [])))) p (.ins C dx (putF "flips" (.bl m) (putF "offset" (.ref b) (putF "factor" (.ref a) []))))) := fun c o e => by
    have nc : c ≠ p := fun z => by rw [z, p0] at e; cases e
    rw [upd_ne nc, upd_ne nc, upd_ne nc]
    exact s2 _ _ (s1 _ _ (s0 _ _ e))
  exact q _ sm ⟨p, dx, a, b, rfl, by rw [upd_same, cf_put], same_T sm ta, same_T sm tb⟩
/-- the class as its users see it -/
structure CopyI (P : Program) (w : World) (K : PySem.W.Frag) (mg : Str → Option Value) (base : Heap) (C f : Addr) (fd : FuncData) (mv : List Value) (ds : List Value) : Prop where
  tx : CTxt K C
  mkC : Mk K C f
  ok : FnOk P w K mg base CX0 4 f fd ["self", "turn", "shift", "mirrored"] (sp_init K C)
  mgC : mg "Copy" = some (.ref C)
  bv : Vals [.bl false] ds
  bd : Binds K fd ["self", "turn", "shift", "mirrored"] ds
  kb : KBn K fd ["self", "turn", "shift", "mirrored"] 3 ["mirrored"] (fun us ws => us ++ ws) (fun vs zs => vs ++ zs)
theorem mk_of {C : Addr} {H : Hp} {Q : VK} {vt vs : V} {m : Bool} {t s : T3} (it : IsT K H vt t) (is : IsT K H vs s) (ot : Ok t) (nt : Nz t) (os : Ok s) (q : ∀ H' r, Same H H' → IsC K C H' r ⟨t, s, m⟩ → Q r H') :
    ∀ x dx, H x = none → H dx = none → dx ≠ x → sp_init K C [.ref x, vt, vs, .bl m] (upd (upd H dx (.own x)) x (.ins C dx [])) (fun v H2 => v = .non ∧ Q (.ref x) H2) E0 := by
  intro x dx hx hd _
  refine ⟨H, x, dx, vt, vs, m, t, s, rfl, fun c o e => ?_, hx, upd_same, it, is, ot, nt, os, fun H' s' i => ⟨rfl, q _ _ s' i⟩⟩
  rw [upd_ne (ne_of_none e hx), upd_ne (ne_of_none e hd)]
  exact e
theorem own2_of {C : Addr} {H : Hp} {Q : VK} {sp : Sp} {x y : V} {a b : Cp} (ix : IsC K C H x a) (iy : IsC K C H y b) (q : sp [x, y] H Q E0) : rOwn2 C sp x y H Q := by
  obtain ⟨p, dx, _, _, rfl, h1, _⟩ := ix
  obtain ⟨p', dx', _, _, rfl, h1', _⟩ := iy
  exact ⟨p, p', dx, _, dx', _, rfl, rfl, h1, h1', q⟩
theorem own1_of {C : Addr} {H : Hp} {Q : VK} {sp : Sp} {x : V} {a : Cp} (ix : IsC K C H x a) (q : sp [x] H Q E0) : rOwn1 C sp x H Q := by
  obtain ⟨p, dx, _, _, rfl, h1, _⟩ := ix
  exact ⟨p, dx, _, rfl, h1, q⟩
/-! ### the properties -/
def sp_get (K : PySem.W.Frag) (C : Addr) (g : Cp → Hp → V → Prop) : Sp := fun vs H Q _ => ∃ vc c, vs = [vc] ∧ IsC K C H vc c ∧ ∀ r, g c H r → Q r H
def sp_growth (K : PySem.W.Frag) (C : Addr) : Sp := fun vs H Q _ => ∃ vc c, vs = [vc] ∧ IsC K C H vc c ∧ CpOk c ∧ B 4000 c.t ∧ ∀ H' a, Same H H' → SqT K H' a [.int (gr c.t).1, .int (gr c.t).2] → Q (.ref a) H'
def sp_ap (K : PySem.W.Frag) (C : Addr) : Sp := fun vs H Q _ => ∃ vc c vz z, vs = [vc, vz] ∧ IsC K C H vc c ∧ CpOk c ∧ BC 1900 c ∧ IsT K H vz z ∧ Ok z ∧ B 1900 z ∧ ∀ H' r, Same H H' → IsT K H' r (ap c z) → Q r H'
def sp_jn (K : PySem.W.Frag) (C : Addr) : Sp := fun vs H Q _ => ∃ va a vb b, vs = [va, vb] ∧ IsC K C H va a ∧ IsC K C H vb b ∧ CpOk a ∧ CpOk b ∧ BC 1900 a ∧ BC 1900 b ∧ ∀ H' r, Same H H' → IsC K C H' r (jn a b) → Q r H'
theorem neB (a b : Bool) : V.bl (!decide (V.bl a = V.bl b)) = V.bl (a != b) := by cases a <;> cases b <;> rfl
def sp_bk (K : PySem.W.Frag) (C : Addr) : Sp := fun vs H Q _ => ∃ va a, vs = [va] ∧ IsC K C H va a ∧ CpOk a ∧ BC 1900 a ∧ ∀ H' r, Same H H' → IsC K C H' r (bk a) → Q r H'
def ceq (a b : Cp) : Bool := decide (a.t = b.t) && (decide (a.s = b.s) && decide (a.m = b.m))
theorem ceq_iff {a b : Cp} : ceq a b = true ↔ a = b := by
  obtain ⟨a1, a2, a3⟩ := a
  obtain ⟨b1, b2, b3⟩ := b
  unfold ceq
  simp
def sp_ceq (K : PySem.W.Frag) (C : Addr) : Sp := fun vs H Q _ => ∃ va a vb b, vs = [va, vb] ∧ IsC K C H va a ∧ IsC K C H vb b ∧ Q (.bl (ceq a b)) H
end
end My

namespace My
open PySem L2 Mth
abbrev s_Copy___call__ : Stmt := inClass (topS 41) 5
theorem sc_Copy___call__ : FnScope ["self", "spot"] ["self", "spot"] (defScope s_Copy___call__) := ⟨rfl, rfl, rfl, by decide +kernel, rfl, by decide +kernel, by decide +kernel⟩
section
variable {P : Program} {w : World} {K : PySem.W.Frag} {mg : Str → Option Value} {base : Heap}
theorem ok_call {f C : Addr} {fd : FuncData} (T : CTxt K C) (d_check_spot : D P w K mg base "check_spot" 3 (sp_check K)) (d_carried : D P w K mg base "carried" 4 (sp_car K)) (F : Fun K "__call__" "Copy.__call__" s_Copy___call__ f fd) : FnOk P w K mg base CX0 5 f fd ["self", "spot"] (sp_ap K C) := by
  refine F.ok sc_Copy___call__ (fun vs H Q E h => ?_) (fun cdv A outer s H vs Q E hr h => ?_)
  · obtain ⟨vc, c, vz, z, rfl, _⟩ := h
    rfl
  obtain ⟨vc, c, vz, z, rfl, ⟨p, dx, a, b, rfl, h1, h2, h3⟩, ok, bc, iz, oz, bz, q⟩ := h
  refine ⟨_, (pss_cons (ps_expr (pc d_check_spot (hr.mono (by decide)) (pa_cons (pv 1) pa_nil)))
    (pss_one (ps_ret (pc d_carried (hr.mono (by decide)) (pa_cons (pe_fld (pv 0) rfl) (pa_cons (pe_fld (pv 0) rfl) (pa_cons (pe_fld (pv 0) rfl) (pa_cons (pv 1) pa_nil)))))))), ?_⟩
  refine ⟨_, rfl, _, _, rfl, iz, oz, fun H1 s1 => ?_⟩
  refine ⟨_, rfl, p, C, dx, _, _, rfl, s1 _ _ h1, T.cl, T.nF, cf_f, _, rfl, p, C, dx, _, _, rfl, s1 _ _ h1, T.cl, T.nO, cf_o, _, rfl, p, C, dx, _, _, rfl, s1 _ _ h1, T.cl, T.nL, cf_m, _, rfl, ?_⟩
  exact ⟨_, _, _, _, _, _, _, rfl, ⟨_, rfl, same_T s1 h2⟩, ⟨_, rfl, same_T s1 h3⟩, iz.same s1, ok.t, ok.s, oz, bc.1, bc.2.mono (by decide), bz, fun H2 r s2 i => q _ _ (s1.trans s2) i⟩
end
end My

namespace My
open PySem L2 Mth
abbrev s_Copy_turn : Stmt := inClass (topS 41) 1
theorem sc_Copy_turn : FnScope ["self"] ["self"] (defScope s_Copy_turn) := ⟨rfl, rfl, rfl, by decide +kernel, rfl, by decide +kernel, by decide +kernel⟩
section
variable {P : Program} {w : World} {K : PySem.W.Frag} {mg : Str → Option Value} {base : Heap}
theorem ok_turn {f C : Addr} {fd : FuncData} (T : CTxt K C) (F : Fun K "turn" "Copy.turn" s_Copy_turn f fd) : FnOk P w K mg base CX0 1 f fd ["self"] (sp_get K C fun c H r => IsT K H r c.t) := by
  refine F.ok sc_Copy_turn (fun vs H Q E h => ?_) (fun cdv A outer s H vs Q E hr h => ?_)
  · obtain ⟨vc, c, rfl, _⟩ := h
    rfl
  obtain ⟨vc, c, rfl, ⟨p, dx, a, b, rfl, h1, h2, h3⟩, q⟩ := h
  refine ⟨_, (pss_one (ps_ret (pe_fld (pv 0) rfl))), ?_⟩
  exact ⟨_, rfl, p, C, dx, _, _, rfl, h1, T.cl, T.nF, cf_f, q _ ⟨_, rfl, h2⟩⟩
end
end My

namespace My
open PySem L2 Mth
abbrev s_Copy_shift : Stmt := inClass (topS 41) 2
theorem sc_Copy_shift : FnScope ["self"] ["self"] (defScope s_Copy_shift) := ⟨rfl, rfl, rfl, by decide +kernel, rfl, by decide +kernel, by decide +kernel⟩
section
variable {P : Program} {w : World} {K : PySem.W.Frag} {mg : Str → Option Value} {base : Heap}
theorem ok_shift {f C : Addr} {fd : FuncData} (T : CTxt K C) (F : Fun K "shift" "Copy.shift" s_Copy_shift f fd) : FnOk P w K mg base CX0 1 f fd ["self"] (sp_get K C fun c H r => IsT K H r c.s) := by
  refine F.ok sc_Copy_shift (fun vs H Q E h => ?_) (fun cdv A outer s H vs Q E hr h => ?_)
  · obtain ⟨vc, c, rfl, _⟩ := h
    rfl
  obtain ⟨vc, c, rfl, ⟨p, dx, a, b, rfl, h1, h2, h3⟩, q⟩ := h
  refine ⟨_, (pss_one (ps_ret (pe_fld (pv 0) rfl))), ?_⟩
  exact ⟨_, rfl, p, C, dx, _, _, rfl, h1, T.cl, T.nO, cf_o, q _ ⟨_, rfl, h3⟩⟩
end
end My

namespace My
open PySem L2 Mth
abbrev s_Copy_mirrored : Stmt := inClass (topS 41) 3
theorem sc_Copy_mirrored : FnScope ["self"] ["self"] (defScope s_Copy_mirrored) := ⟨rfl, rfl, rfl, by decide +kernel, rfl, by decide +kernel, by decide +kernel⟩
section
variable {P : Program} {w : World} {K : PySem.W.Frag} {mg : Str → Option Value} {base : Heap}
theorem ok_mirrored {f C : Addr} {fd : FuncData} (T : CTxt K C) (F : Fun K "mirrored" "Copy.mirrored" s_Copy_mirrored f fd) : FnOk P w K mg base CX0 1 f fd ["self"] (sp_get K C fun c H r => r = .bl c.m) := by
  refine F.ok sc_Copy_mirrored (fun vs H Q E h => ?_) (fun cdv A outer s H vs Q E hr h => ?_)
  · obtain ⟨vc, c, rfl, _⟩ := h
    rfl
  obtain ⟨vc, c, rfl, ⟨p, dx, a, b, rfl, h1, h2, h3⟩, q⟩ := h
  refine ⟨_, (pss_one (ps_ret (pe_fld (pv 0) rfl))), ?_⟩
  exact ⟨_, rfl, p, C, dx, _, _, rfl, h1, T.cl, T.nL, cf_m, q _ rfl⟩
end
end My

namespace My
open PySem L2 Mth
abbrev s_Copy___eq__ : Stmt := inClass (topS 41) 8
theorem sc_Copy___eq__ : FnScope ["self", "other"] ["self", "other"] (defScope s_Copy___eq__) := ⟨rfl, rfl, rfl, by decide +kernel, rfl, by decide +kernel, by decide +kernel⟩
section
variable {P : Program} {w : World} {K : PySem.W.Frag} {mg : Str → Option Value} {base : Heap}
theorem ok_eq {f C : Addr} {fd : FuncData} (T : CTxt K C) (mgC : mg "Copy" = some (.ref C)) (b_isinstance : mg "isinstance" = none) (F : Fun K "__eq__" "Copy.__eq__" s_Copy___eq__ f fd) : FnOk P w K mg base CX0 1 f fd ["self", "other"] (sp_ceq K C) := by
  refine F.ok sc_Copy___eq__ (fun vs H Q E h => ?_) (fun cdv A outer s H vs Q E hr h => ?_)
  · obtain ⟨va, a, vb, b, rfl, _⟩ := h
    rfl
  obtain ⟨va, a, vb, b, rfl, ⟨p, dx, u, v, rfl, h1, h2, h3⟩, ⟨p', dx', u', v', rfl, k1, k2, k3⟩, q⟩ := h
  refine ⟨_, (pss_one (ps_ret (pe_and (pe_callB (r := rIsi K) call_isi (by rfl) b_isinstance (by decide +kernel) (pa_cons (pv 1) (pa_cons (pe_glob (v := .ref C) (by rfl) mgC rfl) pa_nil))) (pe_and (pe_cmpR (op_eqD hr.units) (pe_fld (pv 0) rfl) (pe_fld (pv 1) rfl) (nomark _)) (pe_and (pe_cmpR (op_eqD hr.units) (pe_fld (pv 0) rfl) (pe_fld (pv 1) rfl) (nomark _)) (pe_one (pe_cmpR (op_eq) (pe_fld (pv 0) rfl) (pe_fld (pv 1) rfl) (nomark _)))))))), ?_⟩
  refine ⟨_, rfl, _, _, _, _, true, rfl, .own C, .base (.ins k1 T.cl T.ha T.hn T.htk T.hm), ?_, true, rfl, iteT ?_⟩
  · unfold PySem.W.kitOne; simp
  refine ⟨_, rfl, p, C, dx, _, _, rfl, h1, T.cl, T.nF, cf_f, _, rfl, p', C, dx', _, _, rfl, k1, T.cl, T.nF, cf_f, _, _, Dp3 h2, Dp3 k2, shaped3 _, shaped3 _, _, rfl, ?_⟩
  rw [eqv3]
  unfold ceq at q
  cases c1 : decide (a.t = b.t) with
  | false =>
    rw [c1] at q
    exact iteF q
  | true =>
    rw [c1] at q
    refine iteT ?_
    refine ⟨_, rfl, p, C, dx, _, _, rfl, h1, T.cl, T.nO, cf_o, _, rfl, p', C, dx', _, _, rfl, k1, T.cl, T.nO, cf_o, _, _, Dp3 h3, Dp3 k3, shaped3 _, shaped3 _, _, rfl, ?_⟩
    rw [eqv3]
    cases c2 : decide (a.s = b.s) with
    | false =>
      rw [c2] at q
      exact iteF q
    | true =>
      rw [c2] at q
      refine iteT ?_
      refine ⟨_, rfl, p, C, dx, _, _, rfl, h1, T.cl, T.nL, cf_m, _, rfl, p', C, dx', _, _, rfl, k1, T.cl, T.nL, cf_m, rfl, ?_⟩
      have e : decide (V.bl a.m = V.bl b.m) = decide (a.m = b.m) := by cases a.m <;> cases b.m <;> rfl
      show Q (.bl (decide (V.bl a.m = V.bl b.m))) H
      rw [e]
      exact q
end
end My

namespace My
open PySem L2 Mth
abbrev s_Copy___rshift__ : Stmt := inClass (topS 41) 6
theorem sc_Copy___rshift__ : FnScope ["self", "other", "turn", "shift"] ["self", "other"] (defScope s_Copy___rshift__) := ⟨rfl, rfl, rfl, by decide +kernel, rfl, by decide +kernel, by decide +kernel⟩
section
variable {P : Program} {w : World} {K : PySem.W.Frag} {mg : Str → Option Value} {base : Heap}
theorem ok_rshift {f C fI : Addr} {fd fdI : FuncData} {mv ds : List Value} (TC : CopyI P w K mg base C fI fdI mv ds) (d_product : D P w K mg base "product" 3 (sp_two K times)) (d_faced : D P w K mg base "faced" 1 (sp_face K)) (d_carried : D P w K mg base "carried" 4 (sp_car K))
    (F : Fun K "__rshift__" "Copy.__rshift__" s_Copy___rshift__ f fd) : FnOk P w K mg base CX0 6 f fd ["self", "other"] (sp_jn K C) := by
  refine F.ok sc_Copy___rshift__ (fun vs H Q E h => ?_) (fun cdv A outer s H vs Q E hr h => ?_)
  · obtain ⟨va, a, vb, b, rfl, _⟩ := h
    rfl
  obtain ⟨va, a, vb, b, rfl, ⟨p, dx, u, v, rfl, h1, h2, h3⟩, ⟨p', dx', u', v', rfl, k1, k2, k3⟩, oa, ob, ba, bb, q⟩ := h
  have T := TC.tx
  refine ⟨_, (pss_cons (ps_set (i := 2) sc_Copy___rshift__.nd rfl (by first | exact Or.inl rfl | exact Or.inr rfl) (pc d_product (hr.mono (by decide)) (pa_cons (pe_fld (pv 1) rfl) (pa_cons (pc d_faced (hr.mono (by decide)) (pa_cons (pe_fld (pv 0) rfl) (pa_cons (pe_fld (pv 1) rfl) pa_nil))) pa_nil))))
    (pss_cons (ps_set (i := 3) sc_Copy___rshift__.nd rfl (by first | exact Or.inl rfl | exact Or.inr rfl) (pc d_carried (hr.mono (by decide)) (pa_cons (pe_fld (pv 1) rfl) (pa_cons (pe_fld (pv 1) rfl) (pa_cons (pe_fld (pv 1) rfl) (pa_cons (pe_fld (pv 0) rfl) pa_nil))))))
    (pss_one (ps_ret (pe_makeK TC.mkC TC.ok (hr.mono (by decide)) (by rfl) TC.mgC TC.kb pass0 (pa_cons (pv 2) (pa_cons (pv 3) pa_nil)) (pk_cons (pe_cmpR (op_ne) (pe_fld (pv 0) rfl) (pe_fld (pv 1) rfl) (nomark _)) pk_nil)))))), ?_⟩
  refine ⟨_, rfl, p', C, dx', _, _, rfl, k1, T.cl, T.nF, cf_f, _, rfl, p, C, dx, _, _, rfl, h1, T.cl, T.nF, cf_f, _, rfl, p', C, dx', _, _, rfl, k1, T.cl, T.nL, cf_m, ?_⟩
  refine ⟨_, _, _, rfl, ⟨_, rfl, h2⟩, fun H1 r1 s1 i1 => ?_⟩
  refine ⟨_, _, _, _, rfl, ⟨_, rfl, same_T s1 k2⟩, i1, ob.t, face_ok oa.t _, bb.1.mono (by decide), (face_B ba.1 _).mono (by decide), fun H2 r2 s2 i2 => ?_⟩
  have s12 := s1.trans s2
  refine ⟨_, rfl, p', C, dx', _, _, rfl, s12 _ _ k1, T.cl, T.nF, cf_f, _, rfl, p', C, dx', _, _, rfl, s12 _ _ k1, T.cl, T.nO, cf_o, _, rfl, p', C, dx', _, _, rfl, s12 _ _ k1, T.cl, T.nL, cf_m, _, rfl, p, C, dx, _, _, rfl, s12 _ _ h1, T.cl, T.nO, cf_o, ?_⟩
  refine ⟨_, _, _, _, _, _, _, rfl, ⟨_, rfl, same_T s12 k2⟩, ⟨_, rfl, same_T s12 k3⟩, ⟨_, rfl, same_T s12 h3⟩, ob.t, ob.s, oa.s, bb.1, bb.2.mono (by decide), ba.2, fun H3 r3 s3 i3 => ?_⟩
  have s123 := s12.trans s3
  refine ⟨_, rfl, _, rfl, _, rfl, p, C, dx, _, _, rfl, s123 _ _ h1, T.cl, T.nL, cf_m, _, rfl, p', C, dx', _, _, rfl, s123 _ _ k1, T.cl, T.nL, cf_m, rfl, ?_⟩
  refine ⟨rfl, rfl, ?_⟩
  rw [neB]
  exact mk_of (i2.same s3) i3 (jn_ok oa ob).t (jn_ok oa ob).n (jn_ok oa ob).s fun H4 r4 s4 i4 => q _ _ (s123.trans s4) i4
end
end My

namespace My
open PySem L2 Mth
abbrev s_Copy___invert__ : Stmt := inClass (topS 41) 7
theorem sc_Copy___invert__ : FnScope ["self", "back", "shift"] ["self"] (defScope s_Copy___invert__) := ⟨rfl, rfl, rfl, by decide +kernel, rfl, by decide +kernel, by decide +kernel⟩
section
variable {P : Program} {w : World} {K : PySem.W.Frag} {mg : Str → Option Value} {base : Heap}
theorem ok_invert {f C fI : Addr} {fd fdI : FuncData} {mv ds : List Value} (TC : CopyI P w K mg base C fI fdI mv ds) (d_product : D P w K mg base "product" 3 (sp_two K times)) (d_inverse : D P w K mg base "inverse" 3 (sp_inv K)) (d_negative : D P w K mg base "negative" 1 (sp_one K neg)) (d_faced : D P w K mg base "faced" 1 (sp_face K))
    (F : Fun K "__invert__" "Copy.__invert__" s_Copy___invert__ f fd) : FnOk P w K mg base CX0 6 f fd ["self"] (sp_bk K C) := by
  refine F.ok sc_Copy___invert__ (fun vs H Q E h => ?_) (fun cdv A outer s H vs Q E hr h => ?_)
  · obtain ⟨va, a, rfl, _⟩ := h
    rfl
  obtain ⟨va, a, rfl, ⟨p, dx, u, v, rfl, h1, h2, h3⟩, oa, ba, q⟩ := h
  have T := TC.tx
  refine ⟨_, (pss_cons (ps_set (i := 1) sc_Copy___invert__.nd rfl (by first | exact Or.inl rfl | exact Or.inr rfl) (pc d_inverse (hr.mono (by decide)) (pa_cons (pe_fld (pv 0) rfl) pa_nil)))
    (pss_cons (ps_set (i := 2) sc_Copy___invert__.nd rfl (by first | exact Or.inl rfl | exact Or.inr rfl) (pc d_negative (hr.mono (by decide)) (pa_cons (pc d_product (hr.mono (by decide)) (pa_cons (pv 1) (pa_cons (pe_fld (pv 0) rfl) pa_nil))) pa_nil)))
    (pss_one (ps_ret (pe_makeK TC.mkC TC.ok (hr.mono (by decide)) (by rfl) TC.mgC TC.kb pass0 (pa_cons (pc d_faced (hr.mono (by decide)) (pa_cons (pv 1) (pa_cons (pe_fld (pv 0) rfl) pa_nil))) (pa_cons (pc d_faced (hr.mono (by decide)) (pa_cons (pv 2) (pa_cons (pe_fld (pv 0) rfl) pa_nil))) pa_nil)) (pk_cons (pe_fld (pv 0) rfl) pk_nil)))))), ?_⟩
  refine ⟨_, rfl, p, C, dx, _, _, rfl, h1, T.cl, T.nF, cf_f, ?_⟩
  refine ⟨_, _, rfl, ⟨_, rfl, h2⟩, oa.n, ba.1.mono (by decide), fun H1 r1 s1 i1 => ?_⟩
  refine ⟨_, rfl, _, rfl, p, C, dx, _, _, rfl, s1 _ _ h1, T.cl, T.nO, cf_o, ?_⟩
  refine ⟨_, _, _, _, rfl, i1, ⟨_, rfl, same_T s1 h3⟩, inv_ok oa.n, oa.s, (inv_B oa.n ba.1).mono (by decide), ba.2.mono (by decide), fun H2 r2 s2 i2 => ?_⟩
  refine ⟨_, _, rfl, i2, fun H3 r3 s3 i3 => ?_⟩
  have s123 := s1.trans (s2.trans s3)
  refine ⟨_, rfl, _, rfl, p, C, dx, _, _, rfl, s123 _ _ h1, T.cl, T.nL, cf_m, ?_⟩
  refine ⟨_, _, _, rfl, i1.same (s2.trans s3), fun H4 r4 s4 i4 => ?_⟩
  refine ⟨_, rfl, _, rfl, p, C, dx, _, _, rfl, (s123.trans s4) _ _ h1, T.cl, T.nL, cf_m, ?_⟩
  refine ⟨_, _, _, rfl, i3.same s4, fun H5 r5 s5 i5 => ?_⟩
  refine ⟨_, rfl, p, C, dx, _, _, rfl, (s123.trans (s4.trans s5)) _ _ h1, T.cl, T.nL, cf_m, rfl, rfl, ?_⟩
  exact mk_of (i4.same s5) i5 (bk_ok oa).t (bk_ok oa).n (bk_ok oa).s fun H6 r6 s6 i6 => q _ _ ((s123.trans (s4.trans s5)).trans s6) i6
end
end My

namespace My
open PySem L2 Mth
abbrev s_law_below : Stmt := topS 65
theorem sc_law_below : FnScope ["_law_d", "_law_limit", "_law_result"] ["_law_d", "_law_limit"] (defScope s_law_below) := ⟨rfl, rfl, rfl, by decide +kernel, rfl, by decide +kernel, by decide +kernel⟩
abbrev s_law_random : Stmt := topS 64
theorem sc_law_random : FnScope ["_law_script", "_law_salt", "_law_seed", "_law_cell"] ["_law_script", "_law_salt"] (defScope s_law_random) := ⟨rfl, rfl, rfl, by decide +kernel, rfl, by decide +kernel, by decide +kernel⟩
section
variable {P : Program} {w : World} {K : PySem.W.Frag} {mg : Str → Option Value} {base : Heap}
/-! ### the source of numbers -/
structure Src where
  seed : Int
  cur : Int
  rest : List Int
structure SrcOk (s : Src) : Prop where
  s0 : 0 ≤ s.seed
  s1 : s.seed < 2147483647
  c0 : 0 ≤ s.cur
  r0 : ∀ r ∈ s.rest, 0 ≤ r
  len : s.rest.length ≤ 63
def encD (s : Src) : List V := .int s.seed :: .int s.cur :: s.rest.map V.int
theorem natAbs_pow18 : ((10 : Int) ^ (18 : Int).toNat) = 1000000000000000000 := by decide
theorem getInt {ns : List Int} {i : Nat} {y : V} (h : (ns.map V.int)[i]? = some y) : ∃ u, y = V.int u ∧ ns[i]? = some u := by
  rw [List.getElem?_map] at h
  cases e : ns[i]? with
  | none => rw [e] at h; cases h
  | some u => rw [e] at h; exact ⟨u, (Option.some.inj h).symm, rfl⟩
theorem take_more {α : Type} {l : List α} {i : Nat} {x : α} (h : l[i]? = some x) : l.take (i + 1) = l.take i ++ [x] := by
  rw [List.take_succ, h]
  rfl
def sp_random (K : PySem.W.Frag) : Sp := fun vs H Q _ => ∃ (a : Addr) (ns : List Int) (salt : Int), vs = [.ref a, .int salt] ∧ SqL K H a (ns.map V.int) ∧ ns.length ≤ 63 ∧ 0 ≤ salt ∧ salt < 2147483647 ∧
  ∀ H' d st, Same H H' → H' d = some (.lst (encD st)) → SrcOk st → Q (.ref d) H'
theorem ok_law_random {f : Addr} {fd : FuncData} (b_abs : mg "abs" = none) (F : Fun K "_law_random" "_law_random" s_law_random f fd) : FnOk P w K mg base CX0 1 f fd ["_law_script", "_law_salt"] (sp_random K) := by
  refine F.ok sc_law_random (fun vs H Q E h => ?_) (fun cdv A outer s H vs Q E hr h => ?_)
  · obtain ⟨a, ns, salt, rfl, _⟩ := h
    rfl
  obtain ⟨a, ns, salt, rfl, hS, h63, h0, h1, q⟩ := h
  refine ⟨_, (pss_cons (ps_set (i := 2) sc_law_random.nd rfl (by first | exact Or.inl rfl | exact Or.inr rfl) (pv 1))
    (pss_cons (ps_for PassesOwn.never rfl (pi_list (pv 0)) (pg_name (i := 3) sc_law_random.nd rfl (by first | exact Or.inl rfl | exact Or.inr rfl)) (pss_one (ps_set (i := 2) sc_law_random.nd rfl (by first | exact Or.inl rfl | exact Or.inr rfl) (pe_op op_modN (pe_op op_add (pe_op op_mulW (pv 2) pe_int) (pe_callB call_abs (by rfl) b_abs (by decide +kernel) (pa_cons (pv 3) pa_nil))) pe_int))))
    (pss_one (ps_ret (pe_op op_cat (pe_lst (pa_cons (pv 2) (pa_cons pe_int pa_nil))) (pe_lc (own := [("_law_cell", 3)]) (g := gName 3) (by rfl) sc_law_random.nd (pi_list (pv 0)) (blkOk_by (own := [("_law_cell", 3)]) (N := ["_law_script", "_law_salt", "_law_seed", "_law_cell"]) (sc := defScope s_law_random) (by decide +kernel)) (fun _ _ _ _ _ => (pg_name (i := 3) sc_law_random.nd rfl (by first | exact Or.inl rfl | exact Or.inr rfl))) (fun _ _ _ _ _ => (pts_one (pt_cmpR (op_ge) (pv 3) (pe_op op_pow pe_int pe_int) (nomark _)))) (fun _ _ _ _ _ => (pv 3)))))))), ?_⟩
  refine ⟨_, rfl, ?_⟩
  refine ⟨_, rfl, _, rfl, ⟨_, hS⟩, for_list (K := K) (a := a) (xs := ns.map V.int) (fun i σ H' => H' = H ∧ ∃ (z : Int) (v : Option V), σ = [some (.ref a), some (.int salt), some (.int z), v] ∧ 0 ≤ z ∧ z < 2147483647) ⟨rfl, salt, none, rfl, h0, h1⟩ ?_ ?_ ?_⟩
  · rintro i σ H' _ ⟨rfl, _⟩
    exact hS
  · rintro i y σ H' hi ⟨rfl, z, v, rfl, z0, z1⟩
    obtain ⟨u, rfl, hu⟩ := getInt hi
    refine ⟨_, rfl, _, _, rfl, rfl, mulW (a := 31) (b := 31) (show z.natAbs < 2 ^ 32 by omega) (by decide), _, rfl, _, rfl, _, _, rfl, rfl, _, _, rfl, rfl, (show (2147483647 : Int) ≠ 0 by decide), ?_⟩
    exact ⟨rfl, _, _, rfl, Int.fmod_nonneg_of_pos _ (by decide), Int.fmod_lt_of_pos _ (by decide)⟩
  · rintro σ H' ⟨rfl, z, v, rfl, z0, z1⟩
    refine ⟨_, rfl, (by show 2 ≤ sizeLine; decide), fun p hp => ?_⟩
    have g1 := same_new hp (.lst [.int z, .int 0])
    refine ⟨_, rfl, a, rfl, ⟨_, g1.seq hS⟩, fun L hL => lc_list (K := K) (a := a) (xs := ns.map V.int) (fun i H1 => ∃ acc : List Int, H1 = upd (upd H' p (.lst [.int z, .int 0])) L (.lst (acc.map V.int)) ∧ acc.length ≤ i ∧ ∀ r ∈ acc, 0 ≤ r) ⟨[], rfl, Nat.le_refl _, fun r hr => by cases hr⟩ ?_ ?_ ?_⟩
    · rintro i H1 hi ⟨acc, rfl, _⟩
      exact (same_new hL _).seq (g1.seq hS)
    · rintro i y H1 hi ⟨acc, rfl, hl, ha⟩
      obtain ⟨u, rfl, hu⟩ := getInt hi
      have hi63 : i < ns.length := (List.getElem?_eq_some_iff.mp hu).1
      refine ⟨rfl, ?_⟩
      refine ⟨_, rfl, _, _, rfl, rfl, ⟨by decide, by decide, by decide⟩, _, _, rfl, rfl, _, rfl, ?_⟩
      refine ite2 (fun c => ?_) (fun c => ?_)
      · refine ⟨_, rfl, acc.map V.int, upd_same, ?_, acc ++ [u], ?_, ?_, ?_⟩
        · rw [List.length_map]; exact small1000 (by omega)
        · rw [upd_upd, List.map_append]; rfl
        · rw [List.length_append, List.length_singleton]; omega
        · intro r hr
          rcases List.mem_append.mp hr with h | h
          · exact ha r h
          · have c' : (10 : Int) ^ (18 : Int).toNat ≤ u := of_decide_eq_true c
            rw [natAbs_pow18] at c'
            have := List.mem_singleton.mp h
            omega
      · exact ⟨acc, rfl, by omega, ha⟩
    · rintro H1 ⟨acc, rfl, hl, ha⟩
      rw [List.length_map] at hl
      have npL : p ≠ L := fun z => by rw [← z, upd_same] at hL; cases hL
      refine ⟨p, L, _, _, rfl, rfl, by rw [upd_ne npL]; exact upd_same, upd_same, ?_, fun r hr => ?_⟩
      · rw [List.length_map]; exact small (by show 2 + _ ≤ 1000; omega)
      · have g2 := same_new hL (.lst (acc.map V.int))
        exact q _ _ ⟨z, 0, acc⟩ (g1.trans (g2.trans (same_new hr _))) upd_same ⟨z0, z1, Int.le_refl 0, ha, by show acc.length ≤ 63; omega⟩
/-- the next number -/
def sp_below : Sp := fun vs H Q _ => ∃ (d : Addr) (n : Int) (st : Src), vs = [.ref d, .int n] ∧ 0 < n ∧ n < 1000000 ∧ H d = some (.lst (encD st)) ∧ SrcOk st ∧
  ∀ st' r, SrcOk st' → 0 ≤ r → r < n → Q (.int r) (upd H d (.lst (encD st')))
theorem div_nn {a b : Int} (ha : 0 ≤ a) (hb : 0 < b) : 0 ≤ a.fdiv b := by
  rw [Int.fdiv_eq_ediv_of_nonneg a (by omega)]
  exact Int.ediv_nonneg ha (by omega)
theorem dX {i j : Int} (h : 0 < j) (h9 : j < 1000000) : CDivX i j := divX (b := 20) (by omega) (by omega) (by decide) (by decide)
theorem at0 {a b : V} {r : List V} : atI (a :: b :: r) 0 = some a := atI_nat (j := 0) rfl
theorem at1 {a b : V} {r : List V} : atI (a :: b :: r) 1 = some b := atI_nat (j := 1) rfl
theorem ix0 {a b : V} {r : List V} : ixN (a :: b :: r).length 0 = some 0 := by
  unfold ixN
  rw [if_pos (by decide), if_pos (by simp only [List.length_cons]; omega)]
  rfl
theorem ix1 {a b : V} {r : List V} : ixN (a :: b :: r).length 1 = some 1 := by
  unfold ixN
  rw [if_pos (by decide), if_pos (by simp only [List.length_cons]; omega)]
  rfl
theorem ok_law_below {f : Addr} {fd : FuncData} (b_len : mg "len" = none) (F : Fun K "_law_below" "_law_below" s_law_below f fd) : FnOk P w K mg base CX0 1 f fd ["_law_d", "_law_limit"] sp_below := by
  refine F.ok sc_law_below (fun vs H Q E h => ?_) (fun cdv A outer s H vs Q E hr h => ?_)
  · obtain ⟨d, n, st, rfl, _⟩ := h
    rfl
  obtain ⟨d, n, ⟨seed, cur, rest⟩, rfl, n0, n1, hd, ⟨s0, s1, c0, r0, hl⟩, q⟩ := h
  dsimp only at s0 s1 c0 r0 hl
  refine ⟨_, (pss_cons (ps_if (PW.pt (pw_and (pt_cmpR (op_eq) (pe_ix ix_list (pv 0) pe_int (fun _ _ => rfl)) pe_int (nomark _)) (pw_and1 (pt_cmpR (op_gt) (pe_callB call_len_seq (by rfl) b_len PySem.boot_len (pa_cons (pv 0) pa_nil)) pe_int (nomark _))))) (pss_one (ps_asg (pe_bm PySem.F.plainAttrs_list PySem.F.slot_list_pop PySem.F.type_list_pop mt_popAt (pv 0) (pa_cons pe_int pa_nil)) (pg_sub (pv 0) pe_int set_list))) pss_nil)
    (pss_cons (ps_if (pt_cmpR (op_gt) (pe_ix ix_list (pv 0) pe_int (fun _ _ => rfl)) pe_int (nomark _)) (pss_cons (ps_set (i := 2) sc_law_below.nd rfl (by first | exact Or.inl rfl | exact Or.inr rfl) (pe_op op_modN (pe_ix ix_list (pv 0) pe_int (fun _ _ => rfl)) (pv 1)))
    (pss_cons (ps_asg (pe_op op_fdivX (pe_ix ix_list (pv 0) pe_int (fun _ _ => rfl)) (pv 1)) (pg_sub (pv 0) pe_int set_list))
    (pss_one (ps_ret (pv 2))))) pss_nil)
    (pss_cons (ps_asg (pe_op op_modN (pe_op op_add (pe_op op_mulW (pe_ix ix_list (pv 0) pe_int (fun _ _ => rfl)) pe_int) pe_int) pe_int) (pg_sub (pv 0) pe_int set_list))
    (pss_one (ps_ret (pe_op op_modN (pe_op op_fdivX (pe_ix ix_list (pv 0) pe_int (fun _ _ => rfl)) pe_int) (pv 1))))))), ?_⟩
  have tail : ∀ (cur : Int) (rest : List Int) (H1 : Hp), 0 ≤ cur → (∀ r ∈ rest, 0 ≤ r) → rest.length ≤ 63 → (∀ o, upd H1 d o = upd H d o) → H1 d = some (.lst (encD ⟨seed, cur, rest⟩)) →
      (tSeq (tIfS (tTest (tOp (rI0 fun i j => .bl (decide (j < i))) (tOp (rIxL K) (tVar 0) (tC (.int 1))) (tC (.int 0))))
        (tSeq (tAsg (tOp (rI (fun _ j => j ≠ 0) fun i j => .int (i.fmod j)) (tOp (rIxL K) (tVar 0) (tC (.int 1))) (tVar 1)) (gName 2))
          (tSeq (tAsg (tOp (rI CDivX fun i j => .int (i.fdiv j)) (tOp (rIxL K) (tVar 0) (tC (.int 1))) (tVar 1)) (gSub (tVar 0) (tC (.int 1)) rSetL)) (tRet (tVar 2)))) tNext)
        (tSeq (tAsg (tOp (rI (fun _ j => j ≠ 0) fun i j => .int (i.fmod j)) (tOp (rI0 fun i j => .int (i + j)) (tOp (rI CMulW fun i j => .int (i * j)) (tOp (rIxL K) (tVar 0) (tC (.int 0))) (tC (.int 48271))) (tC (.int 11))) (tC (.int 2147483647))) (gSub (tVar 0) (tC (.int 0)) rSetL))
          (tRet (tOp (rI (fun _ j => j ≠ 0) fun i j => .int (i.fmod j)) (tOp (rI CDivX fun i j => .int (i.fdiv j)) (tOp (rIxL K) (tVar 0) (tC (.int 0))) (tC (.int 64))) (tVar 1))))) { nx := fun _ H' => Q .non H', rt := Q } [some (.ref d), some (.int n), none] H1 := by
    intro cur rest H1 c0 r0 hl hu h1
    refine ⟨_, rfl, _, _, _, _, rfl, rfl, .inl (.inl h1), at1, _, _, rfl, rfl, _, rfl, ?_⟩
    refine ite2 (fun c => ?_) (fun c => ?_)
    · refine ⟨_, rfl, _, _, _, _, rfl, rfl, .inl (.inl h1), at1, _, rfl, _, _, rfl, rfl, (show n ≠ 0 by omega), ?_⟩
      refine ⟨_, rfl, _, _, _, _, rfl, rfl, .inl (.inl h1), at1, _, rfl, _, _, rfl, rfl, dX n0 n1, ?_⟩
      refine ⟨_, rfl, _, _, _, _, rfl, rfl, h1, ix1, ?_⟩
      refine ⟨_, rfl, ?_⟩
      have z := q ⟨seed, cur.fdiv n, rest⟩ (cur.fmod n) ⟨s0, s1, div_nn c0 n0, r0, hl⟩ (Int.fmod_nonneg_of_pos _ n0) (Int.fmod_lt_of_pos _ n0)
      rw [← hu] at z
      exact z
    · refine ⟨_, rfl, _, _, _, _, rfl, rfl, .inl (.inl h1), at0, _, _, rfl, rfl, mulW (a := 31) (b := 31) (show seed.natAbs < 2 ^ 32 by omega) (by decide), _, _, rfl, rfl, _, _, rfl, rfl, (show (2147483647 : Int) ≠ 0 by decide), ?_⟩
      refine ⟨_, rfl, _, _, _, _, rfl, rfl, h1, ix0, ?_⟩
      have m0 := Int.fmod_nonneg_of_pos (a := seed * 48271 + 11) (b := 2147483647) (by decide)
      have m1 := Int.fmod_lt_of_pos (a := seed * 48271 + 11) (b := 2147483647) (by decide)
      have z := q ⟨(seed * 48271 + 11).fmod 2147483647, cur, rest⟩ ((((seed * 48271 + 11).fmod 2147483647).fdiv 64).fmod n) ⟨m0, m1, c0, r0, hl⟩ (Int.fmod_nonneg_of_pos _ n0) (Int.fmod_lt_of_pos _ n0)
      rw [← hu] at z
      refine ⟨_, rfl, _, _, _, _, rfl, rfl, .inl (.inl upd_same), at0, _, _, rfl, rfl, dX (by decide) (by decide), _, rfl, _, _, rfl, rfl, (show n ≠ 0 by omega), ?_⟩
      exact z
  refine ⟨_, rfl, _, _, _, _, rfl, rfl, .inl (.inl hd), at1, rfl, _, rfl, ?_⟩
  refine ite2 (fun c => ?_) (fun c => ?_)
  · refine ⟨_, rfl, _, _, rfl, .inl (.inl (.inl hd)), _, _, rfl, rfl, _, rfl, ?_⟩
    refine ite2 (fun c2 => ?_) (fun c2 => ?_)
    · cases rest with
      | nil =>
        exfalso
        have := of_decide_eq_true c2
        simp [encD] at this
      | cons r rs =>
        refine ⟨_, rfl, .inl ⟨rfl, _, .inl (.inl hd)⟩, _, _, _, 2, _, rfl, rfl, hd, by decide, by decide, ?_, rfl, ?_⟩
        · show seqIndex? 2 (encD ⟨seed, cur, r :: rs⟩).length = some 2
          refine (ixN_seq (n := (encD ⟨seed, cur, r :: rs⟩).length) (i := 2) (j := 2) ?_).1
          unfold ixN
          rw [if_pos (by decide), if_pos (by simp [encD]; omega)]
          rfl
        refine ⟨_, rfl, _, _, _, _, rfl, rfl, upd_same, ix1, ?_⟩
        refine tail r rs _ (r0 r (List.mem_cons_self ..)) (fun x hx => r0 x (List.mem_cons_of_mem _ hx)) (by simp only [List.length_cons] at hl; omega) (fun o => ?_) ?_
        · rw [upd_upd, upd_upd]
        · rw [upd_same]
          rfl
    · exact tail cur rest H c0 r0 hl (fun o => rfl) hd
  · exact tail cur rest H c0 r0 hl (fun o => rfl) hd
end
end My

namespace My
open PySem L2 Mth
abbrev s_law_common : Stmt := topS 67
theorem sc_law_common : FnScope ["_law_one", "_law_other"] ["_law_one", "_law_other"] (defScope s_law_common) := ⟨rfl, rfl, rfl, by decide +kernel, rfl, by decide +kernel, by decide +kernel⟩
abbrev s_law_lowest : Stmt := topS 68
theorem sc_law_lowest : FnScope ["_law_x", "_law_y", "_law_q", "_law_common_now"] ["_law_x", "_law_y", "_law_q"] (defScope s_law_lowest) := ⟨rfl, rfl, rfl, by decide +kernel, rfl, by decide +kernel, by decide +kernel⟩
abbrev s_law_spot : Stmt := topS 69
theorem sc_law_spot : FnScope ["_law_d", "_law_below_here"] ["_law_d"] (defScope s_law_spot) := ⟨rfl, rfl, rfl, by decide +kernel, rfl, by decide +kernel, by decide +kernel⟩
abbrev s_law_turn : Stmt := topS 70
theorem sc_law_turn : FnScope ["_law_d", "_law_some"] ["_law_d"] (defScope s_law_turn) := ⟨rfl, rfl, rfl, by decide +kernel, rfl, by decide +kernel, by decide +kernel⟩
section
variable {P : Program} {w : World} {K : PySem.W.Frag} {mg : Str → Option Value} {base : Heap}
theorem ok_law_common {f : Addr} {fd : FuncData} (b_abs : mg "abs" = none) (F : Fun K "_law_common" "_law_common" s_law_common f fd) : FnOk P w K mg base CX0 1 f fd ["_law_one", "_law_other"] sp_gcd := by
  refine F.ok sc_law_common (fun vs H Q E h => ?_) (fun cdv A outer s H vs Q E hr h => ?_)
  · obtain ⟨a, b, rfl, _⟩ := h
    rfl
  obtain ⟨a, b, rfl, q⟩ := h
  refine ⟨_, (pss_cons (ps_par (i := 0) (j := 1) (by rfl) sc_law_common.nd rfl rfl (by decide) rfl rfl (pa_cons (pe_callB call_abs (by rfl) b_abs (by decide +kernel) (pa_cons (pv 0) pa_nil)) (pa_cons (pe_callB call_abs (by rfl) b_abs (by decide +kernel) (pa_cons (pv 1) pa_nil)) pa_nil)) (by rfl))
    (pss_cons (ps_while PassesOwn.never (pt_cmpR (op_gt) (pv 1) pe_int (nomark _)) (pss_one (ps_par (i := 0) (j := 1) (by rfl) sc_law_common.nd rfl rfl (by decide) rfl rfl (pa_cons (pv 1) (pa_cons (pe_op op_modN (pv 0) (pv 1)) pa_nil)) (by rfl))))
    (pss_one (ps_ret (pv 0))))), ?_⟩
  refine ⟨_, rfl, _, rfl, _, rfl, _, rfl, _, _, rfl, ?_⟩
  refine while_by (fun σ H' => H' = H ∧ ∃ x y : Int, σ = [some (.int x), some (.int y)] ∧ 0 ≤ x ∧ 0 ≤ y ∧ Int.gcd x y = Int.gcd a b) (fun σ _ => match σ with | [_, some (.int y)] => y.natAbs | _ => 0) ⟨rfl, _, _, rfl, ?_, ?_, ?_⟩ ?_ ?_
  · split <;> omega
  · split <;> omega
  · have e : ∀ z : Int, (if z < 0 then -z else z) = ((z.natAbs : Nat) : Int) := fun z => by split <;> omega
    rw [e, e]
    unfold Int.gcd
    rw [Int.natAbs_natCast, Int.natAbs_natCast]
  · rintro σ H' ⟨rfl, x, y, rfl, x0, y0, e⟩
    refine ⟨_, rfl, _, _, rfl, rfl, _, rfl, ?_⟩
    refine ite2 (fun c => ?_) (fun c => ?_)
    · have c' : 0 < y := of_decide_eq_true c
      refine ⟨_, rfl, _, rfl, _, rfl, _, _, rfl, rfl, (show y ≠ 0 by omega), _, _, rfl, ⟨rfl, _, _, rfl, y0, Int.fmod_nonneg_of_pos _ c', ?_⟩, ?_⟩
      · rw [gcd_fmod]; exact e
      · exact fmod_small (by omega)
    · have c' : ¬ 0 < y := of_decide_eq_false (Bool.eq_false_iff.mpr c)
      have y1 : y = 0 := by omega
      subst y1
      refine ⟨_, rfl, ?_⟩
      rw [← e, Int.gcd_zero_right] at q
      have ex : ((x.natAbs : Nat) : Int) = x := by omega
      rw [ex] at q
      exact q
  · rintro σ H' Q1 Q2 hq ⟨v, h1, i, j, h2, h3, k, h4, h5⟩
    exact ⟨v, h1, i, j, h2, h3, k, h4, hq _ _ h5⟩
theorem ok_law_lowest {f : Addr} {fd : FuncData} (d_law_common : D P w K mg base "_law_common" 1 sp_gcd) (F : Fun K "_law_lowest" "_law_lowest" s_law_lowest f fd) : FnOk P w K mg base CX0 2 f fd ["_law_x", "_law_y", "_law_q"] (sp_low K) := by
  refine F.ok sc_law_lowest (fun vs H Q E h => ?_) (fun cdv A outer s H vs Q E hr h => ?_)
  · obtain ⟨x, y, d, rfl, _⟩ := h
    rfl
  obtain ⟨x, y, d, rfl, hd, hB, q⟩ := h
  refine ⟨_, (pss_cons (ps_set (i := 3) sc_law_lowest.nd rfl (by first | exact Or.inl rfl | exact Or.inr rfl) (pc d_law_common (hr.mono (by decide)) (pa_cons (pc d_law_common (hr.mono (by decide)) (pa_cons (pv 0) (pa_cons (pv 1) pa_nil))) (pa_cons (pv 2) pa_nil))))
    (pss_cons (ps_set (i := 3) sc_law_lowest.nd rfl (by first | exact Or.inl rfl | exact Or.inr rfl) (pe_ifExp (pt_cmpR (op_gt) (pv 2) pe_int (nomark _)) (pv 3) (pe_op op_sub pe_int (pv 3))))
    (pss_one (ps_ret (pe_tup (pa_cons (pe_op op_fdivX (pv 0) (pv 3)) (pa_cons (pe_op op_fdivX (pv 1) (pv 3)) (pa_cons (pe_op op_fdivX (pv 2) (pv 3)) pa_nil)))))))), ?_⟩
  refine ⟨_, rfl, _, rfl, _, _, rfl, _, rfl, _, _, rfl, ?_⟩
  refine ⟨_, rfl, _, _, rfl, rfl, _, rfl, ?_⟩
  have hc : CDivX x (sg x y d) ∧ CDivX y (sg x y d) ∧ CDivX d (sg x y d) := ⟨divX (sg_ne hd) (g3_lt hd hB) (by decide) (by decide), divX (sg_ne hd) (g3_lt hd hB) (by decide) (by decide), divX (sg_ne hd) (g3_lt hd hB) (by decide) (by decide)⟩
  refine ite2 (fun c => ?_) (fun c => ?_)
  · have es : sg x y d = g3 x y d := if_neg (by have := of_decide_eq_true c; omega)
    rw [es] at hc
    refine ⟨_, rfl, ?_⟩
    refine ⟨_, rfl, _, rfl, _, _, rfl, rfl, hc.1, _, rfl, _, rfl, _, _, rfl, rfl, hc.2.1, _, rfl, _, rfl, _, _, rfl, rfl, hc.2.2, (by show 3 ≤ sizeLine; decide), fun p hp => ?_⟩
    refine q _ _ (same_new hp _) ?_
    unfold low
    rw [es]
    exact IsT.new
  · have es : sg x y d = 0 - g3 x y d := by
      rw [Int.zero_sub]
      exact if_pos (by have := of_decide_eq_false (Bool.eq_false_iff.mpr c); omega)
    rw [es] at hc
    refine ⟨_, rfl, _, _, rfl, rfl, ?_⟩
    refine ⟨_, rfl, _, rfl, _, _, rfl, rfl, hc.1, _, rfl, _, rfl, _, _, rfl, rfl, hc.2.1, _, rfl, _, rfl, _, _, rfl, rfl, hc.2.2, (by show 3 ≤ sizeLine; decide), fun p hp => ?_⟩
    refine q _ _ (same_new hp _) ?_
    unfold low
    rw [es]
    exact IsT.new
/-! ### draws -/
structure TurnIn (t : T3) : Prop where
  ok : Ok t
  nz : Nz t
  bd : B 3 t
  mem : t ∈ turns13
structure SpotIn (t : T3) : Prop where
  ok : Ok t
  bd : B 3 t
def sp_draw (g : Hp → V → Prop) : Sp := fun vs H Q _ => ∃ (d : Addr) (st : Src), vs = [.ref d] ∧ H d = some (.lst (encD st)) ∧ SrcOk st ∧
  ∀ H' st' r, Keep d H H' → H' d = some (.lst (encD st')) → SrcOk st' → g H' r → Q r H'
instance (t : T3) : Decidable (Ok t) := inferInstanceAs (Decidable (_ ∧ _))
instance (t : T3) : Decidable (Nz t) := inferInstanceAs (Decidable (_ ∨ _))
theorem turns_in : ∀ t ∈ turns13, TurnIn t := by
  have h : ∀ t ∈ turns13, Ok t ∧ Nz t ∧ B 3 t := by decide +kernel
  exact fun t ht => ⟨(h t ht).1, (h t ht).2.1, (h t ht).2.2, ht⟩
theorem paired_at {ps : List Addr} {ts : List T3} {R : Addr → T3 → Prop} (h : Paired R ps ts) : ∀ {i : Nat}, i < ts.length → ∃ p t, ps[i]? = some p ∧ t ∈ ts ∧ R p t := by
  induction h with
  | nil => intro i hi; cases hi
  | cons r _ ih =>
    intro i hi
    cases i with
    | zero => exact ⟨_, _, rfl, List.mem_cons_self .., r⟩
    | succ i =>
      obtain ⟨p, t, h1, h2, h3⟩ := ih (i := i) (by simpa using hi)
      exact ⟨p, t, by simpa using h1, List.mem_cons_of_mem _ h2, h3⟩
theorem paired_app {R : Addr → T3 → Prop} : ∀ {ps qs : List Addr} {ts us : List T3}, Paired R ps ts → Paired R qs us → Paired R (ps ++ qs) (ts ++ us)
  | _, _, _, _, .nil, k => k
  | _, _, _, _, .cons r t, k => .cons r (paired_app t k)
theorem paired_imp {R S : Addr → T3 → Prop} (h : ∀ p t, R p t → S p t) : ∀ {ps : List Addr} {ts : List T3}, Paired R ps ts → Paired S ps ts
  | _, _, .nil => .nil
  | _, _, .cons r t => .cons (h _ _ r) (paired_imp h t)
theorem at_map {ps : List Addr} {i : Nat} {p : Addr} {z : Int} (h : ps[i]? = some p) (hz : z = (i : Int)) : atI (ps.map V.ref) z = some (.ref p) := by
  rw [hz]
  exact atI_nat (by rw [List.getElem?_map, h]; rfl)
theorem ok_law_turn {f : Addr} {fd : FuncData} (d_law_below : D P w K mg base "_law_below" 1 sp_below) (F : Fun K "_law_turn" "_law_turn" s_law_turn f fd) : FnOk P w K mg base CX0 2 f fd ["_law_d"] (sp_draw fun H r => ∃ t, IsT K H r t ∧ TurnIn t) := by
  refine F.ok sc_law_turn (fun vs H Q E h => ?_) (fun cdv A outer s H vs Q E hr h => ?_)
  · obtain ⟨d, st, rfl, _⟩ := h
    rfl
  obtain ⟨d, st, rfl, hd, ok, q⟩ := h
  refine ⟨_, (pss_cons (ps_set (i := 1) sc_law_turn.nd rfl (by first | exact Or.inl rfl | exact Or.inr rfl) (pe_lst (paT (t := (1, 0, 1)) (pe_tup (pa_cons pe_int (pa_cons pe_int (pa_cons pe_int pa_nil)))) (fun σ H Q h => ⟨(by show 3 ≤ sizeLine; decide), fun p hp => h _ _ (same_new hp _) (.inl (.inl upd_same))⟩) (paT (t := (-1, 0, 1)) (pe_tup (pa_cons (pe_op op_sub pe_int pe_int) (pa_cons pe_int (pa_cons pe_int pa_nil)))) (fun σ H Q h => ⟨_, _, rfl, rfl, (by show 3 ≤ sizeLine; decide), fun p hp => h _ _ (same_new hp _) (.inl (.inl upd_same))⟩) (paT (t := (0, 1, 1)) (pe_tup (pa_cons pe_int (pa_cons pe_int (pa_cons pe_int pa_nil)))) (fun σ H Q h => ⟨(by show 3 ≤ sizeLine; decide), fun p hp => h _ _ (same_new hp _) (.inl (.inl upd_same))⟩) (paT (t := (0, -1, 1)) (pe_tup (pa_cons pe_int (pa_cons (pe_op op_sub pe_int pe_int) (pa_cons pe_int pa_nil)))) (fun σ H Q h => ⟨_, _, rfl, rfl, (by show 3 ≤ sizeLine; decide), fun p hp => h _ _ (same_new hp _) (.inl (.inl upd_same))⟩) (paT (t := (2, 0, 1)) (pe_tup (pa_cons pe_int (pa_cons pe_int (pa_cons pe_int pa_nil)))) (fun σ H Q h => ⟨(by show 3 ≤ sizeLine; decide), fun p hp => h _ _ (same_new hp _) (.inl (.inl upd_same))⟩) (paT (t := (1, 0, 2)) (pe_tup (pa_cons pe_int (pa_cons pe_int (pa_cons pe_int pa_nil)))) (fun σ H Q h => ⟨(by show 3 ≤ sizeLine; decide), fun p hp => h _ _ (same_new hp _) (.inl (.inl upd_same))⟩) (paT (t := (1, 1, 1)) (pe_tup (pa_cons pe_int (pa_cons pe_int (pa_cons pe_int pa_nil)))) (fun σ H Q h => ⟨(by show 3 ≤ sizeLine; decide), fun p hp => h _ _ (same_new hp _) (.inl (.inl upd_same))⟩) (paT (t := (3, 4, 5)) (pe_tup (pa_cons pe_int (pa_cons pe_int (pa_cons pe_int pa_nil)))) (fun σ H Q h => ⟨(by show 3 ≤ sizeLine; decide), fun p hp => h _ _ (same_new hp _) (.inl (.inl upd_same))⟩) paT0))))))))))
    (pss_cons (ps_set (i := 1) sc_law_turn.nd rfl (by first | exact Or.inl rfl | exact Or.inr rfl) (pe_op op_cat (pv 1) (pe_lst (paT (t := (0, 2, 1)) (pe_tup (pa_cons pe_int (pa_cons pe_int (pa_cons pe_int pa_nil)))) (fun σ H Q h => ⟨(by show 3 ≤ sizeLine; decide), fun p hp => h _ _ (same_new hp _) (.inl (.inl upd_same))⟩) (paT (t := (-1, 0, 3)) (pe_tup (pa_cons (pe_op op_sub pe_int pe_int) (pa_cons pe_int (pa_cons pe_int pa_nil)))) (fun σ H Q h => ⟨_, _, rfl, rfl, (by show 3 ≤ sizeLine; decide), fun p hp => h _ _ (same_new hp _) (.inl (.inl upd_same))⟩) (paT (t := (1, -1, 2)) (pe_tup (pa_cons pe_int (pa_cons (pe_op op_sub pe_int pe_int) (pa_cons pe_int pa_nil)))) (fun σ H Q h => ⟨_, _, rfl, rfl, (by show 3 ≤ sizeLine; decide), fun p hp => h _ _ (same_new hp _) (.inl (.inl upd_same))⟩) (paT (t := (2, 1, 1)) (pe_tup (pa_cons pe_int (pa_cons pe_int (pa_cons pe_int pa_nil)))) (fun σ H Q h => ⟨(by show 3 ≤ sizeLine; decide), fun p hp => h _ _ (same_new hp _) (.inl (.inl upd_same))⟩) (paT (t := (-4, 3, 5)) (pe_tup (pa_cons (pe_op op_sub pe_int pe_int) (pa_cons pe_int (pa_cons pe_int pa_nil)))) (fun σ H Q h => ⟨_, _, rfl, rfl, (by show 3 ≤ sizeLine; decide), fun p hp => h _ _ (same_new hp _) (.inl (.inl upd_same))⟩) paT0))))))))
    (pss_one (ps_ret (pe_ix ix_list (pv 1) (pc d_law_below (hr.mono (by decide)) (pa_cons (pv 0) (pa_cons pe_int pa_nil))) (fun _ _ => rfl)))))), ?_⟩
  intro H1 ps s1 h1
  have l1 : (ps.map V.ref).length = 8 := by rw [List.length_map, Paired.length h1]; rfl
  refine ⟨by rw [l1]; decide, fun a ha => ?_⟩
  refine ⟨_, rfl, ?_⟩
  intro H2 qs s2 h2
  have l2 : (qs.map V.ref).length = 5 := by rw [List.length_map, Paired.length h2]; rfl
  refine ⟨by rw [l2]; decide, fun b hb => ?_⟩
  have sa := same_new ha (.lst (ps.map V.ref))
  have sb := same_new hb (.lst (qs.map V.ref))
  refine ⟨a, b, _, _, rfl, rfl, sb _ _ (s2 _ _ upd_same), upd_same, by rw [l1, l2]; decide, fun c hc => ?_⟩
  have sc := same_new hc (.lst (ps.map V.ref ++ qs.map V.ref))
  have sAll := s1.trans (sa.trans (s2.trans (sb.trans sc)))
  refine ⟨_, rfl, _, rfl, d, _, st, rfl, by decide, by decide, sAll _ _ hd, ok, fun st' r ok' r0 r1 => ?_⟩
  have hcd : c ≠ d := fun z => by
    have := sb _ _ (s2 _ _ (sa _ _ (s1 _ _ hd)))
    rw [← z, hc] at this
    cases this
  have pr : Paired (fun p t => SqT K (upd (upd (upd H2 b (.lst (qs.map V.ref))) c (.lst (ps.map V.ref ++ qs.map V.ref))) d (.lst (encD st'))) p (v3 t)) (ps ++ qs) turns13 :=
    paired_app (paired_imp (fun p t z => keep_T (same_T (sa.trans (s2.trans (sb.trans sc))) z) (sAll _ _ hd) keep_upd) h1) (paired_imp (fun p t z => keep_T (same_T (sb.trans sc) z) (sAll _ _ hd) keep_upd) h2)
  obtain ⟨p, t, e1, e2, e3⟩ := paired_at pr (i := r.toNat) (by show r.toNat < 13; omega)
  refine ⟨c, _, _, _, rfl, rfl, .inl (.inl ?_), at_map (ps := ps ++ qs) e1 (by omega), ?_⟩
  · rw [upd_ne hcd, upd_same, List.map_append]
  · exact q _ st' _ ((Keep.of sAll).trans keep_upd) upd_same ok' ⟨t, ⟨p, rfl, e3⟩, turns_in t e2⟩
theorem ok_law_spot {f : Addr} {fd : FuncData} (d_law_below : D P w K mg base "_law_below" 1 sp_below) (d_law_lowest : D P w K mg base "_law_lowest" 2 (sp_low K)) (F : Fun K "_law_spot" "_law_spot" s_law_spot f fd) : FnOk P w K mg base CX0 3 f fd ["_law_d"] (sp_draw fun H r => ∃ t, IsT K H r t ∧ SpotIn t) := by
  refine F.ok sc_law_spot (fun vs H Q E h => ?_) (fun cdv A outer s H vs Q E hr h => ?_)
  · obtain ⟨d, st, rfl, _⟩ := h
    rfl
  obtain ⟨d, st, rfl, hd, ok, q⟩ := h
  refine ⟨_, (pss_cons (ps_set (i := 1) sc_law_spot.nd rfl (by first | exact Or.inl rfl | exact Or.inr rfl) (pe_ix ix_list (pe_lst (pa_cons pe_int (pa_cons pe_int (pa_cons pe_int (pa_cons pe_int (pa_cons pe_int (pa_cons pe_int pa_nil))))))) (pc d_law_below (hr.mono (by decide)) (pa_cons (pv 0) (pa_cons pe_int pa_nil))) (fun _ _ => rfl)))
    (pss_one (ps_ret (pc d_law_lowest (hr.mono (by decide)) (pa_cons (pe_op op_sub (pc d_law_below (hr.mono (by decide)) (pa_cons (pv 0) (pa_cons pe_int pa_nil))) pe_int) (pa_cons (pe_op op_sub (pc d_law_below (hr.mono (by decide)) (pa_cons (pv 0) (pa_cons pe_int pa_nil))) pe_int) (pa_cons (pv 1) pa_nil))))))), ?_⟩
  refine ⟨(by show 6 ≤ sizeLine; decide), fun a ha => ?_⟩
  have sa := same_new ha (.lst [.int 1, .int 1, .int 1, .int 2, .int 3, .int 4])
  refine ⟨_, rfl, d, _, st, rfl, by decide, by decide, sa _ _ hd, ok, fun st1 r ok1 r0 r1 => ?_⟩
  have had : a ≠ d := fun z => by rw [← z, ha] at hd; cases hd
  obtain ⟨c, hc, c1, c4⟩ : ∃ c : Int, atI [V.int 1, .int 1, .int 1, .int 2, .int 3, .int 4] r = some (.int c) ∧ 1 ≤ c ∧ c ≤ 4 := by
    have : r = 0 ∨ r = 1 ∨ r = 2 ∨ r = 3 ∨ r = 4 ∨ r = 5 := by omega
    rcases this with rfl | rfl | rfl | rfl | rfl | rfl
    · exact ⟨1, by rfl, by decide, by decide⟩
    · exact ⟨1, by rfl, by decide, by decide⟩
    · exact ⟨1, by rfl, by decide, by decide⟩
    · exact ⟨2, by rfl, by decide, by decide⟩
    · exact ⟨3, by rfl, by decide, by decide⟩
    · exact ⟨4, by rfl, by decide, by decide⟩
  refine ⟨a, _, _, _, rfl, rfl, .inl (.inl (by rw [upd_ne had]; exact upd_same)), hc, ?_⟩
  refine ⟨_, rfl, d, _, st1, rfl, by decide, by decide, upd_same, ok1, fun st2 x ok2 x0 x1 => ?_⟩
  refine ⟨_, _, rfl, rfl, _, rfl, d, _, st2, rfl, by decide, by decide, upd_same, ok2, fun st3 y ok3 y0 y1 => ?_⟩
  refine ⟨_, _, rfl, rfl, _, rfl, _, _, _, rfl, (by omega), (show c.natAbs < 2 ^ 8500 from Nat.lt_of_lt_of_le (show c.natAbs < 2 ^ 3 by omega) (pw (by decide))), fun H' r' s' i => ?_⟩
  refine q _ st3 _ ((Keep.of sa).trans (keep_upd.trans (keep_upd.trans (keep_upd.trans (Keep.of s'))))) (s' _ _ upd_same) ok3 ⟨_, i, low_ok (by omega), low_B (by omega) ?_ ?_ ?_⟩ <;> show _ < 8 <;> omega
end
end My

namespace My
open PySem L2 Mth

section
variable {P : Program} {w : World} {K : PySem.W.Frag} {mg : Str → Option Value} {base : Heap}
/-- a copy as it is told: (turn, shift, mirrored) -/
def IsD (K : PySem.W.Frag) (H : Hp) (v : V) (c : Cp) : Prop := ∃ p a b, v = .ref p ∧ SqT K H p [.ref a, .ref b, .bl c.m] ∧ SqT K H a (v3 c.t) ∧ SqT K H b (v3 c.s)
theorem IsD.same {H H' : Hp} {v : V} {c : Cp} (h : IsD K H v c) (e : Same H H') : IsD K H' v c := by
  obtain ⟨p, a, b, rfl, h1, h2, h3⟩ := h
  exact ⟨p, a, b, rfl, same_T e h1, same_T e h2, same_T e h3⟩
theorem IsD.keep {H H' : Hp} {v : V} {c : Cp} {d : Addr} {ys : List V} (h : IsD K H v c) (hd : H d = some (.lst ys)) (e : Keep d H H') : IsD K H' v c := by
  obtain ⟨p, a, b, rfl, h1, h2, h3⟩ := h
  exact ⟨p, a, b, rfl, keep_T h1 hd e, keep_T h2 hd e, keep_T h3 hd e⟩
structure CopyIn (c : Cp) : Prop where
  ok : CpOk c
  bd : BC 3 c
  mem : c.t ∈ turns13
def sp_lcar (K : PySem.W.Frag) : Sp := fun vs H Q _ => ∃ vc c vz z, vs = [vc, vz] ∧ IsD K H vc c ∧ CpOk c ∧ BC 1900 c ∧ IsT K H vz z ∧ Ok z ∧ B 1900 z ∧ ∀ H' r, Same H H' → IsT K H' r (ap c z) → Q r H'
/-! ### equal at every level -/
theorem DpAll.get {H : Hp} : ∀ {xs : List V} {ds : List PyData}, DpAll K H xs ds → xs.length = ds.length ∧ ∀ (i : Nat) x, xs[i]? = some x → ∃ d, ds[i]? = some d ∧ Dp K H x d
  | _, _, .nil => ⟨rfl, fun i x h => by simp at h⟩
  | _, _, .cons h t => by
    obtain ⟨e, g⟩ := DpAll.get t
    refine ⟨by rw [List.length_cons, List.length_cons, e], fun i x hx => ?_⟩
    cases i with
    | zero => exact ⟨_, rfl, by simp at hx; rw [← hx]; exact h⟩
    | succ i => exact g i x (by simpa using hx)
mutual
theorem Dp.same {H H' : Hp} (s : Same H H') : ∀ {v : V} {d : PyData}, Dp K H v d → Dp K H' v d
  | _, _, .non => .non
  | _, _, .bl b => .bl b
  | _, _, .int i => .int i
  | _, _, .str x => .str x
  | _, _, .lst h t => .lst (s.seq h) (DpAll.same s t)
  | _, _, .tup h t => .tup (same_T s h) (DpAll.same s t)
theorem DpAll.same {H H' : Hp} (s : Same H H') : ∀ {vs : List V} {ds : List PyData}, DpAll K H vs ds → DpAll K H' vs ds
  | _, _, .nil => .nil
  | _, _, .cons h t => .cons (Dp.same s h) (DpAll.same s t)
end
/-- how deep -/
def Deep : Nat → PyData → Prop
  | 0, _ => False
  | n + 1, .list ds => ds.length ≤ 1000 ∧ ∀ d ∈ ds, Deep n d
  | n + 1, .tuple ds => ds.length ≤ 1000 ∧ ∀ d ∈ ds, Deep n d
  | _ + 1, .dict _ => False
  | _ + 1, _ => True
def sp_equal (K : PySem.W.Frag) (n : Nat) : Sp := fun vs H Q _ => ∃ va vb d, vs = [va, vb] ∧ Dp K H va d ∧ Dp K H vb d ∧ Deep n d ∧ ∀ H', Same H H' → Q (.bl true) H'
theorem ty_L {H : Hp} {a : Addr} {xs : List V} (h : SqL K H a xs) : TyX K H (.ref a) (.type "list") := by
  rcases h with (h | ⟨o, h⟩) | ⟨o, its, n, h, c, _⟩
  · exact .base (.lst h)
  · exact .base (.frz h)
  · exact .kList h c
end
end My

namespace My
open PySem L2 Mth
section
variable {K : PySem.W.Frag}
theorem IsC.keep {C : Addr} {H H' : Hp} {v : V} {c : Cp} {d : Addr} {ys : List V} (h : IsC K C H v c) (hd : H d = some (.lst ys)) (e : Keep d H H') : IsC K C H' v c := by
  obtain ⟨p, dx, a, b, rfl, h1, h2, h3⟩ := h
  exact ⟨p, dx, a, b, rfl, e _ _ (ne_of h1 hd (by intro z; cases z)) h1, keep_T h2 hd e, keep_T h3 hd e⟩
def sp_copyOf (K : PySem.W.Frag) (C : Addr) : Sp := fun vs H Q _ => ∃ vc c, vs = [vc] ∧ IsD K H vc c ∧ CpOk c ∧ ∀ H' r, Same H H' → IsC K C H' r c → Q r H'
end
end My

namespace My
open PySem L2 Mth
section
variable {K : PySem.W.Frag}
theorem asg_of {te : TE} {g : TG} {u : TS} {D : Ends} {σ : L2.St} {H : Hp} (h : te σ H fun x H1 => g x σ H1 (u D)) : tSeq (tAsg te g) u D σ H := h
theorem gn_of {i : Nat} {v : V} {σ : L2.St} {H : Hp} {Q : L2.St → Hp → Prop} (h : Q (σ.set i (some v)) H) : gName i v σ H Q := h
theorem nil_of {σ : L2.St} {H : Hp} {Q : List V → Hp → Prop} (h : Q [] H) : tNil σ H Q := h
theorem te_join {t : TE} {σ : L2.St} {H : Hp} {Q : VK} (W : V → Hp → Prop) (k : ∀ v H', W v H' → Q v H') (h : ∀ Q' : VK, (∀ v H', W v H' → Q' v H') → t σ H Q') : t σ H Q := h Q k
theorem seq_assoc {A B C : TS} {D : Ends} {σ : L2.St} {H : Hp} (h : tSeq (tSeq A B) C D σ H) : tSeq A (tSeq B C) D σ H := h
end
end My

namespace My
open PySem L2 Mth
section
variable {K : PySem.W.Frag}
theorem t3_of {H : Hp} {Q : VK} {t : T3} (q : ∀ H' r, Same H H' → IsT K H' r t → Q r H') : ∀ p, H p = none → Q (.ref p) (upd H p (.tup (v3 t))) := fun p hp => q _ _ (same_new hp _) ⟨p, rfl, .inl (.inl upd_same)⟩
theorem eqv2 (a b : Int) : PyData.eqv (.tuple [.int a, .int b]) (.tuple [.int a, .int b]) = true := by
  show ((a == a) && ((b == b) && true)) = true
  simp
theorem Dp2 {H : Hp} {p : Addr} {a b : Int} (h : SqT K H p [.int a, .int b]) : Dp K H (.ref p) (.tuple [.int a, .int b]) := .tup h (.cons (.int _) (.cons (.int _) .nil))
theorem IsT.dp {H : Hp} {v : V} {t : T3} (h : IsT K H v t) : Dp K H v (d3 t) := by
  obtain ⟨p, rfl, q⟩ := h
  exact Dp3 q
theorem deep3 (n : Nat) (t : T3) : Deep (n + 2) (d3 t) := by
  refine ⟨(by show 3 ≤ 1000; decide), fun d hd => ?_⟩
  simp only [List.mem_cons, List.mem_nil_iff, or_false] at hd
  rcases hd with rfl | rfl | rfl <;> trivial
theorem deep2 (n : Nat) (a b : Int) : Deep (n + 2) (.tuple [.int a, .int b]) := by
  refine ⟨(by show 2 ≤ 1000; decide), fun d hd => ?_⟩
  simp only [List.mem_cons, List.mem_nil_iff, or_false] at hd
  rcases hd with rfl | rfl <;> trivial
/-- equal at every level, of two spots -/
theorem eq3_of {H : Hp} {Q : VK} {va vb : V} {a b : T3} {n : Nat} (ia : IsT K H va a) (ib : IsT K H vb b) (e : a = b) (q : ∀ H', Same H H' → Q (.bl true) H') : sp_equal K (n + 2) [va, vb] H Q E0 := by
  subst e
  exact ⟨va, vb, d3 a, rfl, ia.dp, ib.dp, deep3 n a, q⟩
end
end My

namespace My
open PySem L2 Mth
open PyProof.Rows PySem.Spec
section
variable {P : Program} {w : World} {K : PySem.W.Frag} {mg : Str → Option Value} {base : Heap}
/-! ### the class's operations as its users see them -/
structure MRs (P : Program) (w : World) (K : PySem.W.Frag) (mg : Str → Option Value) (base : Heap) (C : Addr) : Prop where
  sf : PySem.W.selfFirst K C = true
  ex : ∃ f, FnR P w K mg base CX0 6 f (sp_jn K C) ∧ PySem.W.findIn K (.ref C) "__rshift__" = some (some (.ref f)) ∧ PySem.W.isFn K (.ref f) = true
structure MIv (P : Program) (w : World) (K : PySem.W.Frag) (mg : Str → Option Value) (base : Heap) (C : Addr) : Prop where
  ex : ∃ f, FnR P w K mg base CX0 6 f (sp_bk K C) ∧ PySem.W.findIn K (.ref C) "__invert__" = some (some (.ref f)) ∧ PySem.W.isFn K (.ref f) = true
structure MEq (P : Program) (w : World) (K : PySem.W.Frag) (mg : Str → Option Value) (base : Heap) (C : Addr) : Prop where
  ex : ∃ f, FnR P w K mg base CX0 1 f (sp_ceq K C) ∧ PySem.W.findIn K (.ref C) "__eq__" = some (some (.ref f)) ∧ PySem.W.isFn K (.ref f) = true
structure MCa (P : Program) (w : World) (K : PySem.W.Frag) (mg : Str → Option Value) (base : Heap) (C : Addr) : Prop where
  ex : ∃ f, FnR P w K mg base CX0 5 f (sp_ap K C) ∧ StX.CallO K C f
structure MPt (P : Program) (w : World) (K : PySem.W.Frag) (mg : Str → Option Value) (base : Heap) (C : Addr) : Prop where
  cl : Cls K C
  ex : ∃ f fd p, FnOk P w K mg base CX0 1 f fd ["self"] (sp_get K C fun c H r => IsT K H r c.t) ∧ Binds K fd ["self"] [] ∧ PropOf K C "turn" p f
structure MPs (P : Program) (w : World) (K : PySem.W.Frag) (mg : Str → Option Value) (base : Heap) (C : Addr) : Prop where
  cl : Cls K C
  ex : ∃ f fd p, FnOk P w K mg base CX0 1 f fd ["self"] (sp_get K C fun c H r => IsT K H r c.s) ∧ Binds K fd ["self"] [] ∧ PropOf K C "shift" p f
structure MPm (P : Program) (w : World) (K : PySem.W.Frag) (mg : Str → Option Value) (base : Heap) (C : Addr) : Prop where
  cl : Cls K C
  ex : ∃ f fd p, FnOk P w K mg base CX0 1 f fd ["self"] (sp_get K C fun c H r => r = .bl c.m) ∧ Binds K fd ["self"] [] ∧ PropOf K C "mirrored" p f
structure MPg (P : Program) (w : World) (K : PySem.W.Frag) (mg : Str → Option Value) (base : Heap) (C : Addr) : Prop where
  cl : Cls K C
  ex : ∃ f fd p, FnOk P w K mg base CX0 3 f fd ["self"] (sp_growth K C) ∧ Binds K fd ["self"] [] ∧ PropOf K C "growth" p f
section
variable {X : Cx} {C : Addr} {fe e : Expr} {es : List Expr} {te tf : TE} {t : TA} {pos : Pos}
theorem op_rsh (M : MRs X.prog X.w X.K X.mg X.base C) (hr : Room 6 X.A) : OpR X (binaryOp .RShift) (rOwn2 C (sp_jn X.K C)) := by
  obtain ⟨f, F, h1, h2⟩ := M.ex
  exact op_own (op := .RShift) F hr M.sf h1 h2
theorem un_inv' (M : MIv X.prog X.w X.K X.mg X.base C) (hr : Room 6 X.A) : UnR X (unaryOp .Invert) (rOwn1 C (sp_bk X.K C)) := by
  obtain ⟨f, F, h1, h2⟩ := M.ex
  exact un_own F hr h1 h2
theorem op_ceq (M : MEq X.prog X.w X.K X.mg X.base C) (hr : Room 1 X.A) : OpR X (compareOp .Eq) (rOwn2 C (sp_ceq X.K C)) := by
  obtain ⟨f, F, h1, h2⟩ := M.ex
  exact eq_own F hr h1 h2
def tAp (K : PySem.W.Frag) (C : Addr) (tf : TE) (t : TA) : TE := fun σ H Q => tf σ H fun y H1 => ∃ a, y = V.ref a ∧ t σ H1 fun vs H2 => (∃ dx fs, H2 a = some (.ins C dx fs)) ∧ sp_ap K C (V.ref a :: vs) H2 Q E0
theorem pe_ap (M : MCa X.prog X.w X.K X.mg X.base C) (hr : Room 5 X.A) (hf : PE X fe tf) (ha : PA X (e :: es) t)
    (ht : eval (.Call fe (e :: es) [] pos) X.env = (do callWith pos (← eval fe X.env) [] (backTo pos (starEach (e :: es) X.env)) (backToKw pos (keywordEach [] X.env))) := by rfl)
    (he : starEach (e :: es) X.env = (false, eval e X.env) :: starEach es X.env := by rfl) (hpl : (backTo pos (starEach es X.env)).any (·.1) = false := by rfl) : PE X (.Call fe (e :: es) [] pos) (tAp X.K C tf t) := by
  obtain ⟨g, F, c⟩ := M.ex
  refine ⟨fun pins s σ H Q I h => ?_⟩
  refine Call_ (thn (hf.run pins s σ H _ I h) fun u s1 ⟨y, H1, I1, ry, a, ey, q⟩ => ?_) ht
  subst ey
  obtain rfl : u = Value.ref a := ry
  refine StX.callO_with (thn (ha.run pos pins s1 σ H1 _ I1 q) fun us s2 ⟨vs, H2, I2, r, hi, q2⟩ => ?_) he hpl
  have hi' : StX.InsC X H2 a C := .inr hi
  obtain ⟨ox, od, J, hd⟩ := StX.insC_at I2 hi'
  exact ⟨⟨C, ox, od, J, hd⟩, StX.run_callO c F hr pass0 I2 hi' r q2⟩
theorem pe_turn (M : MPt X.prog X.w X.K X.mg X.base C) (hr : Room 2 X.A) (he : PE X e te) (hab : attributeBase e "turn" X.env (eval e X.env) = eval e X.env := by rfl) : PE X (.Attribute e "turn" pos) (tProp C (sp_get X.K C fun c H r => IsT X.K H r c.t) [] E0 te) := by
  obtain ⟨f, fd, p, F, b, hp⟩ := M.ex
  exact pe_prop he M.cl hp F hr b .nil pass0 hab
theorem pe_shift (M : MPs X.prog X.w X.K X.mg X.base C) (hr : Room 2 X.A) (he : PE X e te) (hab : attributeBase e "shift" X.env (eval e X.env) = eval e X.env := by rfl) : PE X (.Attribute e "shift" pos) (tProp C (sp_get X.K C fun c H r => IsT X.K H r c.s) [] E0 te) := by
  obtain ⟨f, fd, p, F, b, hp⟩ := M.ex
  exact pe_prop he M.cl hp F hr b .nil pass0 hab
theorem pe_mirr (M : MPm X.prog X.w X.K X.mg X.base C) (hr : Room 2 X.A) (he : PE X e te) (hab : attributeBase e "mirrored" X.env (eval e X.env) = eval e X.env := by rfl) : PE X (.Attribute e "mirrored" pos) (tProp C (sp_get X.K C fun c _ r => r = .bl c.m) [] E0 te) := by
  obtain ⟨f, fd, p, F, b, hp⟩ := M.ex
  exact pe_prop he M.cl hp F hr b .nil pass0 hab
theorem pe_grow (M : MPg X.prog X.w X.K X.mg X.base C) (hr : Room 4 X.A) (he : PE X e te) (hab : attributeBase e "growth" X.env (eval e X.env) = eval e X.env := by rfl) : PE X (.Attribute e "growth" pos) (tProp C (sp_growth X.K C) [] E0 te) := by
  obtain ⟨f, fd, p, F, b, hp⟩ := M.ex
  exact pe_prop he M.cl hp F hr b .nil pass0 hab
end
/-! ### readings of these, from what is known of the objects -/
theorem prop_of {C : Addr} {H : Hp} {Q : VK} {sp : Sp} {v : V} {c : Cp} (i : IsC K C H v c) (q : sp [v] H Q E0) : ∃ a dx fs, v = .ref a ∧ H a = some (.ins C dx fs) ∧ sp (.ref a :: []) H Q E0 := by
  obtain ⟨p, dx, a, b, rfl, h1, _⟩ := i
  exact ⟨p, dx, _, rfl, h1, q⟩
theorem ap_of {C : Addr} {H2 : Hp} {Q : VK} {vz : V} {a : Addr} {c : Cp} {z : T3} (i : IsC K C H2 (.ref a) c) (ok : CpOk c) (bc : BC 1900 c) (iz : IsT K H2 vz z) (oz : Ok z) (bz : B 1900 z) (q : ∀ H' r, Same H2 H' → IsT K H' r (ap c z) → Q r H') :
    (∃ dx fs, H2 a = some (.ins C dx fs)) ∧ sp_ap K C [.ref a, vz] H2 Q E0 := by
  have i' := i
  obtain ⟨p, dx, _, _, e, h1, _⟩ := i
  cases e
  exact ⟨⟨dx, _, h1⟩, _, c, _, z, rfl, i', ok, bc, iz, oz, bz, q⟩
theorem jn_of {C : Addr} {H : Hp} {Q : VK} {x y : V} {a b : Cp} (ix : IsC K C H x a) (iy : IsC K C H y b) (oa : CpOk a) (ob : CpOk b) (ba : BC 1900 a) (bb : BC 1900 b) (q : ∀ H' r, Same H H' → IsC K C H' r (jn a b) → Q r H') : rOwn2 C (sp_jn K C) x y H Q :=
  own2_of ix iy ⟨_, a, _, b, rfl, ix, iy, oa, ob, ba, bb, q⟩
theorem bk_of {C : Addr} {H : Hp} {Q : VK} {x : V} {a : Cp} (ix : IsC K C H x a) (oa : CpOk a) (ba : BC 1900 a) (q : ∀ H' r, Same H H' → IsC K C H' r (bk a) → Q r H') : rOwn1 C (sp_bk K C) x H Q :=
  own1_of ix ⟨_, a, rfl, ix, oa, ba, q⟩
theorem ceq_of {C : Addr} {H : Hp} {Q : VK} {x y : V} {a b : Cp} (ix : IsC K C H x a) (iy : IsC K C H y b) (e : a = b) (q : Q (.bl true) H) : rOwn2 C (sp_ceq K C) x y H Q :=
  own2_of ix iy ⟨_, a, _, b, rfl, ix, iy, by rw [ceq_iff.mpr e]; exact q⟩
/-- a copy made, whatever is wanted of it -/
theorem mk_of2 {C : Addr} {H : Hp} {Qf : Addr → VK} {vt vs : V} {m : Bool} {t s : T3} (it : IsT K H vt t) (is : IsT K H vs s) (ot : Ok t) (nt : Nz t) (os : Ok s) (q : ∀ H' x, Same H H' → IsC K C H' (.ref x) ⟨t, s, m⟩ → Qf x .non H') :
    ∀ x dx, H x = none → H dx = none → dx ≠ x → sp_init K C [.ref x, vt, vs, .bl m] (upd (upd H dx (.own x)) x (.ins C dx [])) (Qf x) E0 := by
  intro x dx hx hd _
  refine ⟨H, x, dx, vt, vs, m, t, s, rfl, fun c o e => ?_, hx, upd_same, it, is, ot, nt, os, fun H' s' i => q _ _ s' i⟩
  rw [upd_ne (ne_of_none e hx), upd_ne (ne_of_none e hd)]
  exact e
theorem BC.mono {n m : Nat} {c : Cp} (b : BC n c) (h : n ≤ m) : BC m c := ⟨b.1.mono h, b.2.mono h⟩
theorem bk_BC {n : Nat} {c : Cp} (ok : CpOk c) (b : BC n c) : BC (3 * n + 2) (bk c) :=
  ⟨(face_B (inv_B ok.n b.1) _).mono (by omega), (face_B (neg_B (times_B (inv_ok ok.n) ok.s (inv_B ok.n b.1) b.2)) _).mono (by omega)⟩
theorem jn_BC {n m : Nat} {a b : Cp} (oa : CpOk a) (ob : CpOk b) (ba : BC n a) (bb : BC m b) : BC (n + 2 * m + 2) (jn a b) :=
  ⟨(times_B ob.t (face_ok oa.t _) bb.1 (face_B ba.1 _)).mono (by omega), (car_B ob.t ob.s oa.s bb.1 bb.2 ba.2).mono (by omega)⟩
theorem ap_B {n m : Nat} {c : Cp} {z : T3} (ok : CpOk c) (oz : Ok z) (b : BC n c) (bz : B m z) : B (2 * n + m + 2) (ap c z) := (car_B ok.t ok.s oz b.1 b.2 bz).mono (by omega)
theorem still_BC : BC 3 still := by unfold BC; exact ⟨by decide, by decide⟩
theorem gr3_B {t : T3} (o : Ok t) (b : B 3 t) : B 4000 (gr3 t) :=
  B.mono (n := 7) (low_B (mul_ne o.ne o.ne) (add_lt (mul_lt b.1 b.1) (mul_lt b.2.1 b.2.1)) (by decide) (up_lt (by decide) (mul_lt b.2.2 b.2.2))) (by decide)
end
end My

namespace My
open PySem L2 Mth
section
variable {P : Program} {w : World} {K : PySem.W.Frag} {mg : Str → Option Value} {base : Heap}
theorem bind_init {f : Addr} {fd : FuncData} (F : FunD K "__init__" "Copy.__init__" (defArgs s_Copy___init__) (defBody s_Copy___init__) (defScope s_Copy___init__) [] [("mirrored", .bl false)] f fd) :
    (∃ ds, Vals [.bl false] ds ∧ Binds K fd ["self", "turn", "shift", "mirrored"] ds) ∧ ∃ mv : List Value, KBn K fd ["self", "turn", "shift", "mirrored"] 3 ["mirrored"] (fun us ws => us ++ ws) (fun vs zs => vs ++ zs) := by
  refine ⟨F.binds0 (ps := ["self", "turn", "shift", "mirrored"]) 3 (by intro z; cases z) rfl fun D doc pm an cdv ct us ks h1 h2 => ?_, ?_⟩
  · match us, ks, h1, h2 with
    | [x, y, z], [k], _, _ => exact ⟨_, _, _, _, _, _, rfl, rfl, rfl⟩
  · refine F.kbinds0 (ps := ["self", "turn", "shift", "mirrored"]) 3 ["mirrored"] [] (fun us _ ws => us ++ ws) (by intro z; cases z) (fun q hq => by cases hq) (fun r1 _ r3 => r1.append r3) fun D doc pm an cdv ct us mv ws h1 h2 h3 => ?_
    match us, mv, ws, h1, h2, h3 with
    | [x, y, z], [], [k], _, _, _ => rfl
end
end My

namespace My
open PySem L2 Mth
section
theorem pimp {α β : Type} {R S : α → β → Prop} (h : ∀ p t, R p t → S p t) : ∀ {ps : List α} {ts : List β}, Paired R ps ts → Paired S ps ts
  | _, _, .nil => .nil
  | _, _, .cons r t => .cons (h _ _ r) (pimp h t)
theorem papp {α β : Type} {R : α → β → Prop} : ∀ {ps qs : List α} {ts us : List β}, Paired R ps ts → Paired R qs us → Paired R (ps ++ qs) (ts ++ us)
  | _, _, _, _, .nil, k => k
  | _, _, _, _, .cons r t, k => .cons r (papp t k)
theorem pget {α β : Type} {R : α → β → Prop} : ∀ {ps : List α} {ts : List β}, Paired R ps ts → ∀ {i : Nat} {p : α}, ps[i]? = some p → ∃ t, ts[i]? = some t ∧ R p t
  | _, _, .nil, i, p, h => by simp at h
  | _, _, .cons r t, 0, p, h => ⟨_, rfl, by simp at h; rw [← h]; exact r⟩
  | _, _, .cons r t, i + 1, p, h => by
    obtain ⟨u, h1, h2⟩ := pget t (i := i) (p := p) (by simpa using h)
    exact ⟨u, by simpa using h1, h2⟩
theorem prev {α β : Type} {R : α → β → Prop} {l : List α} {m : List β} (h : Paired R l m) : Paired R l.reverse m.reverse := by
  induction h with
  | nil => exact .nil
  | cons r _ ih => rw [List.reverse_cons, List.reverse_cons]; exact papp ih (.cons r .nil)
theorem pdrop {α β : Type} {R : α → β → Prop} {l : List α} {m : List β} (h : Paired R l m) : ∀ n, Paired R (l.drop n) (m.drop n) := by
  induction h with
  | nil => intro n; rw [List.drop_nil, List.drop_nil]; exact .nil
  | cons r t ih =>
    intro n
    cases n with
    | zero => exact .cons r t
    | succ n => exact ih n
theorem ptake {α β : Type} {R : α → β → Prop} {l : List α} {m : List β} (h : Paired R l m) : ∀ n, Paired R (l.take n) (m.take n) := by
  induction h with
  | nil => intro n; rw [List.take_nil, List.take_nil]; exact .nil
  | cons r t ih =>
    intro n
    cases n with
    | zero => exact .nil
    | succ n => exact .cons r (ih n)
end
end My

namespace My
open PySem L2 Mth
section
variable {K : PySem.W.Frag}
/-- a list of told copies, and of copies -/
def AllD (K : PySem.W.Frag) (H : Hp) (vs : List V) (cs : List Cp) : Prop := Paired (fun v c => IsD K H v c) vs cs
def AllC (K : PySem.W.Frag) (C : Addr) (H : Hp) (vs : List V) (cs : List Cp) : Prop := Paired (fun v c => IsC K C H v c) vs cs
theorem AllD.same {H H' : Hp} {vs : List V} {cs : List Cp} (h : AllD K H vs cs) (s : Same H H') : AllD K H' vs cs := pimp (fun _ _ i => i.same s) h
theorem AllC.same {C : Addr} {H H' : Hp} {vs : List V} {cs : List Cp} (h : AllC K C H vs cs) (s : Same H H') : AllC K C H' vs cs := pimp (fun _ _ i => i.same s) h
theorem AllD.keep {H H' : Hp} {vs : List V} {cs : List Cp} {d : Addr} {ys : List V} (h : AllD K H vs cs) (hd : H d = some (.lst ys)) (k : Keep d H H') : AllD K H' vs cs := pimp (fun _ _ i => i.keep hd k) h
theorem AllC.keep {C : Addr} {H H' : Hp} {vs : List V} {cs : List Cp} {d : Addr} {ys : List V} (h : AllC K C H vs cs) (hd : H d = some (.lst ys)) (k : Keep d H H') : AllC K C H' vs cs := pimp (fun _ _ i => i.keep hd k) h
theorem keep_new {d p : Addr} {H : Hp} {o : HO} (h : H p = none) : Keep d H (upd H p o) := Keep.of (same_new h o)
/-- the tolds that a comprehension over range(n) draws: the heap behind it -/
structure Drawn (K : PySem.W.Frag) (d L : Addr) (H H' : Hp) (n : Nat) : Prop where
  ex : ∃ st vs cs, Keep d H H' ∧ H' d = some (.lst (encD st)) ∧ SrcOk st ∧ H' L = some (.lst vs) ∧ vs.length = n ∧ AllD K H' vs cs ∧ ∀ c ∈ cs, CopyIn c
theorem drawn_start {d L : Addr} {H : Hp} {st : Src} (hd : H d = some (.lst (encD st))) (ok : SrcOk st) (hL : H L = none) : Drawn K d L H (upd H L (.lst [])) 0 :=
  ⟨st, [], [], keep_new hL, (same_new hL _) _ _ hd, ok, upd_same, rfl, .nil, fun c hc => by cases hc⟩
theorem drawn_more {d L : Addr} {H H1 H2 : Hp} {n : Nat} {st st2 : Src} {v : V} {c : Cp} {vs : List V} {cs : List Cp} (hL : H L = none) (hdL : L ≠ d) (k1 : Keep d H H1) (hd1 : H1 d = some (.lst (encD st))) (h1 : H1 L = some (.lst vs)) (hn : vs.length = n) (a : AllD K H1 vs cs) (g : ∀ c ∈ cs, CopyIn c)
    (k2 : Keep d H1 H2) (hd2 : H2 d = some (.lst (encD st2))) (ok2 : SrcOk st2) (i : IsD K H2 v c) (ic : CopyIn c) : Drawn K d L H (upd H2 L (.lst (vs ++ [v]))) (n + 1) := by
  have h2 : H2 L = some (.lst vs) := k2 _ _ hdL h1
  have a2 : AllD K H2 vs cs := a.keep hd1 k2
  refine ⟨st2, vs ++ [v], cs ++ [c], fun b o nb e => ?_, ?_, ok2, upd_same, by rw [List.length_append, hn]; rfl, papp (a2.keep h2 keep_upd) (.cons (i.keep h2 keep_upd) .nil), fun x hx => ?_⟩
  · rw [upd_ne (ne_of_none e hL)]
    exact k2 _ _ nb (k1 _ _ nb e)
  · rw [upd_ne (Ne.symm hdL)]; exact hd2
  · rcases List.mem_append.mp hx with h | h
    · exact g x h
    · rw [List.mem_singleton.mp h]; exact ic
/-- the copies of tolds, by a comprehension: the heap behind it -/
structure Copied (K : PySem.W.Frag) (C L : Addr) (H H' : Hp) (cs : List Cp) : Prop where
  ex : ∃ ws, Same H H' ∧ H' L = some (.lst ws) ∧ AllC K C H' ws cs
theorem copied_start {C L : Addr} {H : Hp} (hL : H L = none) : Copied K C L H (upd H L (.lst [])) [] := ⟨[], same_new hL _, upd_same, .nil⟩
theorem copied_more {C L : Addr} {H H1 H2 : Hp} {cs : List Cp} {c : Cp} {w : V} {ws : List V} (hL : H L = none) (s1 : Same H H1) (h1 : H1 L = some (.lst ws)) (a : AllC K C H1 ws cs) (s2 : Same H1 H2) (i : IsC K C H2 w c) : Copied K C L H (upd H2 L (.lst (ws ++ [w]))) (cs ++ [c]) := by
  have h2 := s2 _ _ h1
  refine ⟨ws ++ [w], fun b o e => ?_, upd_same, papp ((a.same s2).keep h2 keep_upd) (.cons (i.keep h2 keep_upd) .nil)⟩
  rw [upd_ne (ne_of_none e hL)]
  exact s2 _ _ (s1 _ _ e)
end
end My

namespace My
open PySem L2 Mth
section
variable {K : PySem.W.Frag} {α : Type}
theorem tk_filter {β : Type} (p : β → Bool) {l : List β} {i : Nat} {x : β} (h : l[i]? = some x) : (l.take (i + 1)).filter p = (l.take i).filter p ++ (if p x = true then [x] else []) := by
  rw [take_more h, List.filter_append]
  congr 1
  by_cases c : p x = true
  · rw [if_pos c]; simp [c]
  · rw [if_neg c]; simp [c]
theorem tk_map {β γ : Type} (f : β → γ) {l : List β} {i : Nat} {x : β} (h : l[i]? = some x) : (l.take (i + 1)).map f = (l.take i).map f ++ [f x] := by
  rw [take_more h, List.map_append]; rfl
/-! ### what a comprehension draws, of any kind -/
def KeepsI (I : Hp → V → α → Prop) : Prop := ∀ (H H' : Hp) (v : V) (x : α) (e : Addr) (ys : List V), I H v x → H e = some (.lst ys) → Keep e H H' → I H' v x
def DrawnG (I : Hp → V → α → Prop) (G : α → Prop) (d L : Addr) (H H' : Hp) (n : Nat) : Prop := ∃ st vs xs, Keep d H H' ∧ H' d = some (.lst (encD st)) ∧ SrcOk st ∧ H' L = some (.lst vs) ∧ vs.length = n ∧ Paired (I H') vs xs ∧ ∀ x ∈ xs, G x
theorem drawnG_start {I : Hp → V → α → Prop} {G : α → Prop} {d L : Addr} {H : Hp} {st : Src} (hd : H d = some (.lst (encD st))) (ok : SrcOk st) (hL : H L = none) : DrawnG I G d L H (upd H L (.lst [])) 0 :=
  ⟨st, [], [], Keep.of (same_new hL _), (same_new hL _) _ _ hd, ok, upd_same, rfl, .nil, fun c hc => by cases hc⟩
theorem drawnG_more {I : Hp → V → α → Prop} {G : α → Prop} (kI : KeepsI I) {d L : Addr} {H H1 H2 : Hp} {n : Nat} {st st2 : Src} {v : V} {x : α} {vs : List V} {xs : List α} (hL : H L = none) (hdL : L ≠ d) (k1 : Keep d H H1) (hd1 : H1 d = some (.lst (encD st))) (h1 : H1 L = some (.lst vs)) (hn : vs.length = n) (a : Paired (I H1) vs xs) (g : ∀ x ∈ xs, G x)
    (k2 : Keep d H1 H2) (hd2 : H2 d = some (.lst (encD st2))) (ok2 : SrcOk st2) (i : I H2 v x) (ix : G x) : DrawnG I G d L H (upd H2 L (.lst (vs ++ [v]))) (n + 1) := by
  have h2 : H2 L = some (.lst vs) := k2 _ _ hdL h1
  refine ⟨st2, vs ++ [v], xs ++ [x], fun b o nb e => ?_, ?_, ok2, upd_same, by rw [List.length_append, hn]; rfl, papp (pimp (fun p t q => kI _ _ _ _ _ _ (kI _ _ _ _ _ _ q hd1 k2) h2 keep_upd) a) (.cons (kI _ _ _ _ _ _ i h2 keep_upd) .nil), fun y hy => ?_⟩
  · rw [upd_ne (ne_of_none e hL)]
    exact k2 _ _ nb (k1 _ _ nb e)
  · rw [upd_ne (Ne.symm hdL)]; exact hd2
  · rcases List.mem_append.mp hy with h | h
    · exact g y h
    · rw [List.mem_singleton.mp h]; exact ix
theorem keepsT : KeepsI (IsT K) := fun _ _ _ _ _ _ i hd k => i.keep hd k
theorem turn4' : ∀ t ∈ [((1, 0, 1) : T3), (-1, 0, 1), (0, 1, 1), (3, 4, 5)], TurnIn t := fun t ht => turns_in t (by
  have h : ∀ t ∈ [((1, 0, 1) : T3), (-1, 0, 1), (0, 1, 1), (3, 4, 5)], t ∈ turns13 := by decide +kernel
  exact h t ht)
end
end My

namespace My
open PySem L2 Mth

section
variable {P : Program} {w : World} {K : PySem.W.Frag} {mg : Str → Option Value} {base : Heap}
/-! ### lines -/
theorem dv_lt {g a : Int} {n : Nat} (d : g ∣ a) (h : a ≠ 0) (b : a.natAbs < 2 ^ n) : g.natAbs < 2 ^ n := by
  obtain ⟨u, hu⟩ := d
  have hu0 : u ≠ 0 := fun z => by rw [z, Int.mul_zero] at hu; exact h hu
  have e : g.natAbs * u.natAbs = a.natAbs := by rw [← Int.natAbs_mul, ← hu]
  have h1 : 1 ≤ u.natAbs := by omega
  have h2 : g.natAbs * 1 ≤ g.natAbs * u.natAbs := Nat.mul_le_mul_left _ h1
  omega
theorem sgl_lt {r : T3} {n : Nat} (h : r.1 ≠ 0 ∨ r.2.1 ≠ 0) (b : B n r) : (sgl r.1 r.2.1 r.2.2).natAbs < 2 ^ n := by
  rcases h with h | h
  · exact dv_lt sgl_d1 h b.1
  · exact dv_lt sgl_d2 h b.2.1
def sp_line (K : PySem.W.Frag) : Sp := fun vs H Q _ => ∃ r : T3, vs = [.int r.1, .int r.2.1, .int r.2.2] ∧ (r.1 ≠ 0 ∨ r.2.1 ≠ 0) ∧ B 8000 r ∧ ∀ H' v, Same H H' → IsT K H' v (lf r) → Q v H'
def sp_on (K : PySem.W.Frag) : Sp := fun vs H Q _ => ∃ vz vl z l, vs = [vz, vl] ∧ IsT K H vz z ∧ IsT K H vl l ∧ B 8000 z ∧ B 8000 l ∧ Q (.bl (decide (on l z))) H
def sp_par (K : PySem.W.Frag) : Sp := fun vs H Q _ => ∃ vl vm l m, vs = [vl, vm] ∧ IsT K H vl l ∧ IsT K H vm m ∧ B 8000 l ∧ B 8000 m ∧ Q (.bl (decide (l.1 * m.2.1 = m.1 * l.2.1))) H
def sp_cross (K : PySem.W.Frag) : Sp := fun vs H Q _ => ∃ vl vm l m, vs = [vl, vm] ∧ IsT K H vl l ∧ IsT K H vm m ∧ B 4000 l ∧ B 4000 m ∧ l.1 * m.2.1 ≠ m.1 * l.2.1 ∧ ∀ H' v, Same H H' → IsT K H' v (cross l m) → Q v H'
/-- a list of tuples of three ints -/
def IsTL (K : PySem.W.Frag) (H : Hp) (L : Addr) (ts : List T3) : Prop := ∃ ps : List Addr, H L = some (.lst (ps.map V.ref)) ∧ Paired (fun p t => SqT K H p (v3 t)) ps ts
theorem IsTL.same {H H' : Hp} {L : Addr} {ts : List T3} (h : IsTL K H L ts) (s : Same H H') : IsTL K H' L ts := by
  obtain ⟨ps, h1, h2⟩ := h
  exact ⟨ps, s _ _ h1, paired_imp (fun p t z => same_T s z) h2⟩
theorem m1000 {a b : Int} (ha : a.natAbs < 2 ^ 1000) (hb : b.natAbs < 2 ^ 1000) : (a * b).natAbs < 2 ^ (1999 + 1) := mul_lt (n := 1000) (m := 1000) ha hb
def sp_eqs (K : PySem.W.Frag) : Sp := fun vs H Q _ => ∃ vr vu vg R U G, vs = [vr, vu, vg] ∧ IsT K H vr R ∧ IsT K H vu U ∧ IsT K H vg G ∧ B 1000 R ∧ B 1000 U ∧ B 1000 G ∧ ∀ H' L, Same H H' → IsTL K H' L (eqs R U G) → Q (.ref L) H'
end
end My

namespace My
open PySem L2 Mth

section
variable {P : Program} {w : World} {K : PySem.W.Frag} {mg : Str → Option Value} {base : Heap}
/-- what is kept, as it is told -/
def IsK (K : PySem.W.Frag) (H : Hp) (v : V) : KS → Prop
  | .all => ∃ p, v = .ref p ∧ SqT K H p [.str "all"]
  | .none => ∃ p, v = .ref p ∧ SqT K H p [.str "none"]
  | .spot s => ∃ p q, v = .ref p ∧ SqT K H p [.str "spot", .ref q] ∧ SqT K H q (v3 s)
  | .line l => ∃ p, v = .ref p ∧ SqT K H p [.str "line", .int l.1, .int l.2.1, .int l.2.2]
theorem IsK.same {H H' : Hp} {v : V} {k : KS} (h : IsK K H v k) (s : Same H H') : IsK K H' v k := by
  cases k with
  | all => obtain ⟨p, e, h⟩ := h; exact ⟨p, e, same_T s h⟩
  | none => obtain ⟨p, e, h⟩ := h; exact ⟨p, e, same_T s h⟩
  | spot z => obtain ⟨p, q, e, h1, h2⟩ := h; exact ⟨p, q, e, same_T s h1, same_T s h2⟩
  | line l => obtain ⟨p, e, h⟩ := h; exact ⟨p, e, same_T s h⟩
/-- what a comprehension has made so far -/
def TLx (K : PySem.W.Frag) (L : Addr) (H H' : Hp) (ts : List T3) : Prop := Same H H' ∧ IsTL K H' L ts
theorem tl_start {L : Addr} {H : Hp} (hL : H L = none) : TLx K L H (upd H L (.lst [])) [] := ⟨same_new hL _, [], upd_same, .nil⟩
theorem tl_more {L p : Addr} {H H1 H2 : Hp} {ts : List T3} {t : T3} {ps : List Addr} (hL : H L = none) (s1 : Same H H1) (h1 : H1 L = some (.lst (ps.map V.ref))) (a : Paired (fun p t => SqT K H1 p (v3 t)) ps ts) (s2 : Same H1 H2) (i : SqT K H2 p (v3 t)) :
    TLx K L H (upd H2 L (.lst (ps.map V.ref ++ [.ref p]))) (ts ++ [t]) := by
  have h2 := s2 _ _ h1
  refine ⟨fun b o e => ?_, ps ++ [p], by rw [upd_same, List.map_append]; rfl, paired_app (paired_imp (fun p t z => keep_T (same_T s2 z) h2 keep_upd) a) (.cons (keep_T i h2 keep_upd) .nil)⟩
  rw [upd_ne (ne_of_none e hL)]
  exact s2 _ _ (s1 _ _ e)
theorem tl_at {ps : List Addr} {ts : List T3} {R : Addr → T3 → Prop} (h : Paired R ps ts) {i : Nat} {x : V} (e : (ps.map V.ref)[i]? = some x) : ∃ p t, x = .ref p ∧ ts[i]? = some t ∧ R p t := by
  rw [List.getElem?_map] at e
  cases e2 : ps[i]? with
  | none => rw [e2] at e; cases e
  | some p =>
    rw [e2] at e
    have hl := Paired.length h
    have hi : i < ps.length := (List.getElem?_eq_some_iff.mp e2).1
    obtain ⟨p', t, h1, h2⟩ := (show ∃ p' t, ps[i]? = some p' ∧ (ts[i]? = some t ∧ R p' t) from by
      clear e e2
      induction h generalizing i with
      | nil => cases hi
      | cons r _ ih =>
        cases i with
        | zero => exact ⟨_, _, rfl, rfl, r⟩
        | succ i =>
          obtain ⟨p', t, a, b⟩ := ih (i := i) (by simpa using hl) (by simpa using hi)
          exact ⟨p', t, by simpa using a, by simpa using b⟩)
    rw [e2] at h1
    cases Option.some.inj h1
    exact ⟨p, t, (Option.some.inj e).symm, h2.1, h2.2⟩
theorem bad_eq (r : T3) : (decide (V.int r.1 = V.int 0) && (decide (V.int r.2.1 = V.int 0) && !decide (V.int r.2.2 = V.int 0))) = bad r := by
  rw [dI, dI, dI]; rfl
theorem take_map {α β : Type} (f : α → β) {l : List α} {i : Nat} {x : α} (h : l[i]? = some x) : (l.take (i + 1)).map f = (l.take i).map f ++ [f x] := by
  rw [take_more h, List.map_append]; rfl
theorem take_filter {α : Type} (p : α → Bool) {l : List α} {i : Nat} {x : α} (h : l[i]? = some x) : (l.take (i + 1)).filter p = (l.take i).filter p ++ (if p x = true then [x] else []) := by
  rw [take_more h, List.filter_append]
  congr 1
  by_cases c : p x = true
  · rw [if_pos c]; simp [c]
  · rw [if_neg c]; simp [c]
def sp_sol (K : PySem.W.Frag) : Sp := fun vs H Q _ => ∃ L rows, vs = [.ref L] ∧ IsTL K H L rows ∧ (∀ r ∈ rows, B 3900 r) ∧ rows.length ≤ 100 ∧ ∀ H' v, Same H H' → IsK K H' v (sol rows) → Q v H'
end
end My

namespace My
open PySem L2 Mth
section
variable {P : Program} {w : World} {K : PySem.W.Frag} {mg : Str → Option Value} {base : Heap}
def sp_still (K : PySem.W.Frag) (C : Addr) : Sp := fun vs H Q _ => vs = [] ∧ ∀ H' r, Same H H' → IsC K C H' r still → Q r H'
/-- done so many times -/
structure AgIn (c : Cp) (n : Int) : Prop where
  ok : CpOk c
  lo : -100 ≤ n
  hi : n ≤ 100
  bc : BC 1900 c
  bs : BC 1900 (stp c n)
  ba : ∀ k, k < n.natAbs → BC 1900 (ag (stp c n) k)
def sp_again (K : PySem.W.Frag) (C : Addr) : Sp := fun vs H Q _ => ∃ vc c n, vs = [vc, .int n] ∧ IsC K C H vc c ∧ AgIn c n ∧ ∀ H' r, Same H H' → IsC K C H' r (agz c n) → Q r H'
structure MAg (P : Program) (w : World) (K : PySem.W.Frag) (mg : Str → Option Value) (base : Heap) (C : Addr) : Prop where
  cl : Cls K C
  ex : ∃ f fd, FnOk P w K mg base CX0 7 f fd ["self", "times"] (sp_again K C) ∧ Binds K fd ["self", "times"] [] ∧ Meth K C "again" f
theorem pe_again {X : Cx} {C : Addr} {o e : Expr} {to : TE} {t : TA} {apos pos : Pos} {pl : Sem Bool} (M : MAg X.prog X.w X.K X.mg X.base C) (hr : Room 7 X.A) (ho : PE X o to) (ha : PA X [e] t)
    (hs1 : starEach [e] X.env = (false, eval e X.env) :: starEach [] X.env := by rfl) (hs2 : (backTo pos (starEach [] X.env)).any (·.1) = false := by rfl)
    (ht : eval (.Call (.Attribute o "again" apos) [e] [] pos) X.env = (do
      let ov ← eval o X.env
      standAt apos.atName
      let (g, first) ← holding [ov] (getMethod ov "again" pl)
      callWith pos g first (backTo pos (starEach [e] X.env)) (backToKw pos (keywordEach [] X.env))) := by rfl) :
    PE X (.Call (.Attribute o "again" apos) [e] [] pos) (tMeth C "again" (sp_again X.K C) [] E0 to t) := by
  obtain ⟨f, fd, F, b, m⟩ := M.ex
  exact pe_meth ho M.cl m F hr b .nil pass0 ha hs1 hs2 ht
theorem cf_no {a b : Addr} {m : Bool} {x : Str} (h1 : (x == ("factor" : Str)) = false) (h2 : (x == ("offset" : Str)) = false) (h3 : (x == ("flips" : Str)) = false) : (cf a b m).lookup x = none := by
  unfold cf
  simp only [List.lookup, h1, h2, h3]
theorem again_of {C : Addr} {H : Hp} {Q : VK} {v : V} {c : Cp} (i : IsC K C H v c) {t : TA} {σ : L2.St} (q : t σ H fun vs H2 => sp_again K C (v :: (vs ++ [])) H2 Q E0) : ∃ a dx fs, v = .ref a ∧ H a = some (.ins C dx fs) ∧ fs.lookup ("again" : Str) = none ∧ t σ H fun vs H2 => sp_again K C (v :: (vs ++ [])) H2 Q E0 := by
  obtain ⟨p, dx, a, b, rfl, h1, _⟩ := i
  exact ⟨p, dx, _, rfl, h1, cf_no (by decide +kernel) (by decide +kernel) (by decide +kernel), q⟩
end
end My

namespace My
open PySem L2 Mth
abbrev s_still_copy : Stmt := topS 42
theorem sc_still_copy : FnScope [] [] (defScope s_still_copy) := ⟨rfl, rfl, rfl, by decide +kernel, rfl, by decide +kernel, by decide +kernel⟩
section
variable {P : Program} {w : World} {K : PySem.W.Frag} {mg : Str → Option Value} {base : Heap}
theorem ok_still_copy {f C fI aO aM : Addr} {fd fdI : FuncData} {mv ds : List Value} (TC : CopyI P w K mg base C fI fdI mv ds) (m_ONE : mg "ONE" = some (.ref aO)) (t_ONE : ∀ H, SqT K H aO (v3 (1, 0, 1))) (m_MIDDLE : mg "MIDDLE" = some (.ref aM)) (t_MIDDLE : ∀ H, SqT K H aM (v3 (0, 0, 1)))
    (F : Fun K "still_copy" "still_copy" s_still_copy f fd) : FnOk P w K mg base CX0 6 f fd [] (sp_still K C) := by
  refine F.ok sc_still_copy (fun vs H Q E h => ?_) (fun cdv A outer s H vs Q E hr h => ?_)
  · obtain ⟨rfl, _⟩ := h
    rfl
  obtain ⟨rfl, q⟩ := h
  refine ⟨_, (pss_one (ps_ret (pe_make TC.mkC TC.ok (hr.mono (by decide)) (by rfl) TC.mgC TC.bd TC.bv pass0 (pa_cons (pe_glob (v := .ref aO) (by rfl) m_ONE rfl) (pa_cons (pe_glob (v := .ref aM) (by rfl) m_MIDDLE rfl) pa_nil))))), ?_⟩
  exact mk_of2 ⟨_, rfl, t_ONE H⟩ ⟨_, rfl, t_MIDDLE H⟩ still_ok.t still_ok.n still_ok.s fun H1 x s1 i1 => ⟨rfl, q _ _ s1 i1⟩
end
end My

namespace My
open PySem L2 Mth
section
variable {K : PySem.W.Frag}
/-- a fraction -/
def IsF (K : PySem.W.Frag) (H : Hp) (v : V) (f : Int × Int) : Prop := ∃ p, v = .ref p ∧ SqT K H p [.int f.1, .int f.2]
theorem IsF.same {H H' : Hp} {v : V} {f : Int × Int} (h : IsF K H v f) (e : Same H H') : IsF K H' v f := by
  obtain ⟨p, rfl, q⟩ := h
  exact ⟨p, rfl, same_T e q⟩
theorem IsF.keep {H H' : Hp} {v : V} {f : Int × Int} {d : Addr} {ys : List V} (h : IsF K H v f) (hd : H d = some (.lst ys)) (k : Keep d H H') : IsF K H' v f := by
  obtain ⟨p, rfl, q⟩ := h
  exact ⟨p, rfl, keep_T q hd k⟩
theorem IsF.new {H : Hp} {p : Addr} {a b : Int} : IsF K (upd H p (.tup [.int a, .int b])) (.ref p) (a, b) := ⟨p, rfl, .inl (.inl upd_same)⟩
def dF (f : Int × Int) : PyData := .tuple [.int f.1, .int f.2]
theorem IsF.dp {H : Hp} {v : V} {f : Int × Int} (h : IsF K H v f) : Dp K H v (dF f) := by
  obtain ⟨p, rfl, q⟩ := h
  exact .tup q (.cons (.int _) (.cons (.int _) .nil))
theorem shapedF (f : Int × Int) : SeqAt.shaped (dF f) = true := rfl
theorem deepF (n : Nat) (f : Int × Int) : Deep (n + 2) (dF f) := by
  refine ⟨(by show 2 ≤ 1000; decide), fun d hd => ?_⟩
  simp only [List.mem_cons, List.mem_nil_iff, or_false] at hd
  rcases hd with rfl | rfl <;> trivial
end
end My

namespace My
open PySem L2 Mth
abbrev s_Arm___init__ : Stmt := inClass (topS 48) 0
theorem sc_Arm___init__ : FnScope ["self", "pole", "turn", "near", "far", "mirrored"] ["self", "pole", "turn", "near", "far", "mirrored"] (defScope s_Arm___init__) := ⟨rfl, rfl, rfl, by decide +kernel, rfl, by decide +kernel, by decide +kernel⟩
abbrev s_check_reach : Stmt := topS 49
theorem sc_check_reach : FnScope ["near", "far"] ["near", "far"] (defScope s_check_reach) := ⟨rfl, rfl, rfl, by decide +kernel, rfl, by decide +kernel, by decide +kernel⟩
abbrev s_copy_around : Stmt := topS 50
theorem sc_copy_around : FnScope ["pole", "turn", "mirrored", "shift"] ["pole", "turn", "mirrored"] (defScope s_copy_around) := ⟨rfl, rfl, rfl, by decide +kernel, rfl, by decide +kernel, by decide +kernel⟩
section
variable {P : Program} {w : World} {K : PySem.W.Frag} {mg : Str → Option Value} {base : Heap}
/-! ### arms -/
def sp_reach : Sp := fun vs H Q _ => ∃ n f : Int, vs = [.int n, .int f] ∧ 0 ≤ n ∧ n ≤ f ∧ f ≤ 1000 ∧ Q .non H
theorem ok_check_reach {f : Addr} {fd : FuncData} {tk : Tok} (m_MOST_REACH : mg "MOST_REACH" = some (.int 1000 tk)) (d_is_whole : D P w K mg base "is_whole" 1 sp_whole) (F : Fun K "check_reach" "check_reach" s_check_reach f fd) : FnOk P w K mg base CX0 2 f fd ["near", "far"] sp_reach := by
  refine F.ok sc_check_reach (fun vs H Q E h => ?_) (fun cdv A outer s H vs Q E hr h => ?_)
  · obtain ⟨n, g, rfl, _⟩ := h
    rfl
  obtain ⟨n, g, rfl, h0, h1, h2, q⟩ := h
  refine ⟨_, (pss_one (ps_if (PW.pt (pw_or (pt_not (pt_val (pc d_is_whole (hr.mono (by decide)) (pa_cons (pv 0) pa_nil)))) (pw_or (pt_not (pt_val (pc d_is_whole (hr.mono (by decide)) (pa_cons (pv 1) pa_nil)))) (pw_or1 (pt_not (pt_chain3 op_le op_le op_le pe_int (pv 0) (pv 1) (pe_glob (v := .int 1000) (by rfl) m_MOST_REACH ⟨_, rfl⟩))))))) (pss_one ps_never) pss_nil)), ?_⟩
  refine ⟨_, rfl, n, rfl, _, rfl, iteF ?_⟩
  refine ⟨_, rfl, g, rfl, _, rfl, iteF ?_⟩
  refine ⟨_, rfl, _, _, rfl, rfl, true, congrArg V.bl (decide_eq_true h0), iteT ?_⟩
  refine ⟨_, rfl, _, _, rfl, rfl, true, congrArg V.bl (decide_eq_true h1), iteT ?_⟩
  exact ⟨_, _, rfl, rfl, true, congrArg V.bl (decide_eq_true h2), iteF q⟩
def sp_around (K : PySem.W.Frag) (C : Addr) : Sp := fun vs H Q _ => ∃ vp vt m p t, vs = [vp, vt, .bl m] ∧ IsT K H vp p ∧ IsT K H vt t ∧ Ok p ∧ Ok t ∧ Nz t ∧ B 2600 p ∧ B 1000 t ∧ ∀ H' r, Same H H' → IsC K C H' r ⟨t, minus p (times t (face p m)), m⟩ → Q r H'
theorem ok_copy_around {f C fI : Addr} {fd fdI : FuncData} {mv ds : List Value} (TC : CopyI P w K mg base C fI fdI mv ds) (d_minus : D P w K mg base "minus" 4 (sp_two K minus)) (d_product : D P w K mg base "product" 3 (sp_two K times)) (d_faced : D P w K mg base "faced" 1 (sp_face K))
    (F : Fun K "copy_around" "copy_around" s_copy_around f fd) : FnOk P w K mg base CX0 6 f fd ["pole", "turn", "mirrored"] (sp_around K C) := by
  refine F.ok sc_copy_around (fun vs H Q E h => ?_) (fun cdv A outer s H vs Q E hr h => ?_)
  · obtain ⟨vp, vt, m, p, t, rfl, _⟩ := h
    rfl
  obtain ⟨vp, vt, m, p, t, rfl, ip, it, op, ot, nt, bp, bt, q⟩ := h
  refine ⟨_, (pss_cons (ps_set (i := 3) sc_copy_around.nd rfl (by first | exact Or.inl rfl | exact Or.inr rfl) (pc d_minus (hr.mono (by decide)) (pa_cons (pv 0) (pa_cons (pc d_product (hr.mono (by decide)) (pa_cons (pv 1) (pa_cons (pc d_faced (hr.mono (by decide)) (pa_cons (pv 0) (pa_cons (pv 2) pa_nil))) pa_nil))) pa_nil))))
    (pss_one (ps_ret (pe_makeK TC.mkC TC.ok (hr.mono (by decide)) (by rfl) TC.mgC TC.kb pass0 (pa_cons (pv 1) (pa_cons (pv 3) pa_nil)) (pk_cons (pv 2) pk_nil))))), ?_⟩
  refine ⟨_, rfl, _, rfl, _, rfl, _, rfl, _, _, _, rfl, ip, fun H1 r1 s1 i1 => ?_⟩
  refine ⟨_, _, _, _, rfl, it.same s1, i1, ot, face_ok op _, bt.mono (by decide), (face_B bp _).mono (by decide), fun H2 r2 s2 i2 => ?_⟩
  refine ⟨_, _, _, _, rfl, ip.same (s1.trans s2), i2, op, times_ok ot (face_ok op _), bp.mono (by decide), (times_B ot (face_ok op _) bt (face_B bp _)).mono (by decide), fun H3 r3 s3 i3 => ?_⟩
  have s13 := s1.trans (s2.trans s3)
  refine ⟨_, rfl, _, rfl, _, rfl, rfl, rfl, ?_⟩
  exact mk_of (it.same s13) i3 ot nt (minus_ok op (times_ok ot (face_ok op _))) fun H4 r4 s4 i4 => q _ _ (s13.trans s4) i4
def af (a0 : Addr) (a1 : Addr) (a2 : Int) (a3 : Int) (a4 : Bool) (a5 : Addr) : List (Str × V) := [("centre", .ref a0), ("factor", .ref a1), ("least", .int a2), ("most", .int a3), ("flips", .bl a4), ("pen", .ref a5)]
theorem af_put {a0 : Addr} {a1 : Addr} {a2 : Int} {a3 : Int} {a4 : Bool} {a5 : Addr} : putF "pen" (.ref a5) (putF "flips" (.bl a4) (putF "most" (.int a3) (putF "least" (.int a2) (putF "factor" (.ref a1) (putF "centre" (.ref a0) ([])))))) = af a0 a1 a2 a3 a4 a5 := by
  have h0_1 : ¬ (("centre" : Str) = "factor") := by decide +kernel
  have h0_2 : ¬ (("centre" : Str) = "least") := by decide +kernel
  have h0_3 : ¬ (("centre" : Str) = "most") := by decide +kernel
  have h0_4 : ¬ (("centre" : Str) = "flips") := by decide +kernel
  have h0_5 : ¬ (("centre" : Str) = "pen") := by decide +kernel
  have h1_2 : ¬ (("factor" : Str) = "least") := by decide +kernel
  have h1_3 : ¬ (("factor" : Str) = "most") := by decide +kernel
  have h1_4 : ¬ (("factor" : Str) = "flips") := by decide +kernel
  have h1_5 : ¬ (("factor" : Str) = "pen") := by decide +kernel
  have h2_3 : ¬ (("least" : Str) = "most") := by decide +kernel
  have h2_4 : ¬ (("least" : Str) = "flips") := by decide +kernel
  have h2_5 : ¬ (("least" : Str) = "pen") := by decide +kernel
  have h3_4 : ¬ (("most" : Str) = "flips") := by decide +kernel
  have h3_5 : ¬ (("most" : Str) = "pen") := by decide +kernel
  have h4_5 : ¬ (("flips" : Str) = "pen") := by decide +kernel
  simp only [putF, if_neg h0_1, if_neg h0_2, if_neg h0_3, if_neg h0_4, if_neg h0_5, if_neg h1_2, if_neg h1_3, if_neg h1_4, if_neg h1_5, if_neg h2_3, if_neg h2_4, if_neg h2_5, if_neg h3_4, if_neg h3_5, if_neg h4_5]
  rfl
theorem af_centre {a0 : Addr} {a1 : Addr} {a2 : Int} {a3 : Int} {a4 : Bool} {a5 : Addr} : (af a0 a1 a2 a3 a4 a5).lookup ("centre" : Str) = some (.ref a0) := by
  unfold af
  simp only [List.lookup, beq_self_eq_true]
theorem af_factor {a0 : Addr} {a1 : Addr} {a2 : Int} {a3 : Int} {a4 : Bool} {a5 : Addr} : (af a0 a1 a2 a3 a4 a5).lookup ("factor" : Str) = some (.ref a1) := by
  unfold af
  simp only [List.lookup, beq_self_eq_true, show (("factor" : Str) == "centre") = false by decide +kernel]
theorem af_least {a0 : Addr} {a1 : Addr} {a2 : Int} {a3 : Int} {a4 : Bool} {a5 : Addr} : (af a0 a1 a2 a3 a4 a5).lookup ("least" : Str) = some (.int a2) := by
  unfold af
  simp only [List.lookup, beq_self_eq_true, show (("least" : Str) == "centre") = false by decide +kernel, show (("least" : Str) == "factor") = false by decide +kernel]
theorem af_most {a0 : Addr} {a1 : Addr} {a2 : Int} {a3 : Int} {a4 : Bool} {a5 : Addr} : (af a0 a1 a2 a3 a4 a5).lookup ("most" : Str) = some (.int a3) := by
  unfold af
  simp only [List.lookup, beq_self_eq_true, show (("most" : Str) == "centre") = false by decide +kernel, show (("most" : Str) == "factor") = false by decide +kernel, show (("most" : Str) == "least") = false by decide +kernel]
theorem af_flips {a0 : Addr} {a1 : Addr} {a2 : Int} {a3 : Int} {a4 : Bool} {a5 : Addr} : (af a0 a1 a2 a3 a4 a5).lookup ("flips" : Str) = some (.bl a4) := by
  unfold af
  simp only [List.lookup, beq_self_eq_true, show (("flips" : Str) == "centre") = false by decide +kernel, show (("flips" : Str) == "factor") = false by decide +kernel, show (("flips" : Str) == "least") = false by decide +kernel, show (("flips" : Str) == "most") = false by decide +kernel]
theorem af_pen {a0 : Addr} {a1 : Addr} {a2 : Int} {a3 : Int} {a4 : Bool} {a5 : Addr} : (af a0 a1 a2 a3 a4 a5).lookup ("pen" : Str) = some (.ref a5) := by
  unfold af
  simp only [List.lookup, beq_self_eq_true, show (("pen" : Str) == "centre") = false by decide +kernel, show (("pen" : Str) == "factor") = false by decide +kernel, show (("pen" : Str) == "least") = false by decide +kernel, show (("pen" : Str) == "most") = false by decide +kernel, show (("pen" : Str) == "flips") = false by decide +kernel]
structure ATxt (K : PySem.W.Frag) (C : Addr) : Prop where
  cl : Cls K C
  nC : NoAttr K C "centre"
  nF : NoAttr K C "factor"
  nE : NoAttr K C "least"
  nM : NoAttr K C "most"
  nL : NoAttr K C "flips"
  nP : NoAttr K C "pen"
  ha : PySem.W.findIn K (.ref C) "__class__" = some (some (.builtin "object.__class__"))
  hn : PySem.W.specialIn K (.builtin "object.__class__") "__get__" = some (some (.builtin "getset_descriptor.__get__"))
  htk : PySem.W.takesIn K (.builtin "object.__class__") = some true
  hm : PySem.W.mroIn K C (.type "object") = some true
/-- an arm as an object -/
def IsA (K : PySem.W.Frag) (C CA : Addr) (H : Hp) (v : V) (a : Am) : Prop := ∃ p dx u z c, v = .ref p ∧ H p = some (.ins CA dx (af u z a.near a.far a.m c)) ∧ SqT K H u (v3 a.pole) ∧ SqT K H z (v3 a.t) ∧ IsC K C H (.ref c) (about a)
theorem IsA.same {C CA : Addr} {H H' : Hp} {v : V} {a : Am} (h : IsA K C CA H v a) (e : Same H H') : IsA K C CA H' v a := by
  obtain ⟨p, dx, u, z, c, rfl, h1, h2, h3, h4⟩ := h
  exact ⟨p, dx, u, z, c, rfl, e _ _ h1, same_T e h2, same_T e h3, h4.same e⟩
theorem IsC.keepI {C CD p dx : Addr} {fs : List (Str × V)} {H H' : Hp} {v : V} {c : Cp} (h : IsC K C H v c) (hd : H p = some (.ins CD dx fs)) (hl : fs.length ≠ 3) (e : Keep p H H') : IsC K C H' v c := by
  obtain ⟨q, dy, a, b, rfl, h1, h2, h3⟩ := h
  have n : q ≠ p := fun z => by
    rw [z, hd] at h1
    injection h1 with h1
    injection h1 with _ _ h1
    exact hl (by rw [h1]; rfl)
  exact ⟨q, dy, a, b, rfl, e _ _ n h1, keepI_T h2 hd e, keepI_T h3 hd e⟩
def sp_ainit (K : PySem.W.Frag) (C CA : Addr) : Sp := fun vs H Q _ => ∃ (H0 : Hp) (p dx : Addr) (vp vt : V) (n f : Int) (m : Bool) (z t : T3), vs = [.ref p, vp, vt, .int n, .int f, .bl m] ∧ Same H0 H ∧ H0 p = none ∧ H p = some (.ins CA dx []) ∧ IsT K H0 vp z ∧ IsT K H0 vt t ∧ AmOk ⟨z, t, n, f, m⟩ ∧ B 2600 z ∧ B 1000 t ∧
  ∀ H', Same H0 H' → IsA K C CA H' (.ref p) ⟨z, t, n, f, m⟩ → Q .non H'
theorem ok_ainit {f C CA : Addr} {fd : FuncData} {kws : List (Str × V)} (T : ATxt K CA) (d_check_turn : D P w K mg base "check_turn" 3 (sp_checkT K)) (d_check_spot : D P w K mg base "check_spot" 3 (sp_check K)) (d_check_reach : D P w K mg base "check_reach" 2 sp_reach) (d_copy_around : D P w K mg base "copy_around" 6 (sp_around K C))
    (F : FunD K "__init__" "Arm.__init__" (defArgs s_Arm___init__) (defBody s_Arm___init__) (defScope s_Arm___init__) [] kws f fd) : FnOk P w K mg base CX0 7 f fd ["self", "pole", "turn", "near", "far", "mirrored"] (sp_ainit K C CA) := by
  refine ok0 F sc_Arm___init__ (fun vs H Q E h => ?_) (fun cdv A outer s H vs Q E hr h => ?_)
  · obtain ⟨H0, p, dx, vp, vt, n, g, m, z, t, rfl, _⟩ := h
    rfl
  obtain ⟨H0, p, dx, vp, vt, n, g, m, z, t, rfl, s0, p0, hp, iz, it, ok, bz, bt, q⟩ := h
  refine ⟨_, (pss_cons (ps_expr (pc d_check_spot (hr.mono (by decide)) (pa_cons (pv 1) pa_nil)))
    (pss_cons (ps_expr (pc d_check_turn (hr.mono (by decide)) (pa_cons (pv 2) pa_nil)))
    (pss_cons (ps_expr (pc d_check_reach (hr.mono (by decide)) (pa_cons (pv 3) (pa_cons (pv 4) pa_nil))))
    (pss_cons (ps_fld (pv 0) (pv 1) rfl)
    (pss_cons (ps_fld (pv 0) (pv 2) rfl)
    (pss_cons (ps_fld (pv 0) (pv 3) rfl)
    (pss_cons (ps_fld (pv 0) (pv 4) rfl)
    (pss_cons (ps_fld (pv 0) (pv 5) rfl)
    (pss_one (ps_fld (pv 0) (pc d_copy_around (hr.mono (by decide)) (pa_cons (pv 1) (pa_cons (pv 2) (pa_cons (pv 5) pa_nil)))) rfl)))))))))), ?_⟩
  refine ⟨_, rfl, _, _, rfl, iz.same s0, ok.p, fun H1 s1 => ?_⟩
  refine ⟨_, rfl, _, _, rfl, it.same (s0.trans s1), ok.t, ok.n, fun H2 s2 => ?_⟩
  have s02 := s0.trans (s1.trans s2)
  obtain ⟨a, rfl, ta⟩ := iz
  obtain ⟨b, rfl, tb⟩ := it
  have hp2 : H2 p = some (.ins CA dx []) := s2 _ _ (s1 _ _ hp)
  refine ⟨_, rfl, _, rfl, n, g, rfl, ok.lo, ok.mi, ok.hi, ?_⟩
  have l1 := putF_len "centre" (.ref a) []
  have l2 := putF_len "factor" (.ref b) (putF "centre" (.ref a) [])
  have l3 := putF_len "least" (.int n) (putF "factor" (.ref b) (putF "centre" (.ref a) []))
  have l4 := putF_len "most" (.int g) (putF "least" (.int n) (putF "factor" (.ref b) (putF "centre" (.ref a) [])))
  have l5 := putF_len "flips" (.bl m) (putF "most" (.int g) (putF "least" (.int n) (putF "factor" (.ref b) (putF "centre" (.ref a) []))))
  have l0 : ([] : List (Str × V)).length = 0 := rfl
  refine ⟨_, rfl, _, rfl, p, CA, dx, _, rfl, hp2, T.cl, T.nC, (by show 0 < 1000; decide), ?_⟩
  refine ⟨_, rfl, _, rfl, p, CA, dx, _, rfl, upd_same, T.cl, T.nF, (by omega), ?_⟩
  refine ⟨_, rfl, _, rfl, p, CA, dx, _, rfl, upd_same, T.cl, T.nE, (by omega), ?_⟩
  refine ⟨_, rfl, _, rfl, p, CA, dx, _, rfl, upd_same, T.cl, T.nM, (by omega), ?_⟩
  refine ⟨_, rfl, _, rfl, p, CA, dx, _, rfl, upd_same, T.cl, T.nL, (by omega), ?_⟩
  have k7 : Keep p H2 (upd (upd (upd (upd (upd H2 p (.ins CA dx (putF "centre" (.ref a) []))) p (.ins CA dx (putF "factor" (.ref b) (putF "centre" (.ref a) [])))) p (.ins CA dx (putF "least" (.int n) (putF "factor" (.ref b) (putF "centre" (.ref a) []))))) p (.ins CA dx (putF "most" (.int g) (putF "least" (.int n) (putF "factor" (.ref b) (putF "centre" (.ref a) [])))))) p (.ins CA dx (putF "flips" (.bl m) (putF "most" (.int g) (putF "least" (.int n) (putF "factor" (.ref b) (putF "centre" (.ref a) []))))))) :=
    keep_upd.trans (keep_upd.trans (keep_upd.trans (keep_upd.trans keep_upd)))
  have ta2 := keepI_T (same_T s02 ta) hp2 k7
  have tb2 := keepI_T (same_T s02 tb) hp2 k7
  refine ⟨_, rfl, _, rfl, _, rfl, _, _, m, z, t, rfl, ⟨_, rfl, ta2⟩, ⟨_, rfl, tb2⟩, ok.p, ok.t, ok.n, bz, bt, fun H8 r8 s8 i8 => ?_⟩
  have hp8 := s8 _ _ (upd_same (a := p))
  refine ⟨_, rfl, p, CA, dx, _, rfl, hp8, T.cl, T.nP, (by omega), ?_⟩
  obtain ⟨c, _, _, _, ec, _⟩ := id i8
  subst ec
  have k9 := keep_upd (d := p) (H := H8) (o := .ins CA dx (putF "pen" (.ref c) (putF "flips" (.bl m) (putF "most" (.int g) (putF "least" (.int n) (putF "factor" (.ref b) (putF "centre" (.ref a) [])))))))
  refine q _ (fun y o e => ?_) ⟨p, dx, a, b, c, rfl, by rw [upd_same, af_put], keepI_T (same_T s8 ta2) hp8 k9, keepI_T (same_T s8 tb2) hp8 k9, i8.keepI hp8 (fun e => ?_) k9⟩
  · have nc : y ≠ p := fun z => by rw [z, p0] at e; cases e
    rw [upd_ne nc]
    exact s8 _ _ (k7 _ _ nc (s02 _ _ e))
  · have h0 : ¬ (("centre" : Str) = "factor") := by decide +kernel
    have h1 : ¬ (("centre" : Str) = "least") := by decide +kernel
    have h2 : ¬ (("centre" : Str) = "most") := by decide +kernel
    have h3 : ¬ (("centre" : Str) = "flips") := by decide +kernel
    have h4 : ¬ (("factor" : Str) = "least") := by decide +kernel
    have h5 : ¬ (("factor" : Str) = "most") := by decide +kernel
    have h6 : ¬ (("factor" : Str) = "flips") := by decide +kernel
    have h7 : ¬ (("least" : Str) = "most") := by decide +kernel
    have h8 : ¬ (("least" : Str) = "flips") := by decide +kernel
    have h9 : ¬ (("most" : Str) = "flips") := by decide +kernel
    simp only [putF, if_neg h0, if_neg h1, if_neg h2, if_neg h3, if_neg h4, if_neg h5, if_neg h6, if_neg h7, if_neg h8, if_neg h9, List.length_cons, List.length_nil] at e
    omega
/-- the class as its users see it -/
structure ArmI (P : Program) (w : World) (K : PySem.W.Frag) (mg : Str → Option Value) (base : Heap) (C CA f : Addr) (fd : FuncData) (mv ds : List Value) : Prop where
  tx : ATxt K CA
  mkC : Mk K CA f
  ok : FnOk P w K mg base CX0 7 f fd ["self", "pole", "turn", "near", "far", "mirrored"] (sp_ainit K C CA)
  mgC : mg "Arm" = some (.ref CA)
  bv : Vals [.bl false] ds
  bd : Binds K fd ["self", "pole", "turn", "near", "far", "mirrored"] ds
  kb : KBn K fd ["self", "pole", "turn", "near", "far", "mirrored"] 5 ["mirrored"] (fun us ws => us ++ ws) (fun vs zs => vs ++ zs)
theorem mka_of {C CA : Addr} {H : Hp} {Q : VK} {vp vt : V} {m : Bool} {n f : Int} {z t : T3} (iz : IsT K H vp z) (it : IsT K H vt t) (ok : AmOk ⟨z, t, n, f, m⟩) (bz : B 2600 z) (bt : B 1000 t) (q : ∀ H' r, Same H H' → IsA K C CA H' r ⟨z, t, n, f, m⟩ → Q r H') :
    ∀ x dx, H x = none → H dx = none → dx ≠ x → sp_ainit K C CA [.ref x, vp, vt, .int n, .int f, .bl m] (upd (upd H dx (.own x)) x (.ins CA dx [])) (fun v H2 => v = .non ∧ Q (.ref x) H2) E0 := by
  intro x dx hx hd _
  refine ⟨H, x, dx, vp, vt, n, f, m, z, t, rfl, fun c o e => ?_, hx, upd_same, iz, it, ok, bz, bt, fun H' s' i => ⟨rfl, q _ _ s' i⟩⟩
  rw [upd_ne (ne_of_none e hx), upd_ne (ne_of_none e hd)]
  exact e
theorem mka_of2 {C CA : Addr} {H : Hp} {Qf : Addr → VK} {vp vt : V} {m : Bool} {n f : Int} {z t : T3} (iz : IsT K H vp z) (it : IsT K H vt t) (ok : AmOk ⟨z, t, n, f, m⟩) (bz : B 2600 z) (bt : B 1000 t) (q : ∀ H' x, Same H H' → IsA K C CA H' (.ref x) ⟨z, t, n, f, m⟩ → Qf x .non H') :
    ∀ x dx, H x = none → H dx = none → dx ≠ x → sp_ainit K C CA [.ref x, vp, vt, .int n, .int f, .bl m] (upd (upd H dx (.own x)) x (.ins CA dx [])) (Qf x) E0 := by
  intro x dx hx hd _
  refine ⟨H, x, dx, vp, vt, n, f, m, z, t, rfl, fun c o e => ?_, hx, upd_same, iz, it, ok, bz, bt, fun H' s' i => q _ _ s' i⟩
  rw [upd_ne (ne_of_none e hx), upd_ne (ne_of_none e hd)]
  exact e
theorem bind_ainit {f : Addr} {fd : FuncData} (F : FunD K "__init__" "Arm.__init__" (defArgs s_Arm___init__) (defBody s_Arm___init__) (defScope s_Arm___init__) [] [("mirrored", .bl false)] f fd) :
    (∃ ds, Vals [.bl false] ds ∧ Binds K fd ["self", "pole", "turn", "near", "far", "mirrored"] ds) ∧ ∃ mv : List Value, KBn K fd ["self", "pole", "turn", "near", "far", "mirrored"] 5 ["mirrored"] (fun us ws => us ++ ws) (fun vs zs => vs ++ zs) := by
  refine ⟨F.binds0 (ps := ["self", "pole", "turn", "near", "far", "mirrored"]) 5 (by intro z; cases z) rfl fun D doc pm an cdv ct us ks h1 h2 => ?_, ?_⟩
  · match us, ks, h1, h2 with
    | [x, y, z, u, v], [k], _, _ => exact ⟨_, _, _, _, _, _, rfl, rfl, rfl⟩
  · refine F.kbinds0 (ps := ["self", "pole", "turn", "near", "far", "mirrored"]) 5 ["mirrored"] [] (fun us _ ws => us ++ ws) (by intro z; cases z) (fun q hq => by cases hq) (fun r1 _ r3 => r1.append r3) fun D doc pm an cdv ct us mv ws h1 h2 h3 => ?_
    match us, mv, ws, h1, h2, h3 with
    | [x, y, z, u, v], [], [k], _, _, _ => rfl
theorem about_BC {n : Nat} {a : Am} (ok : AmOk a) (bp : B n a.pole) (bt : B n a.t) : BC (3 * n + 2) (about a) :=
  ⟨bt.mono (by omega), (minus_B ok.p (times_ok ok.t (face_ok ok.p _)) bp (times_B ok.t (face_ok ok.p _) bt (face_B bp _))).mono (by omega)⟩
end
end My

namespace My
open PySem L2 Mth
abbrev s_Arm___eq__ : Stmt := inClass (topS 48) 7
theorem sc_Arm___eq__ : FnScope ["self", "other"] ["self", "other"] (defScope s_Arm___eq__) := ⟨rfl, rfl, rfl, by decide +kernel, rfl, by decide +kernel, by decide +kernel⟩
section
variable {P : Program} {w : World} {K : PySem.W.Frag} {mg : Str → Option Value} {base : Heap}
def aeq (a b : Am) : Bool := decide (a.pole = b.pole) && (decide (a.t = b.t) && (decide (V.int a.near = V.int b.near) && (decide (V.int a.far = V.int b.far) && decide (V.bl a.m = V.bl b.m))))
theorem aeq_self (a : Am) : aeq a a = true := by unfold aeq; simp
theorem aeq_iff {a b : Am} : aeq a b = true ↔ a = b := by
  refine ⟨fun h => ?_, fun h => by rw [h]; exact aeq_self b⟩
  obtain ⟨a1, a2, a3, a4, a5⟩ := a
  obtain ⟨b1, b2, b3, b4, b5⟩ := b
  unfold aeq at h
  simp only [Bool.and_eq_true, decide_eq_true_eq] at h
  obtain ⟨h1, h2, h3, h4, h5⟩ := h
  cases V.int.inj h3
  cases V.int.inj h4
  cases V.bl.inj h5
  subst h1 h2
  rfl
def sp_aeq (K : PySem.W.Frag) (C CA : Addr) : Sp := fun vs H Q _ => ∃ va a vb b, vs = [va, vb] ∧ IsA K C CA H va a ∧ IsA K C CA H vb b ∧ Q (.bl (aeq a b)) H
theorem ok_aeq {f C CA : Addr} {fd : FuncData} (T : ATxt K CA) (mgA : mg "Arm" = some (.ref CA)) (b_isinstance : mg "isinstance" = none) (F : Fun K "__eq__" "Arm.__eq__" s_Arm___eq__ f fd) : FnOk P w K mg base CX0 1 f fd ["self", "other"] (sp_aeq K C CA) := by
  refine F.ok sc_Arm___eq__ (fun vs H Q E h => ?_) (fun cdv A outer s H vs Q E hr h => ?_)
  · obtain ⟨va, a, vb, b, rfl, _⟩ := h
    rfl
  obtain ⟨va, a, vb, b, rfl, ⟨p, dx, u, v, c, rfl, h1, h2, h3, _⟩, ⟨p', dx', u', v', c', rfl, k1, k2, k3, _⟩, q⟩ := h
  refine ⟨_, (pss_one (ps_ret (pe_and (pe_callB (r := rIsi K) call_isi (by rfl) b_isinstance (by decide +kernel) (pa_cons (pv 1) (pa_cons (pe_glob (v := .ref CA) (by rfl) mgA rfl) pa_nil))) (pe_and (pe_cmpR (op_eqD hr.units) (pe_fld (pv 0) rfl) (pe_fld (pv 1) rfl) (nomark _)) (pe_and (pe_cmpR (op_eqD hr.units) (pe_fld (pv 0) rfl) (pe_fld (pv 1) rfl) (nomark _)) (pe_and (pe_cmpR (op_eq) (pe_fld (pv 0) rfl) (pe_fld (pv 1) rfl) (nomark _)) (pe_and (pe_cmpR (op_eq) (pe_fld (pv 0) rfl) (pe_fld (pv 1) rfl) (nomark _)) (pe_one (pe_cmpR (op_eq) (pe_fld (pv 0) rfl) (pe_fld (pv 1) rfl) (nomark _)))))))))), ?_⟩
  refine ⟨_, rfl, _, _, _, _, true, rfl, .own CA, .base (.ins k1 T.cl T.ha T.hn T.htk T.hm), ?_, true, rfl, iteT ?_⟩
  · unfold PySem.W.kitOne; simp
  refine ⟨_, rfl, p, CA, dx, _, _, rfl, h1, T.cl, T.nC, af_centre, _, rfl, p', CA, dx', _, _, rfl, k1, T.cl, T.nC, af_centre, _, _, Dp3 h2, Dp3 k2, shaped3 _, shaped3 _, _, rfl, ?_⟩
  rw [eqv3]
  unfold aeq at q
  cases c1 : decide (a.pole = b.pole) with
  | false => rw [c1] at q; exact iteF q
  | true =>
    rw [c1] at q
    refine iteT ?_
    refine ⟨_, rfl, p, CA, dx, _, _, rfl, h1, T.cl, T.nF, af_factor, _, rfl, p', CA, dx', _, _, rfl, k1, T.cl, T.nF, af_factor, _, _, Dp3 h3, Dp3 k3, shaped3 _, shaped3 _, _, rfl, ?_⟩
    rw [eqv3]
    cases c2 : decide (a.t = b.t) with
    | false => rw [c2] at q; exact iteF q
    | true =>
      rw [c2] at q
      refine iteT ?_
      refine ⟨_, rfl, p, CA, dx, _, _, rfl, h1, T.cl, T.nE, af_least, _, rfl, p', CA, dx', _, _, rfl, k1, T.cl, T.nE, af_least, rfl, _, rfl, ?_⟩
      cases c3 : decide (V.int a.near = V.int b.near) with
      | false => rw [c3] at q; exact iteF q
      | true =>
        rw [c3] at q
        refine iteT ?_
        refine ⟨_, rfl, p, CA, dx, _, _, rfl, h1, T.cl, T.nM, af_most, _, rfl, p', CA, dx', _, _, rfl, k1, T.cl, T.nM, af_most, rfl, _, rfl, ?_⟩
        cases c4 : decide (V.int a.far = V.int b.far) with
        | false => rw [c4] at q; exact iteF q
        | true =>
          rw [c4] at q
          refine iteT ?_
          exact ⟨_, rfl, p, CA, dx, _, _, rfl, h1, T.cl, T.nL, af_flips, _, rfl, p', CA, dx', _, _, rfl, k1, T.cl, T.nL, af_flips, rfl, q⟩
structure MAe (P : Program) (w : World) (K : PySem.W.Frag) (mg : Str → Option Value) (base : Heap) (C CA : Addr) : Prop where
  ex : ∃ f, FnR P w K mg base CX0 1 f (sp_aeq K C CA) ∧ PySem.W.findIn K (.ref CA) "__eq__" = some (some (.ref f)) ∧ PySem.W.isFn K (.ref f) = true
theorem op_aeq {X : Cx} {C CA : Addr} (M : MAe X.prog X.w X.K X.mg X.base C CA) (hr : Room 1 X.A) : OpR X (compareOp .Eq) (rOwn2 CA (sp_aeq X.K C CA)) := by
  obtain ⟨f, F, h1, h2⟩ := M.ex
  exact eq_own F hr h1 h2
theorem aeq_of {C CA : Addr} {H : Hp} {Q : VK} {x y : V} {a b : Am} (ix : IsA K C CA H x a) (iy : IsA K C CA H y b) (q : Q (.bl (aeq a b)) H) : rOwn2 CA (sp_aeq K C CA) x y H Q := by
  have jx := ix
  have jy := iy
  obtain ⟨p, dx, _, _, _, rfl, h1, _⟩ := ix
  obtain ⟨p', dx', _, _, _, rfl, h1', _⟩ := iy
  exact ⟨p, p', dx, _, dx', _, rfl, rfl, h1, h1', _, a, _, b, rfl, jx, jy, q⟩
end
end My

namespace My
open PySem L2 Mth
abbrev s_joint_copy : Stmt := topS 52
theorem sc_joint_copy : FnScope ["arms", "done", "arm"] ["arms"] (defScope s_joint_copy) := ⟨rfl, rfl, rfl, by decide +kernel, rfl, by decide +kernel, by decide +kernel⟩
section
variable {P : Program} {w : World} {K : PySem.W.Frag} {mg : Str → Option Value} {base : Heap}
/-! ### chains -/
theorem IsA.keep {C CA : Addr} {H H' : Hp} {v : V} {a : Am} {d : Addr} {ys : List V} (h : IsA K C CA H v a) (hd : H d = some (.lst ys)) (e : Keep d H H') : IsA K C CA H' v a := by
  obtain ⟨p, dx, u, z, c, rfl, h1, h2, h3, h4⟩ := h
  exact ⟨p, dx, u, z, c, rfl, e _ _ (ne_of h1 hd (by intro z; cases z)) h1, keep_T h2 hd e, keep_T h3 hd e, h4.keep hd e⟩
def AllA (K : PySem.W.Frag) (C CA : Addr) (H : Hp) (vs : List V) (as : List Am) : Prop := Paired (fun v a => IsA K C CA H v a) vs as
theorem AllA.same {C CA : Addr} {H H' : Hp} {vs : List V} {as : List Am} (h : AllA K C CA H vs as) (s : Same H H') : AllA K C CA H' vs as := pimp (fun _ _ i => i.same s) h
theorem AllA.keep {C CA : Addr} {H H' : Hp} {vs : List V} {as : List Am} {d : Addr} {ys : List V} (h : AllA K C CA H vs as) (hd : H d = some (.lst ys)) (k : Keep d H H') : AllA K C CA H' vs as := pimp (fun _ _ i => i.keep hd k) h
structure ArmsOk (as : List Am) : Prop where
  len : as.length ≤ 6
  ok : ∀ a ∈ as, AmOk a
  bc : ∀ a ∈ as, BC 140 (about a)
theorem foldl_BC {n m : Nat} : ∀ {as : List Am} {c : Cp}, CpOk c → BC n c → (∀ a ∈ as, AmOk a ∧ BC m (about a)) → BC (n + (2 * m + 2) * as.length) (as.foldl (fun c a => jn c (about a)) c) := by
  intro as
  induction as generalizing n with
  | nil => intro c _ hb _; exact hb
  | cons a as ih =>
    intro c hc hb h
    have ha := h a (List.mem_cons_self ..)
    have z := ih (jn_ok hc (about_ok ha.1)) (jn_BC hc (about_ok ha.1) hb ha.2) fun b hb => h b (List.mem_cons_of_mem _ hb)
    refine z.mono ?_
    rw [List.length_cons, Nat.mul_succ]
    omega
theorem jall_BC {m : Nat} {as : List Am} (h : ∀ a ∈ as, AmOk a ∧ BC m (about a)) : BC (3 + (2 * m + 2) * as.length) (jall as) := foldl_BC still_ok still_BC h
theorem ArmsOk.take {as : List Am} (h : ArmsOk as) (i : Nat) : CpOk (jall (as.take i)) ∧ BC 1900 (jall (as.take i)) := by
  have hm : ∀ a ∈ as.take i, a ∈ as := fun a ha => List.mem_of_mem_take ha
  refine ⟨jall_ok fun a ha => h.ok a (hm a ha), (jall_BC (m := 140) fun a ha => ⟨h.ok a (hm a ha), h.bc a (hm a ha)⟩).mono ?_⟩
  have := h.len
  have l : (as.take i).length ≤ 6 := by rw [List.length_take]; omega
  omega
def sp_joint (K : PySem.W.Frag) (C CA : Addr) : Sp := fun vs H Q _ => ∃ p us as, vs = [.ref p] ∧ SqT K H p us ∧ AllA K C CA H us as ∧ ArmsOk as ∧ ∀ H' r, Same H H' → IsC K C H' r (jall as) → Q r H'
theorem ok_joint_copy {f C CA : Addr} {fd : FuncData} (m_A_effect : MPf P w K mg base CA "effect" "pen") (m_rs : MRs P w K mg base C) (d_still_copy : D P w K mg base "still_copy" 6 (sp_still K C))
    (F : Fun K "joint_copy" "joint_copy" s_joint_copy f fd) : FnOk P w K mg base CX0 7 f fd ["arms"] (sp_joint K C CA) := by
  refine F.ok sc_joint_copy (fun vs H Q E h => ?_) (fun cdv A outer s H vs Q E hr h => ?_)
  · obtain ⟨p, us, as, rfl, _⟩ := h
    rfl
  obtain ⟨p, us, as, rfl, hT, ha, ok, q⟩ := h
  refine ⟨_, (pss_cons (ps_set (i := 1) sc_joint_copy.nd rfl (by first | exact Or.inl rfl | exact Or.inr rfl) (pc0 d_still_copy (hr.mono (by decide))))
    (pss_cons (ps_for PassesOwn.never rfl (pi_tup (pv 0)) (pg_name (i := 2) sc_joint_copy.nd rfl (by first | exact Or.inl rfl | exact Or.inr rfl)) (pss_one (ps_set (i := 1) sc_joint_copy.nd rfl (by first | exact Or.inl rfl | exact Or.inr rfl) (pe_op (op_rsh m_rs (hr.mono (by decide))) (pv 1) (pe_pf m_A_effect (hr.mono (by decide)) (pv 2))))))
    (pss_one (ps_ret (pv 1))))), ?_⟩
  refine ⟨rfl, fun H1 r1 s1 i1 => ?_⟩
  have hl := Paired.length ha
  refine ⟨_, rfl, p, rfl, ⟨_, same_T s1 hT⟩, for_tup (K := K) (a := p) (xs := us) (fun i σ H' => ∃ r x, σ = [some (.ref p), some r, x] ∧ Same H H' ∧ IsC K C H' r (jall (as.take i))) ⟨r1, none, rfl, s1, i1⟩ ?_ ?_ ?_⟩
  · rintro i σ H' _ ⟨r, x, rfl, s', _⟩
    exact same_T s' hT
  · rintro i x σ H' hx ⟨r, y, rfl, s', ir⟩
    obtain ⟨a, h1, h2⟩ := pget ha hx
    have hm := List.mem_of_getElem? h1
    have h2 := h2.same s'
    obtain ⟨pa, dx, u, z, c, rfl, k1, k2, k3, k4⟩ := h2
    refine ⟨_, rfl, _, rfl, pf_of k1 af_pen ?_⟩
    refine jn_of ir k4 (ok.take i).1 (about_ok (ok.ok a hm)) (ok.take i).2 ((ok.bc a hm).mono (by decide)) fun H2 r2 s2 i2 => ?_
    exact ⟨_, _, rfl, s'.trans s2, by rw [jall_take h1]; exact i2⟩
  · rintro σ H' ⟨r, x, rfl, s', ir⟩
    rw [hl, List.take_length] at ir
    exact ⟨_, rfl, q _ _ s' ir⟩
def hf (a0 : Addr) (a1 : Addr) : List (Str × V) := [("links", .ref a0), ("pen", .ref a1)]
theorem hf_put {a0 : Addr} {a1 : Addr} : putF "pen" (.ref a1) (putF "links" (.ref a0) ([])) = hf a0 a1 := by
  have h0_1 : ¬ (("links" : Str) = "pen") := by decide +kernel
  simp only [putF, if_neg h0_1]
  rfl
theorem hf_links {a0 : Addr} {a1 : Addr} : (hf a0 a1).lookup ("links" : Str) = some (.ref a0) := by
  unfold hf
  simp only [List.lookup, beq_self_eq_true]
theorem hf_pen {a0 : Addr} {a1 : Addr} : (hf a0 a1).lookup ("pen" : Str) = some (.ref a1) := by
  unfold hf
  simp only [List.lookup, beq_self_eq_true, show (("pen" : Str) == "links") = false by decide +kernel]
structure HTxt (K : PySem.W.Frag) (C : Addr) : Prop where
  cl : Cls K C
  nK : NoAttr K C "links"
  nP : NoAttr K C "pen"
/-- a chain as an object -/
def IsH (K : PySem.W.Frag) (C CA CH : Addr) (H : Hp) (v : V) (as : List Am) : Prop := ∃ p dx t c us, v = .ref p ∧ H p = some (.ins CH dx (hf t c)) ∧ SqT K H t us ∧ AllA K C CA H us as ∧ IsC K C H (.ref c) (jall as)
theorem IsH.same {C CA CH : Addr} {H H' : Hp} {v : V} {as : List Am} (h : IsH K C CA CH H v as) (e : Same H H') : IsH K C CA CH H' v as := by
  obtain ⟨p, dx, t, c, us, rfl, h1, h2, h3, h4⟩ := h
  exact ⟨p, dx, t, c, us, rfl, e _ _ h1, same_T e h2, h3.same e, h4.same e⟩
theorem IsH.keep {C CA CH : Addr} {H H' : Hp} {v : V} {as : List Am} {d : Addr} {ys : List V} (h : IsH K C CA CH H v as) (hd : H d = some (.lst ys)) (e : Keep d H H') : IsH K C CA CH H' v as := by
  obtain ⟨p, dx, t, c, us, rfl, h1, h2, h3, h4⟩ := h
  exact ⟨p, dx, t, c, us, rfl, e _ _ (ne_of h1 hd (by intro z; cases z)) h1, keep_T h2 hd e, h3.keep hd e, h4.keep hd e⟩
theorem IsA.keepI {C CA CD p dx : Addr} {fs : List (Str × V)} {H H' : Hp} {v : V} {a : Am} (h : IsA K C CA H v a) (hd : H p = some (.ins CD dx fs)) (hl : fs.length < 3) (e : Keep p H H') : IsA K C CA H' v a := by
  obtain ⟨q, dy, u, z, c, rfl, h1, h2, h3, h4⟩ := h
  have n : q ≠ p := fun z => by
    rw [z, hd] at h1
    injection h1 with h1
    injection h1 with _ _ h1
    rw [h1] at hl
    exact absurd hl (by unfold af; simp)
  exact ⟨q, dy, u, z, c, rfl, e _ _ n h1, keepI_T h2 hd e, keepI_T h3 hd e, h4.keepI hd (by omega) e⟩
def sp_hin (K : PySem.W.Frag) (C CA CH : Addr) : Sp := fun vs H Q _ => ∃ (H0 : Hp) (p dx t : Addr) (us : List V) (as : List Am), vs = [.ref p, .ref t] ∧ Same H0 H ∧ H0 p = none ∧ H p = some (.ins CH dx []) ∧ SqT K H t us ∧ AllA K C CA H0 us as ∧ ArmsOk as ∧ ∀ H', Same H0 H' → IsH K C CA CH H' (.ref p) as → Q .non H'
def sp_hinit (K : PySem.W.Frag) (C CA CH : Addr) : Sp := fun vs H Q E => ∃ ws rest, vs = ws ++ rest ∧ ws.length = (["self"] : List Str).length ∧ rest.length ≤ sizeLine ∧ ∀ p, H p = Option.none → sp_hin K C CA CH (ws ++ [V.ref p]) (upd H p (.tup rest)) Q E
/-- the class as its users see it -/
structure ChainI (P : Program) (w : World) (K : PySem.W.Frag) (mg : Str → Option Value) (base : Heap) (C CA CH f : Addr) : Prop where
  tx : HTxt K CH
  mkC : Mk K CH f
  ok : FnR P w K mg base CX0 8 f (sp_hinit K C CA CH)
  mgC : mg "Chain" = some (.ref CH)
theorem mkh_of {C CA CH : Addr} {H : Hp} {Q : VK} {us : List V} {as : List Am} (ha : AllA K C CA H us as) (ok : ArmsOk as) (q : ∀ H' r, Same H H' → IsH K C CA CH H' r as → Q r H') :
    ∀ x dx, H x = none → H dx = none → dx ≠ x → sp_hinit K C CA CH (.ref x :: us) (upd (upd H dx (.own x)) x (.ins CH dx [])) (fun v H2 => v = .non ∧ Q (.ref x) H2) E0 := by
  intro x dx hx hd _
  refine ⟨[.ref x], us, rfl, rfl, small (by have := Paired.length ha; have := ok.len; omega), fun t ht => ?_⟩
  have nt : x ≠ t := fun z => by rw [← z, upd_same] at ht; cases ht
  refine ⟨H, x, dx, t, us, as, rfl, fun c o e => ?_, hx, by rw [upd_ne nt]; exact upd_same, .inl (.inl upd_same), ha, ok, fun H' s' i => ⟨rfl, q _ _ s' i⟩⟩
  have e2 : upd (upd H dx (.own x)) x (.ins CH dx []) c = some o := by
    rw [upd_ne (ne_of_none e hx), upd_ne (ne_of_none e hd)]
    exact e
  rw [upd_ne (ne_of_none e2 ht)]
  exact e2
theorem mkh_of2 {C CA CH : Addr} {H : Hp} {Qf : Addr → VK} {us : List V} {as : List Am} (ha : AllA K C CA H us as) (ok : ArmsOk as) (q : ∀ H' x, Same H H' → IsH K C CA CH H' (.ref x) as → Qf x .non H') :
    ∀ x dx, H x = none → H dx = none → dx ≠ x → sp_hinit K C CA CH (.ref x :: us) (upd (upd H dx (.own x)) x (.ins CH dx [])) (Qf x) E0 := by
  intro x dx hx hd _
  refine ⟨[.ref x], us, rfl, rfl, small (by have := Paired.length ha; have := ok.len; omega), fun t ht => ?_⟩
  have nt : x ≠ t := fun z => by rw [← z, upd_same] at ht; cases ht
  refine ⟨H, x, dx, t, us, as, rfl, fun c o e => ?_, hx, by rw [upd_ne nt]; exact upd_same, .inl (.inl upd_same), ha, ok, fun H' s' i => q _ _ s' i⟩
  have e2 : upd (upd H dx (.own x)) x (.ins CH dx []) c = some o := by
    rw [upd_ne (ne_of_none e hx), upd_ne (ne_of_none e hd)]
    exact e
  rw [upd_ne (ne_of_none e2 ht)]
  exact e2
theorem armsNil : ArmsOk [] := ⟨by decide, (fun a h => by cases h), (fun a h => by cases h)⟩
end
end My

namespace My
open PySem L2 Mth
abbrev s_is_from_to : Stmt := topS 45
theorem sc_is_from_to : FnScope ["value", "least", "most", "p", "q"] ["value", "least", "most"] (defScope s_is_from_to) := ⟨rfl, rfl, rfl, by decide +kernel, rfl, by decide +kernel, by decide +kernel⟩
abbrev s_square_between : Stmt := topS 44
theorem sc_square_between : FnScope ["one", "other", "x", "y", "d"] ["one", "other"] (defScope s_square_between) := ⟨rfl, rfl, rfl, by decide +kernel, rfl, by decide +kernel, by decide +kernel⟩
section
variable {P : Program} {w : World} {K : PySem.W.Frag} {mg : Str → Option Value} {base : Heap}
/-! ### squares of distances -/
def sp_sqb (K : PySem.W.Frag) : Sp := fun vs H Q _ => ∃ va vb a b, vs = [va, vb] ∧ IsT K H va a ∧ IsT K H vb b ∧ Ok a ∧ Ok b ∧ B 1900 a ∧ B 1900 b ∧ ∀ H' r, Same H H' → IsF K H' r (gr (minus a b)) → Q r H'
theorem ok_square_between {f : Addr} {fd : FuncData} (d_minus : D P w K mg base "minus" 4 (sp_two K minus)) (d_fraction : D P w K mg base "fraction" 2 (sp_fr K)) (F : Fun K "square_between" "square_between" s_square_between f fd) : FnOk P w K mg base CX0 5 f fd ["one", "other"] (sp_sqb K) := by
  refine F.ok sc_square_between (fun vs H Q E h => ?_) (fun cdv A outer s H vs Q E hr h => ?_)
  · obtain ⟨va, vb, a, b, rfl, _⟩ := h
    rfl
  obtain ⟨va, vb, a, b, rfl, ia, ib, oa, ob, ba, bb, q⟩ := h
  refine ⟨_, (pss_cons (ps_asg (pc d_minus (hr.mono (by decide)) (pa_cons (pv 0) (pa_cons (pv 1) pa_nil))) (pg_tup rfl (pgs_cons (pg_name (i := 2) sc_square_between.nd rfl (by first | exact Or.inl rfl | exact Or.inr rfl)) (pgs_cons (pg_name (i := 3) sc_square_between.nd rfl (by first | exact Or.inl rfl | exact Or.inr rfl)) (pgs_cons (pg_name (i := 4) sc_square_between.nd rfl (by first | exact Or.inl rfl | exact Or.inr rfl)) pgs_nil)))))
    (pss_one (ps_ret (pc d_fraction (hr.mono (by decide)) (pa_cons (pe_op op_add (pe_op op_mulW (pv 2) (pv 2)) (pe_op op_mulW (pv 3) (pv 3))) (pa_cons (pe_op op_mulW (pv 4) (pv 4)) pa_nil)))))), ?_⟩
  refine ⟨_, rfl, _, rfl, _, _, _, _, rfl, ia, ib, oa, ob, ba.mono (by decide), bb.mono (by decide), fun H1 r1 s1 i1 => ?_⟩
  have om := minus_ok oa ob
  have bm : B 3801 (minus a b) := minus_B oa ob ba bb
  generalize minus a b = z at *
  obtain ⟨x, y, d⟩ := z
  obtain ⟨a1, a2, a3⟩ := bm
  obtain ⟨p1, rfl, t1⟩ := i1
  refine ⟨p1, _, rfl, t1, rfl, _, _, rfl, _, _, rfl, _, _, rfl, rfl, ?_⟩
  refine ⟨_, rfl, _, rfl, _, _, rfl, rfl, mulW a1 a1, _, rfl, _, rfl, _, _, rfl, rfl, mulW a2 a2, _, _, rfl, rfl, ?_⟩
  refine ⟨_, rfl, _, rfl, _, _, rfl, rfl, mulW a3 a3, ?_⟩
  exact ⟨_, _, rfl, mul_ne om.ne om.ne, up_lt (by decide) (mul_lt a3 a3), fun H2 g s2 t2 => q _ _ (s1.trans s2) ⟨g, rfl, t2⟩⟩
def sp_ft (K : PySem.W.Frag) : Sp := fun vs H Q _ => ∃ v l m fv fl fm, vs = [v, l, m] ∧ IsF K H v fv ∧ IsF K H l fl ∧ IsF K H m fm ∧ FB 16001 fv ∧ FB 16001 fl ∧ FB 16001 fm ∧ Q (.bl (inF fv fl fm)) H
theorem ok_is_from_to {f : Addr} {fd : FuncData} (F : Fun K "is_from_to" "is_from_to" s_is_from_to f fd) : FnOk P w K mg base CX0 1 f fd ["value", "least", "most"] (sp_ft K) := by
  refine F.ok sc_is_from_to (fun vs H Q E h => ?_) (fun cdv A outer s H vs Q E hr h => ?_)
  · obtain ⟨v, l, m, fv, fl, fm, rfl, _⟩ := h
    rfl
  obtain ⟨v, l, m, fv, fl, fm, rfl, ⟨p1, rfl, tv⟩, ⟨p2, rfl, tl⟩, ⟨p3, rfl, tm⟩, bv, bl, bm, q⟩ := h
  refine ⟨_, (pss_cons (ps_asg (pv 0) (pg_tup rfl (pgs_cons (pg_name (i := 3) sc_is_from_to.nd rfl (by first | exact Or.inl rfl | exact Or.inr rfl)) (pgs_cons (pg_name (i := 4) sc_is_from_to.nd rfl (by first | exact Or.inl rfl | exact Or.inr rfl)) pgs_nil))))
    (pss_one (ps_ret (pe_and (pe_cmpR (op_le) (pe_op op_mulW (pe_ix (r := rIxT K) ix_tup (pv 1) pe_int (fun _ _ => rfl)) (pv 4)) (pe_op op_mulW (pv 3) (pe_ix (r := rIxT K) ix_tup (pv 1) pe_int (fun _ _ => rfl))) (nomark _)) (pe_one (pe_cmpR (op_le) (pe_op op_mulW (pv 3) (pe_ix (r := rIxT K) ix_tup (pv 2) pe_int (fun _ _ => rfl))) (pe_op op_mulW (pe_ix (r := rIxT K) ix_tup (pv 2) pe_int (fun _ _ => rfl)) (pv 4)) (nomark _))))))), ?_⟩
  rw [← ft_in] at q
  unfold ftF at q
  refine ⟨_, rfl, p1, _, rfl, tv, rfl, _, _, rfl, _, _, rfl, rfl, ?_⟩
  refine ⟨_, rfl, p2, _, 0, _, rfl, rfl, tl, rfl, _, rfl, _, _, rfl, rfl, mulW bl.1 bv.2, _, rfl, _, rfl, p2, _, 1, _, rfl, rfl, tl, rfl, _, _, rfl, rfl, mulW bv.1 bl.2, _, _, rfl, rfl, _, rfl, ?_⟩
  cases c : decide (fl.1 * fv.2 ≤ fv.1 * fl.2) with
  | false =>
    rw [c] at q
    exact iteF q
  | true =>
    rw [c] at q
    refine iteT ?_
    exact ⟨_, rfl, _, rfl, p3, _, 1, _, rfl, rfl, tm, rfl, _, _, rfl, rfl, mulW bv.1 bm.2, _, rfl, p3, _, 0, _, rfl, rfl, tm, rfl, _, rfl, _, _, rfl, rfl, mulW bm.1 bv.2, _, _, rfl, rfl, q⟩
end
end My

namespace My
open PySem L2 Mth
/-! ### squares of whole numbers -/
theorem nn10' {n : Int} (h0 : 0 ≤ n) (h1 : n ≤ 1000) : CMulW n n := mulW (a := 9) (b := 9) (show n.natAbs < 2 ^ 10 by omega) (show n.natAbs < 2 ^ 10 by omega)
theorem near_FB' {n : Int} (h0 : 0 ≤ n) (h1 : n ≤ 1000) : FB 16001 (n * n, 1) := ⟨up_lt (n := 20) (by decide) (mul_lt (n := 10) (m := 10) (show n.natAbs < 2 ^ 10 by omega) (show n.natAbs < 2 ^ 10 by omega)), up_lt (n := 1) (by decide) (show (1 : Int).natAbs < 2 ^ 1 by decide)⟩
end My

namespace My
open PySem L2 Mth
abbrev s_Arm_reaches : Stmt := inClass (topS 48) 8
theorem sc_Arm_reaches : FnScope ["self", "spot", "square"] ["self", "spot"] (defScope s_Arm_reaches) := ⟨rfl, rfl, rfl, by decide +kernel, rfl, by decide +kernel, by decide +kernel⟩
section
variable {P : Program} {w : World} {K : PySem.W.Frag} {mg : Str → Option Value} {base : Heap}
/-! ### what an arm reaches -/
def sp_reaches (K : PySem.W.Frag) (C CA : Addr) : Sp := fun vs H Q _ => ∃ va a vz z, vs = [va, vz] ∧ IsA K C CA H va a ∧ AmOk a ∧ B 1300 a.pole ∧ IsT K H vz z ∧ Ok z ∧ B 1900 z ∧ ∀ H', Same H H' → Q (.bl (rch a z)) H'
theorem ok_reaches {f C CA : Addr} {fd : FuncData} (T : ATxt K CA) (d_check_spot : D P w K mg base "check_spot" 3 (sp_check K)) (d_square_between : D P w K mg base "square_between" 5 (sp_sqb K)) (d_is_from_to : D P w K mg base "is_from_to" 1 (sp_ft K)) (F : Fun K "reaches" "Arm.reaches" s_Arm_reaches f fd) :
    FnOk P w K mg base CX0 6 f fd ["self", "spot"] (sp_reaches K C CA) := by
  refine F.ok sc_Arm_reaches (fun vs H Q E h => ?_) (fun cdv A outer s H vs Q E hr h => ?_)
  · obtain ⟨va, a, vz, z, rfl, _⟩ := h
    rfl
  obtain ⟨va, a, vz, z, rfl, ⟨p, dx, u, t, c, rfl, h1, h2, h3, h4⟩, ok, bp, iz, oz, bz, q⟩ := h
  refine ⟨_, (pss_cons (ps_expr (pc d_check_spot (hr.mono (by decide)) (pa_cons (pv 1) pa_nil)))
    (pss_cons (ps_set (i := 2) sc_Arm_reaches.nd rfl (by first | exact Or.inl rfl | exact Or.inr rfl) (pc d_square_between (hr.mono (by decide)) (pa_cons (pe_fld (pv 0) rfl) (pa_cons (pv 1) pa_nil))))
    (pss_one (ps_ret (pc d_is_from_to (hr.mono (by decide)) (pa_cons (pv 2) (pa_cons (pe_tup (pa_cons (pe_op op_mulW (pe_fld (pv 0) rfl) (pe_fld (pv 0) rfl)) (pa_cons pe_int pa_nil))) (pa_cons (pe_tup (pa_cons (pe_op op_mulW (pe_fld (pv 0) rfl) (pe_fld (pv 0) rfl)) (pa_cons pe_int pa_nil))) pa_nil)))))))), ?_⟩
  refine ⟨_, rfl, _, _, rfl, iz, oz, fun H1 s1 => ?_⟩
  refine ⟨_, rfl, p, CA, dx, _, _, rfl, s1 _ _ h1, T.cl, T.nC, af_centre, _, rfl, _, _, _, _, rfl, ⟨u, rfl, same_T s1 h2⟩, iz.same s1, ok.p, oz, bp.mono (by decide), bz, fun H2 r2 s2 i2 => ?_⟩
  have s12 := s1.trans s2
  have om := minus_ok ok.p oz
  have bm : B 3201 (minus a.pole z) := minus_B ok.p oz bp bz
  have gb : FB 16001 (gr (minus a.pole z)) := (gr_FB om bm).mono (by decide)
  have lo := ok.lo
  have mi := ok.mi
  have hi := ok.hi
  refine ⟨_, rfl, _, rfl, p, CA, dx, _, _, rfl, s12 _ _ h1, T.cl, T.nE, af_least, _, rfl, p, CA, dx, _, _, rfl, s12 _ _ h1, T.cl, T.nE, af_least, _, _, rfl, rfl, nn10' lo (by omega), (by show 2 ≤ sizeLine; decide), fun p3 hp3 => ?_⟩
  have s3 := same_new hp3 (.tup [.int (a.near * a.near), .int 1])
  have s13 := s12.trans s3
  refine ⟨_, rfl, p, CA, dx, _, _, rfl, s13 _ _ h1, T.cl, T.nM, af_most, _, rfl, p, CA, dx, _, _, rfl, s13 _ _ h1, T.cl, T.nM, af_most, _, _, rfl, rfl, nn10' (by omega) hi, (by show 2 ≤ sizeLine; decide), fun p4 hp4 => ?_⟩
  have s4 := same_new hp4 (.tup [.int (a.far * a.far), .int 1])
  refine ⟨_, _, _, _, (a.near * a.near, 1), (a.far * a.far, 1), rfl, i2.same (s3.trans s4), IsF.same IsF.new s4, IsF.new, gb, near_FB' lo (by omega), near_FB' (by omega) hi, ?_⟩
  have e : inF (gr (minus a.pole z)) (a.near * a.near, 1) (a.far * a.far, 1) = rch a z := by unfold rch; rw [gr_sym ok.p oz]
  rw [e]
  exact q _ (s13.trans s4)
structure MAr (P : Program) (w : World) (K : PySem.W.Frag) (mg : Str → Option Value) (base : Heap) (C CA : Addr) : Prop where
  cl : Cls K CA
  ex : ∃ f fd, FnOk P w K mg base CX0 6 f fd ["self", "spot"] (sp_reaches K C CA) ∧ Binds K fd ["self", "spot"] [] ∧ Meth K CA "reaches" f
open PyProof.Rows PySem.Spec in
theorem pe_reaches {X : Cx} {C CA : Addr} {o e : Expr} {to : TE} {t : TA} {apos pos : Pos} {pl : Sem Bool} (M : MAr X.prog X.w X.K X.mg X.base C CA) (hr : Room 6 X.A) (ho : PE X o to) (ha : PA X [e] t)
    (hs1 : starEach [e] X.env = (false, eval e X.env) :: starEach [] X.env := by rfl) (hs2 : (backTo pos (starEach [] X.env)).any (·.1) = false := by rfl)
    (ht : eval (.Call (.Attribute o "reaches" apos) [e] [] pos) X.env = (do
      let ov ← eval o X.env
      standAt apos.atName
      let (g, first) ← holding [ov] (getMethod ov "reaches" pl)
      callWith pos g first (backTo pos (starEach [e] X.env)) (backToKw pos (keywordEach [] X.env))) := by rfl) :
    PE X (.Call (.Attribute o "reaches" apos) [e] [] pos) (tMeth CA "reaches" (sp_reaches X.K C CA) [] E0 to t) := by
  obtain ⟨f, fd, F, b, m⟩ := M.ex
  exact pe_meth ho M.cl m F hr b .nil pass0 ha hs1 hs2 ht
end
end My

namespace My
open PySem L2 Mth LamX
section
variable {P : Program} {w : World} {K : PySem.W.Frag} {mg : Str → Option Value} {base : Heap}
def NotW (v : V) : Prop := v = .non ∨ (∃ b, v = .bl b) ∨ ∃ s, v = .str s
/-- is_whole of an int, a bool, None, a text -/
def sp_wholeA : Sp := fun vs H Q _ => ∃ v, vs = [v] ∧ ((∃ i, v = .int i ∧ Q (.bl true) H) ∨ (NotW v ∧ Q (.bl false) H))
theorem ok_is_wholeA {f : Addr} {fd : FuncData} (b_isinstance : mg "isinstance" = none) (b_int : mg "int" = none) (b_bool : mg "bool" = none) (F : Fun K "is_whole" "is_whole" s_is_whole f fd) : FnOk P w K mg base CX0 1 f fd ["value"] sp_wholeA := by
  refine F.ok sc_is_whole (fun vs H Q E h => ?_) (fun cdv A outer s H vs Q E hr h => ?_)
  · obtain ⟨v, rfl, _⟩ := h
    rfl
  obtain ⟨v, rfl, h⟩ := h
  refine ⟨_, (pss_one (ps_ret (pe_and (pe_callB (r := rIsi K) call_isi (by rfl) b_isinstance (by decide +kernel) (pa_cons (pv 0) (pa_cons (pe_bltn (v := .ty "int") (by rfl) b_int (by decide +kernel) rfl) pa_nil))) (pe_one (pe_not (pe_callB (r := rIsi K) call_isi (by rfl) b_isinstance (by decide +kernel) (pa_cons (pv 0) (pa_cons (pe_bltn (v := .ty "bool") (by rfl) b_bool (by decide +kernel) rfl) pa_nil)))))))), ?_⟩
  rcases h with ⟨i, rfl, q⟩ | ⟨rfl | ⟨b, rfl⟩ | ⟨x, rfl⟩, q⟩
  · refine ⟨_, rfl, _, _, _, _, _, rfl, .ty _, .base (.int i), kit_ty (by decide +kernel), true, rfl, iteT ?_⟩
    exact ⟨_, rfl, _, _, _, _, _, rfl, .ty _, .base (.int i), kit_ty (by decide +kernel), false, rfl, q⟩
  · exact ⟨_, rfl, _, _, _, _, _, rfl, .ty _, .base .non, kit_ty (by decide +kernel), false, rfl, iteF q⟩
  · refine ⟨_, rfl, _, _, _, _, _, rfl, .ty _, .base (.bl b), kit_ty (by decide +kernel), true, rfl, iteT ?_⟩
    exact ⟨_, rfl, _, _, _, _, _, rfl, .ty _, .base (.bl b), kit_ty (by decide +kernel), true, rfl, q⟩
  · exact ⟨_, rfl, _, _, _, _, _, rfl, .ty _, .base (.str x), kit_ty (by decide +kernel), false, rfl, iteF q⟩
/-- an own class over ValueError, to be raised -/
structure ExX (K : PySem.W.Frag) (mg : Str → Option Value) (x : Str) (C : Addr) : Prop where
  q : PySem.W.excIn K C [.type "ValueError", .type "Exception", .type "BaseException", .type "object"] "ValueError.__new__" = true
  k : PySem.W.keepIn K (.ref C) = true
  b : PySem.W.subIn K (.ref C) (.type "BaseException") = some true
  t : PySem.W.typeIn K (.ref C) = some (.type "type")
  g : mg x = some (.ref C)
end
end My

namespace My
open PySem L2 Mth LamX

section
variable {P : Program} {w : World} {K : PySem.W.Frag} {mg : Str → Option Value} {base : Heap}
/-! ### what is no spot -/
theorem D.or {x : Str} {k : Nat} {sp1 sp2 : Sp} (d1 : D P w K mg base x k sp1) (d2 : D P w K mg base x k sp2) : D P w K mg base x k (fun vs H Q E => sp1 vs H Q E ∨ sp2 vs H Q E) := by
  obtain ⟨f, F1, hk, hm⟩ := d1.ex
  obtain ⟨g, F2, _, hm'⟩ := d2.ex
  rw [hm] at hm'
  cases hm'
  exact ⟨f, fun A outer s H us vs Q E hr e0 r h => h.elim (F1 A outer s H us vs Q E hr e0 r) (F2 A outer s H us vs Q E hr e0 r), hk, hm⟩
inductive BadS : List V → Prop
  | len {xs : List V} (h : xs.length ≠ 3) (hl : xs.length ≤ 100) : BadS xs
  | num {x y d : Int} (h : ¬ (1 ≤ d ∧ g3 x y d = 1)) : BadS [.int x, .int y, .int d]
  | kind {a b c : V} (h : ∀ x ∈ [a, b, c], (∃ i, x = .int i) ∨ NotW x) (e : ∃ x ∈ [a, b, c], NotW x) : BadS [a, b, c]
def sp_isspotX (K : PySem.W.Frag) : Sp := fun vs H Q _ => ∃ p xs, vs = [.ref p] ∧ SqT K H p xs ∧ BadS xs ∧ ∀ H', Same H H' → Q (.bl false) H'
def wh (x : V) : Bool := match x with
  | .int _ => true
  | _ => false
theorem ok_is_spotX {f : Addr} {fd : FuncData} (b_isinstance : mg "isinstance" = none) (b_tuple : mg "tuple" = none) (b_len : mg "len" = none) (b_all : mg "all" = none) (d_common_divisor : D P w K mg base "common_divisor" 1 sp_gcd) (d_is_whole : D P w K mg base "is_whole" 1 sp_wholeA)
    (F : Fun K "is_spot" "is_spot" s_is_spot f fd) : FnOk P w K mg base CX0 2 f fd ["value"] (sp_isspotX K) := by
  refine F.ok sc_is_spot (fun vs H Q E h => ?_) (fun cdv A outer s H vs Q E hr h => ?_)
  · obtain ⟨p, xs, rfl, _⟩ := h
    rfl
  obtain ⟨p, xs, rfl, ta, bad, q⟩ := h
  refine ⟨_, (pss_cons (ps_if (PW.pt (pw_or (pt_not (pt_val (pe_callB (r := rIsi K) call_isi (by rfl) b_isinstance (by decide +kernel) (pa_cons (pv 0) (pa_cons (pe_bltn (v := .ty "tuple") (by rfl) b_tuple (by decide +kernel) rfl) pa_nil))))) (pw_or1 (pt_cmpR (op_ne) (pe_callB call_len_seq (by rfl) b_len PySem.boot_len (pa_cons (pv 0) pa_nil)) pe_int (nomark _))))) (pss_one (ps_ret pe_bl)) pss_nil)
    (pss_cons (ps_if (pt_not (pt_val (pe_callB (cr_all rfl) (by rfl) b_all (by decide +kernel) (pa_cons (pe_lc (own := [("number", 1)]) (g := gName 1) (tt := tYes) (by rfl) sc_is_spot.nd (pi_tup (pv 0)) (blkOk_by (own := [("number", 1)]) (N := ["value", "number", "x", "y", "d"]) (sc := defScope s_is_spot) (by decide +kernel)) (fun _ _ _ _ _ => (pg_name (i := 1) sc_is_spot.nd rfl (by first | exact Or.inl rfl | exact Or.inr rfl))) (fun _ _ _ _ _ => pts_nil) (fun _ _ _ _ _ => (pc d_is_whole (hr.mono (by decide)) (pa_cons (pv 1) pa_nil)))) pa_nil)))) (pss_one (ps_ret pe_bl)) pss_nil)
    (pss_cons (ps_asg (pv 0) (pg_tup rfl (pgs_cons (pg_name (i := 2) sc_is_spot.nd rfl (by first | exact Or.inl rfl | exact Or.inr rfl)) (pgs_cons (pg_name (i := 3) sc_is_spot.nd rfl (by first | exact Or.inl rfl | exact Or.inr rfl)) (pgs_cons (pg_name (i := 4) sc_is_spot.nd rfl (by first | exact Or.inl rfl | exact Or.inr rfl)) pgs_nil)))))
    (pss_one (ps_ret (pe_and (pe_cmpR (op_ge) (pv 4) pe_int (nomark _)) (pe_one (pe_cmpR (op_eq) (pc d_common_divisor (hr.mono (by decide)) (pa_cons (pc d_common_divisor (hr.mono (by decide)) (pa_cons (pv 2) (pa_cons (pv 3) pa_nil))) (pa_cons (pv 4) pa_nil))) pe_int (nomark _))))))))), ?_⟩
  refine ⟨_, rfl, _, _, _, _, _, rfl, .ty _, ty_T ta, kit_ty (by decide +kernel), true, rfl, ?_⟩
  refine iteF ?_
  refine ⟨_, rfl, _, _, rfl, .inr ta, rfl, _, rfl, ?_⟩
  by_cases hl : ¬ xs.length = 3
  · rw [decide_eq_false (fun z => hl (by have := V.int.inj z; omega))]
    exact iteT (q _ (Same.refl _))
  have hl : xs.length = 3 := Decidable.not_not.mp hl
  rw [show V.int (xs.length : Int) = V.int 3 by rw [hl]; rfl, decide_eq_true rfl]
  refine iteF ?_
  have items : ∀ x ∈ xs, (∃ i, x = .int i) ∨ NotW x := fun x hx => by
    cases bad with
    | len h => exact absurd hl h
    | num h =>
      simp only [List.mem_cons, List.mem_nil_iff, or_false] at hx
      rcases hx with rfl | rfl | rfl <;> exact .inl ⟨_, rfl⟩
    | kind h e => exact h x hx
  refine ⟨_, rfl, _, rfl, ⟨_, ta⟩, fun L hL => lc_tup (K := K) (a := p) (xs := xs) (fun i H' => ∃ acc : List V, H' = upd H L (.lst acc) ∧ acc = ((xs.take i).map wh).map V.bl) ⟨[], rfl, rfl⟩ ?_ ?_ ?_⟩
  · rintro i H' hi ⟨acc, rfl, _⟩
    exact same_T (same_new hL _) ta
  · rintro i x H' hx ⟨acc, rfl, ea⟩
    refine ⟨rfl, ?_⟩
    refine yes_of ?_
    have fin : ∃ acc', upd H L (.lst acc) L = some (.lst acc') ∧ acc'.length < sizeLine ∧ ∃ acc'', upd (upd H L (.lst acc)) L (.lst (acc' ++ [.bl (wh x)])) = upd H L (.lst acc'') ∧ acc'' = ((xs.take (i + 1)).map wh).map V.bl := by
      refine ⟨acc, upd_same, ?_, acc ++ [.bl (wh x)], upd_upd, ?_⟩
      · rw [ea, List.length_map, List.length_map, List.length_take]; exact small1000 (by omega)
      · rw [tk_map wh hx, List.map_append, ea]; rfl
    rcases items x (List.mem_of_getElem? hx) with ⟨i', rfl⟩ | nw
    · exact ⟨_, rfl, _, rfl, .inl ⟨i', rfl, fin⟩⟩
    · have ew : wh x = false := by rcases nw with rfl | ⟨b, rfl⟩ | ⟨t, rfl⟩ <;> rfl
      rw [ew] at fin
      exact ⟨_, rfl, _, rfl, .inr ⟨nw, fin⟩⟩
  · rintro H' ⟨acc, rfl, ea⟩
    rw [List.take_length] at ea
    refine ⟨_, xs.map wh, rfl, .inl (.inl ?_), ?_⟩
    · rw [ea]; exact upd_same
    refine ⟨_, rfl, ?_⟩
    have s1 := same_new hL (.lst acc)
    cases bad with
    | len h => exact absurd hl h
    | kind h e =>
      obtain ⟨x, hx, nw⟩ := e
      have ew : wh x = false := by rcases nw with rfl | ⟨b, rfl⟩ | ⟨t, rfl⟩ <;> rfl
      rw [show (([_, _, _] : List V).map wh).all id = false from List.all_eq_false.mpr ⟨wh x, List.mem_map.mpr ⟨x, hx, rfl⟩, by rw [ew]; decide⟩]
      exact iteT (q _ s1)
    | @num x y d h =>
      refine iteF ?_
      refine ⟨_, rfl, _, _, rfl, same_T s1 ta, rfl, _, _, rfl, _, _, rfl, _, _, rfl, rfl, ?_⟩
      refine ⟨_, rfl, _, _, rfl, rfl, _, rfl, ?_⟩
      by_cases hd : (1 : Int) ≤ d
      · rw [decide_eq_true hd]
        refine iteT ?_
        refine ⟨_, rfl, _, rfl, _, _, rfl, _, rfl, _, _, rfl, rfl, ?_⟩
        have e : ¬ V.int ((Int.gcd ((Int.gcd x y : Nat) : Int) d : Nat) : Int) = V.int 1 := fun z => h ⟨hd, V.int.inj z⟩
        show Q (.bl (decide (V.int ((Int.gcd ((Int.gcd x y : Nat) : Int) d : Nat) : Int) = V.int 1))) _
        rw [decide_eq_false e]
        exact q _ s1
      · rw [decide_eq_false hd]
        exact iteF (q _ s1)
/-- a def that may raise -/
structure DX (P : Program) (w : World) (K : PySem.W.Frag) (mg : Str → Option Value) (base : Heap) (x : Str) (k : Nat) (sp : Sp) : Prop where
  ex : ∃ f, FnR P w K mg base (L2.CX P w) k f sp ∧ PySem.W.keepIn K (.ref f) = true ∧ mg x = some (.ref f)
def tClX (sp : Sp) (E : XK) (t : TA) : TE := fun σ H Q => t σ H fun vs H1 => sp vs H1 Q E
theorem pcX {X : Cx} {k : Nat} {sp : Sp} {x : Str} {e : Expr} {es : List Expr} {t : TA} {p pos : Pos} {E : XK} (d : DX X.prog X.w X.K X.mg X.base x k sp) (hr : Room k X.A) (hx : Passes (L2.CX X.prog X.w) X E) (ha : PA X (e :: es) t) (hg : Gl X x := by rfl) (hd : (x == ("__debug__" : Str)) = false := by decide)
    (he : starEach (e :: es) X.env = (false, eval e X.env) :: starEach es X.env := by rfl) (hpl : (backTo pos (starEach es X.env)).any (·.1) = false := by rfl) :
    PE X (.Call (.Name x p) (e :: es) [] pos) (tClX sp E t) := by
  obtain ⟨f, F, hk, hm⟩ := d.ex
  refine ⟨fun pins s σ H Q I h => ?_⟩
  refine wpAny_Call_Name_kw (ld_glob I hg hm ?_ hd)
  refine PySem.W.callWith_K (h₀ := X.base) I.ok.mod.kin hk (thn (ha.run pos pins s σ H _ I h) fun us s1 ⟨vs, H1, I1, r, q⟩ => ⟨I1.kIn, ?_⟩) he hpl
  exact wpAny_call (run_fnR F hr hx I1 r q)
theorem rOfX {k : Nat} {f : Addr} {fd : FuncData} {ps : List Str} {sp : Sp} (F : FnOk P w K mg base (L2.CX P w) k f fd ps sp) (b : Binds K fd ps []) : FnR P w K mg base (L2.CX P w) k f sp := rOf F b
def sp_isspotB (K : PySem.W.Frag) : Sp := fun vs H Q E => sp_isspot K vs H Q E ∨ sp_isspotX K vs H Q E
def sp_checkB (K : PySem.W.Frag) (CT : Addr) : Sp := fun vs H Q E => ∃ v, vs = [v] ∧ ((∃ a, IsT K H v a ∧ Ok a ∧ ∀ H', Same H H' → Q .non H') ∨ ∃ p xs, v = .ref p ∧ SqT K H p xs ∧ BadS xs ∧ ∀ H', Same H H' → E (.ref CT) none H')
theorem ok_check_spotB {f CT : Addr} {fd : FuncData} (XS : ExX K mg "InvalidSpot" CT) (d_is_spotB : D P w K mg base "is_spot" 2 (sp_isspotB K)) (F : Fun K "check_spot" "check_spot" s_check_spot f fd) : FnOk P w K mg base (L2.CX P w) 3 f fd ["value"] (sp_checkB K CT) := by
  refine F.okX sc_check_spot (fun vs H Q E h => ?_) (fun cdv A outer s H vs Q E hr h => ?_)
  · obtain ⟨v, rfl, _⟩ := h
    rfl
  obtain ⟨v, rfl, h⟩ := h
  refine ⟨_, (pss_one (ps_if (pt_not (pt_val (pc d_is_spotB (hr.mono (by decide)) (pa_cons (pv 0) pa_nil)))) (pss_one (ps_raise rfl (takes_of rfl rfl rfl rfl) (pmk_own PySem.F.excBase_ValueError XS.q XS.g XS.k (raises_own XS.b XS.t) (by rfl)))) pss_nil)), ?_⟩
  rcases h with ⟨a, ia, oa, q⟩ | ⟨p, xs, rfl, ta, bad, q⟩
  · exact ⟨_, rfl, .inl ⟨_, _, rfl, ia, oa, fun H1 s1 => ⟨_, rfl, iteF (q _ s1)⟩⟩⟩
  · exact ⟨_, rfl, .inr ⟨_, _, rfl, ta, bad, fun H1 s1 => ⟨_, rfl, iteT (q _ s1)⟩⟩⟩
end
end My

namespace My
open PySem L2 Mth LamX
section
variable {K : PySem.W.Frag}
/-! ### what stays when a lambda is made; the pairs that tell of an error -/
theorem extN_T {H H' : Hp} {p : Addr} {xs : List V} (h : SqT K H p xs) (e : ExtN H H') : SqT K H' p xs := by
  rcases h with (h | ⟨o, h⟩) | h
  · exact .inl (.inl (e _ _ h (fun ps z => by cases z)))
  · exact .inl (.inr ⟨o, e _ _ h (fun ps z => by cases z)⟩)
  · exact .inr h
theorem extN_L {H H' : Hp} {p : Addr} {xs : List V} (h : H p = some (.lst xs)) (e : ExtN H H') : H' p = some (.lst xs) := e _ _ h (fun ps z => by cases z)
theorem IsT.extN {H H' : Hp} {v : V} {t : T3} (h : IsT K H v t) (e : ExtN H H') : IsT K H' v t := by
  obtain ⟨p, rfl, q⟩ := h
  exact ⟨p, rfl, extN_T q e⟩
theorem TabS.keep {H H' : Hp} {P d : Addr} {q : Str} {ys : List V} (t : TabS H P q) (hd : H d = some (.lst ys)) (k : Keep d H H') : TabS H' P q := by
  obtain ⟨ps, h1, h2, h3⟩ := t
  refine ⟨ps, k _ _ (ne_of h1 hd (by intro z; cases z)) h1, h2, fun pos cv hc => ?_⟩
  obtain ⟨c, e1, e2⟩ := h3 pos cv hc
  exact ⟨c, e1, k _ _ (ne_of e2 hd (by intro z; cases z)) e2⟩
def dErr (n : Str) : PyData := .tuple [.str n, .int 0]
theorem shapedE {n : Str} (h : PyData.strOk n = true) : SeqAt.shaped (dErr n) = true := by
  show ((PyData.strOk n && (true && true)) && decide (_ ≤ 64)) = true
  rw [h]
  rfl
theorem eqvE (n : Str) : PyData.eqv (dErr n) (dErr n) = true := by simp [dErr, PyData.eqv, PyData.eqvAll]
end
end My

namespace My
open PySem L2 Mth LamX

section
variable {P : Program} {w : World} {K : PySem.W.Frag} {mg : Str → Option Value} {base : Heap}
/-! ### copies that cannot be made -/
def BadT (K : PySem.W.Frag) (H : Hp) (v : V) : Prop := (∃ p xs, v = .ref p ∧ SqT K H p xs ∧ BadS xs) ∨ IsT K H v (0, 0, 1)
theorem BadT.same {H H' : Hp} {v : V} (h : BadT K H v) (s : Same H H') : BadT K H' v := by
  rcases h with ⟨p, xs, e, h1, h2⟩ | h
  · exact .inl ⟨p, xs, e, same_T s h1, h2⟩
  · exact .inr (h.same s)
def sp_checkTB (K : PySem.W.Frag) (CT : Addr) : Sp := fun vs H Q E => ∃ v, vs = [v] ∧ ((∃ a, IsT K H v a ∧ Ok a ∧ Nz a ∧ ∀ H', Same H H' → Q .non H') ∨ (BadT K H v ∧ ∀ H', Same H H' → E (.ref CT) none H'))
theorem ok_check_turnB {f CT aM : Addr} {fd : FuncData} (XT : ExX K mg "InvalidTurn" CT) (d_is_spotB : D P w K mg base "is_spot" 2 (sp_isspotB K)) (m_MIDDLE : mg "MIDDLE" = some (.ref aM)) (t_MIDDLE : ∀ H, SqT K H aM (v3 (0, 0, 1))) (F : Fun K "check_turn" "check_turn" s_check_turn f fd) :
    FnOk P w K mg base (L2.CX P w) 3 f fd ["value"] (sp_checkTB K CT) := by
  refine F.okX sc_check_turn (fun vs H Q E h => ?_) (fun cdv A outer s H vs Q E hr h => ?_)
  · obtain ⟨v, rfl, _⟩ := h
    rfl
  obtain ⟨v, rfl, h⟩ := h
  refine ⟨_, (pss_one (ps_if (PW.pt (pw_or (pt_not (pt_val (pc d_is_spotB (hr.mono (by decide)) (pa_cons (pv 0) pa_nil)))) (pw_or1 (pt_cmpR (r := rEqD K) (op_eqD hr.units) (pv 0) (pe_glob (v := .ref aM) (by rfl) m_MIDDLE rfl) (nomark _))))) (pss_one (ps_raise rfl (takes_of rfl rfl rfl rfl) (pmk_own PySem.F.excBase_ValueError XT.q XT.g XT.k (raises_own XT.b XT.t) (by rfl)))) pss_nil)), ?_⟩
  rcases h with ⟨a, ⟨p, rfl, ta⟩, oa, na, q⟩ | ⟨⟨p, xs, rfl, h1, h2⟩ | ⟨p, rfl, ta⟩, q⟩
  · refine ⟨_, rfl, .inl ⟨_, _, rfl, ⟨p, rfl, ta⟩, oa, fun H1 s1 => ⟨_, rfl, iteF ?_⟩⟩⟩
    refine ⟨_, rfl, _, _, Dp3 (same_T s1 ta), Dp3 (t_MIDDLE H1), shaped3 _, shaped3 _, _, rfl, ?_⟩
    rw [eqv3, decide_eq_false (fun z => by rw [z] at na; rcases na with n | n <;> exact n rfl)]
    exact iteF (q _ s1)
  · exact ⟨_, rfl, .inr ⟨_, _, rfl, h1, h2, fun H1 s1 => ⟨_, rfl, iteT (q _ s1)⟩⟩⟩
  · refine ⟨_, rfl, .inl ⟨_, _, rfl, ⟨p, rfl, ta⟩, ok_0, fun H1 s1 => ⟨_, rfl, iteF ?_⟩⟩⟩
    refine ⟨_, rfl, _, _, Dp3 (same_T s1 ta), Dp3 (t_MIDDLE H1), shaped3 _, shaped3 _, _, rfl, ?_⟩
    rw [eqv3, decide_eq_true rfl]
    exact iteT (q _ s1)
def sp_initX (K : PySem.W.Frag) (CS CT : Addr) : Sp := fun vs H Q E => ∃ vp vt vs' vm, vs = [vp, vt, vs', vm] ∧ ((BadT K H vt ∧ ∀ H', Same H H' → E (.ref CT) none H') ∨
  ((∃ t, IsT K H vt t ∧ Ok t ∧ Nz t) ∧ (∃ q xs, vs' = .ref q ∧ SqT K H q xs ∧ BadS xs) ∧ ∀ H', Same H H' → E (.ref CS) none H'))
theorem ok_initX {f CS CT : Addr} {fd : FuncData} {kws : List (Str × V)} (d_check_turnB : DX P w K mg base "check_turn" 3 (sp_checkTB K CT)) (d_check_spotB : DX P w K mg base "check_spot" 3 (sp_checkB K CS))
    (F : FunD K "__init__" "Copy.__init__" (defArgs s_Copy___init__) (defBody s_Copy___init__) (defScope s_Copy___init__) [] kws f fd) : FnOk P w K mg base (L2.CX P w) 4 f fd ["self", "turn", "shift", "mirrored"] (sp_initX K CS CT) := by
  refine F.ok sc_Copy___init__ (fun vs H Q E h => ?_) (fun cdv A outer s H vs Q E hr h => ?_)
  · obtain ⟨vp, vt, vs', vm, rfl, _⟩ := h
    rfl
  obtain ⟨vp, vt, vs', vm, rfl, h⟩ := h
  refine ⟨_, (pss_cons (ps_expr (pcX d_check_turnB (hr.mono (by decide)) (passes_call (takes_of rfl rfl rfl rfl) (fun _ _ _ _ h => h)) (pa_cons (pv 1) pa_nil)))
    (pss_cons (ps_expr (pcX d_check_spotB (hr.mono (by decide)) (passes_call (takes_of rfl rfl rfl rfl) (fun _ _ _ _ h => h)) (pa_cons (pv 2) pa_nil)))
    pss_never)), ?_⟩
  rcases h with ⟨bad, q⟩ | ⟨⟨t, it, ot, nt⟩, ⟨qa, xs, rfl, h1, h2⟩, q⟩
  · exact ⟨_, rfl, _, rfl, .inr ⟨bad, q⟩⟩
  · refine ⟨_, rfl, _, rfl, .inl ⟨t, it, ot, nt, fun H1 s1 => ?_⟩⟩
    exact ⟨_, rfl, _, rfl, .inr ⟨_, _, rfl, same_T s1 h1, h2, fun H2 s2 => q _ (s1.trans s2)⟩⟩
structure CopyX (P : Program) (w : World) (K : PySem.W.Frag) (mg : Str → Option Value) (base : Heap) (C f CS CT : Addr) (fd : FuncData) (ds : List Value) : Prop where
  mkC : Mk K C f
  ok : FnOk P w K mg base (L2.CX P w) 4 f fd ["self", "turn", "shift", "mirrored"] (sp_initX K CS CT)
  mgC : mg "Copy" = some (.ref C)
  bv : Vals [.bl false] ds
  bd : Binds K fd ["self", "turn", "shift", "mirrored"] ds
  kb : KBn K fd ["self", "turn", "shift", "mirrored"] 3 ["mirrored"] (fun us ws => us ++ ws) (fun vs zs => vs ++ zs)
theorem mkcx_t {C CS CT : Addr} {H : Hp} {Qf : Addr → VK} {E : XK} {vt vs vm : V} (bad : BadT K H vt) (q : ∀ H', Same H H' → E (.ref CT) none H') :
    ∀ x dx, H x = none → H dx = none → dx ≠ x → sp_initX K CS CT [.ref x, vt, vs, vm] (upd (upd H dx (.own x)) x (.ins C dx [])) (Qf x) E := by
  intro x dx hx hd _
  have sm : Same H (upd (upd H dx (.own x)) x (.ins C dx [])) := fun c o e => by
    rw [upd_ne (ne_of_none e hx), upd_ne (ne_of_none e hd)]
    exact e
  exact ⟨_, _, _, _, rfl, .inl ⟨bad.same sm, fun H' s' => q _ (sm.trans s')⟩⟩
theorem mkcx_s {C CS CT : Addr} {H : Hp} {Qf : Addr → VK} {E : XK} {vt vm : V} {t : T3} {p : Addr} {xs : List V} (it : IsT K H vt t) (ot : Ok t) (nt : Nz t) (h : SqT K H p xs) (bad : BadS xs) (q : ∀ H', Same H H' → E (.ref CS) none H') :
    ∀ x dx, H x = none → H dx = none → dx ≠ x → sp_initX K CS CT [.ref x, vt, .ref p, vm] (upd (upd H dx (.own x)) x (.ins C dx [])) (Qf x) E := by
  intro x dx hx hd _
  have sm : Same H (upd (upd H dx (.own x)) x (.ins C dx [])) := fun c o e => by
    rw [upd_ne (ne_of_none e hx), upd_ne (ne_of_none e hd)]
    exact e
  exact ⟨_, _, _, _, rfl, .inr ⟨⟨t, it.same sm, ot, nt⟩, ⟨p, xs, rfl, same_T sm h, bad⟩, fun H' s' => q _ (sm.trans s')⟩⟩
def sp_apX (K : PySem.W.Frag) (C CS : Addr) : Sp := fun vs H Q E => ∃ vc q xs, vs = [vc, .ref q] ∧ SqT K H q xs ∧ BadS xs ∧ ∀ H', Same H H' → E (.ref CS) none H'
theorem ok_callX {f C CS : Addr} {fd : FuncData} (d_check_spotB : DX P w K mg base "check_spot" 3 (sp_checkB K CS)) (F : Fun K "__call__" "Copy.__call__" s_Copy___call__ f fd) : FnOk P w K mg base (L2.CX P w) 5 f fd ["self", "spot"] (sp_apX K C CS) := by
  refine F.okX sc_Copy___call__ (fun vs H Q E h => ?_) (fun cdv A outer s H vs Q E hr h => ?_)
  · obtain ⟨vc, qa, xs, rfl, _⟩ := h
    rfl
  obtain ⟨vc, qa, xs, rfl, h1, h2, q⟩ := h
  refine ⟨_, (pss_cons (ps_expr (pcX d_check_spotB (hr.mono (by decide)) (passes_call (takes_of rfl rfl rfl rfl) (fun _ _ _ _ h => h)) (pa_cons (pv 1) pa_nil)))
    pss_never), ?_⟩
  exact ⟨_, rfl, _, rfl, .inr ⟨_, _, rfl, h1, h2, q⟩⟩
structure MCaX (P : Program) (w : World) (K : PySem.W.Frag) (mg : Str → Option Value) (base : Heap) (C CS : Addr) : Prop where
  ex : ∃ f, FnR P w K mg base (L2.CX P w) 5 f (sp_apX K C CS) ∧ StX.CallO K C f
def tApX (K : PySem.W.Frag) (C CS : Addr) (E : XK) (tf : TE) (t : TA) : TE := fun σ H Q => tf σ H fun y H1 => ∃ a, y = V.ref a ∧ t σ H1 fun vs H2 => (∃ dx fs, H2 a = some (.ins C dx fs)) ∧ sp_apX K C CS (V.ref a :: vs) H2 Q E
open PyProof.Rows PySem.Spec in
theorem pe_apX {X : Cx} {C CS : Addr} {fe e : Expr} {es : List Expr} {tf : TE} {t : TA} {pos : Pos} {E : XK} (M : MCaX X.prog X.w X.K X.mg X.base C CS) (hr : Room 5 X.A) (hx : Passes (L2.CX X.prog X.w) X E) (hf : PE X fe tf) (ha : PA X (e :: es) t)
    (ht : eval (.Call fe (e :: es) [] pos) X.env = (do callWith pos (← eval fe X.env) [] (backTo pos (starEach (e :: es) X.env)) (backToKw pos (keywordEach [] X.env))) := by rfl)
    (he : starEach (e :: es) X.env = (false, eval e X.env) :: starEach es X.env := by rfl) (hpl : (backTo pos (starEach es X.env)).any (·.1) = false := by rfl) : PE X (.Call fe (e :: es) [] pos) (tApX X.K C CS E tf t) := by
  obtain ⟨g, F, c⟩ := M.ex
  refine ⟨fun pins s σ H Q I h => ?_⟩
  refine Call_ (thn (hf.run pins s σ H _ I h) fun u s1 ⟨y, H1, I1, ry, a, ey, q⟩ => ?_) ht
  subst ey
  obtain rfl : u = Value.ref a := ry
  refine StX.callO_with (thn (ha.run pos pins s1 σ H1 _ I1 q) fun us s2 ⟨vs, H2, I2, r, hi, q2⟩ => ?_) he hpl
  have hi' : StX.InsC X H2 a C := .inr hi
  obtain ⟨ox, od, J, hd⟩ := StX.insC_at I2 hi'
  exact ⟨⟨C, ox, od, J, hd⟩, StX.run_callO c F hr hx I2 hi' r q2⟩
/-! ### a copy and an int are not equal -/
def sp_ceqI (K : PySem.W.Frag) (C : Addr) : Sp := fun vs H Q _ => ∃ va a i, vs = [va, .int i] ∧ IsC K C H va a ∧ Q (.bl false) H
theorem ok_eqI {f C : Addr} {fd : FuncData} (kI : PySem.W.kitOne K (.type "int") (.ref C) = some false) (mgC : mg "Copy" = some (.ref C)) (b_isinstance : mg "isinstance" = none) (F : Fun K "__eq__" "Copy.__eq__" s_Copy___eq__ f fd) : FnOk P w K mg base CX0 1 f fd ["self", "other"] (sp_ceqI K C) := by
  refine F.ok sc_Copy___eq__ (fun vs H Q E h => ?_) (fun cdv A outer s H vs Q E hr h => ?_)
  · obtain ⟨va, a, i, rfl, _⟩ := h
    rfl
  obtain ⟨va, a, i, rfl, ic, q⟩ := h
  refine ⟨_, (pss_one (ps_ret (pe_and (pe_callB (r := rIsi K) call_isi (by rfl) b_isinstance (by decide +kernel) (pa_cons (pv 1) (pa_cons (pe_glob (v := .ref C) (by rfl) mgC rfl) pa_nil))) (pe_and (pe_cmpR (op_eqD hr.units) (pe_fld (pv 0) rfl) (pe_fld (pv 1) rfl) (nomark _)) (pe_and (pe_cmpR (op_eqD hr.units) (pe_fld (pv 0) rfl) (pe_fld (pv 1) rfl) (nomark _)) (pe_one (pe_cmpR (op_eq) (pe_fld (pv 0) rfl) (pe_fld (pv 1) rfl) (nomark _)))))))), ?_⟩
  refine ⟨_, rfl, _, _, _, _, false, rfl, .own C, .base (.int _), ?_, false, rfl, iteF q⟩
  exact kI
structure MEqI (P : Program) (w : World) (K : PySem.W.Frag) (mg : Str → Option Value) (base : Heap) (C : Addr) : Prop where
  nf : PySem.W.notFirst K C (.type "int") = true
  ex : ∃ f, FnR P w K mg base CX0 1 f (sp_ceqI K C) ∧ PySem.W.findIn K (.ref C) "__eq__" = some (some (.ref f)) ∧ PySem.W.isFn K (.ref f) = true
def rOwnI (C : Addr) (sp : Sp) : R2 := fun x y H Q => ∃ a dx fs i, x = .ref a ∧ y = .int i ∧ H a = some (.ins C dx fs) ∧ sp [.ref a, .int i] H Q E0
theorem op_ceqI {X : Cx} {C : Addr} (M : MEqI X.prog X.w X.K X.mg X.base C) (hr : Room 1 X.A) : OpR X (compareOp .Eq) (rOwnI C (sp_ceqI X.K C)) := by
  obtain ⟨f, F, h1, h2⟩ := M.ex
  intro pins s σ H x y v u Q I rx ry hq
  obtain ⟨a, dx, fs, i, rfl, rfl, ha, q⟩ := hq
  cases rx
  obtain ⟨t, rfl⟩ := ry
  obtain ⟨mA, J, _⟩ := ins_get I.hok ha
  obtain ⟨od, J, _⟩ := J.look
  obtain ⟨m, hF⟩ := I.fr
  show wpAny (model X.prog X.w) X.A (richCompare .Eq (.ref a) (.int i t)) (EP X pins σ Q) X.xe s
  refine PySem.W.cmp_K (op := .Eq) (tb := .type "int") hr.units0 hF I.ok.mod.kin J .now M.nf h1 h2 ?_
  exact wpAny_mono (wpAny_call (run_fnR (us := [.ref a, .int i t]) (vs := [V.ref a, V.int i]) F hr pass0 I (.cons rfl (.cons ⟨t, rfl⟩ .nil)) q)) (fun v s' h => back_of h) fun _ _ z => z
theorem ceqI_of {C : Addr} {H : Hp} {Q : VK} {x : V} {a : Cp} {i : Int} (ix : IsC K C H x a) (q : Q (.bl false) H) : rOwnI C (sp_ceqI K C) x (.int i) H Q := by
  obtain ⟨p, dx, _, _, rfl, h1, _⟩ := id ix
  exact ⟨p, dx, _, i, rfl, rfl, h1, _, a, i, rfl, ix, q⟩
end
end My

namespace My
open PySem L2 Mth LamX

section
variable {P : Program} {w : World} {K : PySem.W.Frag} {mg : Str → Option Value} {base : Heap}
/-! ### arms that cannot be made -/
inductive BadR : V → V → Prop
  | n {a b : V} (h : NotW a) : BadR a b
  | f {n : Int} {b : V} (h : NotW b) : BadR (.int n) b
  | r {n f : Int} (h : ¬ (0 ≤ n ∧ n ≤ f ∧ f ≤ 1000)) : BadR (.int n) (.int f)
def sp_reachX (C6 : Addr) : Sp := fun vs H Q E => ∃ a b, vs = [a, b] ∧ BadR a b ∧ E (.ref C6) none H
theorem ok_check_reachX {f C6 : Addr} {fd : FuncData} {tk : Tok} (m_MOST_REACH : mg "MOST_REACH" = some (.int 1000 tk)) (XR : ExX K mg "InvalidReach" C6) (d_is_whole : D P w K mg base "is_whole" 1 sp_wholeA) (F : Fun K "check_reach" "check_reach" s_check_reach f fd) : FnOk P w K mg base (L2.CX P w) 2 f fd ["near", "far"] (sp_reachX C6) := by
  refine F.okX sc_check_reach (fun vs H Q E h => ?_) (fun cdv A outer s H vs Q E hr h => ?_)
  · obtain ⟨a, b, rfl, _⟩ := h
    rfl
  obtain ⟨a, b, rfl, bad, q⟩ := h
  refine ⟨_, (pss_one (ps_if (PW.pt (pw_or (pt_not (pt_val (pc d_is_whole (hr.mono (by decide)) (pa_cons (pv 0) pa_nil)))) (pw_or (pt_not (pt_val (pc d_is_whole (hr.mono (by decide)) (pa_cons (pv 1) pa_nil)))) (pw_or1 (pt_not (pt_chain3 op_le op_le op_le pe_int (pv 0) (pv 1) (pe_glob (v := .int 1000) (by rfl) m_MOST_REACH ⟨_, rfl⟩))))))) (pss_one (ps_raise rfl (takes_of rfl rfl rfl rfl) (pmk_own PySem.F.excBase_ValueError XR.q XR.g XR.k (raises_own XR.b XR.t) (by rfl)))) pss_nil)), ?_⟩
  cases bad with
  | n h => exact ⟨_, rfl, _, rfl, .inr ⟨h, _, rfl, iteT q⟩⟩
  | @f n _ h =>
    refine ⟨_, rfl, _, rfl, .inl ⟨n, rfl, _, rfl, iteF ?_⟩⟩
    exact ⟨_, rfl, _, rfl, .inr ⟨h, _, rfl, iteT q⟩⟩
  | @r n g h =>
    refine ⟨_, rfl, _, rfl, .inl ⟨n, rfl, _, rfl, iteF ?_⟩⟩
    refine ⟨_, rfl, _, rfl, .inl ⟨g, rfl, _, rfl, iteF ?_⟩⟩
    refine ⟨_, rfl, _, _, rfl, rfl, _, rfl, ?_⟩
    by_cases h0 : 0 ≤ n
    · rw [decide_eq_true h0]
      refine iteT ?_
      refine ⟨_, rfl, _, _, rfl, rfl, _, rfl, ?_⟩
      by_cases h1 : n ≤ g
      · rw [decide_eq_true h1]
        refine iteT ?_
        refine ⟨_, _, rfl, rfl, _, rfl, ?_⟩
        rw [decide_eq_false (fun z => h ⟨h0, h1, z⟩)]
        exact iteT q
      · rw [decide_eq_false h1]
        exact iteF ⟨_, rfl, iteT q⟩
    · rw [decide_eq_false h0]
      exact iteF ⟨_, rfl, iteT q⟩
def sp_ainitX (K : PySem.W.Frag) (CS CT C6 : Addr) : Sp := fun vs H Q E => ∃ v0 vp vt vn vf vm, vs = [v0, vp, vt, vn, vf, vm] ∧ (((∃ p xs, vp = .ref p ∧ SqT K H p xs ∧ BadS xs) ∧ ∀ H', Same H H' → E (.ref CS) none H') ∨
  (∃ z, IsT K H vp z ∧ Ok z ∧ ((BadT K H vt ∧ ∀ H', Same H H' → E (.ref CT) none H') ∨ ((∃ t, IsT K H vt t ∧ Ok t ∧ Nz t) ∧ BadR vn vf ∧ ∀ H', Same H H' → E (.ref C6) none H'))))
theorem ok_ainitX {f CS CT C6 : Addr} {fd : FuncData} {kws : List (Str × V)} (d_check_spotB : DX P w K mg base "check_spot" 3 (sp_checkB K CS)) (d_check_turnB : DX P w K mg base "check_turn" 3 (sp_checkTB K CT)) (d_check_reachX : DX P w K mg base "check_reach" 2 (sp_reachX C6))
    (F : FunD K "__init__" "Arm.__init__" (defArgs s_Arm___init__) (defBody s_Arm___init__) (defScope s_Arm___init__) [] kws f fd) : FnOk P w K mg base (L2.CX P w) 7 f fd ["self", "pole", "turn", "near", "far", "mirrored"] (sp_ainitX K CS CT C6) := by
  refine F.ok sc_Arm___init__ (fun vs H Q E h => ?_) (fun cdv A outer s H vs Q E hr h => ?_)
  · obtain ⟨v0, vp, vt, vn, vf, vm, rfl, _⟩ := h
    rfl
  obtain ⟨v0, vp, vt, vn, vf, vm, rfl, h⟩ := h
  refine ⟨_, (pss_cons (ps_expr (pcX d_check_spotB (hr.mono (by decide)) (passes_call (takes_of rfl rfl rfl rfl) (fun _ _ _ _ h => h)) (pa_cons (pv 1) pa_nil)))
    (pss_cons (ps_expr (pcX d_check_turnB (hr.mono (by decide)) (passes_call (takes_of rfl rfl rfl rfl) (fun _ _ _ _ h => h)) (pa_cons (pv 2) pa_nil)))
    (pss_cons (ps_expr (pcX d_check_reachX (hr.mono (by decide)) (passes_call (takes_of rfl rfl rfl rfl) (fun _ _ _ _ h => h)) (pa_cons (pv 3) (pa_cons (pv 4) pa_nil))))
    pss_never))), ?_⟩
  rcases h with ⟨⟨p, xs, rfl, h1, h2⟩, q⟩ | ⟨z, iz, oz, h⟩
  · exact ⟨_, rfl, _, rfl, .inr ⟨_, _, rfl, h1, h2, q⟩⟩
  · refine ⟨_, rfl, _, rfl, .inl ⟨z, iz, oz, fun H1 s1 => ?_⟩⟩
    rcases h with ⟨bad, q⟩ | ⟨⟨t, it, ot, nt⟩, bad, q⟩
    · exact ⟨_, rfl, _, rfl, .inr ⟨bad.same s1, fun H2 s2 => q _ (s1.trans s2)⟩⟩
    · refine ⟨_, rfl, _, rfl, .inl ⟨t, it.same s1, ot, nt, fun H2 s2 => ?_⟩⟩
      exact ⟨_, rfl, _, rfl, _, _, rfl, bad, q _ (s1.trans s2)⟩
structure ArmX (P : Program) (w : World) (K : PySem.W.Frag) (mg : Str → Option Value) (base : Heap) (CA f CS CT C6 : Addr) (fd : FuncData) (ds : List Value) : Prop where
  mkC : Mk K CA f
  ok : FnOk P w K mg base (L2.CX P w) 7 f fd ["self", "pole", "turn", "near", "far", "mirrored"] (sp_ainitX K CS CT C6)
  mgC : mg "Arm" = some (.ref CA)
  bv : Vals [.bl false] ds
  bd : Binds K fd ["self", "pole", "turn", "near", "far", "mirrored"] ds
theorem mkax_of {CA CS CT C6 : Addr} {H : Hp} {Qf : Addr → VK} {E : XK} {vp vt vn vf vm : V} (h : ∀ v0 H2, Same H H2 → sp_ainitX K CS CT C6 [v0, vp, vt, vn, vf, vm] H2 (Qf 0) E) :
    ∀ x dx, H x = none → H dx = none → dx ≠ x → sp_ainitX K CS CT C6 [.ref x, vp, vt, vn, vf, vm] (upd (upd H dx (.own x)) x (.ins CA dx [])) (Qf x) E := by
  intro x dx hx hd _
  have sm : Same H (upd (upd H dx (.own x)) x (.ins CA dx [])) := fun c o e => by
    rw [upd_ne (ne_of_none e hx), upd_ne (ne_of_none e hd)]
    exact e
  exact h (.ref x) _ sm
def sp_reachesX (K : PySem.W.Frag) (CS : Addr) : Sp := fun vs H Q E => ∃ va q xs, vs = [va, .ref q] ∧ SqT K H q xs ∧ BadS xs ∧ ∀ H', Same H H' → E (.ref CS) none H'
theorem ok_reachesX {f CS : Addr} {fd : FuncData} (d_check_spotB : DX P w K mg base "check_spot" 3 (sp_checkB K CS)) (F : Fun K "reaches" "Arm.reaches" s_Arm_reaches f fd) : FnOk P w K mg base (L2.CX P w) 6 f fd ["self", "spot"] (sp_reachesX K CS) := by
  refine F.okX sc_Arm_reaches (fun vs H Q E h => ?_) (fun cdv A outer s H vs Q E hr h => ?_)
  · obtain ⟨va, qa, xs, rfl, _⟩ := h
    rfl
  obtain ⟨va, qa, xs, rfl, h1, h2, q⟩ := h
  refine ⟨_, (pss_cons (ps_expr (pcX d_check_spotB (hr.mono (by decide)) (passes_call (takes_of rfl rfl rfl rfl) (fun _ _ _ _ h => h)) (pa_cons (pv 1) pa_nil)))
    pss_never), ?_⟩
  exact ⟨_, rfl, _, rfl, .inr ⟨_, _, rfl, h1, h2, q⟩⟩
structure MArX (P : Program) (w : World) (K : PySem.W.Frag) (mg : Str → Option Value) (base : Heap) (CA CS : Addr) : Prop where
  cl : Cls K CA
  ex : ∃ f fd, FnOk P w K mg base (L2.CX P w) 6 f fd ["self", "spot"] (sp_reachesX K CS) ∧ Binds K fd ["self", "spot"] [] ∧ Meth K CA "reaches" f
open PyProof.Rows PySem.Spec in
theorem pe_reachesX {X : Cx} {CA CS : Addr} {o e : Expr} {to : TE} {t : TA} {apos pos : Pos} {pl : Sem Bool} {E : XK} (M : MArX X.prog X.w X.K X.mg X.base CA CS) (hr : Room 6 X.A) (hx : Passes (L2.CX X.prog X.w) X E) (ho : PE X o to) (ha : PA X [e] t)
    (hs1 : starEach [e] X.env = (false, eval e X.env) :: starEach [] X.env := by rfl) (hs2 : (backTo pos (starEach [] X.env)).any (·.1) = false := by rfl)
    (ht : eval (.Call (.Attribute o "reaches" apos) [e] [] pos) X.env = (do
      let ov ← eval o X.env
      standAt apos.atName
      let (g, first) ← holding [ov] (getMethod ov "reaches" pl)
      callWith pos g first (backTo pos (starEach [e] X.env)) (backToKw pos (keywordEach [] X.env))) := by rfl) :
    PE X (.Call (.Attribute o "reaches" apos) [e] [] pos) (tMeth CA "reaches" (sp_reachesX X.K CS) [] E to t) := by
  obtain ⟨f, fd, F, b, m⟩ := M.ex
  exact pe_meth ho M.cl m F hr b .nil hx ha hs1 hs2 ht
/-! ### an arm and a copy are not equal -/
def sp_aeqC (K : PySem.W.Frag) (C CA : Addr) : Sp := fun vs H Q _ => ∃ va a vc c, vs = [va, vc] ∧ IsA K C CA H va a ∧ IsC K C H vc c ∧ Q (.bl false) H
theorem ok_aeqC {f C CA : Addr} {fd : FuncData} (TC : CTxt K C) (kI : PySem.W.kitOne K (.ref C) (.ref CA) = some false) (mgA : mg "Arm" = some (.ref CA)) (b_isinstance : mg "isinstance" = none) (F : Fun K "__eq__" "Arm.__eq__" s_Arm___eq__ f fd) : FnOk P w K mg base CX0 1 f fd ["self", "other"] (sp_aeqC K C CA) := by
  refine F.ok sc_Arm___eq__ (fun vs H Q E h => ?_) (fun cdv A outer s H vs Q E hr h => ?_)
  · obtain ⟨va, a, vc, c, rfl, _⟩ := h
    rfl
  obtain ⟨va, a, vc, c, rfl, ia, ⟨p', dx', u', v', rfl, k1, k2, k3⟩, q⟩ := h
  refine ⟨_, (pss_one (ps_ret (pe_and (pe_callB (r := rIsi K) call_isi (by rfl) b_isinstance (by decide +kernel) (pa_cons (pv 1) (pa_cons (pe_glob (v := .ref CA) (by rfl) mgA rfl) pa_nil))) (pe_and (pe_cmpR (op_eqD hr.units) (pe_fld (pv 0) rfl) (pe_fld (pv 1) rfl) (nomark _)) (pe_and (pe_cmpR (op_eqD hr.units) (pe_fld (pv 0) rfl) (pe_fld (pv 1) rfl) (nomark _)) (pe_and (pe_cmpR (op_eq) (pe_fld (pv 0) rfl) (pe_fld (pv 1) rfl) (nomark _)) (pe_and (pe_cmpR (op_eq) (pe_fld (pv 0) rfl) (pe_fld (pv 1) rfl) (nomark _)) (pe_one (pe_cmpR (op_eq) (pe_fld (pv 0) rfl) (pe_fld (pv 1) rfl) (nomark _)))))))))), ?_⟩
  refine ⟨_, rfl, _, _, _, _, false, rfl, .own CA, .base (.ins k1 TC.cl TC.ha TC.hn TC.htk TC.hm), ?_, false, rfl, iteF q⟩
  exact kI
structure MAeC (P : Program) (w : World) (K : PySem.W.Frag) (mg : Str → Option Value) (base : Heap) (C CA : Addr) : Prop where
  nf : PySem.W.notFirst K CA (.ref C) = true
  ex : ∃ f, FnR P w K mg base CX0 1 f (sp_aeqC K C CA) ∧ PySem.W.findIn K (.ref CA) "__eq__" = some (some (.ref f)) ∧ PySem.W.isFn K (.ref f) = true
def rOwnC (C CA : Addr) (sp : Sp) : R2 := fun x y H Q => ∃ a dx fs b dy gs, x = .ref a ∧ y = .ref b ∧ H a = some (.ins CA dx fs) ∧ H b = some (.ins C dy gs) ∧ sp [.ref a, .ref b] H Q E0
theorem op_aeqC {X : Cx} {C CA : Addr} (M : MAeC X.prog X.w X.K X.mg X.base C CA) (hr : Room 1 X.A) : OpR X (compareOp .Eq) (rOwnC C CA (sp_aeqC X.K C CA)) := by
  obtain ⟨f, F, h1, h2⟩ := M.ex
  intro pins s σ H x y v u Q I rx ry hq
  obtain ⟨a, dx, fs, b, dy, gs, rfl, rfl, ha, hb, q⟩ := hq
  cases rx
  cases ry
  obtain ⟨mA, J, _⟩ := ins_get I.hok ha
  obtain ⟨mB, J', _⟩ := ins_get I.hok hb
  obtain ⟨od, J, _⟩ := J.look
  obtain ⟨od', J', _⟩ := J'.look
  obtain ⟨m, hF⟩ := I.fr
  show wpAny (model X.prog X.w) X.A (richCompare .Eq (.ref a) (.ref b)) (EP X pins σ Q) X.xe s
  refine PySem.W.cmp_K (op := .Eq) (tb := .ref C) hr.units0 hF I.ok.mod.kin J J'.type M.nf h1 h2 ?_
  exact wpAny_mono (wpAny_call (run_fnR (us := [.ref a, .ref b]) (vs := [V.ref a, V.ref b]) F hr pass0 I (.cons rfl (.cons rfl .nil)) q)) (fun v s' h => back_of h) fun _ _ z => z
theorem aeqC_of {C CA : Addr} {H : Hp} {Q : VK} {x y : V} {a : Am} {c : Cp} (ix : IsA K C CA H x a) (iy : IsC K C H y c) (q : Q (.bl false) H) : rOwnC C CA (sp_aeqC K C CA) x y H Q := by
  obtain ⟨p, dx, _, _, _, rfl, h1, _⟩ := id ix
  obtain ⟨p', dy, _, _, rfl, k1, _⟩ := id iy
  exact ⟨p, dx, _, p', dy, _, rfl, rfl, h1, k1, _, a, _, c, rfl, ix, iy, q⟩
end
end My

namespace My
open PySem L2 Mth
abbrev s_law_told : Stmt := topS 82
theorem sc_law_told : FnScope ["_law_d"] ["_law_d"] (defScope s_law_told) := ⟨rfl, rfl, rfl, by decide +kernel, rfl, by decide +kernel, by decide +kernel⟩
section
variable {P : Program} {w : World} {K : PySem.W.Frag} {mg : Str → Option Value} {base : Heap}
theorem ok_law_told {f : Addr} {fd : FuncData} (d_law_below : D P w K mg base "_law_below" 1 sp_below) (d_law_turn : D P w K mg base "_law_turn" 2 (sp_draw fun H r => ∃ t, IsT K H r t ∧ TurnIn t)) (d_law_spot : D P w K mg base "_law_spot" 3 (sp_draw fun H r => ∃ t, IsT K H r t ∧ SpotIn t))
    (F : Fun K "_law_told" "_law_told" s_law_told f fd) : FnOk P w K mg base CX0 4 f fd ["_law_d"] (sp_draw fun H r => ∃ c, IsD K H r c ∧ CopyIn c) := by
  refine F.ok sc_law_told (fun vs H Q E h => ?_) (fun cdv A outer s H vs Q E hr h => ?_)
  · obtain ⟨d, st, rfl, _⟩ := h
    rfl
  obtain ⟨d, st, rfl, hd, ok, q⟩ := h
  refine ⟨_, (pss_one (ps_ret (pe_tup (pa_cons (pc d_law_turn (hr.mono (by decide)) (pa_cons (pv 0) pa_nil)) (pa_cons (pc d_law_spot (hr.mono (by decide)) (pa_cons (pv 0) pa_nil)) (pa_cons (pe_cmpR (op_eq) (pc d_law_below (hr.mono (by decide)) (pa_cons (pv 0) (pa_cons pe_int pa_nil))) pe_int (nomark _)) pa_nil)))))), ?_⟩
  refine ⟨_, rfl, d, st, rfl, hd, ok, fun H1 st1 r1 k1 hd1 ok1 ⟨t, ⟨a, er, it⟩, ti⟩ => ?_⟩
  subst er
  refine ⟨_, rfl, d, st1, rfl, hd1, ok1, fun H2 st2 r2 k2 hd2 ok2 ⟨s', ⟨b, er, is⟩, si⟩ => ?_⟩
  subst er
  refine ⟨_, rfl, d, _, st2, rfl, by decide, by decide, hd2, ok2, fun st3 r ok3 r0 r1 => ?_⟩
  refine ⟨rfl, (by show 3 ≤ sizeLine; decide), fun p hp => ?_⟩
  have sp' := same_new hp (.tup [.ref a, .ref b, .bl (decide (V.int r = V.int 0))])
  refine q _ st3 _ (k1.trans (k2.trans (keep_upd.trans (Keep.of sp')))) (sp' _ _ upd_same) ok3 ⟨⟨t, s', decide (V.int r = V.int 0)⟩, ⟨p, a, b, rfl, .inl (.inl upd_same), ?_, ?_⟩, ⟨⟨ti.ok, ti.nz, si.ok⟩, ⟨ti.bd, si.bd⟩, ti.mem⟩⟩
  · exact same_T sp' (keep_T (keep_T it hd1 k2) hd2 keep_upd)
  · exact same_T sp' (keep_T is hd2 keep_upd)
end
end My

namespace My
open PySem L2 Mth
abbrev s_law_copy : Stmt := topS 84
theorem sc_law_copy : FnScope ["_law_told_here"] ["_law_told_here"] (defScope s_law_copy) := ⟨rfl, rfl, rfl, by decide +kernel, rfl, by decide +kernel, by decide +kernel⟩
section
variable {P : Program} {w : World} {K : PySem.W.Frag} {mg : Str → Option Value} {base : Heap}
theorem ok_law_copy {f C fI : Addr} {fd fdI : FuncData} {mv ds : List Value} (TC : CopyI P w K mg base C fI fdI mv ds) (F : Fun K "_law_copy" "_law_copy" s_law_copy f fd) : FnOk P w K mg base CX0 6 f fd ["_law_told_here"] (sp_copyOf K C) := by
  refine F.ok sc_law_copy (fun vs H Q E h => ?_) (fun cdv A outer s H vs Q E hr h => ?_)
  · obtain ⟨vc, c, rfl, _⟩ := h
    rfl
  obtain ⟨vc, c, rfl, ⟨p, a, b, rfl, h1, h2, h3⟩, ok, q⟩ := h
  refine ⟨_, (pss_one (ps_ret (pe_makeK TC.mkC TC.ok (hr.mono (by decide)) (by rfl) TC.mgC TC.kb pass0 (pa_cons (pe_ix (r := rIxT K) ix_tup (pv 0) pe_int (fun _ _ => rfl)) (pa_cons (pe_ix (r := rIxT K) ix_tup (pv 0) pe_int (fun _ _ => rfl)) pa_nil)) (pk_cons (pe_ix (r := rIxT K) ix_tup (pv 0) pe_int (fun _ _ => rfl)) pk_nil)))), ?_⟩
  refine ⟨_, rfl, _, _, _, _, rfl, rfl, h1, by rfl, _, rfl, _, _, _, _, rfl, rfl, h1, by rfl, _, rfl, _, _, _, _, rfl, rfl, h1, by rfl, ?_⟩
  exact ⟨rfl, rfl, mk_of ⟨_, rfl, h2⟩ ⟨_, rfl, h3⟩ ok.t ok.n ok.s fun H' r s' i => q _ _ s' i⟩
end
end My

namespace My
open PySem L2 Mth
abbrev s_law_over : Stmt := topS 76
theorem sc_law_over : FnScope ["_law_one"] ["_law_one"] (defScope s_law_over) := ⟨rfl, rfl, rfl, by decide +kernel, rfl, by decide +kernel, by decide +kernel⟩
section
variable {P : Program} {w : World} {K : PySem.W.Frag} {mg : Str → Option Value} {base : Heap}
theorem ok_law_over {f : Addr} {fd : FuncData} (F : Fun K "_law_over" "_law_over" s_law_over f fd) : FnOk P w K mg base CX0 1 f fd ["_law_one"] (sp_one K over) := by
  refine F.ok sc_law_over (fun vs H Q E h => ?_) (fun cdv A outer s H vs Q E hr h => ?_)
  · obtain ⟨va, a, rfl, _⟩ := h
    rfl
  obtain ⟨va, ⟨x, y, d⟩, rfl, ⟨pa, rfl, ta⟩, q⟩ := h
  refine ⟨_, (pss_one (ps_ret (pe_tup (pa_cons (pe_ix (r := rIxT K) ix_tup (pv 0) pe_int (fun _ _ => rfl)) (pa_cons (pe_op op_sub pe_int (pe_ix (r := rIxT K) ix_tup (pv 0) pe_int (fun _ _ => rfl))) (pa_cons (pe_ix (r := rIxT K) ix_tup (pv 0) pe_int (fun _ _ => rfl)) pa_nil)))))), ?_⟩
  refine ⟨_, rfl, _, _, _, _, rfl, rfl, ta, by rfl, _, rfl, _, _, _, _, rfl, rfl, ta, by rfl, _, _, rfl, rfl, _, rfl, _, _, _, _, rfl, rfl, ta, by rfl, (by show 3 ≤ sizeLine; decide), fun p hp => ?_⟩
  refine q _ _ (same_new hp _) ?_
  unfold over
  dsimp only
  rw [← Int.zero_sub]
  exact IsT.new
end
end My

namespace My
open PySem L2 Mth
abbrev s_law_plus : Stmt := topS 77
theorem sc_law_plus : FnScope ["_law_one", "_law_other", "_law_x", "_law_y"] ["_law_one", "_law_other"] (defScope s_law_plus) := ⟨rfl, rfl, rfl, by decide +kernel, rfl, by decide +kernel, by decide +kernel⟩
section
variable {P : Program} {w : World} {K : PySem.W.Frag} {mg : Str → Option Value} {base : Heap}
theorem ok_law_plus {f : Addr} {fd : FuncData} (d_law_lowest : D P w K mg base "_law_lowest" 2 (sp_low K)) (F : Fun K "_law_plus" "_law_plus" s_law_plus f fd) : FnOk P w K mg base CX0 3 f fd ["_law_one", "_law_other"] (sp_two K plus) := by
  refine F.ok sc_law_plus (fun vs H Q E h => ?_) (fun cdv A outer s H vs Q E hr h => ?_)
  · obtain ⟨va, vb, a, b, rfl, _⟩ := h
    rfl
  obtain ⟨va, vb, ⟨x, y, d⟩, ⟨u, v, e⟩, rfl, ⟨pa, rfl, ta⟩, ⟨pb, rfl, tb⟩, oa, ob, ⟨a1, a2, a3⟩, ⟨b1, b2, b3⟩, q⟩ := h
  refine ⟨_, (pss_cons (ps_set (i := 2) sc_law_plus.nd rfl (by first | exact Or.inl rfl | exact Or.inr rfl) (pe_op op_add (pe_op op_mulW (pe_ix (r := rIxT K) ix_tup (pv 0) pe_int (fun _ _ => rfl)) (pe_ix (r := rIxT K) ix_tup (pv 1) pe_int (fun _ _ => rfl))) (pe_op op_mulW (pe_ix (r := rIxT K) ix_tup (pv 1) pe_int (fun _ _ => rfl)) (pe_ix (r := rIxT K) ix_tup (pv 0) pe_int (fun _ _ => rfl)))))
    (pss_cons (ps_set (i := 3) sc_law_plus.nd rfl (by first | exact Or.inl rfl | exact Or.inr rfl) (pe_op op_add (pe_op op_mulW (pe_ix (r := rIxT K) ix_tup (pv 0) pe_int (fun _ _ => rfl)) (pe_ix (r := rIxT K) ix_tup (pv 1) pe_int (fun _ _ => rfl))) (pe_op op_mulW (pe_ix (r := rIxT K) ix_tup (pv 1) pe_int (fun _ _ => rfl)) (pe_ix (r := rIxT K) ix_tup (pv 0) pe_int (fun _ _ => rfl)))))
    (pss_one (ps_ret (pc d_law_lowest (hr.mono (by decide)) (pa_cons (pv 2) (pa_cons (pv 3) (pa_cons (pe_op op_mulW (pe_ix (r := rIxT K) ix_tup (pv 0) pe_int (fun _ _ => rfl)) (pe_ix (r := rIxT K) ix_tup (pv 1) pe_int (fun _ _ => rfl))) pa_nil)))))))), ?_⟩
  refine ⟨_, rfl, _, _, _, _, rfl, rfl, ta, by rfl, _, rfl, _, _, _, _, rfl, rfl, tb, by rfl, _, _, rfl, rfl, mulW a1 b3, _, rfl, _, _, _, _, rfl, rfl, tb, by rfl, _, rfl, _, _, _, _, rfl, rfl, ta, by rfl, _, _, rfl, rfl, mulW b1 a3, _, _, rfl, rfl, ?_⟩
  refine ⟨_, rfl, _, _, _, _, rfl, rfl, ta, by rfl, _, rfl, _, _, _, _, rfl, rfl, tb, by rfl, _, _, rfl, rfl, mulW a2 b3, _, rfl, _, _, _, _, rfl, rfl, tb, by rfl, _, rfl, _, _, _, _, rfl, rfl, ta, by rfl, _, _, rfl, rfl, mulW b2 a3, _, _, rfl, rfl, ?_⟩
  refine ⟨_, rfl, _, rfl, _, rfl, _, _, _, _, rfl, rfl, ta, by rfl, _, rfl, _, _, _, _, rfl, rfl, tb, by rfl, _, _, rfl, rfl, mulW a3 b3, ?_⟩
  exact ⟨_, _, _, rfl, mul_ne oa.ne ob.ne, up_lt (by decide) (mul_lt a3 b3), q⟩
end
end My

namespace My
open PySem L2 Mth
abbrev s_law_times : Stmt := topS 75
theorem sc_law_times : FnScope ["_law_one", "_law_other", "_law_x", "_law_y"] ["_law_one", "_law_other"] (defScope s_law_times) := ⟨rfl, rfl, rfl, by decide +kernel, rfl, by decide +kernel, by decide +kernel⟩
section
variable {P : Program} {w : World} {K : PySem.W.Frag} {mg : Str → Option Value} {base : Heap}
theorem ok_law_times {f : Addr} {fd : FuncData} (d_law_lowest : D P w K mg base "_law_lowest" 2 (sp_low K)) (F : Fun K "_law_times" "_law_times" s_law_times f fd) : FnOk P w K mg base CX0 3 f fd ["_law_one", "_law_other"] (sp_two K times) := by
  refine F.ok sc_law_times (fun vs H Q E h => ?_) (fun cdv A outer s H vs Q E hr h => ?_)
  · obtain ⟨va, vb, a, b, rfl, _⟩ := h
    rfl
  obtain ⟨va, vb, ⟨x, y, d⟩, ⟨u, v, e⟩, rfl, ⟨pa, rfl, ta⟩, ⟨pb, rfl, tb⟩, oa, ob, ⟨a1, a2, a3⟩, ⟨b1, b2, b3⟩, q⟩ := h
  refine ⟨_, (pss_cons (ps_set (i := 2) sc_law_times.nd rfl (by first | exact Or.inl rfl | exact Or.inr rfl) (pe_op op_sub (pe_op op_mulW (pe_ix (r := rIxT K) ix_tup (pv 0) pe_int (fun _ _ => rfl)) (pe_ix (r := rIxT K) ix_tup (pv 1) pe_int (fun _ _ => rfl))) (pe_op op_mulW (pe_ix (r := rIxT K) ix_tup (pv 0) pe_int (fun _ _ => rfl)) (pe_ix (r := rIxT K) ix_tup (pv 1) pe_int (fun _ _ => rfl)))))
    (pss_cons (ps_set (i := 3) sc_law_times.nd rfl (by first | exact Or.inl rfl | exact Or.inr rfl) (pe_op op_add (pe_op op_mulW (pe_ix (r := rIxT K) ix_tup (pv 0) pe_int (fun _ _ => rfl)) (pe_ix (r := rIxT K) ix_tup (pv 1) pe_int (fun _ _ => rfl))) (pe_op op_mulW (pe_ix (r := rIxT K) ix_tup (pv 0) pe_int (fun _ _ => rfl)) (pe_ix (r := rIxT K) ix_tup (pv 1) pe_int (fun _ _ => rfl)))))
    (pss_one (ps_ret (pc d_law_lowest (hr.mono (by decide)) (pa_cons (pv 2) (pa_cons (pv 3) (pa_cons (pe_op op_mulW (pe_ix (r := rIxT K) ix_tup (pv 0) pe_int (fun _ _ => rfl)) (pe_ix (r := rIxT K) ix_tup (pv 1) pe_int (fun _ _ => rfl))) pa_nil)))))))), ?_⟩
  refine ⟨_, rfl, _, _, _, _, rfl, rfl, ta, by rfl, _, rfl, _, _, _, _, rfl, rfl, tb, by rfl, _, _, rfl, rfl, mulW a1 b1, _, rfl, _, _, _, _, rfl, rfl, ta, by rfl, _, rfl, _, _, _, _, rfl, rfl, tb, by rfl, _, _, rfl, rfl, mulW a2 b2, _, _, rfl, rfl, ?_⟩
  refine ⟨_, rfl, _, _, _, _, rfl, rfl, ta, by rfl, _, rfl, _, _, _, _, rfl, rfl, tb, by rfl, _, _, rfl, rfl, mulW a1 b2, _, rfl, _, _, _, _, rfl, rfl, ta, by rfl, _, rfl, _, _, _, _, rfl, rfl, tb, by rfl, _, _, rfl, rfl, mulW a2 b1, _, _, rfl, rfl, ?_⟩
  refine ⟨_, rfl, _, rfl, _, rfl, _, _, _, _, rfl, rfl, ta, by rfl, _, rfl, _, _, _, _, rfl, rfl, tb, by rfl, _, _, rfl, rfl, mulW a3 b3, ?_⟩
  exact ⟨_, _, _, rfl, mul_ne oa.ne ob.ne, up_lt (by decide) (mul_lt a3 b3), q⟩
end
end My

namespace My
open PySem L2 Mth
abbrev s_law_minus : Stmt := topS 78
theorem sc_law_minus : FnScope ["_law_one", "_law_other"] ["_law_one", "_law_other"] (defScope s_law_minus) := ⟨rfl, rfl, rfl, by decide +kernel, rfl, by decide +kernel, by decide +kernel⟩
section
variable {P : Program} {w : World} {K : PySem.W.Frag} {mg : Str → Option Value} {base : Heap}
theorem ok_law_minus {f : Addr} {fd : FuncData} (d_law_plus : D P w K mg base "_law_plus" 3 (sp_two K plus)) (F : Fun K "_law_minus" "_law_minus" s_law_minus f fd) : FnOk P w K mg base CX0 4 f fd ["_law_one", "_law_other"] (sp_two K minus) := by
  refine F.ok sc_law_minus (fun vs H Q E h => ?_) (fun cdv A outer s H vs Q E hr h => ?_)
  · obtain ⟨va, vb, a, b, rfl, _⟩ := h
    rfl
  obtain ⟨va, vb, a, ⟨u, v, e⟩, rfl, ia, ⟨pb, rfl, tb⟩, oa, ob, ba, bb, q⟩ := h
  refine ⟨_, (pss_one (ps_ret (pc d_law_plus (hr.mono (by decide)) (pa_cons (pv 0) (pa_cons (pe_tup (pa_cons (pe_op op_sub pe_int (pe_ix (r := rIxT K) ix_tup (pv 1) pe_int (fun _ _ => rfl))) (pa_cons (pe_op op_sub pe_int (pe_ix (r := rIxT K) ix_tup (pv 1) pe_int (fun _ _ => rfl))) (pa_cons (pe_ix (r := rIxT K) ix_tup (pv 1) pe_int (fun _ _ => rfl)) pa_nil)))) pa_nil))))), ?_⟩
  refine ⟨_, rfl, _, rfl, _, _, _, _, rfl, rfl, tb, by rfl, _, _, rfl, rfl, _, rfl, _, _, _, _, rfl, rfl, tb, by rfl, _, _, rfl, rfl, _, rfl, _, _, _, _, rfl, rfl, tb, by rfl, (by show 3 ≤ sizeLine; decide), fun p hp => ?_⟩
  have s1 := same_new hp (.tup [.int (0 - u), .int (0 - v), .int e])
  have i1 : IsT K (upd H p (.tup [.int (0 - u), .int (0 - v), .int e])) (.ref p) (neg (u, v, e)) := by
    unfold neg
    dsimp only
    rw [← Int.zero_sub u, ← Int.zero_sub v]
    exact IsT.new (H := H)
  exact ⟨_, _, a, neg (u, v, e), rfl, ia.same s1, i1, oa, neg_ok ob, ba, neg_B bb, fun H2 r2 s2 i2 => q _ _ (s1.trans s2) i2⟩
end
end My

namespace My
open PySem L2 Mth
abbrev s_law_carried : Stmt := topS 80
theorem sc_law_carried : FnScope ["_law_told_here", "_law_spot_here"] ["_law_told_here", "_law_spot_here"] (defScope s_law_carried) := ⟨rfl, rfl, rfl, by decide +kernel, rfl, by decide +kernel, by decide +kernel⟩
section
variable {P : Program} {w : World} {K : PySem.W.Frag} {mg : Str → Option Value} {base : Heap}
theorem ok_law_carried {f : Addr} {fd : FuncData} (d_law_plus : D P w K mg base "_law_plus" 3 (sp_two K plus)) (d_law_times : D P w K mg base "_law_times" 3 (sp_two K times)) (d_law_over : D P w K mg base "_law_over" 1 (sp_one K over)) (F : Fun K "_law_carried" "_law_carried" s_law_carried f fd) : FnOk P w K mg base CX0 4 f fd ["_law_told_here", "_law_spot_here"] (sp_lcar K) := by
  refine F.ok sc_law_carried (fun vs H Q E h => ?_) (fun cdv A outer s H vs Q E hr h => ?_)
  · obtain ⟨vc, c, vz, z, rfl, _⟩ := h
    rfl
  obtain ⟨vc, c, vz, z, rfl, ⟨p, a, b, rfl, h1, h2, h3⟩, ok, bc, iz, oz, bz, q⟩ := h
  refine ⟨_, (pss_one (ps_ret (pc d_law_plus (hr.mono (by decide)) (pa_cons (pc d_law_times (hr.mono (by decide)) (pa_cons (pe_ix (r := rIxT K) ix_tup (pv 0) pe_int (fun _ _ => rfl)) (pa_cons (pe_ifExp (pt_val (pe_ix (r := rIxT K) ix_tup (pv 0) pe_int (fun _ _ => rfl))) (pc d_law_over (hr.mono (by decide)) (pa_cons (pv 1) pa_nil)) (pv 1)) pa_nil))) (pa_cons (pe_ix (r := rIxT K) ix_tup (pv 0) pe_int (fun _ _ => rfl)) pa_nil))))), ?_⟩
  refine ⟨_, rfl, _, _, _, _, rfl, rfl, h1, by rfl, _, rfl, _, _, _, _, rfl, rfl, h1, by rfl, _, rfl, ?_⟩
  have fin : ∀ H1 r1, Same H H1 → IsT K H1 r1 (face z c.m) → sp_two K times [.ref a, r1] H1 (fun r2 H2 => ∃ v, [some (V.ref p), some vz][0]? = some (some v) ∧ ∃ p' xs i u, v = .ref p' ∧ V.int 1 = .int i ∧ SqT K H2 p' xs ∧ atI xs i = some u ∧ sp_two K plus [r2, u] H2 Q E0) E0 := fun H1 r1 s1 i1 => by
    refine ⟨_, _, _, _, rfl, ⟨_, rfl, same_T s1 h2⟩, i1, ok.t, face_ok oz _, bc.1.mono (by decide), (face_B bz _).mono (by decide), fun H2 r2 s2 i2 => ?_⟩
    refine ⟨_, rfl, _, _, _, _, rfl, rfl, same_T (s1.trans s2) h1, by rfl, ?_⟩
    exact ⟨_, _, _, _, rfl, i2, ⟨_, rfl, same_T (s1.trans s2) h3⟩, times_ok ok.t (face_ok oz _), ok.s, (times_B ok.t (face_ok oz _) bc.1 (face_B bz _)).mono (by decide), bc.2.mono (by decide), fun H3 r3 s3 i3 => q _ _ ((s1.trans s2).trans s3) i3⟩
  cases hm : c.m with
  | true =>
    rw [hm] at fin
    exact iteT ⟨_, rfl, _, _, rfl, iz, fun H1 r1 s1 i1 => fin H1 r1 s1 i1⟩
  | false =>
    rw [hm] at fin
    exact iteF ⟨_, rfl, fin H _ (Same.refl _) iz⟩
end
end My

namespace My
open PySem L2 Mth
abbrev s_law_equal : Stmt := topS 83
theorem sc_law_equal : FnScope ["_law_actual", "_law_expected", "_law_k"] ["_law_actual", "_law_expected"] (defScope s_law_equal) := ⟨rfl, rfl, rfl, by decide +kernel, rfl, by decide +kernel, by decide +kernel⟩
section
variable {P : Program} {w : World} {K : PySem.W.Frag} {mg : Str → Option Value} {base : Heap}
/-- one of the sequences -/
def Sq (K : PySem.W.Frag) (H : Hp) (p : Addr) (xs : List V) (l : Bool) : Prop := if l = true then SqL K H p xs else SqT K H p xs
theorem Sq.same {H H' : Hp} {p : Addr} {xs : List V} {l : Bool} (h : Sq K H p xs l) (s : Same H H') : Sq K H' p xs l := by
  unfold Sq at *
  cases l with
  | true => exact s.seq h
  | false => exact same_T s h
theorem Sq.ix {H : Hp} {Q : VK} {p : Addr} {xs : List V} {l : Bool} {j : Nat} {x : V} (h : Sq K H p xs l) (e : xs[j]? = some x) (q : Q x H) : rIx K (.ref p) (.int (0 + (j : Int))) H Q := by
  rw [Int.zero_add]
  unfold Sq at h
  cases l with
  | true => exact .inl ⟨_, _, _, _, rfl, rfl, h, atI_nat e, q⟩
  | false => exact .inr (.inl ⟨_, _, _, _, rfl, rfl, h, atI_nat e, q⟩)
theorem ok_law_equal {f : Addr} {fd : FuncData} {n : Nat} (b_isinstance : mg "isinstance" = none) (b_int : mg "int" = none) (b_bool : mg "bool" = none) (b_str : mg "str" = none) (b_tuple : mg "tuple" = none) (b_list : mg "list" = none) (b_len : mg "len" = none) (b_all : mg "all" = none) (b_range : mg "range" = none)
    (d_law_equal : D P w K mg base "_law_equal" n (sp_equal K n)) (F : Fun K "_law_equal" "_law_equal" s_law_equal f fd) : FnOk P w K mg base CX0 (n + 1) f fd ["_law_actual", "_law_expected"] (sp_equal K (n + 1)) := by
  refine F.ok sc_law_equal (fun vs H Q E h => ?_) (fun cdv A outer s H vs Q E hr h => ?_)
  · obtain ⟨va, vb, d, rfl, _⟩ := h
    rfl
  obtain ⟨va, vb, d, rfl, da, db, dp, q⟩ := h
  refine ⟨_, (pss_cons (ps_if (pt_cmpR (op_isN) (pv 1) pe_non (nomark _)) (pss_one (ps_ret (pe_cmpR (op_isN) (pv 0) pe_non (nomark _)))) pss_nil)
    (pss_cons (ps_if (pt_val (pe_callB (r := rIsi K) call_isi (by rfl) b_isinstance (by decide +kernel) (pa_cons (pv 1) (pa_cons (pe_bltn (v := .ty "bool") (by rfl) b_bool (by decide +kernel) rfl) pa_nil)))) (pss_one (ps_ret (pe_and (pe_callB (r := rIsi K) call_isi (by rfl) b_isinstance (by decide +kernel) (pa_cons (pv 0) (pa_cons (pe_bltn (v := .ty "bool") (by rfl) b_bool (by decide +kernel) rfl) pa_nil))) (pe_one (pe_cmpR (op_eq) (pv 0) (pv 1) (nomark _)))))) pss_nil)
    (pss_cons (ps_if (pt_val (pe_callB (r := rIsi K) call_isi (by rfl) b_isinstance (by decide +kernel) (pa_cons (pv 1) (pa_cons (pe_bltn (v := .ty "int") (by rfl) b_int (by decide +kernel) rfl) pa_nil)))) (pss_one (ps_ret (pe_and (pe_callB (r := rIsi K) call_isi (by rfl) b_isinstance (by decide +kernel) (pa_cons (pv 0) (pa_cons (pe_bltn (v := .ty "int") (by rfl) b_int (by decide +kernel) rfl) pa_nil))) (pe_and (pe_not (pe_callB (r := rIsi K) call_isi (by rfl) b_isinstance (by decide +kernel) (pa_cons (pv 0) (pa_cons (pe_bltn (v := .ty "bool") (by rfl) b_bool (by decide +kernel) rfl) pa_nil)))) (pe_one (pe_cmpR (op_eq) (pv 0) (pv 1) (nomark _))))))) pss_nil)
    (pss_cons (ps_if (pt_val (pe_callB (r := rIsi K) call_isi (by rfl) b_isinstance (by decide +kernel) (pa_cons (pv 1) (pa_cons (pe_bltn (v := .ty "str") (by rfl) b_str (by decide +kernel) rfl) pa_nil)))) (pss_one (ps_ret (pe_and (pe_callB (r := rIsi K) call_isi (by rfl) b_isinstance (by decide +kernel) (pa_cons (pv 0) (pa_cons (pe_bltn (v := .ty "str") (by rfl) b_str (by decide +kernel) rfl) pa_nil))) (pe_one (pe_cmpR (op_eq) (pv 0) (pv 1) (nomark _)))))) pss_nil)
    (pss_cons (ps_if (pt_cmpR (op_ne) (pe_callB (r := rIsi K) call_isi (by rfl) b_isinstance (by decide +kernel) (pa_cons (pv 1) (pa_cons (pe_bltn (v := .ty "tuple") (by rfl) b_tuple (by decide +kernel) rfl) pa_nil))) (pe_callB (r := rIsi K) call_isi (by rfl) b_isinstance (by decide +kernel) (pa_cons (pv 0) (pa_cons (pe_bltn (v := .ty "tuple") (by rfl) b_tuple (by decide +kernel) rfl) pa_nil))) (nomark _)) (pss_one (ps_ret pe_bl)) pss_nil)
    (pss_cons (ps_if (pt_cmpR (op_ne) (pe_callB (r := rIsi K) call_isi (by rfl) b_isinstance (by decide +kernel) (pa_cons (pv 1) (pa_cons (pe_bltn (v := .ty "list") (by rfl) b_list (by decide +kernel) rfl) pa_nil))) (pe_callB (r := rIsi K) call_isi (by rfl) b_isinstance (by decide +kernel) (pa_cons (pv 0) (pa_cons (pe_bltn (v := .ty "list") (by rfl) b_list (by decide +kernel) rfl) pa_nil))) (nomark _)) (pss_one (ps_ret pe_bl)) pss_nil)
    (pss_cons (ps_if (pt_cmpR (op_ne) (pe_callB call_len_seq (by rfl) b_len PySem.boot_len (pa_cons (pv 0) pa_nil)) (pe_callB call_len_seq (by rfl) b_len PySem.boot_len (pa_cons (pv 1) pa_nil)) (nomark _)) (pss_one (ps_ret pe_bl)) pss_nil)
    (pss_one (ps_ret (pe_callB (cr_all rfl) (by rfl) b_all (by decide +kernel) (pa_cons (pe_lc (own := [("_law_k", 2)]) (g := gName 2) (tt := tYes) (by rfl) sc_law_equal.nd (pi_range1 (by rfl) b_range (pa_cons (pe_callB call_len_seq (by rfl) b_len PySem.boot_len (pa_cons (pv 1) pa_nil)) pa_nil)) (blkOk_by (own := [("_law_k", 2)]) (N := ["_law_actual", "_law_expected", "_law_k"]) (sc := defScope s_law_equal) (by decide +kernel)) (fun _ _ _ _ _ => (pg_name (i := 2) sc_law_equal.nd rfl (by first | exact Or.inl rfl | exact Or.inr rfl))) (fun _ _ _ _ _ => pts_nil) (fun _ _ _ _ _ => (pc d_law_equal hr (pa_cons (pe_ix (r := rIx K) ix_seq (pv 0) (pv 2) (fun _ _ => rfl)) (pa_cons (pe_ix (r := rIx K) ix_seq (pv 1) (pv 2) (fun _ _ => rfl)) pa_nil))))) pa_nil))))))))))), ?_⟩
  cases db with
  | non =>
    cases da
    refine ⟨_, rfl, rfl, _, rfl, ?_⟩
    refine (if_pos (by decide)).mpr ?_
    exact ⟨_, rfl, rfl, q _ (Same.refl _)⟩
  | bl b =>
    cases da
    refine ⟨_, rfl, rfl, _, rfl, ?_⟩
    refine (if_neg (show ¬ decide (V.bl b = V.non) = true by rw [decide_eq_false (by intro z; cases z)]; decide)).mpr ?_
    refine ⟨_, rfl, _, _, _, _, _, rfl, .ty _, .base (.bl b), kit_ty (by decide +kernel), true, rfl, iteT ?_⟩
    refine ⟨_, rfl, _, _, _, _, _, rfl, .ty _, .base (.bl b), kit_ty (by decide +kernel), true, rfl, iteT ?_⟩
    refine ⟨_, rfl, _, rfl, rfl, ?_⟩
    rw [decide_eq_true rfl]
    exact q _ (Same.refl _)
  | int i =>
    cases da
    refine ⟨_, rfl, rfl, _, rfl, ?_⟩
    refine (if_neg (show ¬ decide (V.int i = V.non) = true by rw [decide_eq_false (by intro z; cases z)]; decide)).mpr ?_
    refine ⟨_, rfl, _, _, _, _, _, rfl, .ty _, .base (.int i), kit_ty (by decide +kernel), false, rfl, iteF ?_⟩
    refine ⟨_, rfl, _, _, _, _, _, rfl, .ty _, .base (.int i), kit_ty (by decide +kernel), true, rfl, iteT ?_⟩
    refine ⟨_, rfl, _, _, _, _, _, rfl, .ty _, .base (.int i), kit_ty (by decide +kernel), true, rfl, iteT ?_⟩
    refine ⟨_, rfl, _, _, _, _, _, rfl, .ty _, .base (.int i), kit_ty (by decide +kernel), false, rfl, true, rfl, iteT ?_⟩
    refine ⟨_, rfl, _, rfl, rfl, ?_⟩
    rw [decide_eq_true rfl]
    exact q _ (Same.refl _)
  | str x =>
    cases da
    refine ⟨_, rfl, rfl, _, rfl, ?_⟩
    refine (if_neg (show ¬ decide (V.str x = V.non) = true by rw [decide_eq_false (by intro z; cases z)]; decide)).mpr ?_
    refine ⟨_, rfl, _, _, _, _, _, rfl, .ty _, .base (.str x), kit_ty (by decide +kernel), false, rfl, iteF ?_⟩
    refine ⟨_, rfl, _, _, _, _, _, rfl, .ty _, .base (.str x), kit_ty (by decide +kernel), false, rfl, iteF ?_⟩
    refine ⟨_, rfl, _, _, _, _, _, rfl, .ty _, .base (.str x), kit_ty (by decide +kernel), true, rfl, iteT ?_⟩
    refine ⟨_, rfl, _, _, _, _, _, rfl, .ty _, .base (.str x), kit_ty (by decide +kernel), true, rfl, iteT ?_⟩
    refine ⟨_, rfl, _, rfl, rfl, ?_⟩
    rw [decide_eq_true rfl]
    exact q _ (Same.refl _)
  | @lst p' ys ds hb tb =>
    cases da with
    | @lst p xs _ ha ta =>
    obtain ⟨hl, hds⟩ := dp
    have e1 := (DpAll.get ta).1
    have e2 := (DpAll.get tb).1
    refine ⟨_, rfl, rfl, _, rfl, ?_⟩
    refine (if_neg (show ¬ decide (V.ref p' = V.non) = true by rw [decide_eq_false (by intro z; cases z)]; decide)).mpr ?_
    refine ⟨_, rfl, _, _, _, _, _, rfl, .ty _, ty_L hb, kit_ty (by decide +kernel), false, rfl, iteF ?_⟩
    refine ⟨_, rfl, _, _, _, _, _, rfl, .ty _, ty_L hb, kit_ty (by decide +kernel), false, rfl, iteF ?_⟩
    refine ⟨_, rfl, _, _, _, _, _, rfl, .ty _, ty_L hb, kit_ty (by decide +kernel), false, rfl, iteF ?_⟩
    refine ⟨_, rfl, _, _, _, _, _, rfl, .ty _, ty_L hb, kit_ty (b := "tuple") (r := false) (by decide +kernel), _, rfl, _, _, _, _, _, rfl, .ty _, ty_L ha, kit_ty (b := "tuple") (r := false) (by decide +kernel), rfl, _, rfl, iteF ?_⟩
    refine ⟨_, rfl, _, _, _, _, _, rfl, .ty _, ty_L hb, kit_ty (b := "list") (r := true) (by decide +kernel), _, rfl, _, _, _, _, _, rfl, .ty _, ty_L ha, kit_ty (b := "list") (r := true) (by decide +kernel), rfl, _, rfl, iteF ?_⟩
    refine ⟨_, rfl, _, _, rfl, .inl ha, _, rfl, _, _, rfl, .inl hb, rfl, _, rfl, ?_⟩
    refine (if_neg (show ¬ (!decide (V.int (xs.length : Int) = V.int (ys.length : Int))) = true by rw [e1, e2, decide_eq_true rfl]; decide)).mpr ?_
    refine ⟨_, rfl, _, _, rfl, .inl hb, _, rfl, by omega, by rw [e2]; exact Int.lt_of_le_of_lt (by omega : ((ds.length : Nat) : Int) ≤ 1000) (by decide), fun L hL => lc_range (lo := 0) (n := (ys.length : Int).toNat) (fun i H1 => Same H H1 ∧ H1 L = some (.lst ((List.replicate i true).map V.bl)) ∧ H L = none) ⟨same_new hL _, upd_same, hL⟩ ?_ ?_⟩
    · rintro i H1 hi ⟨s1, h1, _⟩
      have hi' : i < ys.length := by simpa using hi
      have hi2 : i < xs.length := by omega
      have gx : xs[i]? = some xs[i] := List.getElem?_eq_getElem hi2
      have gy : ys[i]? = some ys[i] := List.getElem?_eq_getElem hi'
      obtain ⟨d1, k1, dx⟩ := (DpAll.get ta).2 i _ gx
      obtain ⟨d2, k2, dy⟩ := (DpAll.get tb).2 i _ gy
      rw [k1] at k2
      cases Option.some.inj k2
      refine ⟨rfl, ?_⟩
      refine yes_of ?_
      refine ⟨_, rfl, _, rfl, Sq.ix (l := true) (show Sq K H1 p xs true from s1.seq ha) gx ?_⟩
      refine ⟨_, rfl, _, rfl, Sq.ix (l := true) (show Sq K H1 p' ys true from s1.seq hb) gy ?_⟩
      refine ⟨_, _, d1, rfl, Dp.same s1 dx, Dp.same s1 dy, hds d1 (List.mem_of_getElem? k1), fun H2 s2 => ?_⟩
      refine ⟨_, s2 _ _ h1, ?_, ?_, ?_, hL⟩
      · rw [List.length_map, List.length_replicate]; exact small1000 (by omega)
      · intro b o e
        have nb : b ≠ L := ne_of_none e hL
        rw [upd_ne nb]
        exact s2 _ _ (s1 _ _ e)
      · rw [upd_same, List.replicate_succ', List.map_append]
        rfl
    · rintro H1 ⟨s1, h1, _⟩
      refine ⟨_, _, rfl, .inl (.inl h1), ?_⟩
      have e : (List.replicate (ys.length : Int).toNat true).all id = true := by simp
      show Q (.bl ((List.replicate (ys.length : Int).toNat true).all id)) H1
      rw [e]
      exact q _ s1
  | @tup p' ys ds hb tb =>
    cases da with
    | @tup p xs _ ha ta =>
    obtain ⟨hl, hds⟩ := dp
    have e1 := (DpAll.get ta).1
    have e2 := (DpAll.get tb).1
    refine ⟨_, rfl, rfl, _, rfl, ?_⟩
    refine (if_neg (show ¬ decide (V.ref p' = V.non) = true by rw [decide_eq_false (by intro z; cases z)]; decide)).mpr ?_
    refine ⟨_, rfl, _, _, _, _, _, rfl, .ty _, ty_T hb, kit_ty (by decide +kernel), false, rfl, iteF ?_⟩
    refine ⟨_, rfl, _, _, _, _, _, rfl, .ty _, ty_T hb, kit_ty (by decide +kernel), false, rfl, iteF ?_⟩
    refine ⟨_, rfl, _, _, _, _, _, rfl, .ty _, ty_T hb, kit_ty (by decide +kernel), false, rfl, iteF ?_⟩
    refine ⟨_, rfl, _, _, _, _, _, rfl, .ty _, ty_T hb, kit_ty (b := "tuple") (r := true) (by decide +kernel), _, rfl, _, _, _, _, _, rfl, .ty _, ty_T ha, kit_ty (b := "tuple") (r := true) (by decide +kernel), rfl, _, rfl, iteF ?_⟩
    refine ⟨_, rfl, _, _, _, _, _, rfl, .ty _, ty_T hb, kit_ty (b := "list") (r := false) (by decide +kernel), _, rfl, _, _, _, _, _, rfl, .ty _, ty_T ha, kit_ty (b := "list") (r := false) (by decide +kernel), rfl, _, rfl, iteF ?_⟩
    refine ⟨_, rfl, _, _, rfl, .inr ha, _, rfl, _, _, rfl, .inr hb, rfl, _, rfl, ?_⟩
    refine (if_neg (show ¬ (!decide (V.int (xs.length : Int) = V.int (ys.length : Int))) = true by rw [e1, e2, decide_eq_true rfl]; decide)).mpr ?_
    refine ⟨_, rfl, _, _, rfl, .inr hb, _, rfl, by omega, by rw [e2]; exact Int.lt_of_le_of_lt (by omega : ((ds.length : Nat) : Int) ≤ 1000) (by decide), fun L hL => lc_range (lo := 0) (n := (ys.length : Int).toNat) (fun i H1 => Same H H1 ∧ H1 L = some (.lst ((List.replicate i true).map V.bl)) ∧ H L = none) ⟨same_new hL _, upd_same, hL⟩ ?_ ?_⟩
    · rintro i H1 hi ⟨s1, h1, _⟩
      have hi' : i < ys.length := by simpa using hi
      have hi2 : i < xs.length := by omega
      have gx : xs[i]? = some xs[i] := List.getElem?_eq_getElem hi2
      have gy : ys[i]? = some ys[i] := List.getElem?_eq_getElem hi'
      obtain ⟨d1, k1, dx⟩ := (DpAll.get ta).2 i _ gx
      obtain ⟨d2, k2, dy⟩ := (DpAll.get tb).2 i _ gy
      rw [k1] at k2
      cases Option.some.inj k2
      refine ⟨rfl, ?_⟩
      refine yes_of ?_
      refine ⟨_, rfl, _, rfl, Sq.ix (l := false) (show Sq K H1 p xs false from same_T s1 ha) gx ?_⟩
      refine ⟨_, rfl, _, rfl, Sq.ix (l := false) (show Sq K H1 p' ys false from same_T s1 hb) gy ?_⟩
      refine ⟨_, _, d1, rfl, Dp.same s1 dx, Dp.same s1 dy, hds d1 (List.mem_of_getElem? k1), fun H2 s2 => ?_⟩
      refine ⟨_, s2 _ _ h1, ?_, ?_, ?_, hL⟩
      · rw [List.length_map, List.length_replicate]; exact small1000 (by omega)
      · intro b o e
        have nb : b ≠ L := ne_of_none e hL
        rw [upd_ne nb]
        exact s2 _ _ (s1 _ _ e)
      · rw [upd_same, List.replicate_succ', List.map_append]
        rfl
    · rintro H1 ⟨s1, h1, _⟩
      refine ⟨_, _, rfl, .inl (.inl h1), ?_⟩
      have e : (List.replicate (ys.length : Int).toNat true).all id = true := by simp
      show Q (.bl ((List.replicate (ys.length : Int).toNat true).all id)) H1
      rw [e]
      exact q _ s1
end
end My

namespace My
open PySem L2 Mth
abbrev s_law_step : Stmt := topS 66
theorem sc_law_step : FnScope ["_law_d", "_law_size_now"] ["_law_d", "_law_size_now"] (defScope s_law_step) := ⟨rfl, rfl, rfl, by decide +kernel, rfl, by decide +kernel, by decide +kernel⟩
section
variable {P : Program} {w : World} {K : PySem.W.Frag} {mg : Str → Option Value} {base : Heap}
def sp_step (K : PySem.W.Frag) : Sp := fun vs H Q _ => ∃ (d : Addr) (n : Int) (st : Src), vs = [.ref d, .int n] ∧ 0 ≤ n ∧ n ≤ 7 ∧ H d = some (.lst (encD st)) ∧ SrcOk st ∧
  ∀ H' st' r, Keep d H H' → H' d = some (.lst (encD st')) → SrcOk st' → (∃ t, IsT K H' r t ∧ SpotIn t) → Q r H'
theorem ok_law_step {f : Addr} {fd : FuncData} (d_law_below : D P w K mg base "_law_below" 1 sp_below) (F : Fun K "_law_step" "_law_step" s_law_step f fd) : FnOk P w K mg base CX0 2 f fd ["_law_d", "_law_size_now"] (sp_step K) := by
  refine F.ok sc_law_step (fun vs H Q E h => ?_) (fun cdv A outer s H vs Q E hr h => ?_)
  · obtain ⟨d, n, st, rfl, _⟩ := h
    rfl
  obtain ⟨d, n, st, rfl, n0, n7, hd, ok, q⟩ := h
  refine ⟨_, (pss_one (ps_ret (pe_tup (pa_cons (pe_op op_sub (pc d_law_below (hr.mono (by decide)) (pa_cons (pv 0) (pa_cons (pe_op op_add (pe_op op_mulW pe_int (pv 1)) pe_int) pa_nil))) (pv 1)) (pa_cons (pe_op op_sub (pc d_law_below (hr.mono (by decide)) (pa_cons (pv 0) (pa_cons (pe_op op_add (pe_op op_mulW pe_int (pv 1)) pe_int) pa_nil))) (pv 1)) (pa_cons pe_int pa_nil)))))), ?_⟩
  have m2 : CMulW 2 n := mulW (a := 1) (b := 2) (by decide) (show n.natAbs < 8 by omega)
  refine ⟨_, rfl, _, rfl, _, _, rfl, rfl, m2, _, _, rfl, rfl, d, _, st, rfl, by omega, by omega, hd, ok, fun st1 x ok1 x0 x1 => ?_⟩
  refine ⟨_, rfl, _, _, rfl, rfl, ?_⟩
  refine ⟨_, rfl, _, rfl, _, _, rfl, rfl, m2, _, _, rfl, rfl, d, _, st1, rfl, by omega, by omega, upd_same, ok1, fun st2 y ok2 y0 y1 => ?_⟩
  refine ⟨_, rfl, _, _, rfl, rfl, (by show 3 ≤ sizeLine; decide), fun p hp => ?_⟩
  have sp' := same_new hp (.tup [.int (x - n), .int (y - n), .int 1])
  refine q _ st2 _ (keep_upd.trans (keep_upd.trans (Keep.of sp'))) (sp' _ _ upd_same) ok2 ⟨(x - n, y - n, 1), IsT.new, ⟨⟨(by decide : (0 : Int) < 1), by unfold g3; dsimp only; rw [Int.gcd_one_right]; rfl⟩, ?_⟩⟩
  refine ⟨?_, ?_, ?_⟩ <;> show _ < 8
  · show (x - n).natAbs < 8; omega
  · show (y - n).natAbs < 8; omega
  · show (1 : Nat) < 8; decide
end
end My

namespace My
open PySem L2 Mth
section
variable {K : PySem.W.Frag}
/-! ### the law's arms -/
structure ArmIn (a : Am) : Prop where
  ok : AmOk a
  bp : B 3 a.pole
  bt : B 3 a.t
  mem : a.t ∈ turns13
  fa : a.far ≤ 200
/-- an arm as it is told -/
def IsB (K : PySem.W.Frag) (H : Hp) (v : V) (a : Am) : Prop := ∃ p u z, v = .ref p ∧ SqT K H p [.ref u, .ref z, .int a.near, .int a.far, .bl a.m] ∧ SqT K H u (v3 a.pole) ∧ SqT K H z (v3 a.t)
theorem IsB.same {H H' : Hp} {v : V} {a : Am} (h : IsB K H v a) (e : Same H H') : IsB K H' v a := by
  obtain ⟨p, u, z, rfl, h1, h2, h3⟩ := h
  exact ⟨p, u, z, rfl, same_T e h1, same_T e h2, same_T e h3⟩
theorem IsB.keep {H H' : Hp} {v : V} {a : Am} {d : Addr} {ys : List V} (h : IsB K H v a) (hd : H d = some (.lst ys)) (e : Keep d H H') : IsB K H' v a := by
  obtain ⟨p, u, z, rfl, h1, h2, h3⟩ := h
  exact ⟨p, u, z, rfl, keep_T h1 hd e, keep_T h2 hd e, keep_T h3 hd e⟩
end
end My

namespace My
open PySem L2 Mth
abbrev s_law_arm : Stmt := topS 73
theorem sc_law_arm : FnScope ["_law_told_here"] ["_law_told_here"] (defScope s_law_arm) := ⟨rfl, rfl, rfl, by decide +kernel, rfl, by decide +kernel, by decide +kernel⟩
abbrev s_law_arm_told : Stmt := topS 71
theorem sc_law_arm_told : FnScope ["_law_d", "_law_near", "_law_pole"] ["_law_d"] (defScope s_law_arm_told) := ⟨rfl, rfl, rfl, by decide +kernel, rfl, by decide +kernel, by decide +kernel⟩
section
variable {P : Program} {w : World} {K : PySem.W.Frag} {mg : Str → Option Value} {base : Heap}
theorem nears {r : Int} (h0 : 0 ≤ r) (h1 : r < 4) : ∃ c : Int, atI [V.int 0, .int 0, .int 1, .int 2] r = some (.int c) ∧ 0 ≤ c ∧ c ≤ 2 := by
  have : r = 0 ∨ r = 1 ∨ r = 2 ∨ r = 3 := by omega
  rcases this with rfl | rfl | rfl | rfl
  · exact ⟨0, by rfl, by decide, by decide⟩
  · exact ⟨0, by rfl, by decide, by decide⟩
  · exact ⟨1, by rfl, by decide, by decide⟩
  · exact ⟨2, by rfl, by decide, by decide⟩
theorem fars {r : Int} (h0 : 0 ≤ r) (h1 : r < 4) : ∃ c : Int, atI [V.int 3, .int 8, .int 20, .int 99] r = some (.int c) ∧ 3 ≤ c ∧ c ≤ 99 := by
  have : r = 0 ∨ r = 1 ∨ r = 2 ∨ r = 3 := by omega
  rcases this with rfl | rfl | rfl | rfl
  · exact ⟨3, by rfl, by decide, by decide⟩
  · exact ⟨8, by rfl, by decide, by decide⟩
  · exact ⟨20, by rfl, by decide, by decide⟩
  · exact ⟨99, by rfl, by decide, by decide⟩
theorem ok_law_arm_told {f : Addr} {fd : FuncData} (d_law_below : D P w K mg base "_law_below" 1 sp_below) (d_law_step : D P w K mg base "_law_step" 2 (sp_step K)) (d_law_turn : D P w K mg base "_law_turn" 2 (sp_draw fun H r => ∃ t, IsT K H r t ∧ TurnIn t)) (d_law_spot : D P w K mg base "_law_spot" 3 (sp_draw fun H r => ∃ t, IsT K H r t ∧ SpotIn t))
    (F : Fun K "_law_arm_told" "_law_arm_told" s_law_arm_told f fd) : FnOk P w K mg base CX0 4 f fd ["_law_d"] (sp_draw fun H r => ∃ a, IsB K H r a ∧ ArmIn a) := by
  refine F.ok sc_law_arm_told (fun vs H Q E h => ?_) (fun cdv A outer s H vs Q E hr h => ?_)
  · obtain ⟨d, st, rfl, _⟩ := h
    rfl
  obtain ⟨d, st, rfl, hd, ok, q⟩ := h
  refine ⟨_, (pss_cons (ps_set (i := 1) sc_law_arm_told.nd rfl (by first | exact Or.inl rfl | exact Or.inr rfl) (pe_ix (r := rIxL K) ix_list (pe_lst (pa_cons pe_int (pa_cons pe_int (pa_cons pe_int (pa_cons pe_int pa_nil))))) (pc d_law_below (hr.mono (by decide)) (pa_cons (pv 0) (pa_cons pe_int pa_nil))) (fun _ _ => rfl)))
    (pss_cons (ps_set (i := 2) sc_law_arm_told.nd rfl (by first | exact Or.inl rfl | exact Or.inr rfl) (pe_ifExp (pt_cmpR (op_gt) (pc d_law_below (hr.mono (by decide)) (pa_cons (pv 0) (pa_cons pe_int pa_nil))) pe_int (nomark _)) (pc d_law_step (hr.mono (by decide)) (pa_cons (pv 0) (pa_cons pe_int pa_nil))) (pc d_law_spot (hr.mono (by decide)) (pa_cons (pv 0) pa_nil))))
    (pss_one (ps_ret (pe_tup (pa_cons (pv 2) (pa_cons (pc d_law_turn (hr.mono (by decide)) (pa_cons (pv 0) pa_nil)) (pa_cons (pv 1) (pa_cons (pe_op op_add (pv 1) (pe_ix (r := rIxL K) ix_list (pe_lst (pa_cons pe_int (pa_cons pe_int (pa_cons pe_int (pa_cons pe_int pa_nil))))) (pc d_law_below (hr.mono (by decide)) (pa_cons (pv 0) (pa_cons pe_int pa_nil))) (fun _ _ => rfl))) (pa_cons (pe_cmpR (op_eq) (pc d_law_below (hr.mono (by decide)) (pa_cons (pv 0) (pa_cons pe_int pa_nil))) pe_int (nomark _)) pa_nil)))))))))), ?_⟩
  refine ⟨(by show 4 ≤ sizeLine; decide), fun a ha => ?_⟩
  have sa := same_new ha (.lst [.int 0, .int 0, .int 1, .int 2])
  refine ⟨_, rfl, d, _, st, rfl, by decide, by decide, sa _ _ hd, ok, fun st1 r ok1 r0 r1 => ?_⟩
  have had : a ≠ d := (ne_of_none hd ha).symm
  obtain ⟨n, hn, n0, n2⟩ := nears r0 r1
  refine ⟨a, _, _, _, rfl, rfl, .inl (.inl (by rw [upd_ne had]; exact upd_same)), hn, ?_⟩
  have kk1 : Keep d H (upd (upd H a (.lst [.int 0, .int 0, .int 1, .int 2])) d (.lst (encD st1))) := (Keep.of sa).trans keep_upd
  have hd1 := upd_same (H := upd H a (.lst [.int 0, .int 0, .int 1, .int 2])) (a := d) (o := .lst (encD st1))
  generalize upd (upd H a (.lst [.int 0, .int 0, .int 1, .int 2])) d (.lst (encD st1)) = H1 at *
  refine gn_of ?_
  dsimp only
  refine asg_of ?_
  refine exp_join (fun v' H' => ∃ st z, H' d = some (.lst (encD st)) ∧ SrcOk st ∧ Keep d H1 H' ∧ IsT K H' v' z ∧ SpotIn z) ?_ ?_
  · rintro vp H2 ⟨st2, z, hd2, ok2, k2, ⟨pz, ez, tz⟩, nz⟩
    subst ez
    refine gn_of ?_
    refine ⟨_, rfl, ?_⟩
    refine ⟨_, rfl, d, st2, rfl, hd2, ok2, fun H3 st3 v3 k3 hd3 ok3 ⟨t, ⟨pt, et, tt⟩, nt⟩ => ?_⟩
    subst et
    have tz := keep_T tz hd2 k3
    refine ⟨_, rfl, ?_⟩
    refine ⟨_, rfl, (by show 4 ≤ sizeLine; decide), fun b hb => ?_⟩
    have sb := same_new hb (.lst [.int 3, .int 8, .int 20, .int 99])
    refine ⟨_, rfl, d, _, st3, rfl, by decide, by decide, sb _ _ hd3, ok3, fun st4 r4 ok4 r40 r41 => ?_⟩
    have hbd : b ≠ d := (ne_of_none hd3 hb).symm
    obtain ⟨c, hc, c3, c99⟩ := fars r40 r41
    refine ⟨b, _, _, _, rfl, rfl, .inl (.inl (by rw [upd_ne hbd]; exact upd_same)), hc, ?_⟩
    refine ⟨_, _, rfl, rfl, ?_⟩
    refine ⟨_, rfl, d, _, st4, rfl, by decide, by decide, upd_same, ok4, fun st5 r5 ok5 r50 r51 => ?_⟩
    refine ⟨rfl, (by show 5 ≤ sizeLine; decide), fun p hp => ?_⟩
    have sp' := same_new hp (.tup [.ref pz, .ref pt, .int n, .int (n + c), .bl (decide (V.int r5 = V.int 0))])
    have k35 : Keep d H3 (upd (upd (upd H3 b (.lst [.int 3, .int 8, .int 20, .int 99])) d (.lst (encD st4))) d (.lst (encD st5))) := (Keep.of sb).trans (keep_upd.trans keep_upd)
    refine q _ st5 _ (kk1.trans (k2.trans (k3.trans (k35.trans (Keep.of sp'))))) (sp' _ _ upd_same) ok5 ⟨⟨z, t, n, n + c, decide (V.int r5 = V.int 0)⟩, ⟨p, pz, pt, rfl, .inl (.inl upd_same), same_T sp' (keep_T tz hd3 k35), same_T sp' (keep_T tt hd3 k35)⟩, ⟨⟨nz.ok, nt.ok, nt.nz, n0, ?_, ?_⟩, nz.bd, nt.bd, nt.mem, (by show n + c ≤ 200; omega)⟩⟩
    · show n ≤ n + c; omega
    · show n + c ≤ 1000; omega
  · intro Q' kQ
    refine ⟨_, rfl, d, _, st1, rfl, by decide, by decide, hd1, ok1, fun st2 r2 ok2 r20 r21 => ?_⟩
    have kk : Keep d H1 (upd H1 d (.lst (encD st2))) := keep_upd
    refine ⟨_, _, rfl, rfl, _, rfl, ?_⟩
    refine ite2 (fun _ => ?_) (fun _ => ?_)
    · exact ⟨_, rfl, d, 4, st2, rfl, by decide, by decide, upd_same, ok2, fun H3 st3 v3 k3 hd3 ok3 ⟨z, iz, nz⟩ => kQ _ _ ⟨st3, z, hd3, ok3, kk.trans k3, iz, nz⟩⟩
    · exact ⟨_, rfl, d, st2, rfl, upd_same, ok2, fun H3 st3 v3 k3 hd3 ok3 ⟨z, iz, nz⟩ => kQ _ _ ⟨st3, z, hd3, ok3, kk.trans k3, iz, nz⟩⟩
def sp_armOf (K : PySem.W.Frag) (C CA : Addr) : Sp := fun vs H Q _ => ∃ v a, vs = [v] ∧ IsB K H v a ∧ AmOk a ∧ B 1000 a.pole ∧ B 1000 a.t ∧ ∀ H' r, Same H H' → IsA K C CA H' r a → Q r H'
theorem ok_law_arm {f C CA fI : Addr} {fd fdI : FuncData} {mv ds : List Value} (TA : ArmI P w K mg base C CA fI fdI mv ds) (F : Fun K "_law_arm" "_law_arm" s_law_arm f fd) : FnOk P w K mg base CX0 9 f fd ["_law_told_here"] (sp_armOf K C CA) := by
  refine F.ok sc_law_arm (fun vs H Q E h => ?_) (fun cdv A outer s H vs Q E hr h => ?_)
  · obtain ⟨v, a, rfl, _⟩ := h
    rfl
  obtain ⟨v, a, rfl, ⟨p, u, z, rfl, h1, h2, h3⟩, ok, bp, bt, q⟩ := h
  refine ⟨_, (pss_one (ps_ret (pe_makeK TA.mkC TA.ok (hr.mono (by decide)) (by rfl) TA.mgC TA.kb pass0 (pa_cons (pe_ix (r := rIxT K) ix_tup (pv 0) pe_int (fun _ _ => rfl)) (pa_cons (pe_ix (r := rIxT K) ix_tup (pv 0) pe_int (fun _ _ => rfl)) (pa_cons (pe_ix (r := rIxT K) ix_tup (pv 0) pe_int (fun _ _ => rfl)) (pa_cons (pe_ix (r := rIxT K) ix_tup (pv 0) pe_int (fun _ _ => rfl)) pa_nil)))) (pk_cons (pe_ix (r := rIxT K) ix_tup (pv 0) pe_int (fun _ _ => rfl)) pk_nil)))), ?_⟩
  refine ⟨_, rfl, _, _, _, _, rfl, rfl, h1, by rfl, _, rfl, _, _, _, _, rfl, rfl, h1, by rfl, _, rfl, _, _, _, _, rfl, rfl, h1, by rfl, _, rfl, _, _, _, _, rfl, rfl, h1, by rfl, _, rfl, _, _, _, _, rfl, rfl, h1, by rfl, ?_⟩
  exact ⟨rfl, rfl, mka_of ⟨_, rfl, h2⟩ ⟨_, rfl, h3⟩ ok (bp.mono (by decide)) bt fun H' r s' i => q _ _ s' i⟩
end
end My

namespace My
open PySem L2 Mth
abbrev s_law_about : Stmt := topS 79
theorem sc_law_about : FnScope ["_law_told_here", "_law_pole", "_law_turn_here", "_law_near", "_law_far", "_law_flipped", "_law_carried_to"] ["_law_told_here"] (defScope s_law_about) := ⟨rfl, rfl, rfl, by decide +kernel, rfl, by decide +kernel, by decide +kernel⟩
section
variable {P : Program} {w : World} {K : PySem.W.Frag} {mg : Str → Option Value} {base : Heap}
def sp_labout (K : PySem.W.Frag) : Sp := fun vs H Q _ => ∃ v a, vs = [v] ∧ IsB K H v a ∧ AmOk a ∧ B 1000 a.pole ∧ B 1000 a.t ∧ ∀ H' r, Same H H' → IsD K H' r (about a) → Q r H'
theorem ok_law_about {f : Addr} {fd : FuncData} (d_law_times : D P w K mg base "_law_times" 3 (sp_two K times)) (d_law_over : D P w K mg base "_law_over" 1 (sp_one K over)) (d_law_minus : D P w K mg base "_law_minus" 4 (sp_two K minus)) (F : Fun K "_law_about" "_law_about" s_law_about f fd) : FnOk P w K mg base CX0 5 f fd ["_law_told_here"] (sp_labout K) := by
  refine F.ok sc_law_about (fun vs H Q E h => ?_) (fun cdv A outer s H vs Q E hr h => ?_)
  · obtain ⟨v, a, rfl, _⟩ := h
    rfl
  obtain ⟨v, ⟨z, t, n, g, m⟩, rfl, ⟨p, u, w', rfl, h1, h2, h3⟩, oa, bp, bt, q⟩ := h
  refine ⟨_, (pss_cons (ps_asg (pv 0) (pg_tup rfl (pgs_cons (pg_name (i := 1) sc_law_about.nd rfl (by first | exact Or.inl rfl | exact Or.inr rfl)) (pgs_cons (pg_name (i := 2) sc_law_about.nd rfl (by first | exact Or.inl rfl | exact Or.inr rfl)) (pgs_cons (pg_name (i := 3) sc_law_about.nd rfl (by first | exact Or.inl rfl | exact Or.inr rfl)) (pgs_cons (pg_name (i := 4) sc_law_about.nd rfl (by first | exact Or.inl rfl | exact Or.inr rfl)) (pgs_cons (pg_name (i := 5) sc_law_about.nd rfl (by first | exact Or.inl rfl | exact Or.inr rfl)) pgs_nil)))))))
    (pss_cons (ps_set (i := 6) sc_law_about.nd rfl (by first | exact Or.inl rfl | exact Or.inr rfl) (pc d_law_times (hr.mono (by decide)) (pa_cons (pv 2) (pa_cons (pe_ifExp (pt_val (pv 5)) (pc d_law_over (hr.mono (by decide)) (pa_cons (pv 1) pa_nil)) (pv 1)) pa_nil))))
    (pss_one (ps_ret (pe_tup (pa_cons (pv 2) (pa_cons (pc d_law_minus (hr.mono (by decide)) (pa_cons (pv 1) (pa_cons (pv 6) pa_nil))) (pa_cons (pv 5) pa_nil)))))))), ?_⟩
  refine ⟨_, rfl, p, _, rfl, h1, rfl, _, _, rfl, _, _, rfl, _, _, rfl, _, _, rfl, _, _, rfl, rfl, ?_⟩
  refine ⟨_, rfl, _, rfl, ?_⟩
  cases m with
  | true =>
    refine ⟨_, rfl, iteT ⟨_, rfl, _, z, rfl, ⟨_, rfl, h2⟩, fun H1 r1 s1 i1 => ?_⟩⟩
    have i1 : IsT K H1 r1 (face z true) := i1
    refine ⟨_, _, _, _, rfl, ⟨_, rfl, same_T s1 h3⟩, i1, oa.t, face_ok oa.p _, bt.mono (by decide), (face_B bp _).mono (by decide), fun H2 r2 s2 i2 => ?_⟩
    have s12 := s1.trans s2
    refine ⟨_, rfl, _, rfl, _, rfl, _, _, _, _, rfl, ⟨_, rfl, same_T s12 h2⟩, i2, oa.p, times_ok oa.t (face_ok oa.p _), bp.mono (by decide), (times_B oa.t (face_ok oa.p _) bt (face_B bp _)).mono (by decide), fun H3 r3 s3 i3 => ?_⟩
    have s13 := s12.trans s3
    obtain ⟨p3, e3, t3⟩ := i3
    subst e3
    refine ⟨_, rfl, (by show 3 ≤ sizeLine; decide), fun p4 hp4 => ?_⟩
    have s4 := same_new hp4 (.tup [.ref w', .ref p3, .bl true])
    exact q _ _ (s13.trans s4) ⟨p4, w', p3, rfl, .inl (.inl upd_same), same_T (s13.trans s4) h3, same_T s4 t3⟩
  | false =>
    have i1 : IsT K H (.ref u) (face z false) := ⟨_, rfl, h2⟩
    have s1 := Same.refl H
    refine ⟨_, rfl, iteF ⟨_, rfl, ?_⟩⟩
    refine ⟨_, _, _, _, rfl, ⟨_, rfl, same_T s1 h3⟩, i1, oa.t, face_ok oa.p _, bt.mono (by decide), (face_B bp _).mono (by decide), fun H2 r2 s2 i2 => ?_⟩
    have s12 := s1.trans s2
    refine ⟨_, rfl, _, rfl, _, rfl, _, _, _, _, rfl, ⟨_, rfl, same_T s12 h2⟩, i2, oa.p, times_ok oa.t (face_ok oa.p _), bp.mono (by decide), (times_B oa.t (face_ok oa.p _) bt (face_B bp _)).mono (by decide), fun H3 r3 s3 i3 => ?_⟩
    have s13 := s12.trans s3
    obtain ⟨p3, e3, t3⟩ := i3
    subst e3
    refine ⟨_, rfl, (by show 3 ≤ sizeLine; decide), fun p4 hp4 => ?_⟩
    have s4 := same_new hp4 (.tup [.ref w', .ref p3, .bl false])
    exact q _ _ (s13.trans s4) ⟨p4, w', p3, rfl, .inl (.inl upd_same), same_T (s13.trans s4) h3, same_T s4 t3⟩
end
end My

namespace My
open PySem L2 Mth LamX
abbrev s_law_error_of : Stmt := topS 85
theorem sc_law_error_of : FnScope ["_law_call", "e", "_law_kinds", "_law_names", "_law_name"] ["_law_call"] (defScope s_law_error_of) := ⟨rfl, rfl, rfl, by decide +kernel, rfl, by decide +kernel, by decide +kernel⟩
def eCls : List Str := ["InvalidSpot", "InvalidTurn", "InvalidTimes", "TooFew", "InvalidStroke", "OpenStroke", "InvalidReach", "OutOfReach", "TooMany", "InvalidSize", "InvalidBox", "Contradiction", "BadText", "BadRow", "UnknownName", "InvalidName", "InvalidCode", "UnknownArm", "NotFree", "InvalidOperation"]
def eNms : List Str := ["spot", "turn", "times", "few", "stroke", "open", "reach", "out", "many", "size", "box", "contra", "text", "row", "unknown", "name", "code", "arm", "free", "operation"]
/-- the errors at the places Is of the list, none with a value of its own -/
structure Errs (K : PySem.W.Frag) (mg : Str → Option Value) (CB : Addr) (Cs : Nat → Addr) (Is : List Nat) : Prop where
  mg : ∀ j x, eCls[j]? = some x → mg x = some (.ref (Cs j))
  ec : ∀ n, n ∈ Is → ExcC K (Cs n)
  kit : ∀ n j, n ∈ Is → j < 20 → PySem.W.kitOne K (.ref (Cs n)) (.ref (Cs j)) = some (decide (j = n))
  val : ∀ n, n ∈ Is → PySem.W.kitOne K (.ref (Cs n)) (.type "ValueError") = some true
  exm : ∀ n, n ∈ Is → PySem.W.exmOne K (.ref (Cs n)) (.ref CB) = some true
  pln : ∀ n, n ∈ Is → n ∈ [0, 1, 2, 3, 5, 6, 8, 9, 10, 11, 14, 15, 17, 18]
abbrev errSuite : List Stmt := match defBody s_law_error_of with
  | .Try _ [.ExceptHandler _ _ b _] _ _ _ :: _ => b
  | _ => []
theorem kinds_step {a : Addr} {bs cs : List Bool} {l : Addr} {H : Hp} {D : Ends} {x0 x3 x4 : Option V} (h : H l = some (.lst (cs.map V.bl))) (hn : cs.length + bs.length ≤ 20)
    (k : ∀ H2 p, Same H H2 → H2 p = some (.lst ((cs ++ bs).map V.bl)) → D.nx [x0, some (.ref a), some (.ref p), x3, x4] H2) :
    tAsg (tOp rCat (tVar 2) (tLst (tIs a 1 bs))) (gName 2) D [x0, some (.ref a), some (.ref l), x3, x4] H := by
  refine ⟨_, rfl, rfl, ?_, fun l2 hl2 => ?_⟩
  · exact small (by rw [List.length_map]; omega)
  have s2 := same_new hl2 (.lst (bs.map V.bl))
  refine ⟨l, l2, _, _, rfl, rfl, s2 _ _ h, upd_same, small (by rw [List.length_map, List.length_map]; omega), fun p hp => ?_⟩
  refine k _ p (s2.trans (same_new hp _)) ?_
  rw [List.map_append]
  exact upd_same
def tw (n : Nat) : List Bool := (List.range 20).map fun j => decide (j = n)
theorem tw_flat (n : Nat) : ((tw n).map V.bl).all flatV = true := by
  rw [List.all_eq_true]
  intro x hx
  obtain ⟨b, _, rfl⟩ := List.mem_map.mp hx
  rfl
theorem tw_count : ∀ n, n ∈ [0, 1, 2, 3, 5, 6, 8, 9, 10, 11, 14, 15, 17, 18] → ((tw n).map V.bl).countP (fun z => eqV z (.bl true)) = 1 := by decide +kernel
theorem tw_at : ∀ n, n ∈ [0, 1, 2, 3, 5, 6, 8, 9, 10, 11, 14, 15, 17, 18] → ((tw n).map V.bl)[n]? = some (.bl true) := by
  decide +kernel
theorem nm_at : ∀ n, n ∈ [0, 1, 2, 3, 5, 6, 8, 9, 10, 11, 14, 15, 17, 18] → atI (eNms.map V.str) ((n : Nat) : Int) = some (.str (eNms.getD n Str.empty)) := by
  decide +kernel
theorem nm_ne : ∀ n, n ∈ [0, 1, 2, 3, 5, 6, 8, 9, 10, 11, 14, 15, 17, 18] → ∀ x : Str, x ∈ [("stroke" : Str), "out", "text", "row"] → ¬ decide (V.str (eNms.getD n Str.empty) = V.str x) = true := by
  decide +kernel
theorem nm_in : ∀ n, n ∈ [0, 1, 2, 3, 5, 6, 8, 9, 10, 11, 14, 15, 17, 18] → ¬ (if false = true then !inV (V.str (eNms.getD n Str.empty)) [V.str "code", V.str "operation"] else inV (V.str (eNms.getD n Str.empty)) [V.str "code", V.str "operation"]) = true := by
  decide +kernel
theorem tw_no {n m : Nat} {z : V} (h : m < n) (hz : ((tw n).map V.bl)[m]? = some z) : eqV z (.bl true) = false := by
  unfold tw at hz
  rw [List.map_map, List.getElem?_map] at hz
  obtain ⟨w', h1, h2⟩ := Option.map_eq_some_iff.mp hz
  have h3 : w' = m := by
    obtain ⟨h4, h5⟩ := List.getElem?_eq_some_iff.mp h1
    rw [List.getElem_range] at h5
    exact h5.symm
  subst h3
  rw [← h2]
  show (decide (w' = n) == true) = false
  rw [decide_eq_false (by omega)]
  rfl
section
variable {X : Cx} {CB : Addr} {Cs : Nat → Addr} {Is : List Nat}
abbrev ZC (X : Cx) (g : Addr) (cdg : Value) (s : Shared) (H : Hp) : Cx := (cxOf C8.CX0 X.prog X.w X.K X.mg X.base ["_law_call", "e", "_law_kinds", "_law_names", "_law_name"] "_law_error_of" (defScope s_law_error_of) g cdg X.A X.stack s H C8.E0).nox
theorem err_suite {a g : Addr} {cdg : Value} {s : Shared} {H0 : Hp} {oe : Obj} {pn : List (Addr × Obj)} {n : Nat} (b_isinstance : X.mg "isinstance" = none) (b_ValueError : X.mg "ValueError" = none) (ER : Errs X.K X.mg CB Cs Is) (hn : n ∈ Is) (hz : Zc (.ref (Cs n)) none oe) (hf : ∃ vs, oe.data = .fields vs) :
    ∃ t, PSs ((ZC X g cdg s H0).suite a ((a, oe) :: pn)) errSuite t ∧ ∀ (D : Ends) (σ : L2.St) (H : Hp), σ.length = 5 → σ[1]? = some (some (.ref a)) → (∀ H' p, Same H H' → H' p = some (.tup [.str (eNms.getD n Str.empty), .int 0]) → D.rt (.ref p) H') → t D σ H := by
  have EC := ER.ec n hn
  refine ⟨_, (pss_cons (ps_set (i := 2) sc_law_error_of.nd rfl (by first | exact Or.inl rfl | exact Or.inr rfl) (pe_lst (paIs (C := Cs 0) (n := "e") (i := 1) EC hz hf (ER.kit n 0 hn (by decide)) (ER.mg 0 "InvalidSpot" rfl) b_isinstance (by rfl) (by rfl) (by decide) (by rfl) (Or.inl (by rfl)) (by decide) (by decide) (paIs (C := Cs 1) (n := "e") (i := 1) EC hz hf (ER.kit n 1 hn (by decide)) (ER.mg 1 "InvalidTurn" rfl) b_isinstance (by rfl) (by rfl) (by decide) (by rfl) (Or.inl (by rfl)) (by decide) (by decide) (paIs (C := Cs 2) (n := "e") (i := 1) EC hz hf (ER.kit n 2 hn (by decide)) (ER.mg 2 "InvalidTimes" rfl) b_isinstance (by rfl) (by rfl) (by decide) (by rfl) (Or.inl (by rfl)) (by decide) (by decide) paIs0)))))
    (pss_cons (ps_set (i := 2) sc_law_error_of.nd rfl (by first | exact Or.inl rfl | exact Or.inr rfl) (pe_op op_cat (pv 2) (pe_lst (paIs (C := Cs 3) (n := "e") (i := 1) EC hz hf (ER.kit n 3 hn (by decide)) (ER.mg 3 "TooFew" rfl) b_isinstance (by rfl) (by rfl) (by decide) (by rfl) (Or.inl (by rfl)) (by decide) (by decide) (paIs (C := Cs 4) (n := "e") (i := 1) EC hz hf (ER.kit n 4 hn (by decide)) (ER.mg 4 "InvalidStroke" rfl) b_isinstance (by rfl) (by rfl) (by decide) (by rfl) (Or.inl (by rfl)) (by decide) (by decide) (paIs (C := Cs 5) (n := "e") (i := 1) EC hz hf (ER.kit n 5 hn (by decide)) (ER.mg 5 "OpenStroke" rfl) b_isinstance (by rfl) (by rfl) (by decide) (by rfl) (Or.inl (by rfl)) (by decide) (by decide) paIs0))))))
    (pss_cons (ps_set (i := 2) sc_law_error_of.nd rfl (by first | exact Or.inl rfl | exact Or.inr rfl) (pe_op op_cat (pv 2) (pe_lst (paIs (C := Cs 6) (n := "e") (i := 1) EC hz hf (ER.kit n 6 hn (by decide)) (ER.mg 6 "InvalidReach" rfl) b_isinstance (by rfl) (by rfl) (by decide) (by rfl) (Or.inl (by rfl)) (by decide) (by decide) (paIs (C := Cs 7) (n := "e") (i := 1) EC hz hf (ER.kit n 7 hn (by decide)) (ER.mg 7 "OutOfReach" rfl) b_isinstance (by rfl) (by rfl) (by decide) (by rfl) (Or.inl (by rfl)) (by decide) (by decide) (paIs (C := Cs 8) (n := "e") (i := 1) EC hz hf (ER.kit n 8 hn (by decide)) (ER.mg 8 "TooMany" rfl) b_isinstance (by rfl) (by rfl) (by decide) (by rfl) (Or.inl (by rfl)) (by decide) (by decide) paIs0))))))
    (pss_cons (ps_set (i := 2) sc_law_error_of.nd rfl (by first | exact Or.inl rfl | exact Or.inr rfl) (pe_op op_cat (pv 2) (pe_lst (paIs (C := Cs 9) (n := "e") (i := 1) EC hz hf (ER.kit n 9 hn (by decide)) (ER.mg 9 "InvalidSize" rfl) b_isinstance (by rfl) (by rfl) (by decide) (by rfl) (Or.inl (by rfl)) (by decide) (by decide) (paIs (C := Cs 10) (n := "e") (i := 1) EC hz hf (ER.kit n 10 hn (by decide)) (ER.mg 10 "InvalidBox" rfl) b_isinstance (by rfl) (by rfl) (by decide) (by rfl) (Or.inl (by rfl)) (by decide) (by decide) (paIs (C := Cs 11) (n := "e") (i := 1) EC hz hf (ER.kit n 11 hn (by decide)) (ER.mg 11 "Contradiction" rfl) b_isinstance (by rfl) (by rfl) (by decide) (by rfl) (Or.inl (by rfl)) (by decide) (by decide) paIs0))))))
    (pss_cons (ps_set (i := 2) sc_law_error_of.nd rfl (by first | exact Or.inl rfl | exact Or.inr rfl) (pe_op op_cat (pv 2) (pe_lst (paIs (C := Cs 12) (n := "e") (i := 1) EC hz hf (ER.kit n 12 hn (by decide)) (ER.mg 12 "BadText" rfl) b_isinstance (by rfl) (by rfl) (by decide) (by rfl) (Or.inl (by rfl)) (by decide) (by decide) (paIs (C := Cs 13) (n := "e") (i := 1) EC hz hf (ER.kit n 13 hn (by decide)) (ER.mg 13 "BadRow" rfl) b_isinstance (by rfl) (by rfl) (by decide) (by rfl) (Or.inl (by rfl)) (by decide) (by decide) (paIs (C := Cs 14) (n := "e") (i := 1) EC hz hf (ER.kit n 14 hn (by decide)) (ER.mg 14 "UnknownName" rfl) b_isinstance (by rfl) (by rfl) (by decide) (by rfl) (Or.inl (by rfl)) (by decide) (by decide) paIs0))))))
    (pss_cons (ps_set (i := 2) sc_law_error_of.nd rfl (by first | exact Or.inl rfl | exact Or.inr rfl) (pe_op op_cat (pv 2) (pe_lst (paIs (C := Cs 15) (n := "e") (i := 1) EC hz hf (ER.kit n 15 hn (by decide)) (ER.mg 15 "InvalidName" rfl) b_isinstance (by rfl) (by rfl) (by decide) (by rfl) (Or.inl (by rfl)) (by decide) (by decide) (paIs (C := Cs 16) (n := "e") (i := 1) EC hz hf (ER.kit n 16 hn (by decide)) (ER.mg 16 "InvalidCode" rfl) b_isinstance (by rfl) (by rfl) (by decide) (by rfl) (Or.inl (by rfl)) (by decide) (by decide) (paIs (C := Cs 17) (n := "e") (i := 1) EC hz hf (ER.kit n 17 hn (by decide)) (ER.mg 17 "UnknownArm" rfl) b_isinstance (by rfl) (by rfl) (by decide) (by rfl) (Or.inl (by rfl)) (by decide) (by decide) paIs0))))))
    (pss_cons (ps_set (i := 2) sc_law_error_of.nd rfl (by first | exact Or.inl rfl | exact Or.inr rfl) (pe_op op_cat (pv 2) (pe_lst (paIs (C := Cs 18) (n := "e") (i := 1) EC hz hf (ER.kit n 18 hn (by decide)) (ER.mg 18 "NotFree" rfl) b_isinstance (by rfl) (by rfl) (by decide) (by rfl) (Or.inl (by rfl)) (by decide) (by decide) (paIs (C := Cs 19) (n := "e") (i := 1) EC hz hf (ER.kit n 19 hn (by decide)) (ER.mg 19 "InvalidOperation" rfl) b_isinstance (by rfl) (by rfl) (by decide) (by rfl) (Or.inl (by rfl)) (by decide) (by decide) paIs0)))))
    (pss_cons (ps_if (PW.pt (pw_or (pt_cmpR (op_ne) (pe_bm PySem.F.plainAttrs_list PySem.F.slot_list_count PySem.F.type_list_count mt_count (pv 2) (pa_cons pe_bl pa_nil)) pe_int (nomark _)) (pw_or1 (pt_not (pt_val (pe_callB (call_isE (X := ZC X g cdg s H0) EC hz hf) (by rfl) b_isinstance (by decide +kernel) (pa_cons (pv 1) (pa_cons (pe_bltn (v := .ty "ValueError") (by rfl) b_ValueError (by decide +kernel) rfl) pa_nil)))))))) (pss_one (ps_ret (pe_tup (pa_cons pe_str (pa_cons pe_int pa_nil))))) pss_nil)
    (pss_cons (ps_set (i := 3) sc_law_error_of.nd rfl (by first | exact Or.inl rfl | exact Or.inr rfl) (pe_lst (pa_cons pe_str (pa_cons pe_str (pa_cons pe_str (pa_cons pe_str (pa_cons pe_str (pa_cons pe_str (pa_cons pe_str (pa_cons pe_str (pa_cons pe_str (pa_cons pe_str (pa_cons pe_str (pa_cons pe_str pa_nil))))))))))))))
    (pss_cons (ps_set (i := 3) sc_law_error_of.nd rfl (by first | exact Or.inl rfl | exact Or.inr rfl) (pe_op op_cat (pv 3) (pe_lst (pa_cons pe_str (pa_cons pe_str (pa_cons pe_str (pa_cons pe_str (pa_cons pe_str (pa_cons pe_str (pa_cons pe_str (pa_cons pe_str pa_nil)))))))))))
    (pss_cons (ps_set (i := 4) sc_law_error_of.nd rfl (by first | exact Or.inl rfl | exact Or.inr rfl) (pe_ix (r := rIxL X.K) ix_list (pv 3) (pe_bm PySem.F.plainAttrs_list PySem.F.slot_list_index PySem.F.type_list_index mt_index (pv 2) (pa_cons pe_bl pa_nil)) (fun _ _ => rfl)))
    (pss_cons (ps_if (pt_cmpR (op_eq) (pv 4) pe_str (nomark _)) (pss_one (ps_never)) pss_nil)
    (pss_cons (ps_if (pt_cmpR (op_eq) (pv 4) pe_str (nomark _)) (pss_one (ps_never)) pss_nil)
    (pss_cons (ps_if (pt_cmpR (op_eq) (pv 4) pe_str (nomark _)) (pss_one (ps_never)) pss_nil)
    (pss_cons (ps_if (pt_cmpR (op_eq) (pv 4) pe_str (nomark _)) (pss_one (ps_never)) pss_nil)
    (pss_one (ps_ret (pe_tup (pa_cons (pv 4) (pa_cons (pe_ifExp (pt_cmpR (op_in_seq) (pv 4) (pe_lst (pa_cons pe_str (pa_cons pe_str pa_nil))) (by rfl)) (pe_nev) pe_int) pa_nil)))))))))))))))))))), ?_⟩
  intro D σ H hl h1 q
  obtain ⟨x0, x2, x3, x4, rfl⟩ : ∃ x0 x2 x3 x4, σ = [x0, some (.ref a), x2, x3, x4] := by
    match σ, hl, h1 with
    | [y0, y1, y2, y3, y4], _, h => exact ⟨y0, y2, y3, y4, by rw [show y1 = some (.ref a) from Option.some.inj h]⟩
  have pl := ER.pln n hn
  refine ⟨rfl, (by show 3 ≤ sizeLine; decide), fun l1 hl1 => gn_of ?_⟩
  have s1 := same_new hl1 (.lst ([decide (0 = n), decide (1 = n), decide (2 = n)].map V.bl))
  refine kinds_step upd_same (by show 6 ≤ 20; decide) fun H2 p2 s2 k2 => ?_
  refine kinds_step k2 (by show 9 ≤ 20; decide) fun H3 p3 s3 k3 => ?_
  refine kinds_step k3 (by show 12 ≤ 20; decide) fun H4 p4 s4 k4 => ?_
  refine kinds_step k4 (by show 15 ≤ 20; decide) fun H5 p5 s5 k5 => ?_
  refine kinds_step k5 (by show 18 ≤ 20; decide) fun H6 p6 s6 k6 => ?_
  refine kinds_step k6 (by show 20 ≤ 20; decide) fun H7 p7 s7 k7 => ?_
  have sx := s1.trans (s2.trans (s3.trans (s4.trans (s5.trans (s6.trans s7)))))
  have k8 : H7 p7 = some (.lst ((tw n).map V.bl)) := k7
  clear k7 k6 k5 k4 k3 k2
  have sq : SqL X.K H7 p7 ((tw n).map V.bl) := .inl (.inl k8)
  refine ⟨_, rfl, .inl ⟨rfl, _, sq⟩, p7, _, _, rfl, rfl, sq, rfl, tw_flat n, ?_⟩
  rw [tw_count n pl]
  refine ⟨rfl, _, rfl, ?_⟩
  refine (if_neg (by decide)).mpr ?_
  refine ⟨_, rfl, .ty "ValueError", .type "ValueError", true, rfl, fun u r => r, ER.val n hn, true, rfl, ?_⟩
  refine iteF ?_
  refine ⟨(by show 12 ≤ sizeLine; decide), fun l9 hl9 => gn_of ?_⟩
  have s9 := same_new hl9 (.lst ((eNms.take 12).map V.str))
  refine ⟨_, rfl, (by show 8 ≤ sizeLine; decide), fun l10 hl10 => ?_⟩
  have s10 := same_new hl10 (.lst ((eNms.drop 12).map V.str))
  refine ⟨l9, l10, _, _, rfl, rfl, s10 _ _ upd_same, upd_same, (by show 20 ≤ sizeLine; decide), fun l11 hl11 => gn_of ?_⟩
  have s11 := same_new hl11 (.lst (eNms.map V.str))
  have k11 := s11 _ _ (s10 _ _ (s9 _ _ k8))
  have s7x := s9.trans (s10.trans s11)
  have kn : upd (upd (upd H7 l9 (.lst ((eNms.take 12).map V.str))) l10 (.lst ((eNms.drop 12).map V.str))) l11 (.lst (eNms.map V.str)) l11 = some (.lst (eNms.map V.str)) := upd_same
  refine ⟨_, rfl, _, rfl, .inl ⟨rfl, _, .inl (.inl k11)⟩, p7, _, _, n, .bl true, rfl, rfl, .inl (.inl k11), rfl, tw_flat n, tw_at n pl, rfl, fun m z hm hz => tw_no hm hz, l11, _, _, _, rfl, rfl, .inl (.inl upd_same), nm_at n pl, gn_of ?_⟩
  refine ⟨_, rfl, rfl, _, rfl, (if_neg (nm_ne n pl _ (.head _))).mpr ?_⟩
  refine ⟨_, rfl, rfl, _, rfl, (if_neg (nm_ne n pl _ (.tail _ (.head _)))).mpr ?_⟩
  refine ⟨_, rfl, rfl, _, rfl, (if_neg (nm_ne n pl _ (.tail _ (.tail _ (.head _))))).mpr ?_⟩
  refine ⟨_, rfl, rfl, _, rfl, (if_neg (nm_ne n pl _ (.tail _ (.tail _ (.tail _ (.head _)))))).mpr ?_⟩
  refine ⟨_, rfl, _, rfl, (by show 2 ≤ sizeLine; decide), fun l12 hl12 => ?_⟩
  have s12 := same_new hl12 (.lst [V.str "code", V.str "operation"])
  refine ⟨l12, _, rfl, .inl (.inl (.inl upd_same)), rfl, rfl, _, rfl, (if_neg (nm_in n pl)).mpr ?_⟩
  refine ⟨(by show 2 ≤ sizeLine; decide), fun p13 hp13 => ?_⟩
  exact q _ _ (sx.trans (s7x.trans (s12.trans (same_new hp13 _)))) upd_same
/-- what is made of the lambda's reading: nothing for a call that ends, the error's name otherwise -/
def TErr (Cs : Nat → Addr) (Is : List Nat) : (XK → Hp → VK → Prop) → Hp → VK → Prop := fun tl H Q =>
  tl (fun cls d H' => ∃ n, n ∈ Is ∧ cls = .ref (Cs n) ∧ d = none ∧ ∀ H'' p, Same H' H'' → H'' p = some (.tup [.str (eNms.getD n Str.empty), .int 0]) → Q (.ref p) H'') H (fun _ H' => Q .non H')
theorem err_gives {g : Addr} {cdg : Value} {q : Str} (b_isinstance : X.mg "isinstance" = none) (b_ValueError : X.mg "ValueError" = none) (m_B : X.mg "CopyError" = some (.ref CB)) (ER : Errs X.K X.mg CB Cs Is) :
    GivesTo X ["_law_call", "e", "_law_kinds", "_law_names", "_law_name"] "_law_error_of" (defScope s_law_error_of) g cdg (defBody s_law_error_of) "_law_call" q (TErr Cs Is) := by
  intro f c' s H Q tl act hc h
  refine ⟨_, pss_cons (ps_try_as (X := ZC X g cdg s H) (n := "e") (i := 1) (c := .ref CB)
      (tb := fun W D σ H => ∃ Ech : XK, (∀ cls d σ' H', Ech cls d H' → W cls d σ' H') ∧ σ[0]? = some (some (.ref f)) ∧ H c' = some (CodeO c' q) ∧ tl Ech H (fun _ H1 => D.nx σ H1))
      (ts := fun a cls d D σ H => σ.length = 5 → ∃ n, n ∈ Is ∧ cls = .ref (Cs n) ∧ d = none ∧ σ[1]? = some (some (.ref a)) ∧ ∀ H'' p, Same H H'' → H'' p = some (.tup [.str (eNms.getD n Str.empty), .int 0]) → D.rt (.ref p) H'')
      rfl rfl sc_law_error_of.nd (by rfl) (by rfl) ⟨by rfl, by decide, .inl m_B⟩ LamX.takes0 (fun W pn xe tk _ => ?_) (fun a oe cls d pn hz hf => ?_)) (pss_one (ps_ret pe_non)), ?_⟩
  · refine ⟨fun pins s' σ H' D I h' => ?_⟩
    obtain ⟨Ech, hW, h1, h2, h3⟩ := h'
    exact PSs.run (pss_one (ps_expr (act W pn xe Ech _ _ tk hW) (by rfl))) pins s' σ H' D I ⟨h1, h2, h3⟩
  · refine ⟨fun pins s' σ H' D I h' => ?_⟩
    obtain ⟨n, hn, rfl, rfl, h1, h2⟩ := h' I.len
    obtain ⟨t, ht, hq⟩ := err_suite (X := X) (g := g) (cdg := cdg) (s := s) (H0 := H) (a := a) (pn := pn) b_isinstance b_ValueError ER hn hz hf
    exact ht.run pins s' σ H' D I (hq D σ H' I.len h1 h2)
  · refine ⟨_, ?_, rfl, hc, h⟩
    rintro cls d σ' H' ⟨n, hn, rfl, rfl, h2⟩
    refine ⟨true, ER.exm n hn, fun _ a _ hl => ⟨n, hn, rfl, rfl, ?_, h2⟩, fun z => by cases z⟩
    rw [List.length_set] at hl
    rw [List.getElem?_set_self (by omega)]
end
end My

namespace My
open PySem L2 Mth LamX
abbrev s_law_all_raise : Stmt := topS 86
theorem sc_law_all_raise : FnScope ["_law_calls", "_law_expected", "_law_call"] ["_law_calls", "_law_expected"] (defScope s_law_all_raise) := ⟨rfl, rfl, rfl, by decide +kernel, rfl, by decide +kernel, by decide +kernel⟩
section
variable {P : Program} {w : World} {K : PySem.W.Frag} {mg : Str → Option Value} {b : Heap}
/-! ### lambdas of a list, each of which raises the same error -/
def sp_ar (X : Cx) (k : Nat) (σ : L2.St) (Cs : Nat → Addr) (Is : List Nat) : Sp := fun vs H Q _ => ∃ l x us n, vs = [.ref l, x] ∧ SqL X.K H l us ∧ us.length ≤ 1000 ∧ n ∈ Is ∧ PyData.strOk (eNms.getD n Str.empty) = true ∧ Dp X.K H x (dErr (eNms.getD n Str.empty)) ∧
  (∀ (i : Nat) (u : V), us[i]? = some u → ∃ t, LamT X k t H u ∧ ∀ H2, Same H H2 → ∀ (Ech : XK) (Q2 : VK), (∀ H3, Same H2 H3 → Ech (.ref (Cs n)) none H3) → t Ech σ H2 Q2) ∧ ∀ H', Same H H' → Q (.bl true) H'
theorem ok_law_all_raise {X : Cx} {k : Nat} {σ : L2.St} {Cs : Nat → Addr} {Is : List Nat} {f : Addr} {fd : FuncData} (hK : X.K = K) (d_law_error_of : D P w K mg b "_law_error_of" (k + 2) (sp_errB X k σ (TErr Cs Is)))
    (F : Fun K "_law_all_raise" "_law_all_raise" s_law_all_raise f fd) : FnOk P w K mg b CX0 (k + 3) f fd ["_law_calls", "_law_expected"] (sp_ar X k σ Cs Is) := by
  refine F.ok sc_law_all_raise (fun vs H Q E h => ?_) (fun cdv A outer s H vs Q E hr h => ?_)
  · obtain ⟨l, x, us, n, rfl, _⟩ := h
    rfl
  obtain ⟨l, x, us, n, rfl, hl, hz, hn, so, dx, hu, q⟩ := h
  rw [hK] at hl dx
  refine ⟨_, (pss_one (ps_ret (pe_cmpR (r := rEqD K) (op_eqD hr.units) (pe_lc (own := [("_law_call", 2)]) (g := gName 2) (by rfl) sc_law_all_raise.nd (pi_list (pv 0)) (blkOk_by (own := [("_law_call", 2)]) (N := ["_law_calls", "_law_expected", "_law_call"]) (sc := defScope s_law_all_raise) (by decide +kernel)) (fun _ _ _ _ _ => (pg_name (i := 2) sc_law_all_raise.nd rfl (by first | exact Or.inl rfl | exact Or.inr rfl))) (fun _ _ _ _ _ => (pts_one (pt_cmpR (r := rNeD K) (op_neD hr.units) (pc d_law_error_of hr (pa_cons (pv 2) pa_nil)) (pv 1) (nomark _)))) (fun _ _ _ _ _ => (pv 2))) (pe_lst pa_nil) (nomark _)))), ?_⟩
  refine ⟨_, rfl, l, rfl, ⟨_, hl⟩, fun L hL => lc_list (K := K) (a := l) (xs := us) (fun i H' => Same H H' ∧ H' L = some (.lst [])) ⟨same_new hL _, upd_same⟩ ?_ ?_ ?_⟩
  · rintro i H' hi ⟨s', _⟩
    exact s'.seq hl
  · rintro i u H' hx ⟨s', hb⟩
    obtain ⟨t, lt, ht⟩ := hu i u hx
    refine ⟨rfl, ?_⟩
    refine ⟨_, rfl, u, t, rfl, lt.same s', fun _ h => h, ht H' s' _ _ fun H3 s3 => ⟨n, hn, rfl, rfl, fun H4 p4 s4 h4 => ?_⟩⟩
    have s14 := s'.trans (s3.trans s4)
    refine ⟨_, rfl, dErr (eNms.getD n Str.empty), dErr (eNms.getD n Str.empty), .tup (.inl (.inl h4)) (.cons (.str _) (.cons (.int _) .nil)), Dp.same s14 dx, shapedE so, shapedE so, _, rfl, ?_⟩
    rw [eqvE]
    exact iteF ⟨s14, (s3.trans s4) _ _ hb⟩
  rintro H' ⟨s', hb⟩
  refine ⟨(by show 0 ≤ sizeLine; decide), fun p hp => ?_⟩
  have sp := same_new hp (.lst [])
  refine ⟨.list [], .list [], .lst (.inl (.inl (sp _ _ hb))) .nil, .lst (.inl (.inl upd_same)) .nil, rfl, rfl, ?_⟩
  exact q _ (s'.trans sp)
end
end My

namespace My
open PySem L2 Mth

section
variable {P : Program} {w : World} {K : PySem.W.Frag} {mg : Str → Option Value} {base : Heap}
/-! ### strokes -/
def PairsOf (K : PySem.W.Frag) (H : Hp) (us ps : List V) : Prop := ps.length = us.length - 1 ∧ ∀ (j : Nat) x y, us[j]? = some x → us[j + 1]? = some y → ∃ T, ps[j]? = some (.ref T) ∧ SqT K H T [x, y]
theorem PairsOf.same {H H' : Hp} {us ps : List V} (h : PairsOf K H us ps) (s : Same H H') : PairsOf K H' us ps := ⟨h.1, fun j x y e1 e2 => by
  obtain ⟨T, a, b⟩ := h.2 j x y e1 e2
  exact ⟨T, a, same_T s b⟩⟩
def sp_parts (K : PySem.W.Frag) : Sp := fun vs H Q _ => ∃ t us, vs = [.ref t] ∧ SqT K H t us ∧ 1 ≤ us.length ∧ ∀ H' L ps, Same H H' → H L = none → H' L = some (.lst ps) → PairsOf K H' us ps → Q (.ref L) H'
theorem pgt {α β : Type} {R : α → β → Prop} : ∀ {ps : List α} {ts : List β}, Paired R ps ts → ∀ {i : Nat} {p : α}, ps[i]? = some p → ∃ t, ts[i]? = some t ∧ R p t
  | _, _, .nil, i, p, h => by simp at h
  | _, _, .cons r t, 0, p, h => by
    cases h
    exact ⟨_, rfl, r⟩
  | _, _, .cons r t, i + 1, p, h => pgt t h
def IsSt (K : PySem.W.Frag) (H : Hp) (v : V) (zs : List T3) : Prop := ∃ t us, v = .ref t ∧ SqT K H t us ∧ Paired (IsT K H) us zs
theorem IsSt.same {H H' : Hp} {v : V} {zs : List T3} (h : IsSt K H v zs) (s : Same H H') : IsSt K H' v zs := by
  obtain ⟨t, us, rfl, a, b⟩ := h
  exact ⟨t, us, rfl, same_T s a, L2.Paired.mapP b (fun _ _ i => i.same s)⟩
theorem IsSt.keep {H H' : Hp} {v : V} {zs : List T3} {d : Addr} {ys : List V} (h : IsSt K H v zs) (hd : H d = some (.lst ys)) (s : Keep d H H') : IsSt K H' v zs := by
  obtain ⟨t, us, rfl, a, b⟩ := h
  exact ⟨t, us, rfl, keep_T a hd s, L2.Paired.mapP b (fun _ _ i => i.keep hd s)⟩
/-- a stroke -/
structure StOk (zs : List T3) : Prop where
  lo : 1 ≤ zs.length
  hi : zs.length ≤ 12
  ok : ∀ z ∈ zs, Ok z
  ne : ∀ (j : Nat) x y, zs[j]? = some x → zs[j + 1]? = some y → x ≠ y
def sp_isst (K : PySem.W.Frag) : Sp := fun vs H Q _ => ∃ v zs, vs = [v] ∧ IsSt K H v zs ∧ StOk zs ∧ ∀ H', Same H H' → Q (.bl true) H'
end
end My

namespace My
open PySem L2 Mth LamX
section
variable {P : Program} {w : World} {K : PySem.W.Frag} {mg : Str → Option Value} {base : Heap}
/-! ### what a copy tells, within comprehensions -/
theorem pe_mirrK {X : Cx} {C : Addr} {e : Expr} {te : TE} {pos : Pos} (hK : X.K = K) (M : MPm X.prog X.w X.K X.mg X.base C) (hr : Room 2 X.A) (he : PE X e te) (hab : attributeBase e "mirrored" X.env (eval e X.env) = eval e X.env := by rfl) : PE X (.Attribute e "mirrored" pos) (tProp C (sp_get K C fun c _ r => r = .bl c.m) [] E0 te) := by
  subst hK
  exact pe_mirr M hr he hab
theorem pe_turnK {X : Cx} {C : Addr} {e : Expr} {te : TE} {pos : Pos} (hK : X.K = K) (M : MPt X.prog X.w X.K X.mg X.base C) (hr : Room 2 X.A) (he : PE X e te) (hab : attributeBase e "turn" X.env (eval e X.env) = eval e X.env := by rfl) : PE X (.Attribute e "turn" pos) (tProp C (sp_get K C fun c H r => IsT K H r c.t) [] E0 te) := by
  subst hK
  exact pe_turn M hr he hab
theorem pe_shiftK {X : Cx} {C : Addr} {e : Expr} {te : TE} {pos : Pos} (hK : X.K = K) (M : MPs X.prog X.w X.K X.mg X.base C) (hr : Room 2 X.A) (he : PE X e te) (hab : attributeBase e "shift" X.env (eval e X.env) = eval e X.env := by rfl) : PE X (.Attribute e "shift" pos) (tProp C (sp_get K C fun c H r => IsT K H r c.s) [] E0 te) := by
  subst hK
  exact pe_shift M hr he hab
theorem op_ceqK {X : Cx} {C : Addr} (hK : X.K = K) (M : MEq X.prog X.w X.K X.mg X.base C) (hr : Room 1 X.A) : OpR X (compareOp .Eq) (rOwn2 C (sp_ceq K C)) := by
  subst hK
  exact op_ceq M hr
end
end My

namespace My
open PySem L2 Mth LamX
abbrev s_all_rows : Stmt := topS 56
theorem sc_all_rows : FnScope ["count", "most", "found", "last", "length", "row", "number"] ["count", "most"] (defScope s_all_rows) := ⟨rfl, rfl, rfl, by decide +kernel, rfl, by decide +kernel, by decide +kernel⟩
abbrev s_arms_of : Stmt := topS 57
theorem sc_arms_of : FnScope ["box", "row", "number"] ["box", "row"] (defScope s_arms_of) := ⟨rfl, rfl, rfl, by decide +kernel, rfl, by decide +kernel, by decide +kernel⟩
abbrev s_check_box : Stmt := topS 55
theorem sc_check_box : FnScope ["box"] ["box"] (defScope s_check_box) := ⟨rfl, rfl, rfl, by decide +kernel, rfl, by decide +kernel, by decide +kernel⟩
abbrev s_copies_without : Stmt := topS 62
theorem sc_copies_without : FnScope ["box", "number", "rows", "row"] ["box", "number"] (defScope s_copies_without) := ⟨rfl, rfl, rfl, by decide +kernel, rfl, by decide +kernel, by decide +kernel⟩
abbrev s_copy_count : Stmt := topS 60
theorem sc_copy_count : FnScope ["box"] ["box"] (defScope s_copy_count) := ⟨rfl, rfl, rfl, by decide +kernel, rfl, by decide +kernel, by decide +kernel⟩
abbrev s_different_copies : Stmt := topS 58
theorem sc_different_copies : FnScope ["box", "rows", "copies", "row", "copy"] ["box", "rows"] (defScope s_different_copies) := ⟨rfl, rfl, rfl, by decide +kernel, rfl, by decide +kernel, by decide +kernel⟩
abbrev s_needless_arms : Stmt := topS 61
theorem sc_needless_arms : FnScope ["box", "goal", "number"] ["box"] (defScope s_needless_arms) := ⟨rfl, rfl, rfl, by decide +kernel, rfl, by decide +kernel, by decide +kernel⟩
abbrev s_rows_for : Stmt := topS 59
theorem sc_rows_for : FnScope ["box", "copy", "row"] ["box", "copy"] (defScope s_rows_for) := ⟨rfl, rfl, rfl, by decide +kernel, rfl, by decide +kernel, by decide +kernel⟩
section
variable {P : Program} {w : World} {K : PySem.W.Frag} {mg : Str → Option Value} {base : Heap}
/-! ### boxes: rows of arms -/
theorem pa_starK {X : Cx} {e : Expr} {es : List Expr} {te : TE} {t : TA} {p : Pos} (hK : X.K = K) (he : PE X e te) (ha : PA X es t) (hs : starEach (e.Starred p :: es) X.env = (true, eval e X.env) :: starEach es X.env := by rfl) : PA X (e.Starred p :: es) (StX.tStar K te t) := by
  subst hK
  exact StX.pa_star he ha hs
def rv (r : List Nat) : List V := r.map fun (n : Nat) => V.int (n : Int)
def IsRw (K : PySem.W.Frag) (H : Hp) (v : V) (r : List Nat) : Prop := ∃ p, v = .ref p ∧ SqT K H p (rv r)
theorem IsRw.same {H H' : Hp} {v : V} {r : List Nat} (h : IsRw K H v r) (s : Same H H') : IsRw K H' v r := by
  obtain ⟨p, rfl, h⟩ := h
  exact ⟨p, rfl, same_T s h⟩
theorem IsRw.keep {H H' : Hp} {v : V} {r : List Nat} {d : Addr} {ys : List V} (h : IsRw K H v r) (hd : H d = some (.lst ys)) (k : Keep d H H') : IsRw K H' v r := by
  obtain ⟨p, rfl, h⟩ := h
  exact ⟨p, rfl, keep_T h hd k⟩
theorem in_range {lo : Int} {n : Nat} {g1 : TG} {tt1 : TT} {te : TE} {vs1 : List Nat} {D : Addr} {σ2 : L2.St} {Nx : Hp → Prop} {H4 : Hp} (S : Nat → Hp → Prop) (h0 : S 0 H4)
    (hs : ∀ j H, j < n → S j H → g1 (.int (lo + (j : Int))) (wipe σ2 vs1) H fun σ3 H5 => wipe σ3 vs1 = wipe σ2 vs1 ∧ tt1 σ3 H5 fun c H6 => if c = true then te σ3 H6 fun y H7 => ∃ acc, H7 D = some (.lst acc) ∧ acc.length < sizeLine ∧ S (j + 1) (upd H7 D (.lst (acc ++ [y]))) else S (j + 1) H6)
    (hd : ∀ H, S n H → Nx H) : LcIn (Itr lo n) g1 tt1 te vs1 D σ2 Nx H4 := by
  refine ⟨fun j m H => m = n - j ∧ j ≤ n ∧ S j H, ⟨_, rfl, Nat.zero_le _, h0⟩, ?_⟩
  rintro j m H ⟨rfl, hj, p⟩
  by_cases lt : j < n
  · refine .inr ⟨lt, S (j + 1), fun H' p' => ⟨_, by omega, rfl, lt, p'⟩, ?_⟩
    rintro v H' ⟨rfl, rfl⟩
    exact hs j _ lt p
  · obtain rfl : j = n := by omega
    exact .inl ⟨Nat.le_refl _, hd H p⟩
theorem inV_rv (n : Nat) (r : List Nat) : inV (.int (n : Int)) (rv r) = r.contains n := by
  unfold inV rv
  rw [List.any_map, List.contains_eq_any_beq]
  congr 1
  funext m
  show ((m : Int) == (n : Int)) = (n == m)
  rw [Bool.eq_iff_iff, beq_iff_eq, beq_iff_eq]
  omega
theorem flat_rv (r : List Nat) : (rv r).all flatV = true := by simp [rv, flatV]
theorem range_more {n i : Nat} (h : i < n) : (List.range n).take (i + 1) = (List.range n).take i ++ [i] := by
  rw [List.take_succ, List.getElem?_eq_getElem (by rw [List.length_range]; exact h), List.getElem_range]
  rfl
theorem nextR_len (c : Nat) (ls : List (List Nat)) : (nextR c ls).length ≤ ls.length * c := by
  induction ls with
  | nil => exact Nat.zero_le _
  | cons r t ih =>
    rw [show r :: t = [r] ++ t from rfl, nextR_app, List.length_append, nextR_one, List.length_map]
    have := List.length_filter_le (fun n => !r.contains n) (List.range c)
    rw [List.length_range] at this
    rw [List.length_append, Nat.add_mul]
    show _ ≤ 1 * c + _
    omega
def sp_rows (K : PySem.W.Frag) : Sp := fun vs H Q _ => ∃ c m : Nat, vs = [.int (c : Int), .int (m : Int)] ∧ c ≤ 4 ∧ m ≤ 4 ∧ ∀ H' L us, Same H H' → H L = none → H' L = some (.lst us) → Paired (IsRw K H') us (rowsF c (min c m)) → Q (.ref L) H'
theorem ok_all_rows {f : Addr} {fd : FuncData} (b_range : mg "range" = none) (b_min : mg "min" = none) (F : Fun K "all_rows" "all_rows" s_all_rows f fd) : FnOk P w K mg base CX0 1 f fd ["count", "most"] (sp_rows K) := by
  refine F.ok sc_all_rows (fun vs H Q E h => ?_) (fun cdv A outer s H vs Q E hr h => ?_)
  · obtain ⟨c, m, rfl, _⟩ := h
    rfl
  obtain ⟨c, m, rfl, c4, m4, q⟩ := h
  refine ⟨_, (pss_cons (ps_set (i := 2) sc_all_rows.nd rfl (by first | exact Or.inl rfl | exact Or.inr rfl) (pe_lst (pa_cons (pe_tup pa_nil) pa_nil)))
    (pss_cons (ps_set (i := 3) sc_all_rows.nd rfl (by first | exact Or.inl rfl | exact Or.inr rfl) (pe_lst (pa_cons (pe_tup pa_nil) pa_nil)))
    (pss_cons (ps_for PassesOwn.never rfl (pi_range1 (by rfl) b_range (pa_cons (pe_callB (call_min2 rfl) (by rfl) b_min (by decide +kernel) (pa_cons (pv 0) (pa_cons (pv 1) pa_nil))) pa_nil)) (pg_name (i := 4) sc_all_rows.nd rfl (by first | exact Or.inl rfl | exact Or.inr rfl)) (pss_cons (ps_setLc2 (i := 3) (own := [("row", 5), ("number", 6)]) (vs1 := [6]) (g := gName 5) (g1 := gName 6) (tt := tYes) (by rfl) sc_all_rows.nd rfl rfl (sw_true rfl rfl rfl (by decide +kernel)) (pi_list (pv 3)) (blkOk_by (own := [("row", 5), ("number", 6)]) (N := ["count", "most", "found", "last", "length", "row", "number"]) (sc := defScope s_all_rows) (by decide +kernel)) (by decide) (fun _ _ _ _ _ => (pg_name (i := 5) sc_all_rows.nd rfl (by first | exact Or.inl rfl | exact Or.inr rfl))) (fun _ _ _ _ _ => pts_nil) (fun _ _ _ _ _ => (pi_range1 (by rfl) b_range (pa_cons (pv 0) pa_nil))) (fun _ _ _ _ _ => (pg_name (i := 6) sc_all_rows.nd rfl (by first | exact Or.inl rfl | exact Or.inr rfl))) (fun _ _ _ _ _ => (pts_one (pt_cmpR (r := rIn K true) op_notIn_seq (pv 6) (pv 5) (by rfl)))) (fun _ _ _ _ _ => (pe_tup (pa_starK (K := K) rfl (pv 5) (pa_cons (pv 6) pa_nil)))))
    (pss_one (ps_expr (pe_bm PySem.F.plainAttrs_list PySem.F.slot_list_extend PySem.F.type_list_extend mt_extend (pv 2) (pa_cons (pv 3) pa_nil))))))
    (pss_one (ps_ret (pv 2)))))), ?_⟩
  have hmin : (if (m : Int) < (c : Int) then (m : Int) else (c : Int)) = ((min c m : Nat) : Int) := by split <;> omega
  refine ⟨(by show 0 ≤ sizeLine; decide), fun p1 hp1 => ?_⟩
  have s1 := same_new hp1 (.tup [])
  refine ⟨(by show 1 ≤ sizeLine; decide), fun L1 hL1 => gn_of ?_⟩
  have s2 := same_new hL1 (.lst [.ref p1])
  refine ⟨(by show 0 ≤ sizeLine; decide), fun p2 hp2 => ?_⟩
  have s3 := same_new hp2 (.tup [])
  refine ⟨(by show 1 ≤ sizeLine; decide), fun L2 hL2 => gn_of ?_⟩
  have s4 := same_new hL2 (.lst [.ref p2])
  have s34 := s3.trans s4
  have i1 : IsRw K (upd (upd (upd (upd H p1 (.tup [])) L1 (.lst [.ref p1])) p2 (.tup [])) L2 (.lst [.ref p2])) (.ref p1) [] := ⟨p1, rfl, same_T s34 (same_T s2 (.inl (.inl upd_same)))⟩
  have i2 : IsRw K (upd (upd (upd (upd H p1 (.tup [])) L1 (.lst [.ref p1])) p2 (.tup [])) L2 (.lst [.ref p2])) (.ref p2) [] := ⟨p2, rfl, same_T s4 (.inl (.inl upd_same))⟩
  have h1 : (upd (upd (upd (upd H p1 (.tup [])) L1 (.lst [.ref p1])) p2 (.tup [])) L2 (.lst [.ref p2])) L1 = some (.lst [.ref p1]) := s34 _ _ upd_same
  have h2 : (upd (upd (upd (upd H p1 (.tup [])) L1 (.lst [.ref p1])) p2 (.tup [])) L2 (.lst [.ref p2])) L2 = some (.lst [.ref p2]) := upd_same
  have n12 : L2 ≠ L1 := fun e => by rw [e, s3 _ _ upd_same] at hL2; cases hL2
  have s04 := s1.trans (s2.trans s34)
  have hn1 : H L1 = none := by
    cases e : H L1 with
    | none => rfl
    | some o => rw [s1 _ _ e] at hL1; cases hL1
  clear s1 s2 s3 s4 s34 hp1 hp2 hL1 hL2
  generalize upd (upd (upd (upd H p1 (.tup [])) L1 (.lst [.ref p1])) p2 (.tup [])) L2 (.lst [.ref p2]) = H4 at *
  dsimp only [tNext]
  refine ⟨_, rfl, _, rfl, _, _, rfl, ?_⟩
  rw [hmin]
  refine ⟨_, rfl, by omega, by omega, ?_⟩
  have ml : min c m ≤ 4 := by omega
  refine for_range (lo := 0) (n := ((min c m : Nat) : Int).toNat) (fun i σ H' => ∃ La us ua x4 x5 x6, σ = [some (.int (c : Int)), some (.int (m : Int)), some (.ref L1), some (.ref La), x4, x5, x6] ∧ La ≠ L1 ∧ Same H H' ∧ H' L1 = some (.lst us) ∧ H' La = some (.lst ua) ∧ Paired (IsRw K H') us (rowsF c i) ∧ Paired (IsRw K H') ua (layR c i)) ⟨L2, _, _, none, none, none, rfl, n12, s04, h1, h2, .cons i1 .nil, .cons i2 .nil⟩ ?_ ?_
  · rintro i σ H' hi ⟨La, us, ua, x4, x5, x6, rfl, nLa, s', hu, ha, pu, pa⟩
    have hi : i < min c m := by omega
    refine gn_of ?_
    dsimp only
    have lu := Paired.length pu
    have la := Paired.length pa
    have fu := rows_few c c4 i (by omega)
    have fa := lay_few c c4 i (by omega)
    have fn := lay_few c c4 (i + 1) (by omega)
    have li := lay_ok c i
    refine ⟨_, rfl, La, rfl, ⟨_, .inl (.inl ha)⟩, fun D hD => lc2_list (K := K) (a := La) (xs := ua) (fun k H2 => ∃ acc, Same H' H2 ∧ H2 D = some (.lst acc) ∧ Paired (IsRw K H2) acc (nextR c ((layR c i).take k))) ⟨[], same_new hD _, upd_same, .nil⟩ ?_ ?_ ?_⟩
    · rintro k H2 _ ⟨_, s2, _⟩
      exact .inl (.inl (s2 _ _ ha))
    · rintro k x H2 hx ⟨acc, s2, hb, pb⟩
      obtain ⟨r, er, ir⟩ := pgt pa hx
      have lr := (li r (List.mem_of_getElem? er)).len
      refine ⟨rfl, yes_of ?_⟩
      refine ⟨_, rfl, _, rfl, by omega, by omega, in_range (lo := 0) (n := (c : Int).toNat) (fun j H3 => ∃ acc, Same H' H3 ∧ H3 D = some (.lst acc) ∧ Paired (IsRw K H3) acc (nextR c ((layR c i).take k) ++ (((List.range c).take j).filter fun n => !r.contains n).map fun n => r ++ [n])) ⟨acc, s2, hb, by simpa using pb⟩ ?_ ?_⟩
      · rintro j H3 hj ⟨ac3, s3, hb3, pb3⟩
        have hj : j < c := by omega
        refine ⟨rfl, ?_⟩
        rw [Int.zero_add]
        obtain ⟨pr, rfl, hpr⟩ := ir.same s3
        refine ⟨_, rfl, _, rfl, pr, rv r, rfl, .inr hpr, rfl, flat_rv r, _, rfl, ?_⟩
        rw [Int.zero_add, inV_rv, range_more hj, List.filter_append, List.filter_cons, List.filter_nil]
        dsimp only
        cases e : r.contains j with
        | true =>
          refine iteF ⟨ac3, s3, hb3, ?_⟩
          simpa [e] using pb3
        | false =>
          refine iteT ?_
          refine ⟨_, rfl, pr, rv r, rfl, .inl hpr, _, rfl, ?_, fun p hp => ?_⟩
          · show (rv r ++ [V.int (j : Int)]).length ≤ sizeLine
            rw [List.length_append]
            unfold rv
            rw [List.length_map, lr, sizeLine_eq]
            show i + 1 ≤ _
            omega
          have sp := same_new hp (.tup (rv r ++ [.int (j : Int)]))
          have hb4 := sp _ _ hb3
          have kk := keep_upd (d := D) (H := upd H3 p (.tup (rv r ++ [.int (j : Int)]))) (o := .lst (ac3 ++ [.ref p]))
          have l3 := Paired.length pb3
          have b1 := nextR_len c ((layR c i).take k)
          have b2 : ((layR c i).take k).length ≤ 24 := by rw [List.length_take]; omega
          have b3 := List.length_filter_le (fun n => !r.contains n) ((List.range c).take j)
          rw [List.length_append, List.length_map] at l3
          rw [List.length_take, List.length_range] at b3
          have b4 : ((layR c i).take k).length * c ≤ 24 * 4 := Nat.mul_le_mul b2 c4
          refine ⟨ac3, hb4, small1000 (by omega), ac3 ++ [.ref p], fun b o h => ?_, upd_same, ?_⟩
          · rw [upd_ne (ne_of_none h hD)]
            exact sp _ _ (s3 _ _ h)
          · rw [Bool.not_false, if_pos rfl, List.map_append, ← List.append_assoc]
            refine papp (pimp (fun _ _ i => (i.same sp).keep hb4 kk) pb3) (.cons (IsRw.keep (H := upd H3 p (.tup (rv r ++ [.int (j : Int)]))) ⟨p, rfl, .inl (.inl ?_)⟩ hb4 kk) .nil)
            rw [upd_same]
            unfold rv
            rw [List.map_append]
            rfl
      · rintro H3 ⟨ac3, s3, hb3, pb3⟩
        refine ⟨ac3, s3, hb3, ?_⟩
        rw [take_more er, nextR_app, nextR_one]
        rw [show (List.range c).take (c : Int).toNat = List.range c from by rw [Int.toNat_natCast, List.take_of_length_le (by rw [List.length_range]; omega)]] at pb3
        exact pb3
    rintro H2 ⟨acc, s2, hb, pb⟩
    rw [la, List.take_length] at pb
    refine gn_of ?_
    dsimp only
    have hu2 := s2 _ _ hu
    have nD : D ≠ L1 := fun e => by rw [e, hu] at hD; cases hD
    refine ⟨_, rfl, .inl ⟨rfl, _, .inl (.inl hu2)⟩, _, rfl, L1, D, us, acc, rfl, rfl, hu2, hb, small (by have := Paired.length pb; have fn : (nextR c (layR c i)).length ≤ 24 := fn; rw [this, lu]; omega), ?_⟩
    have kk := keep_upd (d := L1) (H := H2) (o := .lst (us ++ acc))
    refine ⟨D, us ++ acc, acc, _, _, _, rfl, nD, fun b o h => ?_, upd_same, ?_, ?_, ?_⟩
    · rw [upd_ne (ne_of_none h hn1)]
      exact s2 _ _ (s' _ _ h)
    · rw [upd_ne nD]
      exact hb
    · rw [rowsF_succ]
      exact papp (pimp (fun _ _ i => (i.same s2).keep hu2 kk) pu) (pimp (fun _ _ i => i.keep hu2 kk) pb)
    · exact pimp (fun _ _ i => i.keep hu2 kk) pb
  · rintro σ H' ⟨La, us, ua, x4, x5, x6, rfl, nLa, s', hu, ha, pu, pa⟩
    exact ⟨_, rfl, q _ _ _ s' hn1 hu pu⟩
/-! ### a box, and the chains of its rows -/
def IsBx (K : PySem.W.Frag) (C CA : Addr) (H : Hp) (v : V) (as : List Am) : Prop := ∃ p us, v = .ref p ∧ SqT K H p us ∧ AllA K C CA H us as
theorem IsBx.same {C CA : Addr} {H H' : Hp} {v : V} {as : List Am} (h : IsBx K C CA H v as) (s : Same H H') : IsBx K C CA H' v as := by
  obtain ⟨p, us, rfl, h1, h2⟩ := h
  exact ⟨p, us, rfl, same_T s h1, h2.same s⟩
theorem IsBx.keep {C CA : Addr} {H H' : Hp} {v : V} {as : List Am} {d : Addr} {ys : List V} (h : IsBx K C CA H v as) (hd : H d = some (.lst ys)) (k : Keep d H H') : IsBx K C CA H' v as := by
  obtain ⟨p, us, rfl, h1, h2⟩ := h
  exact ⟨p, us, rfl, keep_T h1 hd k, h2.keep hd k⟩
structure BxOk (as : List Am) : Prop where
  lo : 1 ≤ as.length
  hi : as.length ≤ 4
  ok : ∀ a ∈ as, AmOk a
  bc : ∀ a ∈ as, BC 140 (about a)
def RwOk (n : Nat) (r : List Nat) : Prop := r.length ≤ 4 ∧ ∀ k ∈ r, k < n
theorem RwOk.all {c m : Nat} (h : m ≤ 4) : ∀ r ∈ rowsF c m, RwOk c r := fun r hr => ⟨Nat.le_trans (rows_ok hr).1 h, (rows_ok hr).2.2⟩
theorem BxOk.row {as : List Am} {r : List Nat} (h : BxOk as) (hr : RwOk as.length r) : ArmsOk (pick as r) :=
  ⟨by rw [pick_len hr.2]; exact Nat.le_trans hr.1 (by decide), fun a ha => h.ok a (pick_mem ha), fun a ha => h.bc a (pick_mem ha)⟩
def sp_cbox (K : PySem.W.Frag) : Sp := fun vs H Q _ => ∃ p us, vs = [.ref p] ∧ SqT K H p us ∧ 1 ≤ us.length ∧ us.length ≤ 5 ∧ Q .non H
theorem ok_check_box {f : Addr} {fd : FuncData} {tk : Tok} (b_len : mg "len" = none) (m_MOST_IN_BOX : mg "MOST_IN_BOX" = some (.int 5 tk)) (F : Fun K "check_box" "check_box" s_check_box f fd) : FnOk P w K mg base CX0 1 f fd ["box"] (sp_cbox K) := by
  refine F.ok sc_check_box (fun vs H Q E h => ?_) (fun cdv A outer s H vs Q E hr h => ?_)
  · obtain ⟨p, us, rfl, _⟩ := h
    rfl
  obtain ⟨p, us, rfl, hT, l1, l5, q⟩ := h
  refine ⟨_, (pss_one (ps_if (pt_not (pt_chain op_le op_le pe_int (pe_callB call_len_seq (by rfl) b_len PySem.boot_len (pa_cons (pv 0) pa_nil)) (pe_glob (v := .int 5) (by rfl) m_MOST_IN_BOX ⟨_, rfl⟩))) (pss_one (ps_never)) pss_nil)), ?_⟩
  refine ⟨_, rfl, p, us, rfl, .inr hT, _, _, rfl, rfl, true, congrArg V.bl (decide_eq_true (by omega)), iteT ?_⟩
  exact ⟨_, _, rfl, rfl, true, congrArg V.bl (decide_eq_true (by omega)), iteF q⟩
theorem rv_at {r : List Nat} {i : Nat} {x : V} (h : (rv r)[i]? = some x) : ∃ n, r[i]? = some n ∧ x = .int (n : Int) := by
  unfold rv at h
  rw [List.getElem?_map] at h
  cases e : r[i]? with
  | none => rw [e] at h; cases h
  | some n => rw [e] at h; exact ⟨n, rfl, (Option.some.inj h).symm⟩
theorem rv_len (r : List Nat) : (rv r).length = r.length := by unfold rv; rw [List.length_map]
theorem keyC {H : Hp} {p a b : Addr} {c : Cp} (h1 : SqT K H p [.ref a, .ref b, .bl c.m]) (h2 : SqT K H a (v3 c.t)) (h3 : SqT K H b (v3 c.s)) : KeyAt K H p (nk (.tuple [d3 c.t, d3 c.s, .bool c.m])) :=
  ⟨[d3 c.t, d3 c.s, .bool c.m], .tup h1 (.cons (Dp3 h2) (.cons (Dp3 h3) (.cons (.bl _) .nil))), rfl, rfl, by simp [nk, nks, d3, NestedKey.depth, NestedKey.depthAll]⟩
def kC (c : Cp) : NestedKey := nk (.tuple [d3 c.t, d3 c.s, .bool c.m])
theorem kC_inj {x y : Cp} (e : kC x = kC y) : x = y := by
  have e : NestedKey.tup [nk (d3 x.t), nk (d3 x.s), .num (if x.m = true then 1 else 0)] = NestedKey.tup [nk (d3 y.t), nk (d3 y.s), .num (if y.m = true then 1 else 0)] := e
  have i3 : ∀ {x y : Mth.T3}, nk (d3 x) = nk (d3 y) → x = y := fun {x y} e => by
    obtain ⟨e1, e2, e3⟩ := nk3_inj (show nk3 x.1 x.2.1 x.2.2 = nk3 y.1 y.2.1 y.2.2 from e)
    exact Prod.ext e1 (Prod.ext e2 e3)
  injection e with e
  simp only [List.cons.injEq, NestedKey.num.injEq, and_true] at e
  obtain ⟨e1, e2, e3⟩ := e
  have m : x.m = y.m := by
    cases h1 : x.m <;> cases h2 : y.m <;> rw [h1, h2] at e3 <;> first | rfl | exact absurd e3 (by decide)
  have t := i3 e1
  have s := i3 e2
  cases x
  cases y
  simp only [Cp.mk.injEq]
  exact ⟨t, s, m⟩
theorem kC_mem {c : Cp} {cs : List Cp} : kC c ∈ cs.map kC ↔ c ∈ cs := ⟨fun h => by
  obtain ⟨d, hd, e⟩ := List.mem_map.mp h
  rw [← kC_inj e]; exact hd, fun h => List.mem_map.mpr ⟨c, h, rfl⟩⟩
def sp_jointL (K : PySem.W.Frag) (C CA : Addr) : Sp := fun vs H Q _ => ∃ p us as, vs = [.ref p] ∧ SqL K H p us ∧ AllA K C CA H us as ∧ ArmsOk as ∧ ∀ H' r, Same H H' → IsC K C H' r (jall as) → Q r H'
theorem ok_joint_copyL {f C CA : Addr} {fd : FuncData} (m_A_effect : MPf P w K mg base CA "effect" "pen") (m_rs : MRs P w K mg base C) (d_still_copy : D P w K mg base "still_copy" 6 (sp_still K C))
    (F : Fun K "joint_copy" "joint_copy" s_joint_copy f fd) : FnOk P w K mg base CX0 7 f fd ["arms"] (sp_jointL K C CA) := by
  refine F.ok sc_joint_copy (fun vs H Q E h => ?_) (fun cdv A outer s H vs Q E hr h => ?_)
  · obtain ⟨p, us, as, rfl, _⟩ := h
    rfl
  obtain ⟨p, us, as, rfl, hT, ha, ok, q⟩ := h
  refine ⟨_, (pss_cons (ps_set (i := 1) sc_joint_copy.nd rfl (by first | exact Or.inl rfl | exact Or.inr rfl) (pc0 d_still_copy (hr.mono (by decide))))
    (pss_cons (ps_for PassesOwn.never rfl (pi_list (pv 0)) (pg_name (i := 2) sc_joint_copy.nd rfl (by first | exact Or.inl rfl | exact Or.inr rfl)) (pss_one (ps_set (i := 1) sc_joint_copy.nd rfl (by first | exact Or.inl rfl | exact Or.inr rfl) (pe_op (op_rsh m_rs (hr.mono (by decide))) (pv 1) (pe_pf m_A_effect (hr.mono (by decide)) (pv 2))))))
    (pss_one (ps_ret (pv 1))))), ?_⟩
  refine ⟨rfl, fun H1 r1 s1 i1 => ?_⟩
  have hl := Paired.length ha
  refine ⟨_, rfl, p, rfl, ⟨_, s1.seq hT⟩, for_list (K := K) (a := p) (xs := us) (fun i σ H' => ∃ r x, σ = [some (.ref p), some r, x] ∧ Same H H' ∧ IsC K C H' r (jall (as.take i))) ⟨r1, none, rfl, s1, i1⟩ ?_ ?_ ?_⟩
  · rintro i σ H' _ ⟨r, x, rfl, s', _⟩
    exact s'.seq hT
  · rintro i x σ H' hx ⟨r, y, rfl, s', ir⟩
    obtain ⟨a, h1, h2⟩ := pget ha hx
    have hm := List.mem_of_getElem? h1
    have h2 := h2.same s'
    obtain ⟨pa, dx, u, z, c, rfl, k1, k2, k3, k4⟩ := h2
    refine ⟨_, rfl, _, rfl, pf_of k1 af_pen ?_⟩
    refine jn_of ir k4 (ok.take i).1 (about_ok (ok.ok a hm)) (ok.take i).2 ((ok.bc a hm).mono (by decide)) fun H2 r2 s2 i2 => ?_
    exact ⟨_, _, rfl, s'.trans s2, by rw [jall_take h1]; exact i2⟩
  · rintro σ H' ⟨r, x, rfl, s', ir⟩
    rw [hl, List.take_length] at ir
    exact ⟨_, rfl, q _ _ s' ir⟩
def sp_aof (K : PySem.W.Frag) (C CA : Addr) : Sp := fun vs H Q _ => ∃ vb vr as r, vs = [vb, vr] ∧ IsBx K C CA H vb as ∧ IsRw K H vr r ∧ RwOk as.length r ∧ ∀ H' L us, Same H H' → H' L = some (.lst us) → AllA K C CA H' us (pick as r) → Q (.ref L) H'
theorem ok_arms_of {f C CA : Addr} {fd : FuncData} (F : Fun K "arms_of" "arms_of" s_arms_of f fd) : FnOk P w K mg base CX0 1 f fd ["box", "row"] (sp_aof K C CA) := by
  refine F.ok sc_arms_of (fun vs H Q E h => ?_) (fun cdv A outer s H vs Q E hr h => ?_)
  · obtain ⟨vb, vr, as, r, rfl, _⟩ := h
    rfl
  obtain ⟨_, _, as, r, rfl, ⟨pb, us, rfl, hT, ha⟩, ⟨pr, rfl, hR⟩, ok, q⟩ := h
  refine ⟨_, (pss_one (ps_ret (pe_lc (own := [("number", 2)]) (g := gName 2) (tt := tYes) (by rfl) sc_arms_of.nd (pi_tup (pv 1)) (blkOk_by (own := [("number", 2)]) (N := ["box", "row", "number"]) (sc := defScope s_arms_of) (by decide +kernel)) (fun _ _ _ _ _ => (pg_name (i := 2) sc_arms_of.nd rfl (by first | exact Or.inl rfl | exact Or.inr rfl))) (fun _ _ _ _ _ => pts_nil) (fun _ _ _ _ _ => (pe_ix (r := rIxT K) ix_tup (pv 0) (pv 2) (fun _ _ => rfl)))))), ?_⟩
  have r4 := ok.1
  have lp := pick_len ok.2
  refine ⟨_, rfl, pr, rfl, ⟨_, hR⟩, fun D hD => lc_tup (K := K) (a := pr) (xs := rv r) (fun i H' => ∃ ws, Same H H' ∧ H' D = some (.lst ws) ∧ AllA K C CA H' ws (pick as (r.take i))) ⟨[], same_new hD _, upd_same, .nil⟩ ?_ ?_ ?_⟩
  · rintro i H' _ ⟨_, s', _⟩
    exact same_T s' hR
  · rintro i x H' hx ⟨ws, s', hw, pw⟩
    obtain ⟨n, en, rfl⟩ := rv_at hx
    have hn := ok.2 n (List.mem_of_getElem? en)
    obtain ⟨va, hva, iva⟩ : ∃ va, us[n]? = some va ∧ IsA K C CA H va as[n] := by
      have lu := Paired.length ha
      have eu : us[n]? = some us[n] := List.getElem?_eq_getElem (by omega)
      obtain ⟨a, ea, ia⟩ := pgt ha eu
      rw [List.getElem?_eq_getElem hn] at ea
      exact ⟨_, eu, by rw [Option.some.inj ea]; exact ia⟩
    have lw := Paired.length pw
    have lt : (pick as (r.take i)).length ≤ 4 := by
      rw [pick_len fun k hk => ok.2 k (List.mem_of_mem_take hk), List.length_take]
      omega
    have kk := keep_upd (d := D) (H := H') (o := .lst (ws ++ [va]))
    refine ⟨rfl, yes_of ?_⟩
    refine ⟨_, rfl, _, rfl, pb, us, (n : Int), va, rfl, rfl, same_T s' hT, atI_nat hva, ws, hw, small1000 (by omega), ws ++ [va], fun b o h => ?_, upd_same, ?_⟩
    · rw [upd_ne (ne_of_none h hD)]
      exact s' _ _ h
    · rw [pick_take en (List.getElem?_eq_getElem hn)]
      exact papp (AllA.keep pw hw kk) (.cons ((iva.same s').keep hw kk) .nil)
  rintro H' ⟨ws, s', hw, pw⟩
  rw [rv_len, List.take_length] at pw
  exact q _ _ _ s' hw pw
/-- the different ones -/
def dd (cs : List Cp) : List Cp := cs.foldl (fun acc c => if c ∈ acc then acc else acc ++ [c]) []
theorem dd_more {cs : List Cp} {i : Nat} {c : Cp} (h : cs[i]? = some c) : dd (cs.take (i + 1)) = if c ∈ dd (cs.take i) then dd (cs.take i) else dd (cs.take i) ++ [c] := by
  unfold dd
  rw [take_more h, List.foldl_append]
  rfl
theorem dd_spec : ∀ cs : List Cp, (dd cs).Nodup ∧ ∀ c, c ∈ dd cs ↔ c ∈ cs := by
  intro cs
  have key : ∀ i, i ≤ cs.length → (dd (cs.take i)).Nodup ∧ ∀ c, c ∈ dd (cs.take i) ↔ c ∈ cs.take i := by
    intro i
    induction i with
    | zero => exact fun _ => ⟨.nil, fun c => Iff.rfl⟩
    | succ i ih =>
      intro hi
      obtain ⟨nd, m⟩ := ih (by omega)
      have e : cs[i]? = some cs[i] := List.getElem?_eq_getElem hi
      rw [dd_more e, take_more e]
      by_cases h : cs[i] ∈ dd (cs.take i)
      · rw [if_pos h]
        refine ⟨nd, fun c => ⟨fun hc => List.mem_append.mpr (.inl ((m c).mp hc)), fun hc => ?_⟩⟩
        rcases List.mem_append.mp hc with hc | hc
        · exact (m c).mpr hc
        · rw [List.mem_singleton.mp hc]; exact h
      · rw [if_neg h]
        refine ⟨List.nodup_append.mpr ⟨nd, by simp, fun a ha b hb e => ?_⟩, fun c => ?_⟩
        · rw [List.mem_singleton.mp hb] at e
          exact h (e ▸ ha)
        · rw [List.mem_append, List.mem_append, m c]
  have := key cs.length (Nat.le_refl _)
  rwa [List.take_length] at this
theorem putN_fst (kvs : KVs) (k : NestedKey) (b : Addr) (v : V) : (putN kvs k b v).map (·.1) = if k ∈ kvs.map (·.1) then kvs.map (·.1) else kvs.map (·.1) ++ [k] := by
  have h : ∀ kvs : KVs, (atN kvs k).isSome = true ↔ k ∈ kvs.map (·.1) := by
    intro kvs
    induction kvs with
    | nil => exact ⟨(fun h => nomatch h), (fun h => nomatch h)⟩
    | cons p r ih =>
      rw [List.map_cons, List.mem_cons, ← ih]
      by_cases e : p.1 = k
      · rw [show atN (p :: r) k = some p.2 from if_pos e]
        exact ⟨fun _ => .inl e.symm, fun _ => rfl⟩
      · rw [show atN (p :: r) k = atN r k from if_neg e]
        exact ⟨fun h => .inr h, fun h => h.elim (fun z => (e z.symm).elim) id⟩
  have h := h kvs
  unfold putN
  cases e : atN kvs k with
  | none =>
    rw [e] at h
    rw [if_neg fun z => nomatch h.mpr z]
    show (kvs ++ [(k, b, v)]).map (·.1) = _
    rw [List.map_append]
    rfl
  | some p =>
    rw [e] at h
    rw [if_pos (h.mp rfl)]
    show (kvs.map fun p => if p.1 = k then (p.1, p.2.1, v) else p).map (·.1) = _
    rw [List.map_map]
    refine List.map_congr_left fun p _ => ?_
    show (if p.1 = k then (p.1, p.2.1, v) else p).1 = p.1
    split <;> rfl
theorem nodup_leC : ∀ {xs ys : List Cp}, xs.Nodup → (∀ x ∈ xs, x ∈ ys) → xs.length ≤ ys.length
  | [], _, _, _ => Nat.zero_le _
  | x :: xs, ys, nd, h => by
    obtain ⟨h1, h2⟩ := List.nodup_cons.mp nd
    have hx := h x (.head _)
    have ih := nodup_leC (ys := ys.erase x) h2 fun y hy => (List.mem_erase_of_ne (fun (e : y = x) => h1 (by rw [← e]; exact hy))).mpr (h y (.tail _ hy))
    rw [List.length_erase_of_mem hx] at ih
    have : 0 < ys.length := List.length_pos_of_mem hx
    rw [List.length_cons]
    omega
def mbs (as : List Am) (rs : List (List Nat)) : List Cp := rs.map fun r => jall (pick as r)
def sp_dif (K : PySem.W.Frag) (C CA : Addr) : Sp := fun vs H Q _ => ∃ vb L us as rs, vs = [vb, .ref L] ∧ IsBx K C CA H vb as ∧ BxOk as ∧ SqL K H L us ∧ Paired (IsRw K H) us rs ∧ (∀ r ∈ rs, RwOk as.length r) ∧ rs.length ≤ 65 ∧ ∀ H', Same H H' → Q (.int ((dd (mbs as rs)).length : Int)) H'
theorem ok_different_copies {f C CA : Addr} {fd : FuncData} (b_len : mg "len" = none) (m_pt : MPt P w K mg base C) (m_ps : MPs P w K mg base C) (m_pm : MPm P w K mg base C) (d_joint_copy : D P w K mg base "joint_copy" 7 (sp_jointL K C CA)) (d_arms_of : D P w K mg base "arms_of" 1 (sp_aof K C CA))
    (F : Fun K "different_copies" "different_copies" s_different_copies f fd) : FnOk P w K mg base CX0 8 f fd ["box", "rows"] (sp_dif K C CA) := by
  refine F.ok sc_different_copies (fun vs H Q E h => ?_) (fun cdv A outer s H vs Q E hr h => ?_)
  · obtain ⟨vb, L, us, as, rs, rfl, _⟩ := h
    rfl
  obtain ⟨vb, L, us, as, rs, rfl, ib, bo, hL, pr, ro, l65, q⟩ := h
  refine ⟨_, (pss_cons (ps_setLc (i := 2) (own := [("row", 3)]) (g := gName 3) (tt := tYes) (by rfl) sc_different_copies.nd rfl rfl (sw_true rfl rfl rfl (by decide +kernel)) (pi_list (pv 1)) (blkOk_by (own := [("row", 3)]) (N := ["box", "rows", "copies", "row", "copy"]) (sc := defScope s_different_copies) (by decide +kernel)) (fun _ _ _ _ _ => (pg_name (i := 3) sc_different_copies.nd rfl (by first | exact Or.inl rfl | exact Or.inr rfl))) (fun _ _ _ _ _ => pts_nil) (fun _ _ _ _ _ => (pc d_joint_copy (hr.mono (by decide)) (pa_cons (pc d_arms_of (hr.mono (by decide)) (pa_cons (pv 0) (pa_cons (pv 3) pa_nil))) pa_nil))))
    (pss_one (ps_ret (pe_callB call_lenN (by rfl) b_len (by decide +kernel) (pa_cons (pe_dcG (o0 := fun D => DN P w D []) (put := putD P w K) (n := 9) putD_ok (u9 hr) (@fun H0 h hb => dN0 (H := H0) h hb) (own := [("copy", 4)]) (g := gName 4) (tt := tYes) (by rfl) sc_different_copies.nd (pi_list (pv 2)) (blkOk_by (own := [("copy", 4)]) (N := ["box", "rows", "copies", "row", "copy"]) (sc := defScope s_different_copies) (by decide +kernel)) (fun _ _ _ _ _ => (pg_name (i := 4) sc_different_copies.nd rfl (by first | exact Or.inl rfl | exact Or.inr rfl))) (fun _ _ _ _ _ => pts_nil) (fun _ _ _ _ _ => (pe_tup (pa_cons (pe_turnK (K := K) rfl m_pt (hr.mono (by decide)) (pv 4)) (pa_cons (pe_shiftK (K := K) rfl m_ps (hr.mono (by decide)) (pv 4)) (pa_cons (pe_mirrK (K := K) rfl m_pm (hr.mono (by decide)) (pv 4)) pa_nil))))) (fun _ _ _ _ _ => pe_bl)) pa_nil))))), ?_⟩
  have lu := Paired.length pr
  have ok : ∀ {i : Nat} {r : List Nat}, rs[i]? = some r → RwOk as.length r := fun {i r} e => ro r (List.mem_of_getElem? e)
  refine ⟨_, rfl, L, rfl, ⟨_, hL⟩, fun D hD => lc_list (K := K) (a := L) (xs := us) (fun i H' => ∃ ws, Same H H' ∧ H' D = some (.lst ws) ∧ AllC K C H' ws (mbs as (rs.take i))) ⟨[], same_new hD _, upd_same, .nil⟩ ?_ ?_ ?_⟩
  · rintro i H' _ ⟨_, s', _⟩
    exact s'.seq hL
  · rintro i x H' hx ⟨ws, s', hw, pw⟩
    obtain ⟨r, er, ir⟩ := pgt pr hx
    have lw := Paired.length pw
    have lt : (mbs as (rs.take i)).length ≤ 65 := by
      unfold mbs
      rw [List.length_map, List.length_take]
      omega
    refine ⟨rfl, yes_of ?_⟩
    refine ⟨_, rfl, _, rfl, _, _, as, r, rfl, ib.same s', ir.same s', ok er, fun H2 L2 u2 s2 h2 a2 => ?_⟩
    dsimp only [tNil]
    refine ⟨L2, u2, _, rfl, .inl (.inl h2), a2, bo.row (ok er), fun H3 r3 s3 i3 => ?_⟩
    have hw3 := s3 _ _ (s2 _ _ hw)
    have kk := keep_upd (d := D) (H := H3) (o := .lst (ws ++ [r3]))
    refine ⟨ws, hw3, small1000 (by omega), ws ++ [r3], fun b o h => ?_, upd_same, ?_⟩
    · rw [upd_ne (ne_of_none h hD)]
      exact s3 _ _ (s2 _ _ (s' _ _ h))
    · rw [take_more er]
      unfold mbs
      rw [List.map_append]
      exact papp (pimp (fun _ _ i => (i.same (s2.trans s3)).keep hw3 kk) pw) (.cons (i3.keep hw3 kk) .nil)
  rintro H1 ⟨ws, s1, hw, pw⟩
  rw [lu, List.take_length] at pw
  refine gn_of ?_
  dsimp only [tNext]
  have lw := Paired.length pw
  have lm : (mbs as rs).length ≤ 65 := by unfold mbs; rw [List.length_map]; exact l65
  refine ⟨_, rfl, D, rfl, ⟨_, .inl (.inl hw)⟩, fun G hG => dcN_list (P := P) (w := w) (K := K) (a := D) (xs := ws) (fun i H' => ∃ kvs, Same H1 H' ∧ H' G = some (DN P w G kvs) ∧ KeysIn K H' kvs ∧ kvs.map (·.1) = (dd ((mbs as rs).take i)).map kC) ⟨[], same_new hG _, upd_same, (fun p hp => by cases hp), rfl⟩ ?_ ?_ ?_⟩
  · rintro i H' _ ⟨kvs, s', _⟩
    exact .inl (.inl (s' _ _ hw))
  · rintro i x H' hx ⟨kvs, s', hb, hk, hm⟩
    obtain ⟨c, ec, ic⟩ := pgt pw hx
    refine ⟨rfl, yes_of ?_⟩
    have ic := ic.same s'
    refine ⟨_, rfl, prop_of ic ⟨_, _, rfl, ic, fun r1 i1 => ?_⟩⟩
    refine ⟨_, rfl, prop_of ic ⟨_, _, rfl, ic, fun r2 i2 => ?_⟩⟩
    refine ⟨_, rfl, prop_of ic ⟨_, _, rfl, ic, fun r3 i3 => ?_⟩⟩
    obtain ⟨q1, rfl, t1⟩ := i1
    obtain ⟨q2, rfl, t2⟩ := i2
    subst i3
    dsimp only [tNil]
    refine ⟨(by show 3 ≤ sizeLine; decide), fun tp htp => ?_⟩
    have st := same_new htp (.tup [.ref q1, .ref q2, .bl c.m])
    have hbt := st _ _ hb
    have kat : KeyAt K _ tp (kC c) := keyC (K := K) (.inl (.inl (upd_same (a := tp)))) (same_T st t1) (same_T st t2)
    have hkt := hk.mono fun p xs h => same_T st h
    generalize upd H' tp (.tup [.ref q1, .ref q2, .bl c.m]) = H3 at *
    have k3 : Keep G H3 (upd H3 G (DN P w G (putN kvs (kC c) tp (.bl true)))) := fun b' o nb e => by rw [upd_ne nb]; exact e
    have lk : kvs.length ≤ 65 := by
      have e1 : kvs.length = ((dd ((mbs as rs).take i)).map kC).length := by rw [← hm, List.length_map]
      have e2 := nodup_leC (dd_spec ((mbs as rs).take i)).1 fun c hc => ((dd_spec ((mbs as rs).take i)).2 c).mp hc
      rw [List.length_map] at e1
      rw [List.length_take] at e2
      omega
    refine ⟨_, ⟨kvs, tp, kC c, rfl, hbt, hkt, kat, small1000 (by omega), rfl⟩, _, fun b o h => ?_, upd_same, (putN_keys hkt kat _).mono (fun p xs h => keepN_T hbt k3 h), ?_⟩
    · rw [upd_ne (ne_of_none h hG)]
      exact st _ _ (s' _ _ h)
    · rw [putN_fst, hm, dd_more ec]
      by_cases hc : c ∈ dd ((mbs as rs).take i)
      · rw [if_pos (kC_mem.mpr hc), if_pos hc]
      · rw [if_neg (fun z => hc (kC_mem.mp z)), if_neg hc, List.map_append]
        rfl
  rintro H2 ⟨kvs, s2, hG2, hk2, hm2⟩
  rw [lw, List.take_length] at hm2
  dsimp only [tNil]
  refine ⟨G, kvs, rfl, .inl hG2, ?_⟩
  have e : kvs.length = (dd (mbs as rs)).length := by
    rw [← List.length_map (as := kvs) (·.1), hm2, List.length_map]
  rw [e]
  exact q _ (s1.trans s2)
theorem rows65 {n m : Nat} (h : n ≤ 4) (h2 : m ≤ 4) : (rowsF n m).length ≤ 65 := rows_few n h m h2
/-- all rows of a box -/
def sp_rwf (K : PySem.W.Frag) (C CA : Addr) : Sp := fun vs H Q _ => ∃ vb vc as c, vs = [vb, vc] ∧ IsBx K C CA H vb as ∧ BxOk as ∧ IsC K C H vc c ∧ ∀ H' L us, Same H H' → H L = none → H' L = some (.lst us) → Paired (IsRw K H') us ((rowsF as.length as.length).filter fun r => decide (jall (pick as r) = c)) → Q (.ref L) H'
theorem ok_rows_for {f C CA : Addr} {fd : FuncData} (b_len : mg "len" = none) (m_eq : MEq P w K mg base C) (d_check_box : D P w K mg base "check_box" 1 (sp_cbox K)) (d_all_rows : D P w K mg base "all_rows" 1 (sp_rows K)) (d_joint_copy : D P w K mg base "joint_copy" 7 (sp_jointL K C CA)) (d_arms_of : D P w K mg base "arms_of" 1 (sp_aof K C CA))
    (F : Fun K "rows_for" "rows_for" s_rows_for f fd) : FnOk P w K mg base CX0 8 f fd ["box", "copy"] (sp_rwf K C CA) := by
  refine F.ok sc_rows_for (fun vs H Q E h => ?_) (fun cdv A outer s H vs Q E hr h => ?_)
  · obtain ⟨vb, vc, as, c, rfl, _⟩ := h
    rfl
  obtain ⟨vb, vc, as, c, rfl, ib, bo, ic, q⟩ := h
  refine ⟨_, (pss_cons (ps_expr (pc d_check_box (hr.mono (by decide)) (pa_cons (pv 0) pa_nil)))
    (pss_one (ps_ret (pe_lc (own := [("row", 2)]) (g := gName 2) (by rfl) sc_rows_for.nd (pi_list (pc d_all_rows (hr.mono (by decide)) (pa_cons (pe_callB call_len_seq (by rfl) b_len PySem.boot_len (pa_cons (pv 0) pa_nil)) (pa_cons (pe_callB call_len_seq (by rfl) b_len PySem.boot_len (pa_cons (pv 0) pa_nil)) pa_nil)))) (blkOk_by (own := [("row", 2)]) (N := ["box", "copy", "row"]) (sc := defScope s_rows_for) (by decide +kernel)) (fun _ _ _ _ _ => (pg_name (i := 2) sc_rows_for.nd rfl (by first | exact Or.inl rfl | exact Or.inr rfl))) (fun _ _ _ _ _ => (pts_one (pt_cmpR (op_ceqK (K := K) rfl m_eq (hr.mono (by decide))) (pc d_joint_copy (hr.mono (by decide)) (pa_cons (pc d_arms_of (hr.mono (by decide)) (pa_cons (pv 0) (pa_cons (pv 2) pa_nil))) pa_nil)) (pv 1) (nomark _)))) (fun _ _ _ _ _ => (pv 2)))))), ?_⟩
  obtain ⟨pb, ub, rfl, hT, ha⟩ := id ib
  have lu := Paired.length ha
  have lo := bo.lo
  have hi := bo.hi
  refine ⟨_, rfl, pb, ub, rfl, hT, by omega, by omega, ?_⟩
  refine ⟨_, rfl, pb, ub, rfl, .inr hT, _, rfl, pb, ub, rfl, .inr hT, as.length, as.length, by rw [lu], hi, hi, fun H1 L us s1 nL hL pr => ?_⟩
  rw [Nat.min_self] at pr
  have ro : ∀ r ∈ rowsF as.length as.length, RwOk as.length r := RwOk.all hi
  have l65 := rows65 hi hi
  generalize rowsF as.length as.length = rs at *
  have lus := Paired.length pr
  refine ⟨L, rfl, ⟨_, .inl (.inl hL)⟩, fun D hD => lc_list (K := K) (a := L) (xs := us) (fun i H' => ∃ ws, Same H1 H' ∧ H' D = some (.lst ws) ∧ Paired (IsRw K H') ws ((rs.take i).filter fun r => decide (jall (pick as r) = c))) ⟨[], same_new hD _, upd_same, .nil⟩ ?_ ?_ ?_⟩
  · rintro i H' _ ⟨_, s', _⟩
    exact .inl (.inl (s' _ _ hL))
  · rintro i x H' hx ⟨ws, s', hw, pw⟩
    obtain ⟨r, er, ir⟩ := pgt pr hx
    have lw := Paired.length pw
    have lt := List.length_filter_le (fun r => decide (jall (pick as r) = c)) (rs.take i)
    rw [List.length_take] at lt
    have s1' := s1.trans s'
    refine ⟨rfl, ?_⟩
    refine ⟨_, rfl, _, rfl, _, _, as, r, rfl, ib.same s1', ir.same s', ro r (List.mem_of_getElem? er), fun H2 L2 u2 s2 h2 a2 => ?_⟩
    dsimp only [tNil]
    refine ⟨L2, u2, _, rfl, .inl (.inl h2), a2, bo.row (ro r (List.mem_of_getElem? er)), fun H3 r3 s3 i3 => ?_⟩
    have s13 := s1'.trans (s2.trans s3)
    have hw3 := s3 _ _ (s2 _ _ hw)
    refine ⟨_, rfl, own2_of i3 (ic.same s13) ⟨_, _, _, _, rfl, i3, ic.same s13, _, rfl, ?_⟩⟩
    rw [show ceq (jall (pick as r)) c = decide (jall (pick as r) = c) from by rw [Bool.eq_iff_iff, ceq_iff, decide_eq_true_iff], take_more er, List.filter_append]
    by_cases e : jall (pick as r) = c
    · rw [decide_eq_true e]
      refine iteT ?_
      have kk := keep_upd (d := D) (H := H3) (o := .lst (ws ++ [x]))
      refine ⟨_, rfl, ws, hw3, small1000 (by omega), ws ++ [x], fun b o h => ?_, upd_same, ?_⟩
      · rw [upd_ne (ne_of_none h hD)]
        exact s3 _ _ (s2 _ _ (s' _ _ h))
      · rw [show [r].filter (fun r => decide (jall (pick as r) = c)) = [r] from by simp [e]]
        exact papp (pimp (fun _ _ i => (i.same (s2.trans s3)).keep hw3 kk) pw) (.cons ((ir.same (s'.trans (s2.trans s3))).keep hw3 kk) .nil)
    · rw [decide_eq_false e]
      refine iteF ⟨ws, s'.trans (s2.trans s3), hw3, ?_⟩
      rw [show [r].filter (fun r => decide (jall (pick as r) = c)) = [] from by simp [e], List.append_nil]
      exact pimp (fun _ _ i => i.same (s2.trans s3)) pw
  rintro H2 ⟨ws, s2, hw, pw⟩
  rw [lus, List.take_length] at pw
  have hD : H D = none := by
    cases e : H D with
    | none => rfl
    | some o => rw [s1 _ _ e] at hD; cases hD
  exact q _ _ _ (s1.trans s2) hD hw pw
def sp_cct (K : PySem.W.Frag) (C CA : Addr) : Sp := fun vs H Q _ => ∃ vb as, vs = [vb] ∧ IsBx K C CA H vb as ∧ BxOk as ∧ ∀ H', Same H H' → Q (.int ((dd (mbs as (rowsF as.length as.length))).length : Int)) H'
theorem ok_copy_count {f C CA : Addr} {fd : FuncData} (b_len : mg "len" = none) (d_check_box : D P w K mg base "check_box" 1 (sp_cbox K)) (d_all_rows : D P w K mg base "all_rows" 1 (sp_rows K)) (d_different_copies : D P w K mg base "different_copies" 8 (sp_dif K C CA))
    (F : Fun K "copy_count" "copy_count" s_copy_count f fd) : FnOk P w K mg base CX0 9 f fd ["box"] (sp_cct K C CA) := by
  refine F.ok sc_copy_count (fun vs H Q E h => ?_) (fun cdv A outer s H vs Q E hr h => ?_)
  · obtain ⟨vb, as, rfl, _⟩ := h
    rfl
  obtain ⟨vb, as, rfl, ib, bo, q⟩ := h
  refine ⟨_, (pss_cons (ps_expr (pc d_check_box (hr.mono (by decide)) (pa_cons (pv 0) pa_nil)))
    (pss_one (ps_ret (pc d_different_copies (hr.mono (by decide)) (pa_cons (pv 0) (pa_cons (pc d_all_rows (hr.mono (by decide)) (pa_cons (pe_callB call_len_seq (by rfl) b_len PySem.boot_len (pa_cons (pv 0) pa_nil)) (pa_cons (pe_callB call_len_seq (by rfl) b_len PySem.boot_len (pa_cons (pv 0) pa_nil)) pa_nil))) pa_nil)))))), ?_⟩
  obtain ⟨pb, ub, rfl, hT, ha⟩ := id ib
  have lu := Paired.length ha
  have lo := bo.lo
  have hi := bo.hi
  refine ⟨_, rfl, pb, ub, rfl, hT, by omega, by omega, ?_⟩
  refine ⟨_, rfl, _, rfl, pb, ub, rfl, .inr hT, _, rfl, pb, ub, rfl, .inr hT, as.length, as.length, by rw [lu], hi, hi, fun H1 L us s1 nL hL pr => ?_⟩
  rw [Nat.min_self] at pr
  have ro : ∀ r ∈ rowsF as.length as.length, RwOk as.length r := RwOk.all hi
  have l65 := rows65 hi hi
  generalize rowsF as.length as.length = rs at *
  have lus := Paired.length pr
  dsimp only [tNil]
  refine ⟨_, L, us, as, rs, rfl, ib.same s1, bo, .inl (.inl hL), pr, ro, l65, fun H2 s2 => ?_⟩
  exact q _ (s1.trans s2)
def wo (n : Nat) (rs : List (List Nat)) : List (List Nat) := rs.filter fun r => !r.contains n
def sp_cwo (K : PySem.W.Frag) (C CA : Addr) : Sp := fun vs H Q _ => ∃ vb as n, vs = [vb, .int ((n : Nat) : Int)] ∧ IsBx K C CA H vb as ∧ BxOk as ∧ ∀ H', Same H H' → Q (.int ((dd (mbs as (wo n (rowsF as.length as.length)))).length : Int)) H'
theorem ok_copies_without {f C CA : Addr} {fd : FuncData} (b_len : mg "len" = none) (d_all_rows : D P w K mg base "all_rows" 1 (sp_rows K)) (d_different_copies : D P w K mg base "different_copies" 8 (sp_dif K C CA))
    (F : Fun K "copies_without" "copies_without" s_copies_without f fd) : FnOk P w K mg base CX0 9 f fd ["box", "number"] (sp_cwo K C CA) := by
  refine F.ok sc_copies_without (fun vs H Q E h => ?_) (fun cdv A outer s H vs Q E hr h => ?_)
  · obtain ⟨vb, as, n, rfl, _⟩ := h
    rfl
  obtain ⟨vb, as, n, rfl, ib, bo, q⟩ := h
  refine ⟨_, (pss_cons (ps_setLc (i := 2) (own := [("row", 3)]) (g := gName 3) (by rfl) sc_copies_without.nd rfl rfl (sw_true rfl rfl rfl (by decide +kernel)) (pi_list (pc d_all_rows (hr.mono (by decide)) (pa_cons (pe_callB call_len_seq (by rfl) b_len PySem.boot_len (pa_cons (pv 0) pa_nil)) (pa_cons (pe_callB call_len_seq (by rfl) b_len PySem.boot_len (pa_cons (pv 0) pa_nil)) pa_nil)))) (blkOk_by (own := [("row", 3)]) (N := ["box", "number", "rows", "row"]) (sc := defScope s_copies_without) (by decide +kernel)) (fun _ _ _ _ _ => (pg_name (i := 3) sc_copies_without.nd rfl (by first | exact Or.inl rfl | exact Or.inr rfl))) (fun _ _ _ _ _ => (pts_one (pt_cmpR (r := rIn K true) op_notIn_seq (pv 1) (pv 3) (by rfl)))) (fun _ _ _ _ _ => (pv 3)))
    (pss_one (ps_ret (pc d_different_copies (hr.mono (by decide)) (pa_cons (pv 0) (pa_cons (pv 2) pa_nil)))))), ?_⟩
  obtain ⟨pb, ub, rfl, hT, ha⟩ := id ib
  have lu := Paired.length ha
  have hi := bo.hi
  refine ⟨_, rfl, pb, ub, rfl, .inr hT, _, rfl, pb, ub, rfl, .inr hT, as.length, as.length, by rw [lu], hi, hi, fun H1 L us s1 nL hL pr => ?_⟩
  rw [Nat.min_self] at pr
  have ro : ∀ r ∈ rowsF as.length as.length, RwOk as.length r := RwOk.all hi
  have l65 := rows65 hi hi
  generalize rowsF as.length as.length = rs at *
  have lus := Paired.length pr
  refine ⟨L, rfl, ⟨_, .inl (.inl hL)⟩, fun D hD => lc_list (K := K) (a := L) (xs := us) (fun i H' => ∃ ws, Same H1 H' ∧ H' D = some (.lst ws) ∧ Paired (IsRw K H') ws (wo n (rs.take i))) ⟨[], same_new hD _, upd_same, .nil⟩ ?_ ?_ ?_⟩
  · rintro i H' _ ⟨_, s', _⟩
    exact .inl (.inl (s' _ _ hL))
  · rintro i x H' hx ⟨ws, s', hw, pw⟩
    obtain ⟨r, er, ir⟩ := pgt pr hx
    have lw := Paired.length pw
    have lt : (wo n (rs.take i)).length ≤ _ := List.length_filter_le _ _
    rw [List.length_take] at lt
    refine ⟨rfl, ?_⟩
    obtain ⟨px, rfl, hpx⟩ := ir.same s'
    refine ⟨_, rfl, _, rfl, px, rv r, rfl, .inr hpx, rfl, flat_rv r, _, rfl, ?_⟩
    rw [inV_rv, take_more er]
    unfold wo
    rw [List.filter_append]
    dsimp only
    cases e : r.contains n with
    | true =>
      refine iteF ⟨ws, s', hw, ?_⟩
      rw [show [r].filter (fun r => !r.contains n) = [] from by rw [List.filter_cons, List.filter_nil, e]; rfl, List.append_nil]
      exact pw
    | false =>
      refine iteT ?_
      have kk := keep_upd (d := D) (H := H') (o := .lst (ws ++ [.ref px]))
      refine ⟨_, rfl, ws, hw, small1000 (by omega), ws ++ [.ref px], fun b o h => ?_, upd_same, ?_⟩
      · rw [upd_ne (ne_of_none h hD)]
        exact s' _ _ h
      · rw [show [r].filter (fun r => !r.contains n) = [r] from by rw [List.filter_cons, List.filter_nil, e]; rfl]
        exact papp (pimp (fun _ _ i => i.keep hw kk) pw) (.cons (IsRw.keep (H := H') ⟨px, rfl, hpx⟩ hw kk) .nil)
  rintro H2 ⟨ws, s2, hw, pw⟩
  rw [lus, List.take_length] at pw
  refine gn_of ?_
  dsimp only [tNext]
  have lt : (wo n rs).length ≤ _ := List.length_filter_le _ _
  refine ⟨_, rfl, _, rfl, _, D, ws, as, wo n rs, rfl, ib.same (s1.trans s2), bo, .inl (.inl hw), pw, fun r hr => ro r (List.mem_filter.mp hr).1, by omega, fun H3 s3 => ?_⟩
  exact q _ (s1.trans (s2.trans s3))
theorem dVI (a b : Nat) : decide (V.int (a : Int) = V.int (b : Int)) = decide (a = b) := by
  by_cases h : a = b
  · rw [decide_eq_true h, h, decide_eq_true rfl]
  · rw [decide_eq_false h, decide_eq_false fun z => h (by injection z with z; omega)]
def needF (as : List Am) : List Nat := (List.range as.length).filter fun n => decide ((dd (mbs as (wo n (rowsF as.length as.length)))).length = (dd (mbs as (rowsF as.length as.length))).length)
def sp_nda (K : PySem.W.Frag) (C CA : Addr) : Sp := fun vs H Q _ => ∃ vb as, vs = [vb] ∧ IsBx K C CA H vb as ∧ BxOk as ∧ ∀ H' L, Same H H' → H' L = some (.lst (rv (needF as))) → Q (.ref L) H'
theorem ok_needless_arms {f C CA : Addr} {fd : FuncData} (b_len : mg "len" = none) (b_range : mg "range" = none) (d_copy_count : D P w K mg base "copy_count" 9 (sp_cct K C CA)) (d_copies_without : D P w K mg base "copies_without" 9 (sp_cwo K C CA))
    (F : Fun K "needless_arms" "needless_arms" s_needless_arms f fd) : FnOk P w K mg base CX0 10 f fd ["box"] (sp_nda K C CA) := by
  refine F.ok sc_needless_arms (fun vs H Q E h => ?_) (fun cdv A outer s H vs Q E hr h => ?_)
  · obtain ⟨vb, as, rfl, _⟩ := h
    rfl
  obtain ⟨vb, as, rfl, ib, bo, q⟩ := h
  refine ⟨_, (pss_cons (ps_set (i := 1) sc_needless_arms.nd rfl (by first | exact Or.inl rfl | exact Or.inr rfl) (pc d_copy_count (hr.mono (by decide)) (pa_cons (pv 0) pa_nil)))
    (pss_one (ps_ret (pe_lc (own := [("number", 2)]) (g := gName 2) (by rfl) sc_needless_arms.nd (pi_range1 (by rfl) b_range (pa_cons (pe_callB call_len_seq (by rfl) b_len PySem.boot_len (pa_cons (pv 0) pa_nil)) pa_nil)) (blkOk_by (own := [("number", 2)]) (N := ["box", "goal", "number"]) (sc := defScope s_needless_arms) (by decide +kernel)) (fun _ _ _ _ _ => (pg_name (i := 2) sc_needless_arms.nd rfl (by first | exact Or.inl rfl | exact Or.inr rfl))) (fun _ _ _ _ _ => (pts_one (pt_cmpR (op_eq) (pc d_copies_without (hr.mono (by decide)) (pa_cons (pv 0) (pa_cons (pv 2) pa_nil))) (pv 1) (nomark _)))) (fun _ _ _ _ _ => (pv 2)))))), ?_⟩
  obtain ⟨pb, ub, rfl, hT, ha⟩ := id ib
  have lu := Paired.length ha
  have hi := bo.hi
  refine ⟨_, rfl, _, as, rfl, ib, bo, fun H1 s1 => gn_of ?_⟩
  dsimp only [tNext]
  refine ⟨_, rfl, pb, ub, rfl, .inr (same_T s1 hT), _, rfl, by omega, by omega, fun D hD => lc_range (lo := 0) (n := ((ub.length : Nat) : Int).toNat) (fun i H' => Same H1 H' ∧ H' D = some (.lst (rv (((List.range as.length).take i).filter fun n => decide ((dd (mbs as (wo n (rowsF as.length as.length)))).length = (dd (mbs as (rowsF as.length as.length))).length))))) ⟨same_new hD _, upd_same⟩ ?_ ?_⟩
  · rintro i H' hi' ⟨s', hw⟩
    have hi' : i < as.length := by omega
    rw [Int.zero_add]
    refine ⟨rfl, ?_⟩
    refine ⟨_, rfl, _, rfl, _, as, i, rfl, ib.same (s1.trans s'), bo, fun H2 s2 => ⟨_, rfl, rfl, _, rfl, ?_⟩⟩
    rw [range_more hi', List.filter_append, dVI]
    dsimp only
    have lf := List.length_filter_le (fun n => decide ((dd (mbs as (wo n (rowsF as.length as.length)))).length = (dd (mbs as (rowsF as.length as.length))).length)) ((List.range as.length).take i)
    rw [List.length_take, List.length_range] at lf
    by_cases e : (dd (mbs as (wo i (rowsF as.length as.length)))).length = (dd (mbs as (rowsF as.length as.length))).length
    · rw [decide_eq_true e, show [i].filter (fun n => decide ((dd (mbs as (wo n (rowsF as.length as.length)))).length = (dd (mbs as (rowsF as.length as.length))).length)) = [i] from by rw [List.filter_cons, List.filter_nil, decide_eq_true e]; rfl]
      refine iteT ⟨_, rfl, _, s2 _ _ hw, small1000 (by rw [rv_len]; omega), fun b o h => ?_, ?_⟩
      · rw [upd_ne (ne_of_none h hD)]
        exact s2 _ _ (s' _ _ h)
      · unfold rv
        rw [List.map_append]
        exact upd_same
    · rw [decide_eq_false e, show [i].filter (fun n => decide ((dd (mbs as (wo n (rowsF as.length as.length)))).length = (dd (mbs as (rowsF as.length as.length))).length)) = [] from by rw [List.filter_cons, List.filter_nil, decide_eq_false e]; rfl, List.append_nil]
      exact iteF ⟨s'.trans s2, s2 _ _ hw⟩
  rintro H2 ⟨s2, hw⟩
  rw [show (List.range as.length).take ((ub.length : Nat) : Int).toNat = List.range as.length from by rw [Int.toNat_natCast, List.take_of_length_le (by rw [List.length_range]; omega)]] at hw
  exact q _ _ (s1.trans s2) hw
end
end My

namespace My
open PySem L2 Mth LamX

section
variable {P : Program} {w : World} {K : PySem.W.Frag} {mg : Str → Option Value} {base : Heap}
/-! ### boxes of too few or too many -/
def BadBx (K : PySem.W.Frag) (H : Hp) (v : V) : Prop := ∃ p us, v = .ref p ∧ SqT K H p us ∧ us.length ≤ 1000 ∧ ¬ (1 ≤ us.length ∧ us.length ≤ 5)
def sp_cboxX (K : PySem.W.Frag) (CB : Addr) : Sp := fun vs H Q E => ∃ v, vs = [v] ∧ BadBx K H v ∧ E (.ref CB) none H
theorem ok_check_boxX {f CB : Addr} {fd : FuncData} {tk : Tok} (b_len : mg "len" = none) (m_MOST_IN_BOX : mg "MOST_IN_BOX" = some (.int 5 tk)) (XB : ExX K mg "InvalidBox" CB) (F : Fun K "check_box" "check_box" s_check_box f fd) : FnOk P w K mg base (L2.CX P w) 1 f fd ["box"] (sp_cboxX K CB) := by
  refine F.okX sc_check_box (fun vs H Q E h => ?_) (fun cdv A outer s H vs Q E hr h => ?_)
  · obtain ⟨v, rfl, _⟩ := h
    rfl
  obtain ⟨v, rfl, ⟨p, us, rfl, hT, l1000, bad⟩, q⟩ := h
  refine ⟨_, (pss_one (ps_if (pt_not (pt_chain op_le op_le pe_int (pe_callB call_len_seq (by rfl) b_len PySem.boot_len (pa_cons (pv 0) pa_nil)) (pe_glob (v := .int 5) (by rfl) m_MOST_IN_BOX ⟨_, rfl⟩))) (pss_one (ps_raise rfl (takes_of rfl rfl rfl rfl) (pmk_own PySem.F.excBase_ValueError XB.q XB.g XB.k (raises_own XB.b XB.t) (by rfl)))) pss_nil)), ?_⟩
  by_cases h0 : 1 ≤ us.length
  · refine ⟨_, rfl, p, us, rfl, .inr hT, _, _, rfl, rfl, true, congrArg V.bl (decide_eq_true (by omega)), iteT ?_⟩
    exact ⟨_, _, rfl, rfl, false, congrArg V.bl (decide_eq_false (by omega)), iteT q⟩
  · exact ⟨_, rfl, p, us, rfl, .inr hT, _, _, rfl, rfl, false, congrArg V.bl (decide_eq_false (by omega)), iteF ⟨_, rfl, iteT q⟩⟩
def sp_rwfX (K : PySem.W.Frag) (CB : Addr) : Sp := fun vs H Q E => ∃ v vc, vs = [v, vc] ∧ BadBx K H v ∧ E (.ref CB) none H
theorem ok_rows_forX {f CB : Addr} {fd : FuncData} (d_check_boxX : DX P w K mg base "check_box" 1 (sp_cboxX K CB)) (F : Fun K "rows_for" "rows_for" s_rows_for f fd) : FnOk P w K mg base (L2.CX P w) 8 f fd ["box", "copy"] (sp_rwfX K CB) := by
  refine F.okX sc_rows_for (fun vs H Q E h => ?_) (fun cdv A outer s H vs Q E hr h => ?_)
  · obtain ⟨v, vc, rfl, _⟩ := h
    rfl
  obtain ⟨v, vc, rfl, bad, q⟩ := h
  refine ⟨_, (pss_cons (ps_expr (pcX d_check_boxX (hr.mono (by decide)) (passes_call (takes_of rfl rfl rfl rfl) (fun _ _ _ _ h => h)) (pa_cons (pv 0) pa_nil)))
    pss_never), ?_⟩
  exact ⟨_, rfl, v, rfl, bad, q⟩
def sp_bad1 (K : PySem.W.Frag) (CB : Addr) : Sp := fun vs H Q E => ∃ v, vs = [v] ∧ BadBx K H v ∧ E (.ref CB) none H
theorem ok_copy_countX {f CB : Addr} {fd : FuncData} (d_check_boxX : DX P w K mg base "check_box" 1 (sp_cboxX K CB)) (F : Fun K "copy_count" "copy_count" s_copy_count f fd) : FnOk P w K mg base (L2.CX P w) 9 f fd ["box"] (sp_bad1 K CB) := by
  refine F.okX sc_copy_count (fun vs H Q E h => ?_) (fun cdv A outer s H vs Q E hr h => ?_)
  · obtain ⟨v, rfl, _⟩ := h
    rfl
  obtain ⟨v, rfl, bad, q⟩ := h
  refine ⟨_, (pss_cons (ps_expr (pcX d_check_boxX (hr.mono (by decide)) (passes_call (takes_of rfl rfl rfl rfl) (fun _ _ _ _ h => h)) (pa_cons (pv 0) pa_nil)))
    pss_never), ?_⟩
  exact ⟨_, rfl, v, rfl, bad, q⟩
theorem ok_needless_armsX {f CB : Addr} {fd : FuncData} (d_copy_countX : DX P w K mg base "copy_count" 9 (sp_bad1 K CB)) (F : Fun K "needless_arms" "needless_arms" s_needless_arms f fd) : FnOk P w K mg base (L2.CX P w) 10 f fd ["box"] (sp_bad1 K CB) := by
  refine F.okX sc_needless_arms (fun vs H Q E h => ?_) (fun cdv A outer s H vs Q E hr h => ?_)
  · obtain ⟨v, rfl, _⟩ := h
    rfl
  obtain ⟨v, rfl, bad, q⟩ := h
  refine ⟨_, (pss_cons (ps_set (i := 1) sc_needless_arms.nd rfl (by first | exact Or.inl rfl | exact Or.inr rfl) (pcX d_copy_countX (hr.mono (by decide)) (passes_call (takes_of rfl rfl rfl rfl) (fun _ _ _ _ h => h)) (pa_cons (pv 0) pa_nil)))
    pss_never), ?_⟩
  exact ⟨_, rfl, v, rfl, bad, q⟩
end
end My

namespace My
open PySem L2 Mth
section
variable {P : Program} {w : World} {K : PySem.W.Frag} {mg : Str → Option Value} {base : Heap}
/-! ### lists of told arms -/
theorem keepsB : KeepsI (IsB K) := fun _ _ _ _ _ _ i hd k => i.keep hd k
def AllB (K : PySem.W.Frag) (H : Hp) (vs : List V) (as : List Am) : Prop := Paired (IsB K H) vs as
theorem AllB.same {H H' : Hp} {vs : List V} {as : List Am} (h : AllB K H vs as) (s : Same H H') : AllB K H' vs as := pimp (fun _ _ i => i.same s) h
theorem AllB.keep {H H' : Hp} {vs : List V} {as : List Am} {d : Addr} {ys : List V} (h : AllB K H vs as) (hd : H d = some (.lst ys)) (k : Keep d H H') : AllB K H' vs as := pimp (fun _ _ i => i.keep hd k) h
theorem ArmIn.bc {a : Am} (h : ArmIn a) : BC 11 (about a) := about_BC h.ok h.bp h.bt
theorem armsOk {as : List Am} (h : ∀ a ∈ as, ArmIn a) (hl : as.length ≤ 6) : ArmsOk as := ⟨hl, fun a ha => (h a ha).ok, fun a ha => (h a ha).bc.mono (by decide)⟩
theorem mem_take {α : Type} {l : List α} {i : Nat} {x : α} (h : x ∈ l.take i) : x ∈ l := List.mem_of_mem_take h
end
end My

namespace My
open PySem L2 Mth LamX
abbrev s_law_box : Stmt := topS 72
theorem sc_law_box : FnScope ["_law_d", "_law_most", "_law_few", "_law_tolds", "_law_k", "_law_pole", "_law_turn_here", "_law_near", "_law_far", "_law_flipped"] ["_law_d", "_law_most"] (defScope s_law_box) := ⟨rfl, rfl, rfl, by decide +kernel, rfl, by decide +kernel, by decide +kernel⟩
abbrev s_law_made_by : Stmt := topS 81
theorem sc_law_made_by : FnScope ["_law_tolds", "_law_row", "_law_ends", "_law_number", "_law_told_here", "_law_end", "_law_turn_here", "_law_aside"] ["_law_tolds", "_law_row"] (defScope s_law_made_by) := ⟨rfl, rfl, rfl, by decide +kernel, rfl, by decide +kernel, by decide +kernel⟩
abbrev s_law_rows : Stmt := topS 74
theorem sc_law_rows : FnScope ["_law_count", "_law_most", "_law_found", "_law_layer", "_law_turn_here", "_law_longer", "_law_row", "_law_number"] ["_law_count", "_law_most"] (defScope s_law_rows) := ⟨rfl, rfl, rfl, by decide +kernel, rfl, by decide +kernel, by decide +kernel⟩
section
variable {P : Program} {w : World} {K : PySem.W.Frag} {mg : Str → Option Value} {base : Heap}
/-! ### the law's boxes and rows -/
def sp_lbox (K : PySem.W.Frag) : Sp := fun vs H Q _ => ∃ (d : Addr) (m : Int) (st : Src), vs = [.ref d, .int m] ∧ 1 ≤ m ∧ m ≤ 4 ∧ H d = some (.lst (encD st)) ∧ SrcOk st ∧
  ∀ H' st' L us as, L ≠ d → Keep d H H' → H' d = some (.lst (encD st')) → SrcOk st' → H' L = some (.lst us) → AllB K H' us as → (∀ a ∈ as, ArmIn a) → 1 ≤ as.length → (as.length : Int) ≤ m → Q (.ref L) H'
theorem ok_law_box {f : Addr} {fd : FuncData} (b_range : mg "range" = none) (d_law_below : D P w K mg base "_law_below" 1 sp_below) (d_law_arm_told : D P w K mg base "_law_arm_told" 4 (sp_draw fun H r => ∃ a, IsB K H r a ∧ ArmIn a))
    (F : Fun K "_law_box" "_law_box" s_law_box f fd) : FnOk P w K mg base CX0 5 f fd ["_law_d", "_law_most"] (sp_lbox K) := by
  refine F.ok sc_law_box (fun vs H Q E h => ?_) (fun cdv A outer s H vs Q E hr h => ?_)
  · obtain ⟨d, m, st, rfl, _⟩ := h
    rfl
  obtain ⟨d, m, st, rfl, m1, m4, hd, ok, q⟩ := h
  refine ⟨_, (pss_cons (ps_par (i := 2) (j := 3) (by rfl) sc_law_box.nd rfl rfl (by decide) rfl rfl (pa_cons (pe_lst (pa_cons (pe_tup (pa_cons pe_int (pa_cons pe_int (pa_cons pe_int pa_nil)))) (pa_cons (pe_tup (pa_cons pe_int (pa_cons pe_int (pa_cons pe_int pa_nil)))) (pa_cons (pe_tup (pa_cons pe_int (pa_cons pe_int (pa_cons pe_int pa_nil)))) (pa_cons (pe_tup (pa_cons (pe_op op_sub pe_int pe_int) (pa_cons pe_int (pa_cons pe_int pa_nil)))) (pa_cons (pe_tup (pa_cons pe_int (pa_cons pe_int (pa_cons pe_int pa_nil)))) pa_nil)))))) (pa_cons (pe_lst pa_nil) pa_nil)) (by rfl))
    (pss_cons (ps_for PassesOwn.never rfl (pi_range1 (by rfl) b_range (pa_cons (pe_op op_add pe_int (pc d_law_below (hr.mono (by decide)) (pa_cons (pv 0) (pa_cons (pv 1) pa_nil)))) pa_nil)) (pg_name (i := 4) sc_law_box.nd rfl (by first | exact Or.inl rfl | exact Or.inr rfl)) (pss_cons (ps_asg (pc d_law_arm_told (hr.mono (by decide)) (pa_cons (pv 0) pa_nil)) (pg_tup rfl (pgs_cons (pg_name (i := 5) sc_law_box.nd rfl (by first | exact Or.inl rfl | exact Or.inr rfl)) (pgs_cons (pg_name (i := 6) sc_law_box.nd rfl (by first | exact Or.inl rfl | exact Or.inr rfl)) (pgs_cons (pg_name (i := 7) sc_law_box.nd rfl (by first | exact Or.inl rfl | exact Or.inr rfl)) (pgs_cons (pg_name (i := 8) sc_law_box.nd rfl (by first | exact Or.inl rfl | exact Or.inr rfl)) (pgs_cons (pg_name (i := 9) sc_law_box.nd rfl (by first | exact Or.inl rfl | exact Or.inr rfl)) pgs_nil)))))))
    (pss_cons (ps_set (i := 6) sc_law_box.nd rfl (by first | exact Or.inl rfl | exact Or.inr rfl) (pe_ifExp (pt_cmpR (op_eq) (pc d_law_below (hr.mono (by decide)) (pa_cons (pv 0) (pa_cons pe_int pa_nil))) pe_int (nomark _)) (pe_ix (r := rIxL K) ix_list (pv 2) (pc d_law_below (hr.mono (by decide)) (pa_cons (pv 0) (pa_cons pe_int pa_nil))) (fun _ _ => rfl)) (pv 6)))
    (pss_one (ps_expr (pe_bm PySem.F.plainAttrs_list PySem.F.slot_list_append PySem.F.type_list_append mt_append (pv 3) (pa_cons (pe_tup (pa_cons (pe_ifExp (pt_cmpR (op_eq) (pc d_law_below (hr.mono (by decide)) (pa_cons (pv 0) (pa_cons pe_int pa_nil))) pe_int (nomark _)) (pe_tup (pa_cons pe_int (pa_cons pe_int (pa_cons pe_int pa_nil)))) (pv 5)) (pa_cons (pv 6) (pa_cons (pv 7) (pa_cons (pv 8) (pa_cons (pv 9) pa_nil)))))) pa_nil)))))))
    (pss_one (ps_ret (pv 3))))), ?_⟩
  refine ⟨(by show 3 ≤ sizeLine; decide), fun p1 h1 => ?_⟩
  have s1 := same_new h1 (.tup [.int 2, .int 0, .int 1])
  refine ⟨(by show 3 ≤ sizeLine; decide), fun p2 h2 => ?_⟩
  have s2 := same_new h2 (.tup [.int 1, .int 0, .int 2])
  refine ⟨(by show 3 ≤ sizeLine; decide), fun p3 h3 => ?_⟩
  have s3 := same_new h3 (.tup [.int 0, .int 1, .int 1])
  refine ⟨_, _, rfl, rfl, ?_⟩
  dsimp only [tNil]
  refine ⟨(by show 3 ≤ sizeLine; decide), fun p4 h4 => ?_⟩
  have s4 := same_new h4 (.tup [.int (0 - 1), .int 0, .int 1])
  refine ⟨(by show 3 ≤ sizeLine; decide), fun p5 h5 => ?_⟩
  have s5 := same_new h5 (.tup [.int 1, .int 1, .int 1])
  refine ⟨(by show 5 ≤ sizeLine; decide), fun Lf hLf => ?_⟩
  have s6 := same_new hLf (.lst [.ref p1, .ref p2, .ref p3, .ref p4, .ref p5])
  have few : ∀ j : Int, 0 ≤ j → j < 5 → ∃ v t, atI [V.ref p1, .ref p2, .ref p3, .ref p4, .ref p5] j = some v ∧ IsT K (upd (upd (upd (upd (upd (upd H p1 (.tup [.int 2, .int 0, .int 1])) p2 (.tup [.int 1, .int 0, .int 2])) p3 (.tup [.int 0, .int 1, .int 1])) p4 (.tup [.int (0 - 1), .int 0, .int 1])) p5 (.tup [.int 1, .int 1, .int 1])) Lf (.lst [.ref p1, .ref p2, .ref p3, .ref p4, .ref p5])) v t ∧ TurnIn t := by
    intro j j0 j5
    have : j = 0 ∨ j = 1 ∨ j = 2 ∨ j = 3 ∨ j = 4 := by omega
    rcases this with rfl | rfl | rfl | rfl | rfl
    · exact ⟨_, (2, 0, 1), rfl, ⟨p1, rfl, same_T (s2.trans (s3.trans (s4.trans (s5.trans s6)))) (.inl (.inl upd_same))⟩, turns_in _ (by decide +kernel)⟩
    · exact ⟨_, (1, 0, 2), rfl, ⟨p2, rfl, same_T (s3.trans (s4.trans (s5.trans s6))) (.inl (.inl upd_same))⟩, turns_in _ (by decide +kernel)⟩
    · exact ⟨_, (0, 1, 1), rfl, ⟨p3, rfl, same_T (s4.trans (s5.trans s6)) (.inl (.inl upd_same))⟩, turns_in _ (by decide +kernel)⟩
    · exact ⟨_, (-1, 0, 1), rfl, ⟨p4, rfl, same_T (s5.trans s6) (.inl (.inl upd_same))⟩, turns_in _ (by decide +kernel)⟩
    · exact ⟨_, (1, 1, 1), rfl, ⟨p5, rfl, same_T s6 (.inl (.inl upd_same))⟩, turns_in _ (by decide +kernel)⟩
  have s06 := s1.trans (s2.trans (s3.trans (s4.trans (s5.trans s6))))
  have hf : (upd (upd (upd (upd (upd (upd H p1 (.tup [.int 2, .int 0, .int 1])) p2 (.tup [.int 1, .int 0, .int 2])) p3 (.tup [.int 0, .int 1, .int 1])) p4 (.tup [.int (0 - 1), .int 0, .int 1])) p5 (.tup [.int 1, .int 1, .int 1])) Lf (.lst [.ref p1, .ref p2, .ref p3, .ref p4, .ref p5])) Lf = some (.lst [.ref p1, .ref p2, .ref p3, .ref p4, .ref p5]) := upd_same
  have hd6 := s06 _ _ hd
  have nLf : Lf ≠ d := fun e => by rw [e, (s1.trans (s2.trans (s3.trans (s4.trans s5)))) _ _ hd] at hLf; cases hLf
  clear s1 s2 s3 s4 s5 s6 h1 h2 h3 h4 h5 hLf
  generalize upd (upd (upd (upd (upd (upd H p1 (.tup [.int 2, .int 0, .int 1])) p2 (.tup [.int 1, .int 0, .int 2])) p3 (.tup [.int 0, .int 1, .int 1])) p4 (.tup [.int (0 - 1), .int 0, .int 1])) p5 (.tup [.int 1, .int 1, .int 1])) Lf (.lst [.ref p1, .ref p2, .ref p3, .ref p4, .ref p5]) = H1 at *
  refine ⟨(by show 0 ≤ sizeLine; decide), fun Lt hLt => ?_⟩
  refine ⟨_, _, rfl, gn_of ?_⟩
  dsimp only [tNext]
  have nLt : Lt ≠ d := fun e => by rw [e, hd6] at hLt; cases hLt
  have D0 : DrawnG (IsB K) ArmIn d Lt H1 (upd H1 Lt (.lst [])) 0 := drawnG_start hd6 ok hLt
  have st6 := same_new hLt (.lst [])
  refine ⟨_, rfl, _, rfl, d, m, st, rfl, by omega, by omega, st6 _ _ hd6, ok, fun st1 b ok1 b0 bm => ?_⟩
  have k1 := keep_upd (d := d) (H := upd H1 Lt (.lst [])) (o := .lst (encD st1))
  refine ⟨_, _, rfl, rfl, _, rfl, by omega, by omega, ?_⟩
  have kLt : (upd (upd H1 Lt (.lst [])) d (.lst (encD st1))) Lt = some (.lst []) := by rw [upd_ne nLt]; exact upd_same
  refine for_range (lo := 0) (n := (1 + b).toNat) (fun i σ H' => ∃ x4 x5 x6 x7 x8 x9, σ = [some (.ref d), some (.int m), some (.ref Lf), some (.ref Lt), x4, x5, x6, x7, x8, x9] ∧ DrawnG (IsB K) ArmIn d Lt H1 H' i) ⟨none, none, none, none, none, none, rfl, st1, [], [], (Keep.of st6).trans k1, upd_same, ok1, kLt, rfl, .nil, fun x hx => by cases hx⟩ ?_ ?_
  · rintro i σ H' hi ⟨x4, x5, x6, x7, x8, x9, rfl, st2, vs, xs, k2, hd2, ok2, hv2, lv2, pv2, gv2⟩
    refine gn_of ?_
    dsimp only
    refine ⟨_, rfl, d, st2, rfl, hd2, ok2, fun H3 st3 r k3 hd3 ok3 ⟨a, ia, ai⟩ => ?_⟩
    obtain ⟨pa, pu, pz, rfl, ta, tu, tz⟩ := ia
    refine ⟨pa, _, rfl, ta, rfl, _, _, rfl, _, _, rfl, _, _, rfl, _, _, rfl, _, _, rfl, rfl, ?_⟩
    dsimp only
    refine asg_of (te_join (fun v H' => ∃ st t, Keep d H3 H' ∧ H' d = some (.lst (encD st)) ∧ SrcOk st ∧ IsT K H' v t ∧ TurnIn t) ?_ ?_)
    rotate_left
    · intro Q' kQ
      refine ⟨_, rfl, d, _, st3, rfl, by decide, by decide, hd3, ok3, fun st4 r4 ok4 r40 r41 => ?_⟩
      have k4 := keep_upd (d := d) (H := H3) (o := .lst (encD st4))
      refine ⟨rfl, _, rfl, ?_⟩
      refine ite2 (fun _ => ?_) (fun _ => ?_)
      · refine ⟨_, rfl, _, rfl, d, 5, st4, rfl, by decide, by decide, upd_same, ok4, fun st5 r5 ok5 r50 r51 => ?_⟩
        have k5 := keep_upd (d := d) (H := upd H3 d (.lst (encD st4))) (o := .lst (encD st5))
        obtain ⟨v, t, e5, it, nt⟩ := few r5 r50 r51
        have kk := (k2.trans k3).trans (k4.trans k5)
        exact ⟨Lf, _, _, v, rfl, rfl, .inl (.inl (kk _ _ nLf hf)), e5, kQ _ _ ⟨st5, t, k4.trans k5, upd_same, ok5, it.keep hd6 kk, nt⟩⟩
      · exact ⟨_, rfl, kQ _ _ ⟨st4, a.t, k4, upd_same, ok4, IsT.keep (H := H3) ⟨_, rfl, tz⟩ hd3 k4, turns_in _ ai.mem⟩⟩
    rintro v H4 ⟨st4, t, k4, hd4, ok4, it, nt⟩
    refine gn_of ?_
    have tu4 := keep_T tu hd3 k4
    have kk := (k2.trans k3).trans k4
    have hv4 : H4 Lt = some (.lst vs) := k4 _ _ nLt (k3 _ _ nLt hv2)
    have pv4 : Paired (IsB K H4) vs xs := pimp (fun _ _ i => (IsB.keep i hd2 k3).keep hd3 k4) pv2
    refine ⟨_, rfl, .inl ⟨rfl, _, .inl (.inl hv4)⟩, ?_⟩
    show tIf (tTest (tOp rEq (tCl sp_below (tCons (tVar 0) (tCons (tC (V.int 2)) tNil))) (tC (V.int 0)))) (tTup (tCons (tC (V.int 0)) (tCons (tC (V.int 0)) (tCons (tC (V.int 1)) tNil)))) (tVar 5) _ _ _
    refine te_join (fun v H' => ∃ st z, Keep d H4 H' ∧ H' d = some (.lst (encD st)) ∧ SrcOk st ∧ IsT K H' v z ∧ Ok z ∧ B 3 z) ?_ ?_
    rotate_left
    · intro Q' kQ
      refine ⟨_, rfl, d, _, st4, rfl, by decide, by decide, hd4, ok4, fun st5 r5 ok5 r50 r51 => ?_⟩
      have k5 := keep_upd (d := d) (H := H4) (o := .lst (encD st5))
      refine ⟨rfl, _, rfl, ?_⟩
      refine ite2 (fun _ => ?_) (fun _ => ?_)
      · refine ⟨(by show 3 ≤ sizeLine; decide), fun p7 hp7 => ?_⟩
        have s7 := same_new hp7 (.tup [.int 0, .int 0, .int 1])
        exact kQ _ _ ⟨st5, (0, 0, 1), k5.trans (Keep.of s7), s7 _ _ upd_same, ok5, ⟨p7, rfl, .inl (.inl upd_same)⟩, by decide, by decide⟩
      · exact ⟨_, rfl, kQ _ _ ⟨st5, a.pole, k5, upd_same, ok5, IsT.keep (H := H4) ⟨_, rfl, tu4⟩ hd4 k5, ai.ok.p, ai.bp⟩⟩
    rintro v7 H7 ⟨st7, z, k7, hd7, ok7, iz, oz, bz⟩
    refine ⟨_, rfl, _, rfl, _, rfl, _, rfl, (by show 5 ≤ sizeLine; decide), fun p9 hp9 => ?_⟩
    obtain ⟨az, rfl, tz7⟩ := iz
    obtain ⟨at', rfl, tt7⟩ := it.keep hd4 k7
    have s9 := same_new hp9 (.tup [.ref az, .ref at', .int a.near, .int a.far, .bl a.m])
    have hv7 := k7 _ _ nLt hv4
    have l2 := Paired.length pv2
    refine ⟨Lt, vs, _, rfl, rfl, s9 _ _ hv7, small1000 (by omega), ?_⟩
    have ib : IsB K (upd H7 p9 (.tup [.ref az, .ref at', .int a.near, .int a.far, .bl a.m])) (.ref p9) ⟨z, t, a.near, a.far, a.m⟩ := ⟨p9, az, at', rfl, .inl (.inl upd_same), same_T s9 tz7, same_T s9 tt7⟩
    have ni : ArmIn ⟨z, t, a.near, a.far, a.m⟩ := ⟨⟨oz, nt.ok, nt.nz, ai.ok.lo, ai.ok.mi, ai.ok.hi⟩, bz, nt.bd, nt.mem, ai.fa⟩
    have k79 := (k3.trans k4).trans (k7.trans (Keep.of s9))
    have := drawnG_more (I := IsB K) (G := ArmIn) keepsB hLt nLt k2 hd2 hv2 lv2 pv2 gv2 k79 (s9 _ _ hd7) ok7 ib ni
    exact ⟨_, _, _, _, _, _, rfl, this⟩
  · rintro σ H' ⟨x4, x5, x6, x7, x8, x9, rfl, st2, vs, xs, k2, hd2, ok2, hv2, lv2, pv2, gv2⟩
    have l := Paired.length pv2
    exact ⟨_, rfl, q _ _ _ _ _ nLt ((Keep.of s06).trans k2) hd2 ok2 hv2 pv2 gv2 (by omega) (by omega)⟩
def sp_lrows (K : PySem.W.Frag) : Sp := fun vs H Q _ => ∃ c m : Nat, vs = [.int (c : Int), .int (m : Int)] ∧ c ≤ 4 ∧ m ≤ 4 ∧ ∀ H' L us, Same H H' → H L = none → H' L = some (.lst us) → Paired (IsRw K H') us (rowsF c m) → Q (.ref L) H'
theorem ok_law_rows {f : Addr} {fd : FuncData} (b_range : mg "range" = none) (F : Fun K "_law_rows" "_law_rows" s_law_rows f fd) : FnOk P w K mg base CX0 1 f fd ["_law_count", "_law_most"] (sp_lrows K) := by
  refine F.ok sc_law_rows (fun vs H Q E h => ?_) (fun cdv A outer s H vs Q E hr h => ?_)
  · obtain ⟨c, m, rfl, _⟩ := h
    rfl
  obtain ⟨c, m, rfl, c4, m4, q⟩ := h
  refine ⟨_, (pss_cons (ps_par (i := 2) (j := 3) (by rfl) sc_law_rows.nd rfl rfl (by decide) rfl rfl (pa_cons (pe_lst (pa_cons (pe_tup pa_nil) pa_nil)) (pa_cons (pe_lst (pa_cons (pe_tup pa_nil) pa_nil)) pa_nil)) (by rfl))
    (pss_cons (ps_for PassesOwn.never rfl (pi_range1 (by rfl) b_range (pa_cons (pv 1) pa_nil)) (pg_name (i := 4) sc_law_rows.nd rfl (by first | exact Or.inl rfl | exact Or.inr rfl)) (pss_cons (ps_set (i := 5) sc_law_rows.nd rfl (by first | exact Or.inl rfl | exact Or.inr rfl) (pe_lst pa_nil))
    (pss_cons (ps_for PassesOwn.never rfl (pi_list (pv 3)) (pg_name (i := 6) sc_law_rows.nd rfl (by first | exact Or.inl rfl | exact Or.inr rfl)) (pss_one (ps_set (i := 5) sc_law_rows.nd rfl (by first | exact Or.inl rfl | exact Or.inr rfl) (pe_op op_cat (pv 5) (pe_lc (own := [("_law_number", 7)]) (g := gName 7) (by rfl) sc_law_rows.nd (pi_range1 (by rfl) b_range (pa_cons (pv 0) pa_nil)) (blkOk_by (own := [("_law_number", 7)]) (N := ["_law_count", "_law_most", "_law_found", "_law_layer", "_law_turn_here", "_law_longer", "_law_row", "_law_number"]) (sc := defScope s_law_rows) (by decide +kernel)) (fun _ _ _ _ _ => (pg_name (i := 7) sc_law_rows.nd rfl (by first | exact Or.inl rfl | exact Or.inr rfl))) (fun _ _ _ _ _ => (pts_one (pt_cmpR (r := rIn K true) op_notIn_seq (pv 7) (pv 6) (by rfl)))) (fun _ _ _ _ _ => (pe_op (r := rCatA K) op_catA (pv 6) (pe_tup (pa_cons (pv 7) pa_nil)))))))))
    (pss_one (ps_par (i := 2) (j := 3) (by rfl) sc_law_rows.nd rfl rfl (by decide) rfl rfl (pa_cons (pe_op op_cat (pv 2) (pv 5)) (pa_cons (pv 5) pa_nil)) (by rfl))))))
    (pss_one (ps_ret (pv 2))))), ?_⟩
  refine ⟨(by show 0 ≤ sizeLine; decide), fun p1 hp1 => ?_⟩
  have s1 := same_new hp1 (.tup [])
  refine ⟨(by show 1 ≤ sizeLine; decide), fun L1 hL1 => ?_⟩
  have s2 := same_new hL1 (.lst [.ref p1])
  refine ⟨(by show 0 ≤ sizeLine; decide), fun p2 hp2 => ?_⟩
  have s3 := same_new hp2 (.tup [])
  refine ⟨(by show 1 ≤ sizeLine; decide), fun L2 hL2 => ?_⟩
  have s4 := same_new hL2 (.lst [.ref p2])
  have s34 := s3.trans s4
  have i1 : IsRw K (upd (upd (upd (upd H p1 (.tup [])) L1 (.lst [.ref p1])) p2 (.tup [])) L2 (.lst [.ref p2])) (.ref p1) [] := ⟨p1, rfl, same_T s34 (same_T s2 (.inl (.inl upd_same)))⟩
  have i2 : IsRw K (upd (upd (upd (upd H p1 (.tup [])) L1 (.lst [.ref p1])) p2 (.tup [])) L2 (.lst [.ref p2])) (.ref p2) [] := ⟨p2, rfl, same_T s4 (.inl (.inl upd_same))⟩
  have h1 : (upd (upd (upd (upd H p1 (.tup [])) L1 (.lst [.ref p1])) p2 (.tup [])) L2 (.lst [.ref p2])) L1 = some (.lst [.ref p1]) := s34 _ _ upd_same
  have h2 : (upd (upd (upd (upd H p1 (.tup [])) L1 (.lst [.ref p1])) p2 (.tup [])) L2 (.lst [.ref p2])) L2 = some (.lst [.ref p2]) := upd_same
  have s04 := s1.trans (s2.trans s34)
  have hn1 : H L1 = none := by
    cases e : H L1 with
    | none => rfl
    | some o => rw [s1 _ _ e] at hL1; cases hL1
  clear s1 s2 s3 s4 s34 hp1 hp2 hL1 hL2
  generalize upd (upd (upd (upd H p1 (.tup [])) L1 (.lst [.ref p1])) p2 (.tup [])) L2 (.lst [.ref p2]) = H4 at *
  refine ⟨_, _, rfl, gn_of ?_⟩
  dsimp only [tNext]
  refine ⟨_, rfl, _, rfl, by omega, by omega, ?_⟩
  refine for_range (lo := 0) (n := ((m : Nat) : Int).toNat) (fun i σ H' => ∃ Lf La us ua x4 x5 x6 x7, σ = [some (.int (c : Int)), some (.int (m : Int)), some (.ref Lf), some (.ref La), x4, x5, x6, x7] ∧ Same H H' ∧ H Lf = none ∧ H' Lf = some (.lst us) ∧ H' La = some (.lst ua) ∧ Paired (IsRw K H') us (rowsF c i) ∧ Paired (IsRw K H') ua (layR c i)) ⟨L1, L2, _, _, none, none, none, none, rfl, s04, hn1, h1, h2, .cons i1 .nil, .cons i2 .nil⟩ ?_ ?_
  · rintro i σ H' hi ⟨Lf, La, us, ua, x4, x5, x6, x7, rfl, s', hnf, hu, ha, pu, pa⟩
    have hi : i < m := by omega
    refine gn_of ?_
    dsimp only
    have lu := Paired.length pu
    have la := Paired.length pa
    have fu := rows_few c c4 i (by omega)
    have fa := lay_few c c4 i (by omega)
    have fn := lay_few c c4 (i + 1) (by omega)
    have li := lay_ok c i
    refine ⟨(by show 0 ≤ sizeLine; decide), fun L5 hL5 => gn_of ?_⟩
    have s5 := same_new hL5 (.lst [])
    have h5 : (upd H' L5 (.lst [])) L5 = some (.lst []) := upd_same
    have hn5 : H L5 = none := by
      cases e : H L5 with
      | none => rfl
      | some o => rw [s' _ _ e] at hL5; cases hL5
    have hu := s5 _ _ hu
    have ha := s5 _ _ ha
    have pu := pimp (fun _ _ i => i.same s5) pu
    have pa := pimp (fun _ _ i => i.same s5) pa
    have s' := s'.trans s5
    clear s5 hL5
    generalize upd H' L5 (.lst []) = H5 at *
    dsimp only [tNext]
    refine ⟨_, rfl, La, rfl, ⟨_, .inl (.inl ha)⟩, for_list (K := K) (a := La) (xs := ua) (fun j σ H2 => ∃ x4 Lo ws x6 x7, σ = [some (.int (c : Int)), some (.int (m : Int)), some (.ref Lf), some (.ref La), x4, some (.ref Lo), x6, x7] ∧ Same H5 H2 ∧ H Lo = none ∧ H2 Lo = some (.lst ws) ∧ Paired (IsRw K H2) ws (nextR c ((layR c i).take j))) ⟨_, L5, [], _, _, rfl, Same.refl _, hn5, h5, .nil⟩ ?_ ?_ ?_⟩
    · rintro j σ H2 _ ⟨_, _, _, _, _, _, s2, _⟩
      exact .inl (.inl (s2 _ _ ha))
    · rintro j x σ H2 hx ⟨y4, Lo, ws, y6, y7, rfl, s2, hno, ho, po⟩
      obtain ⟨r, er, ir⟩ := pgt pa hx
      have lr := (li r (List.mem_of_getElem? er)).len
      refine gn_of ?_
      dsimp only
      have lo := Paired.length po
      have b1 := nextR_len c ((layR c i).take j)
      have b2 : ((layR c i).take j).length ≤ 24 := by rw [List.length_take]; omega
      have b4 : ((layR c i).take j).length * c ≤ 24 * 4 := Nat.mul_le_mul b2 c4
      refine ⟨_, rfl, _, rfl, _, rfl, by omega, by omega, fun D hD => lc_range (lo := 0) (n := (c : Int).toNat) (fun k H3 => ∃ acc, Same H2 H3 ∧ H3 D = some (.lst acc) ∧ Paired (IsRw K H3) acc ((((List.range c).take k).filter fun n => !r.contains n).map fun n => r ++ [n])) ⟨[], same_new hD _, upd_same, .nil⟩ ?_ ?_⟩
      · rintro k H3 hk ⟨acc, s3, hb3, pb3⟩
        have hk : k < c := by omega
        refine ⟨rfl, ?_⟩
        rw [Int.zero_add]
        obtain ⟨pr, rfl, hpr⟩ := ir.same (s2.trans s3)
        refine ⟨_, rfl, _, rfl, pr, rv r, rfl, .inr hpr, rfl, flat_rv r, _, rfl, ?_⟩
        rw [inV_rv, range_more hk, List.filter_append, List.filter_cons, List.filter_nil]
        dsimp only
        have l3 := Paired.length pb3
        have b3 := List.length_filter_le (fun n => !r.contains n) ((List.range c).take k)
        rw [List.length_map] at l3
        rw [List.length_take, List.length_range] at b3
        cases e : r.contains k with
        | true =>
          refine iteF ⟨acc, s3, hb3, ?_⟩
          simpa [e] using pb3
        | false =>
          refine iteT ?_
          refine ⟨_, rfl, _, rfl, (by show 1 ≤ sizeLine; decide), fun p hp => ?_⟩
          have sp := same_new hp (.tup [.int (k : Int)])
          have fin : ∀ (H4 : Hp) (v : V), Same H3 H4 → IsRw K H4 v (r ++ [k]) → ∃ acc, H4 D = some (.lst acc) ∧ acc.length < sizeLine ∧ ∃ ac2, Same H2 (upd H4 D (.lst (acc ++ [v]))) ∧ upd H4 D (.lst (acc ++ [v])) D = some (.lst ac2) ∧ Paired (IsRw K (upd H4 D (.lst (acc ++ [v])))) ac2 (((((List.range c).take k).filter fun n => !r.contains n) ++ [k]).map fun n => r ++ [n]) := fun H4 v s4 iv => by
            have hb4 := s4 _ _ hb3
            have kk := keep_upd (d := D) (H := H4) (o := .lst (acc ++ [v]))
            refine ⟨acc, hb4, small1000 (by omega), acc ++ [v], fun b o h => ?_, upd_same, ?_⟩
            · rw [upd_ne (ne_of_none h hD)]
              exact s4 _ _ (s3 _ _ h)
            · rw [List.map_append]
              exact papp (pimp (fun _ _ i => (i.same s4).keep hb4 kk) pb3) (.cons (iv.keep hb4 kk) .nil)
          rw [Bool.not_false, if_pos rfl]
          have e1 : rv (r ++ [k]) = rv r ++ [V.int (k : Int)] := by unfold rv; rw [List.map_append]; rfl
          refine ⟨pr, p, rv r, [.int (k : Int)], rfl, rfl, same_T sp hpr, .inl (.inl upd_same), small (by rw [rv_len]; show _ + 1 ≤ _; omega), fun e => ?_, fun _ z => (by cases z), fun _ _ p2 hp2 => ?_⟩
          · exact fin _ _ sp ⟨p, rfl, .inl (.inl (by rw [e1, e]; exact upd_same))⟩
          · exact fin _ _ (sp.trans (same_new hp2 _)) ⟨p2, rfl, .inl (.inl (by rw [e1]; exact upd_same))⟩
      · rintro H3 ⟨acc, s3, hb3, pb3⟩
        rw [show (List.range c).take (c : Int).toNat = List.range c from by rw [Int.toNat_natCast, List.take_of_length_le (by rw [List.length_range]; omega)]] at pb3
        have la3 := Paired.length pb3
        have b3 := List.length_filter_le (fun n => !r.contains n) (List.range c)
        rw [List.length_map] at la3
        rw [List.length_range] at b3
        have ho3 := s3 _ _ ho
        refine ⟨Lo, D, ws, acc, rfl, rfl, ho3, hb3, small (by omega), fun L6 hL6 => gn_of ?_⟩
        have s6 := same_new hL6 (.lst (ws ++ acc))
        refine ⟨_, L6, ws ++ acc, _, _, rfl, s2.trans (s3.trans s6), ?_, upd_same, ?_⟩
        · cases e : H L6 with
          | none => rfl
          | some o => rw [s3 _ _ (s2 _ _ (s' _ _ e))] at hL6; cases hL6
        · rw [take_more er, nextR_app, nextR_one]
          exact papp (pimp (fun _ _ i => i.same (s3.trans s6)) po) (pimp (fun _ _ i => i.same s6) pb3)
    · rintro σ H2 ⟨y4, Lo, ws, y6, y7, rfl, s2, hno, ho, po⟩
      rw [la, List.take_length] at po
      refine ⟨_, rfl, _, rfl, Lf, Lo, us, ws, rfl, rfl, s2 _ _ hu, ho, small (by have := Paired.length po; have fn : (nextR c (layR c i)).length ≤ 24 := fn; omega), fun L6 hL6 => ?_⟩
      have s6 := same_new hL6 (.lst (us ++ ws))
      refine ⟨_, rfl, _, _, rfl, ?_⟩
      refine ⟨L6, Lo, us ++ ws, ws, _, _, _, _, rfl, s'.trans (s2.trans s6), ?_, upd_same, s6 _ _ ho, ?_, pimp (fun _ _ i => i.same s6) po⟩
      · cases e : H L6 with
        | none => rfl
        | some o => rw [s2 _ _ (s' _ _ e)] at hL6; cases hL6
      · rw [rowsF_succ]
        exact papp (pimp (fun _ _ i => i.same (s2.trans s6)) pu) (pimp (fun _ _ i => i.same s6) po)
  · rintro σ H' ⟨Lf, La, us, ua, x4, x5, x6, x7, rfl, s', hnf, hu, ha, pu, pa⟩
    exact ⟨_, rfl, q _ _ _ s' hnf hu pu⟩
/-- where a copy carries three ends -/
def endsF (c : Cp) : List Mth.T3 := [ap c (0, 0, 1), ap c (1, 0, 1), ap c (0, 1, 1)]
theorem ends_ok {c : Cp} {n : Nat} (oc : CpOk c) (bc : BC n c) : ∀ z ∈ endsF c, Ok z ∧ B (2 * n + 3) z := fun z hz => by
  unfold endsF at hz
  simp only [List.mem_cons, List.mem_nil_iff, or_false] at hz
  rcases hz with rfl | rfl | rfl
  · exact ⟨ap_ok oc ok_0, (ap_B oc ok_0 bc (m := 1) (by decide)).mono (by omega)⟩
  · exact ⟨ap_ok oc ok_1, (ap_B oc ok_1 bc (m := 1) (by decide)).mono (by omega)⟩
  · exact ⟨ap_ok oc ok_i, (ap_B oc ok_i bc (m := 1) (by decide)).mono (by omega)⟩
theorem ends_more {c e : Cp} (oc : CpOk c) (oe : CpOk e) : (endsF c).map (ap e) = endsF (jn c e) := by
  show [ap e (ap c (0, 0, 1)), ap e (ap c (1, 0, 1)), ap e (ap c (0, 1, 1))] = _
  rw [← jn_ap oc oe ok_0, ← jn_ap oc oe ok_1, ← jn_ap oc oe ok_i]
  rfl
def sp_lmade (K : PySem.W.Frag) : Sp := fun vs H Q _ => ∃ L us as vr r, vs = [.ref L, vr] ∧ SqL K H L us ∧ AllB K H us as ∧ (∀ a ∈ as, ArmIn a) ∧ IsRw K H vr r ∧ RwOk as.length r ∧ ∀ H' v, Same H H' → IsD K H' v (jall (pick as r)) → Q v H'
theorem ok_law_made_by {f : Addr} {fd : FuncData} (d_law_about : D P w K mg base "_law_about" 5 (sp_labout K)) (d_law_carried : D P w K mg base "_law_carried" 4 (sp_lcar K)) (d_law_minus : D P w K mg base "_law_minus" 4 (sp_two K minus)) (d_law_times : D P w K mg base "_law_times" 3 (sp_two K times))
    (F : Fun K "_law_made_by" "_law_made_by" s_law_made_by f fd) : FnOk P w K mg base CX0 6 f fd ["_law_tolds", "_law_row"] (sp_lmade K) := by
  refine F.ok sc_law_made_by (fun vs H Q E h => ?_) (fun cdv A outer s H vs Q E hr h => ?_)
  · obtain ⟨L, us, as, vr, r, rfl, _⟩ := h
    rfl
  obtain ⟨L, us, as, vr, r, rfl, hL, ha, hin, ir, ok, q⟩ := h
  refine ⟨_, (pss_cons (ps_set (i := 2) sc_law_made_by.nd rfl (by first | exact Or.inl rfl | exact Or.inr rfl) (pe_lst (pa_cons (pe_tup (pa_cons pe_int (pa_cons pe_int (pa_cons pe_int pa_nil)))) (pa_cons (pe_tup (pa_cons pe_int (pa_cons pe_int (pa_cons pe_int pa_nil)))) (pa_cons (pe_tup (pa_cons pe_int (pa_cons pe_int (pa_cons pe_int pa_nil)))) pa_nil)))))
    (pss_cons (ps_for PassesOwn.never rfl (pi_tup (pv 1)) (pg_name (i := 3) sc_law_made_by.nd rfl (by first | exact Or.inl rfl | exact Or.inr rfl)) (pss_cons (ps_set (i := 4) sc_law_made_by.nd rfl (by first | exact Or.inl rfl | exact Or.inr rfl) (pc d_law_about (hr.mono (by decide)) (pa_cons (pe_ix (r := rIxL K) ix_list (pv 0) (pv 3) (fun _ _ => rfl)) pa_nil)))
    (pss_one (ps_setLc (i := 2) (own := [("_law_end", 5)]) (g := gName 5) (tt := tYes) (by rfl) sc_law_made_by.nd rfl rfl (sw_true rfl rfl rfl (by decide +kernel)) (pi_list (pv 2)) (blkOk_by (own := [("_law_end", 5)]) (N := ["_law_tolds", "_law_row", "_law_ends", "_law_number", "_law_told_here", "_law_end", "_law_turn_here", "_law_aside"]) (sc := defScope s_law_made_by) (by decide +kernel)) (fun _ _ _ _ _ => (pg_name (i := 5) sc_law_made_by.nd rfl (by first | exact Or.inl rfl | exact Or.inr rfl))) (fun _ _ _ _ _ => pts_nil) (fun _ _ _ _ _ => (pc d_law_carried (hr.mono (by decide)) (pa_cons (pv 4) (pa_cons (pv 5) pa_nil))))))))
    (pss_cons (ps_par (i := 6) (j := 7) (by rfl) sc_law_made_by.nd rfl rfl (by decide) rfl rfl (pa_cons (pc d_law_minus (hr.mono (by decide)) (pa_cons (pe_ix (r := rIxL K) ix_list (pv 2) pe_int (fun _ _ => rfl)) (pa_cons (pe_ix (r := rIxL K) ix_list (pv 2) pe_int (fun _ _ => rfl)) pa_nil))) (pa_cons (pc d_law_minus (hr.mono (by decide)) (pa_cons (pe_ix (r := rIxL K) ix_list (pv 2) pe_int (fun _ _ => rfl)) (pa_cons (pe_ix (r := rIxL K) ix_list (pv 2) pe_int (fun _ _ => rfl)) pa_nil))) pa_nil)) (by rfl))
    (pss_one (ps_ret (pe_tup (pa_cons (pv 6) (pa_cons (pe_ix (r := rIxL K) ix_list (pv 2) pe_int (fun _ _ => rfl)) (pa_cons (pe_cmpR (r := rNeD K) (op_neD hr.units) (pv 7) (pc d_law_times (hr.mono (by decide)) (pa_cons (pv 6) (pa_cons (pe_tup (pa_cons pe_int (pa_cons pe_int (pa_cons pe_int pa_nil)))) pa_nil))) (nomark _)) pa_nil))))))))), ?_⟩
  obtain ⟨pr, rfl, hpr⟩ := ir
  have oks := fun i => (⟨fun a ha => (hin a (pick_mem ha)).ok, fun a ha => (hin a (pick_mem ha)).bc⟩ : (∀ a ∈ pick as (r.take i), AmOk a) ∧ ∀ a ∈ pick as (r.take i), BC 11 (about a))
  have lp : ∀ i, (pick as (r.take i)).length ≤ 4 := fun i => by
    rw [pick_len fun k hk => ok.2 k (List.mem_of_mem_take hk), List.length_take]
    have := ok.1
    omega
  have jo : ∀ i, CpOk (jall (pick as (r.take i))) ∧ BC 99 (jall (pick as (r.take i))) := fun i =>
    ⟨jall_ok (oks i).1, (jall_BC (m := 11) fun a ha => ⟨(oks i).1 a ha, (oks i).2 a ha⟩).mono (by have := lp i; omega)⟩
  refine ⟨(by show 3 ≤ sizeLine; decide), fun p1 h1 => ?_⟩
  have s1 := same_new h1 (.tup [.int 0, .int 0, .int 1])
  refine ⟨(by show 3 ≤ sizeLine; decide), fun p2 h2 => ?_⟩
  have s2 := same_new h2 (.tup [.int 1, .int 0, .int 1])
  refine ⟨(by show 3 ≤ sizeLine; decide), fun p3 h3 => ?_⟩
  have s3 := same_new h3 (.tup [.int 0, .int 1, .int 1])
  refine ⟨(by show 3 ≤ sizeLine; decide), fun Le hLe => gn_of ?_⟩
  have s4 := same_new hLe (.lst [.ref p1, .ref p2, .ref p3])
  have pe : Paired (IsT K (upd (upd (upd (upd H p1 (.tup [.int 0, .int 0, .int 1])) p2 (.tup [.int 1, .int 0, .int 1])) p3 (.tup [.int 0, .int 1, .int 1])) Le (.lst [.ref p1, .ref p2, .ref p3]))) [.ref p1, .ref p2, .ref p3] (endsF (jall [])) :=
    .cons ⟨p1, rfl, same_T (s2.trans (s3.trans s4)) (.inl (.inl upd_same))⟩ (.cons ⟨p2, rfl, same_T (s3.trans s4) (.inl (.inl upd_same))⟩ (.cons ⟨p3, rfl, same_T s4 (.inl (.inl upd_same))⟩ .nil))
  have he : (upd (upd (upd (upd H p1 (.tup [.int 0, .int 0, .int 1])) p2 (.tup [.int 1, .int 0, .int 1])) p3 (.tup [.int 0, .int 1, .int 1])) Le (.lst [.ref p1, .ref p2, .ref p3])) Le = some (.lst [.ref p1, .ref p2, .ref p3]) := upd_same
  have s04 := s1.trans (s2.trans (s3.trans s4))
  clear s1 s2 s3 s4 h1 h2 h3 hLe
  generalize upd (upd (upd (upd H p1 (.tup [.int 0, .int 0, .int 1])) p2 (.tup [.int 1, .int 0, .int 1])) p3 (.tup [.int 0, .int 1, .int 1])) Le (.lst [.ref p1, .ref p2, .ref p3]) = H4 at *
  dsimp only [tNext]
  refine ⟨_, rfl, pr, rfl, ⟨_, same_T s04 hpr⟩, for_tup (K := K) (a := pr) (xs := rv r) (fun i σ H' => ∃ x3 x4 x5 Lc ws, σ = [some (.ref L), some (.ref pr), some (.ref Lc), x3, x4, x5, none, none] ∧ Same H H' ∧ H' Lc = some (.lst ws) ∧ Paired (IsT K H') ws (endsF (jall (pick as (r.take i))))) ⟨none, none, none, Le, _, rfl, s04, he, pe⟩ ?_ ?_ ?_⟩
  · rintro i σ H' _ ⟨_, _, _, _, _, _, s', _⟩
    exact same_T s' hpr
  · rintro i x σ H' hx ⟨x3, x4, x5, Lc, ws, rfl, s', hw, pw⟩
    obtain ⟨n, en, rfl⟩ := rv_at hx
    have hn := ok.2 n (List.mem_of_getElem? en)
    refine gn_of ?_
    dsimp only
    obtain ⟨va, hva, iva⟩ : ∃ va, us[n]? = some va ∧ IsB K H va as[n] := by
      have lu := Paired.length ha
      have eu : us[n]? = some us[n] := List.getElem?_eq_getElem (by omega)
      obtain ⟨a, ea, ia⟩ := pgt ha eu
      rw [List.getElem?_eq_getElem hn] at ea
      exact ⟨_, eu, by rw [Option.some.inj ea]; exact ia⟩
    have ai := hin as[n] (List.getElem_mem hn)
    refine ⟨_, rfl, _, rfl, L, us, (n : Int), va, rfl, rfl, s'.seq hL, atI_nat hva, ?_⟩
    refine ⟨va, as[n], rfl, iva.same s', ai.ok, ai.bp.mono (by decide), ai.bt.mono (by decide), fun H1 r1 s1 i1 => gn_of ?_⟩
    dsimp only [tNext]
    have hw1 := s1 _ _ hw
    have pw1 := pimp (fun _ _ i => IsT.same i s1) pw
    obtain ⟨oc, bc⟩ := jo i
    refine ⟨_, rfl, Lc, rfl, ⟨_, .inl (.inl hw1)⟩, fun D hD => lc_list (K := K) (a := Lc) (xs := ws) (fun j H2 => ∃ acc, Same H1 H2 ∧ H2 D = some (.lst acc) ∧ Paired (IsT K H2) acc (((endsF (jall (pick as (r.take i)))).take j).map (ap (about as[n])))) ⟨[], same_new hD _, upd_same, .nil⟩ ?_ ?_ ?_⟩
    · rintro j H2 _ ⟨_, s2, _⟩
      exact .inl (.inl (s2 _ _ hw1))
    · rintro j y H2 hy ⟨acc, s2, hb, pb⟩
      obtain ⟨z, ez, iz⟩ := pgt pw1 hy
      have mz := List.mem_of_getElem? ez
      obtain ⟨oz, bz⟩ := ends_ok oc bc z mz
      refine ⟨rfl, yes_of ?_⟩
      refine ⟨_, rfl, _, rfl, _, about as[n], _, z, rfl, i1.same s2, about_ok ai.ok, ai.bc.mono (by decide), iz.same s2, oz, bz.mono (by decide), fun H3 r3 s3 i3 => ?_⟩
      have hb3 := s3 _ _ hb
      have kk := keep_upd (d := D) (H := H3) (o := .lst (acc ++ [r3]))
      have lb := Paired.length pb
      rw [List.length_map, List.length_take] at lb
      have l3 : (endsF (jall (pick as (r.take i)))).length = 3 := rfl
      refine ⟨acc, hb3, small1000 (by omega), acc ++ [r3], fun b o h => ?_, upd_same, ?_⟩
      · rw [upd_ne (ne_of_none h hD)]
        exact s3 _ _ (s2 _ _ h)
      · rw [tk_map _ ez]
        exact papp (pimp (fun _ _ i => (IsT.same i s3).keep hb3 kk) pb) (.cons (i3.keep hb3 kk) .nil)
    rintro H2 ⟨acc, s2, hb, pb⟩
    have lw := Paired.length pw
    rw [lw, List.take_length, ends_more oc (about_ok ai.ok), ← jall_snoc, ← pick_take en (List.getElem?_eq_getElem hn)] at pb
    refine gn_of ?_
    exact ⟨_, _, _, D, acc, rfl, s'.trans (s1.trans s2), hb, pb⟩
  rintro σ H' ⟨x3, x4, x5, Lc, ws, rfl, s', hw, pw⟩
  rw [rv_len, List.take_length] at pw
  obtain ⟨oc, bc⟩ := jo r.length
  rw [List.take_length] at oc bc
  obtain ⟨w0, w1, w2, rfl⟩ : ∃ w0 w1 w2, ws = [w0, w1, w2] := by
    have := Paired.length pw
    match ws, this with
    | [a, b, c], _ => exact ⟨a, b, c, rfl⟩
  obtain ⟨i0, i1, i2⟩ : IsT K H' w0 (ap (jall (pick as r)) (0, 0, 1)) ∧ IsT K H' w1 (ap (jall (pick as r)) (1, 0, 1)) ∧ IsT K H' w2 (ap (jall (pick as r)) (0, 1, 1)) := by
    cases pw with
    | cons a t =>
      cases t with
      | cons b t =>
        cases t with
        | cons c t => exact ⟨a, b, c⟩
  have e0 := ends_ok oc bc
  obtain ⟨o0, b0⟩ := e0 _ (.head _)
  obtain ⟨o1, b1⟩ := e0 _ (.tail _ (.head _))
  obtain ⟨o2, b2⟩ := e0 _ (.tail _ (.tail _ (.head _)))
  dsimp only [tNext]
  refine ⟨_, rfl, Lc, _, 1, _, rfl, rfl, .inl (.inl hw), rfl, _, rfl, Lc, _, 0, _, rfl, rfl, .inl (.inl hw), rfl, _, _, _, _, rfl, i1, i0, o1, o0, b1.mono (by decide), b0.mono (by decide), fun H1 r1 s1 j1 => ?_⟩
  rw [ends_t oc] at j1
  have hw1 := s1 _ _ hw
  refine ⟨_, rfl, Lc, _, 2, _, rfl, rfl, .inl (.inl hw1), rfl, _, rfl, Lc, _, 0, _, rfl, rfl, .inl (.inl hw1), rfl, _, _, _, _, rfl, i2.same s1, i0.same s1, o2, o0, b2.mono (by decide), b0.mono (by decide), fun H2 r2 s2 j2 => ?_⟩
  refine ⟨_, _, rfl, ?_⟩
  dsimp only [tNext]
  have hw2 := s2 _ _ hw1
  have j1 := j1.same s2
  have i0 := (i0.same s1).same s2
  rw [ends_s oc] at i0
  refine ⟨_, rfl, _, rfl, Lc, _, 0, _, rfl, rfl, .inl (.inl hw2), rfl, _, rfl, _, rfl, (by show 3 ≤ sizeLine; decide), fun p hp => ?_⟩
  have sp := same_new hp (.tup [.int 0, .int 1, .int 1])
  dsimp only [tNil]
  have bt := bc.1
  refine ⟨_, _, (jall (pick as r)).t, (0, 1, 1), rfl, j1.same sp, ⟨p, rfl, .inl (.inl upd_same)⟩, oc.t, ok_i, bt.mono (by decide), (by decide), fun H4 r4 s4 i4 => ?_⟩
  have sp4 := sp.trans s4
  refine ⟨_, _, (j2.same sp4).dp, i4.dp, shaped3 _, shaped3 _, ?_⟩
  rw [eqv3]
  refine ⟨(by show 3 ≤ sizeLine; decide), fun p5 hp5 => ?_⟩
  have em : (!decide (minus (ap (jall (pick as r)) (0, 1, 1)) (ap (jall (pick as r)) (0, 0, 1)) = times (jall (pick as r)).t (0, 1, 1))) = (jall (pick as r)).m := by
    cases h : (jall (pick as r)).m with
    | false => rw [decide_eq_true ((ends_m oc).mpr h)]; rfl
    | true => rw [decide_eq_false fun z => by rw [(ends_m oc).mp z] at h; cases h]; rfl
  rw [em]
  obtain ⟨a1, rfl, t1⟩ := (j1.same sp4)
  obtain ⟨a0, rfl, t0⟩ := (i0.same sp4)
  have s5 := same_new hp5 (.tup [.ref a1, .ref a0, .bl (jall (pick as r)).m])
  exact q _ _ (s'.trans (s1.trans (s2.trans (sp4.trans s5)))) ⟨p5, a1, a0, rfl, .inl (.inl upd_same), same_T s5 t1, same_T s5 t0⟩
/-! ### rows as data -/
def dRw (r : List Nat) : PyData := .tuple (r.map fun (n : Nat) => .int (n : Int))
theorem dpInts {H : Hp} : ∀ r : List Nat, DpAll K H (rv r) (r.map fun (n : Nat) => .int (n : Int))
  | [] => .nil
  | n :: r => .cons (.int _) (dpInts r)
theorem IsRw.dp {H : Hp} {v : V} {r : List Nat} (h : IsRw K H v r) : Dp K H v (dRw r) := by
  obtain ⟨p, rfl, h⟩ := h
  exact .tup h (dpInts r)
theorem dRws {H : Hp} {vs : List V} {rs : List (List Nat)} (h : Paired (IsRw K H) vs rs) : DpAll K H vs (rs.map dRw) := by
  induction h with
  | nil => exact .nil
  | cons r _ ih => exact .cons (IsRw.dp r) ih
theorem deepRw {n : Nat} {r : List Nat} (h : r.length ≤ 1000) : Deep (n + 2) (dRw r) := by
  refine ⟨by show (r.map _).length ≤ 1000; rw [List.length_map]; exact h, fun x hx => ?_⟩
  obtain ⟨m, _, rfl⟩ := List.mem_map.mp hx
  trivial
theorem deepRws {n : Nat} {rs : List (List Nat)} (h : rs.length ≤ 1000) (hr : ∀ r ∈ rs, r.length ≤ 1000) : Deep (n + 3) (.list (rs.map dRw)) := by
  refine ⟨by show (rs.map _).length ≤ 1000; rw [List.length_map]; exact h, fun x hx => ?_⟩
  obtain ⟨r, h1, rfl⟩ := List.mem_map.mp hx
  exact deepRw (hr r h1)
end
end My

namespace My
open PySem L2 Mth LamX
section
variable {K : PySem.W.Frag}
/-! ### lists of told copies and of spots as data, their sorting and their sets -/
def dC (c : Cp) : PyData := .tuple [d3 c.t, d3 c.s, .bool c.m]
theorem IsD.dp {H : Hp} {v : V} {c : Cp} (h : IsD K H v c) : Dp K H v (dC c) := by
  obtain ⟨p, a, b, rfl, h1, h2, h3⟩ := h
  exact .tup h1 (.cons (Dp3 h2) (.cons (Dp3 h3) (.cons (.bl _) .nil)))
theorem dCs {H : Hp} {vs : List V} {cs : List Cp} (h : AllD K H vs cs) : DpAll K H vs (cs.map dC) := by
  induction h with
  | nil => exact .nil
  | cons r _ ih => exact .cons (IsD.dp r) ih
theorem eqvCC (c : Cp) : PyData.eqv (dC c) (dC c) = true := by
  show (PyData.eqv (d3 c.t) (d3 c.t) && (PyData.eqv (d3 c.s) (d3 c.s) && ((c.m == c.m) && true))) = true
  rw [eqv3, eqv3, decide_eq_true rfl, decide_eq_true rfl]
  cases c.m <;> rfl
theorem eqvAll_refl : ∀ (xs : List PyData), (∀ x ∈ xs, PyData.eqv x x = true) → PyData.eqvAll xs xs = true
  | [], _ => rfl
  | x :: xs, h => by
    show (PyData.eqv x x && PyData.eqvAll xs xs) = true
    rw [h x List.mem_cons_self, eqvAll_refl xs fun y hy => h y (List.mem_cons_of_mem _ hy)]
    rfl
theorem eqvL_refl (xs : List PyData) (h : ∀ x ∈ xs, ∃ c, x = dC c) : PyData.eqv (.list xs) (.list xs) = true := eqvAll_refl xs fun x hx => by
  obtain ⟨c, rfl⟩ := h x hx
  exact eqvCC c
theorem shapedCs (xs : List PyData) (h : ∀ x ∈ xs, ∃ c, x = dC c) : SeqAt.shaped (.list xs) = true := shapedL fun x hx => by
  obtain ⟨c, rfl⟩ := h x hx
  exact ⟨rfl, by show 2 ≤ 60; decide⟩
theorem memC (cs : List Cp) : ∀ x ∈ cs.map dC, ∃ c, x = dC c := fun x hx => by
  obtain ⟨c, _, e⟩ := List.mem_map.mp hx
  exact ⟨c, e.symm⟩
theorem pget' {α β : Type} {R : α → β → Prop} : ∀ {ps : List α} {ts : List β}, Paired R ps ts → ∀ {i : Nat} {t : β}, ts[i]? = some t → ∃ p, ps[i]? = some p ∧ R p t
  | _, _, .nil, i, t, h => by simp at h
  | p :: _, _, .cons r u, i, t, h => by
    cases i with
    | zero =>
      simp at h
      exact ⟨p, rfl, h ▸ r⟩
    | succ i =>
      obtain ⟨q, h1, h2⟩ := pget' u (show _ from by simpa using h)
      exact ⟨q, by simpa using h1, h2⟩
theorem eqvC (a b : Cp) : PyData.eqv (dC a) (dC b) = ceq a b := by
  show (PyData.eqv (d3 a.t) (d3 b.t) && (PyData.eqv (d3 a.s) (d3 b.s) && ((a.m == b.m) && true))) = _
  rw [eqv3, eqv3]
  unfold ceq
  congr 1
  congr 1
  cases a.m <;> cases b.m <;> rfl
theorem unmap {α : Type} {f : α → PyData} : ∀ {ds : List PyData}, (∀ d ∈ ds, ∃ x, d = f x) → ∃ xs : List α, ds = xs.map f
  | [], _ => ⟨[], rfl⟩
  | d :: ds, h => by
    obtain ⟨x, e⟩ := h d (.head _)
    obtain ⟨xs, e2⟩ := unmap (ds := ds) fun y hy => h y (.tail _ hy)
    exact ⟨x :: xs, by rw [e, e2]; rfl⟩
theorem srt_of {α : Type} (f : α → PyData) (inj : ∀ x y, nk (f x) = nk (f y) → x = y) {xs : List α} {L : List RowD} (h1 : ∀ p ∈ L, p.2 ∈ xs.map f) (h2 : ∀ d ∈ xs.map f, nk d ∈ L.map fun p => nk p.2) (nd : (L.map fun p => nk p.2).Nodup) :
    ∃ zs : List α, (L.map (·.2)).mergeSort leD = zs.map f ∧ zs.Nodup ∧ ∀ z, z ∈ zs ↔ z ∈ xs := by
  have pm := List.mergeSort_perm (L.map (·.2)) leD
  obtain ⟨zs, e⟩ := unmap (f := f) (ds := (L.map (·.2)).mergeSort leD) fun d hd => by
    obtain ⟨p, hp, rfl⟩ := List.mem_map.mp (pm.mem_iff.mp hd)
    obtain ⟨x, _, e⟩ := List.mem_map.mp (h1 p hp)
    exact ⟨x, e.symm⟩
  have nd2 : (L.map (·.2)).Nodup := nodup_of_map (f := nk) (by rw [List.map_map]; exact nd)
  have finj : ∀ x y, f x = f y → x = y := fun x y q => inj x y (congrArg nk q)
  refine ⟨zs, e, ?_, fun z => ?_⟩
  · have : (zs.map f).Nodup := by rw [← e]; exact pm.nodup_iff.mpr nd2
    exact nodup_of_map this
  · have m : z ∈ zs ↔ f z ∈ L.map (·.2) := by
      rw [← pm.mem_iff, e]
      exact ⟨fun h => List.mem_map.mpr ⟨z, h, rfl⟩, fun h => by
        obtain ⟨y, hy, q⟩ := List.mem_map.mp h
        rw [← finj y z q]; exact hy⟩
    rw [m]
    constructor
    · intro h
      obtain ⟨p, hp, q⟩ := List.mem_map.mp h
      obtain ⟨x, hx, q2⟩ := List.mem_map.mp (h1 p hp)
      rw [← finj x z (q2.trans q)]
      exact hx
    · intro h
      obtain ⟨p, hp, q⟩ := List.mem_map.mp (h2 (f z) (List.mem_map.mpr ⟨z, h, rfl⟩))
      obtain ⟨x, hx, q2⟩ := List.mem_map.mp (h1 p hp)
      rw [← q2] at q
      rw [← inj x z q, q2]
      exact List.mem_map.mpr ⟨p, hp, rfl⟩
theorem nk_d3 {x y : Mth.T3} (e : nk (d3 x) = nk (d3 y)) : x = y := by
  obtain ⟨e1, e2, e3⟩ := nk3_inj (show nk3 x.1 x.2.1 x.2.2 = nk3 y.1 y.2.1 y.2.2 from e)
  exact Prod.ext e1 (Prod.ext e2 e3)
theorem nk_dC {x y : Cp} (e : nk (dC x) = nk (dC y)) : x = y := by
  have e : NestedKey.tup [nk (d3 x.t), nk (d3 x.s), .num (if x.m = true then 1 else 0)] = NestedKey.tup [nk (d3 y.t), nk (d3 y.s), .num (if y.m = true then 1 else 0)] := e
  injection e with e
  simp only [List.cons.injEq, NestedKey.num.injEq, and_true] at e
  obtain ⟨e1, e2, e3⟩ := e
  have m : x.m = y.m := by
    cases h1 : x.m <;> cases h2 : y.m <;> rw [h1, h2] at e3 <;> first | rfl | exact absurd e3 (by decide)
  have t := nk_d3 e1
  have s := nk_d3 e2
  cases x
  cases y
  simp only [Cp.mk.injEq]
  exact ⟨t, s, m⟩
theorem tup3 (z : Mth.T3) : TupD (d3 z) := ⟨⟨_, rfl⟩, rfl, rfl, by simp [nk, nks, d3, NestedKey.depth, NestedKey.depthAll]⟩
theorem tupC (c : Cp) : TupD (dC c) := ⟨⟨_, rfl⟩, rfl, rfl, by simp [nk, nks, d3, dC, NestedKey.depth, NestedKey.depthAll]⟩
theorem alike3 {ds : List PyData} (h : ∀ d ∈ ds, ∃ z, d = d3 z) : PySem.W.AllAlike ds := fun x hx y hy => by
  obtain ⟨a, rfl⟩ := h x hx
  obtain ⟨b, rfl⟩ := h y hy
  rfl
theorem alikeD {ds : List PyData} (h : ∀ d ∈ ds, ∃ c, d = dC c) : PySem.W.AllAlike ds := fun x hx y hy => by
  obtain ⟨a, rfl⟩ := h x hx
  obtain ⟨b, rfl⟩ := h y hy
  rfl
theorem sort3 {ds : List PyData} (h : ∀ d ∈ ds, ∃ z, d = d3 z) : PySem.W.Sortable ds := .inl fun x hx => by
  obtain ⟨a, rfl⟩ := h x hx
  exact ⟨_, _, rfl⟩
theorem sortD {ds : List PyData} (h : ∀ d ∈ ds, ∃ c, d = dC c) : PySem.W.Sortable ds := .inl fun x hx => by
  obtain ⟨a, rfl⟩ := h x hx
  exact ⟨_, _, rfl⟩
theorem dep3 {ds : List PyData} (h : ∀ d ∈ ds, ∃ z, d = d3 z) : ∀ x ∈ ds, x.depth ≤ 60 := fun x hx => by
  obtain ⟨a, rfl⟩ := h x hx
  simp [d3, PyData.depth, PyData.depthAll]
theorem depD {ds : List PyData} (h : ∀ d ∈ ds, ∃ c, d = dC c) : ∀ x ∈ ds, x.depth ≤ 60 := fun x hx => by
  obtain ⟨a, rfl⟩ := h x hx
  simp [dC, d3, PyData.depth, PyData.depthAll]
theorem nlC (c : Cp) : nlB (dC c) = true := rfl
theorem last_at {α : Type} {xs : List α} {v : α} (h : xs[xs.length - 1]? = some v) : atI xs (-1) = some v := by
  have l := (List.getElem?_eq_some_iff.mp h).1
  unfold atI ixN
  rw [if_neg (by decide), if_pos (by omega)]
  show xs[((-1 : Int) + xs.length).toNat]? = some v
  rw [show ((-1 : Int) + xs.length).toNat = xs.length - 1 by omega]
  exact h
variable {K : PySem.W.Frag}
end
end My

namespace My
open PySem L2 Mth LamX
abbrev s_law : Stmt := topS 87
theorem sc_law : FnScope ["_law_script", "_law_d", "_law_tolds", "_law_box_here", "_law_rows_here", "_law_told_here", "_law_made", "_law_row", "_law_k", "_law_count", "_law_due", "_law_number", "_law_rest", "_law_odd", "_law_calls"] ["_law_script"] (defScope s_law) := ⟨rfl, rfl, rfl, by decide +kernel, rfl, by decide +kernel, by decide +kernel⟩
section
variable {P : Program} {w : World} {K : PySem.W.Frag} {mg : Str → Option Value} {base : Heap}
def spLaw (K : PySem.W.Frag) (PL : Addr) : Sp := fun vs H Q _ => ∃ (a : Addr) (ns : List Int), vs = [.ref a] ∧ SqL K H a (ns.map V.int) ∧ ns.length ≤ 63 ∧ H PL = some (.tbl #[]) ∧ ∀ H', Q (.bl true) H'
abbrev qL : Str := ("law" ++ ".<locals>." : Str) ++ ("<lambda>" : Str)
theorem shapedC (c : Cp) : SeqAt.shaped (dC c) = true := rfl
theorem slB1 {H : Hp} {Q : VK} {t : Addr} {us : List V} (h : SqT K H t us) (q : ∀ H' p, Same H H' → SqT K H' p (us.take 1) → Q (.ref p) H') : rSlA K (.ref t) none (some 1) H Q := by
  have e : cutV us none (some (1 : Int)) = us.take 1 := by
    show cutV us none (some ((1 : Nat) : Int)) = _
    unfold cutV
    rw [HT.sIx_none, HT.sIx_nat, List.drop_zero, Nat.sub_zero]
    by_cases h : 1 ≤ us.length
    · rw [Nat.min_eq_left h]
    · rw [Nat.min_eq_right (by omega), List.take_length, List.take_of_length_le (by omega)]
  refine ⟨t, us, rfl, h, fun ⟨h1, h2⟩ => ?_, fun _ p hp => ?_⟩
  · have h2 : HT.sIx us.length us.length (some ((1 : Nat) : Int)) = us.length := h2
    rw [HT.sIx_nat] at h2
    refine q H t (Same.refl H) ?_
    rw [List.take_of_length_le (by omega)]
    exact h
  · rw [e]
    exact q _ p (same_new hp _) (.inl (.inl upd_same))
theorem IsDe {H H' : Hp} {v : V} {c : Cp} (h : IsD K H v c) (e : ExtN H H') : IsD K H' v c := by
  obtain ⟨p, x, y, rfl, h1, h2, h3⟩ := h
  exact ⟨p, x, y, rfl, extN_T h1 e, extN_T h2 e, extN_T h3 e⟩
theorem BadBx.ext {H H' : Hp} {v : V} (h : BadBx K H v) (e : ExtN H H') : BadBx K H' v := by
  obtain ⟨p, us, rfl, h1, h2, h3⟩ := h
  exact ⟨p, us, rfl, extN_T h1 e, h2, h3⟩
theorem same_len {xs ys : List Cp} (nx : xs.Nodup) (ny : ys.Nodup) (h : ∀ z, z ∈ xs ↔ z ∈ ys) : xs.length = ys.length :=
  Nat.le_antisymm (nodup_leC nx fun z hz => (h z).mp hz) (nodup_leC ny fun z hz => (h z).mpr hz)
/-- what stands while the law runs -/
structure S28 (K : PySem.W.Frag) (C CA PL d LT : Addr) (ust : List V) (as : List Am) (pb LR : Addr) (ur : List V) (rs : List (List Nat)) (LM : Addr) (um : List V) (H : Hp) : Prop where
  hd : ∃ st, H d = some (.lst (encD st)) ∧ SrcOk st
  tb : TabS H PL qL
  hT : H LT = some (.lst ust)
  aT : AllB K H ust as
  ib : IsBx K C CA H (.ref pb) as
  hR : H LR = some (.lst ur)
  aR : Paired (IsRw K H) ur rs
  hM : H LM = some (.lst um)
  aM : AllD K H um (mbs as rs)
theorem S28.same {C CA PL d LT : Addr} {ust : List V} {as : List Am} {pb LR : Addr} {ur : List V} {rs : List (List Nat)} {LM : Addr} {um : List V} {H H' : Hp} (S : S28 K C CA PL d LT ust as pb LR ur rs LM um H) (s : Same H H') : S28 K C CA PL d LT ust as pb LR ur rs LM um H' := by
  obtain ⟨⟨st, h1, h2⟩, tb, hT, aT, ib, hR, aR, hM, aM⟩ := S
  exact ⟨⟨st, s _ _ h1, h2⟩, tb.ext s, s _ _ hT, AllB.same aT s, ib.same s, s _ _ hR, pimp (fun _ _ i => i.same s) aR, s _ _ hM, pimp (fun _ _ i => i.same s) aM⟩
theorem S28.keep {C CA PL d LT : Addr} {ust : List V} {as : List Am} {pb LR : Addr} {ur : List V} {rs : List (List Nat)} {LM : Addr} {um : List V} {H H' : Hp} {st0 st' : Src} (S : S28 K C CA PL d LT ust as pb LR ur rs LM um H) (n1 : LT ≠ d) (n2 : LR ≠ d) (n3 : LM ≠ d) (h0 : H d = some (.lst (encD st0))) (k : Keep d H H') (h' : H' d = some (.lst (encD st'))) (o' : SrcOk st') : S28 K C CA PL d LT ust as pb LR ur rs LM um H' := by
  obtain ⟨_, tb, hT, aT, ib, hR, aR, hM, aM⟩ := S
  exact ⟨⟨st', h', o'⟩, TabS.keep tb h0 k, k _ _ n1 hT, AllB.keep aT h0 k, ib.keep h0 k, k _ _ n2 hR, pimp (fun _ _ i => i.keep h0 k) aR, k _ _ n3 hM, pimp (fun _ _ i => i.keep h0 k) aM⟩
abbrev sg28 (a d LT pb LR : Addr) (x5 : Option V) (LM : Addr) (x7 x8 x9 x10 x11 x12 x13 x14 : Option V) : L2.St := [some (.ref a), some (.ref d), some (.ref LT), some (.ref pb), some (.ref LR), x5, some (.ref LM), x7, x8, x9, x10, x11, x12, x13, x14]
theorem sig_of {t : L2.St → Hp → Prop} {σ σ' : L2.St} {H : Hp} (e : σ = σ') (h : t σ' H) : t σ H := e ▸ h
theorem ok_law {f CB PL cL g C CA fC fA gA : Addr} {fdC fdA' fdA : FuncData} {mvC dsC mvA dsA : List Value} {Cs : Nat → Addr} {oc kV doc pm ct oc' kV' doc' pm' ct' cdv' : Value} {od an od' an' : Option Addr} {osl osl' : Array (Option Value)}
    (TC : CopyI P w K mg base C fC fdC mvC dsC) (TA : ArmI P w K mg base C CA fA fdA' mvA dsA)
    (b_len : mg "len" = none) (b_range : mg "range" = none) (b_tuple : mg "tuple" = none) (b_int : mg "int" = none) (b_sorted : mg "sorted" = none) (b_set : mg "set" = none) (b_isinstance : mg "isinstance" = none) (b_ValueError : mg "ValueError" = none)
    (m_B : mg "CopyError" = some (.ref CB)) (ER : Errs K mg CB Cs [10]) (m_E : mg "_law_error_of" = some (.ref g)) (k_E : PySem.W.keepIn K (.ref g) = true)
    (l_E : K.lookup g = some ⟨oc', od', .func (PySem.W.fnOf "_law_error_of" "_law_error_of" (defArgs s_law_error_of) (defBody s_law_error_of) (defScope s_law_error_of) .none kV' doc' pm' an' cdv' ct'), osl'⟩) (c_E : PySem.W.codeIn K cdv' "_law_error_of" = true)
    (b_E : Binds K (PySem.W.fnOf "_law_error_of" "_law_error_of" (defArgs s_law_error_of) (defBody s_law_error_of) (defScope s_law_error_of) .none kV' doc' pm' an' cdv' ct') ["_law_call"] [])
    (m_AR : mg "_law_all_raise" = some (.ref gA)) (k_AR : PySem.W.keepIn K (.ref gA) = true) (F_AR : Fun K "_law_all_raise" "_law_all_raise" s_law_all_raise gA fdA) (B_AR : Binds K fdA ["_law_calls", "_law_expected"] [])
    (d_law_random : D P w K mg base "_law_random" 1 (sp_random K)) (d_law_below : D P w K mg base "_law_below" 1 sp_below) (d_law_box : D P w K mg base "_law_box" 5 (sp_lbox K)) (d_law_arm : D P w K mg base "_law_arm" 9 (sp_armOf K C CA)) (d_law_rows : D P w K mg base "_law_rows" 1 (sp_lrows K)) (d_law_made_by : D P w K mg base "_law_made_by" 6 (sp_lmade K))
    (d_law_told : D P w K mg base "_law_told" 4 (sp_draw fun H r => ∃ c, IsD K H r c ∧ CopyIn c)) (d_law_equal : D P w K mg base "_law_equal" 4 (sp_equal K 4)) (d_law_copy : D P w K mg base "_law_copy" 6 (sp_copyOf K C))
    (d_rows_for : D P w K mg base "rows_for" 8 (sp_rwf K C CA)) (d_copy_count : D P w K mg base "copy_count" 9 (sp_cct K C CA)) (d_needless_arms : D P w K mg base "needless_arms" 10 (sp_nda K C CA))
    (d_rows_forX : DX P w K mg base "rows_for" 8 (sp_rwfX K (Cs 10))) (d_copy_countX : DX P w K mg base "copy_count" 9 (sp_bad1 K (Cs 10))) (d_needless_armsX : DX P w K mg base "needless_arms" 10 (sp_bad1 K (Cs 10)))
    (TBL : TabB base mg cL PL) (lk : K.lookup f = some ⟨oc, od, .func (PySem.W.fnOf "law" "law" (defArgs s_law) (defBody s_law) (defScope s_law) .none kV doc pm an (.ref cL) ct), osl⟩) (hcd : PySem.W.codeIn K (.ref cL) "law" = true) :
    FnOk P w K mg base CX0 14 f (PySem.W.fnOf "law" "law" (defArgs s_law) (defBody s_law) (defScope s_law) .none kV doc pm an (.ref cL) ct) ["_law_script"] (spLaw K PL) := by
  refine fn_of lk hcd sc_law (fun vs H Q E h => ?_) (fun A outer s H vs Q E hr h => ?_)
  · obtain ⟨a, ns, rfl, _⟩ := h
    rfl
  obtain ⟨a, ns, rfl, hS, h63, hT, q⟩ := h
  refine (?_ : ∃ t, PSs (cxOf CX0 P w K mg base _ _ _ f (.ref cL) A outer s H E).nox _ t ∧ _).imp fun t h => ⟨h.1.nox, h.2⟩
  refine ⟨_, (pss_cons (ps_set (i := 1) sc_law.nd rfl (by first | exact Or.inl rfl | exact Or.inr rfl) (pc d_law_random (hr.mono (by decide)) (pa_cons (pv 0) (pa_cons pe_int pa_nil))))
    (pss_cons (ps_set (i := 2) sc_law.nd rfl (by first | exact Or.inl rfl | exact Or.inr rfl) (pc d_law_box (hr.mono (by decide)) (pa_cons (pv 1) (pa_cons pe_int pa_nil))))
    (pss_cons (ps_asg (pe_tup (pa_cons (pe_callTy call_tuple_of (by rfl) b_tuple (by decide +kernel) (pa_cons (pe_lc (own := [("_law_told_here", 5)]) (g := gName 5) (tt := tYes) (by rfl) sc_law.nd (pi_list (pv 2)) (blkOk_by (own := [("_law_told_here", 5)]) (N := ["_law_script", "_law_d", "_law_tolds", "_law_box_here", "_law_rows_here", "_law_told_here", "_law_made", "_law_row", "_law_k", "_law_count", "_law_due", "_law_number", "_law_rest", "_law_odd", "_law_calls"]) (sc := defScope s_law) (by decide +kernel)) (fun _ _ _ _ _ => (pg_name (i := 5) sc_law.nd rfl (by first | exact Or.inl rfl | exact Or.inr rfl))) (fun _ _ _ _ _ => pts_nil) (fun _ _ _ _ _ => (pc d_law_arm (hr.mono (by decide)) (pa_cons (pv 5) pa_nil)))) pa_nil)) (pa_cons (pc d_law_rows (hr.mono (by decide)) (pa_cons (pe_callB call_len_seq (by rfl) b_len PySem.boot_len (pa_cons (pv 2) pa_nil)) (pa_cons (pe_callB call_len_seq (by rfl) b_len PySem.boot_len (pa_cons (pv 2) pa_nil)) pa_nil))) pa_nil))) (pg_tup rfl (pgs_cons (pg_name (i := 3) sc_law.nd rfl (by first | exact Or.inl rfl | exact Or.inr rfl)) (pgs_cons (pg_name (i := 4) sc_law.nd rfl (by first | exact Or.inl rfl | exact Or.inr rfl)) pgs_nil))))
    (pss_cons (ps_set (i := 6) sc_law.nd rfl (by first | exact Or.inl rfl | exact Or.inr rfl) (pe_lc (own := [("_law_row", 7)]) (g := gName 7) (tt := tYes) (by rfl) sc_law.nd (pi_list (pv 4)) (blkOk_by (own := [("_law_row", 7)]) (N := ["_law_script", "_law_d", "_law_tolds", "_law_box_here", "_law_rows_here", "_law_told_here", "_law_made", "_law_row", "_law_k", "_law_count", "_law_due", "_law_number", "_law_rest", "_law_odd", "_law_calls"]) (sc := defScope s_law) (by decide +kernel)) (fun _ _ _ _ _ => (pg_name (i := 7) sc_law.nd rfl (by first | exact Or.inl rfl | exact Or.inr rfl))) (fun _ _ _ _ _ => pts_nil) (fun _ _ _ _ _ => (pc d_law_made_by (hr.mono (by decide)) (pa_cons (pv 2) (pa_cons (pv 7) pa_nil))))))
    (pss_cons (ps_set (i := 5) sc_law.nd rfl (by first | exact Or.inl rfl | exact Or.inr rfl) (pe_ifExp (pt_cmpR (op_gt) (pc d_law_below (hr.mono (by decide)) (pa_cons (pv 1) (pa_cons pe_int pa_nil))) pe_int (nomark _)) (pe_ix (r := rIxL K) ix_list (pv 6) (pc d_law_below (hr.mono (by decide)) (pa_cons (pv 1) (pa_cons (pe_callB call_len_seq (by rfl) b_len PySem.boot_len (pa_cons (pv 6) pa_nil)) pa_nil))) (fun _ _ => rfl)) (pc d_law_told (hr.mono (by decide)) (pa_cons (pv 1) pa_nil))))
    (pss_cons (ps_if (pt_not (pt_val (pc d_law_equal (hr.mono (by decide)) (pa_cons (pc d_rows_for (hr.mono (by decide)) (pa_cons (pv 3) (pa_cons (pc d_law_copy (hr.mono (by decide)) (pa_cons (pv 5) pa_nil)) pa_nil))) (pa_cons (pe_lc (own := [("_law_k", 8)]) (g := gName 8) (by rfl) sc_law.nd (pi_range1 (by rfl) b_range (pa_cons (pe_callB call_len_seq (by rfl) b_len PySem.boot_len (pa_cons (pv 4) pa_nil)) pa_nil)) (blkOk_by (own := [("_law_k", 8)]) (N := ["_law_script", "_law_d", "_law_tolds", "_law_box_here", "_law_rows_here", "_law_told_here", "_law_made", "_law_row", "_law_k", "_law_count", "_law_due", "_law_number", "_law_rest", "_law_odd", "_law_calls"]) (sc := defScope s_law) (by decide +kernel)) (fun _ _ _ _ _ => (pg_name (i := 8) sc_law.nd rfl (by first | exact Or.inl rfl | exact Or.inr rfl))) (fun _ _ _ _ _ => (pts_one (pt_cmpR (r := rEqD K) (op_eqD hr.units) (pe_ix (r := rIxL K) ix_list (pv 6) (pv 8) (fun _ _ => rfl)) (pv 5) (nomark _)))) (fun _ _ _ _ _ => (pe_ix (r := rIxL K) ix_list (pv 4) (pv 8) (fun _ _ => rfl)))) pa_nil))))) (pss_one (ps_ret pe_bl)) pss_nil)
    (pss_cons (ps_set (i := 9) sc_law.nd rfl (by first | exact Or.inl rfl | exact Or.inr rfl) (pe_callB call_len_seq (by rfl) b_len PySem.boot_len (pa_cons (pe_callB (r := rSortedSD K P w) (cr_sortedSD rfl (u65 hr)) (by rfl) b_sorted (by decide +kernel) (pa_cons (pe_callTy (r := rSetOfD K P w) (cr_setOfD rfl (Nat.lt_of_le_of_lt (Nat.add_le_add_left (by decide) _) (u65 hr))) (by rfl) b_set (by decide +kernel) (pa_cons (pv 6) pa_nil)) pa_nil)) pa_nil)))
    (pss_cons (ps_if (pt_not (pt_val (pc d_law_equal (hr.mono (by decide)) (pa_cons (pc d_copy_count (hr.mono (by decide)) (pa_cons (pv 3) pa_nil)) (pa_cons (pv 9) pa_nil))))) (pss_one (ps_ret pe_bl)) pss_nil)
    (pss_cons (ps_set (i := 10) sc_law.nd rfl (by first | exact Or.inl rfl | exact Or.inr rfl) (pe_lst pa_nil))
    (pss_cons (ps_for PassesOwn.never rfl (pi_range1 (by rfl) b_range (pa_cons (pe_callB call_len_seq (by rfl) b_len PySem.boot_len (pa_cons (pv 3) pa_nil)) pa_nil)) (pg_name (i := 11) sc_law.nd rfl (by first | exact Or.inl rfl | exact Or.inr rfl)) (pss_cons (ps_set (i := 12) sc_law.nd rfl (by first | exact Or.inl rfl | exact Or.inr rfl) (pe_callB (r := rSortedSD K P w) (cr_sortedSD rfl (u65 hr)) (by rfl) b_sorted (by decide +kernel) (pa_cons (pe_callTy (r := rSetOfD K P w) (cr_setOfD rfl (Nat.lt_of_le_of_lt (Nat.add_le_add_left (by decide) _) (u65 hr))) (by rfl) b_set (by decide +kernel) (pa_cons (pe_lc (own := [("_law_k", 8)]) (g := gName 8) (by rfl) sc_law.nd (pi_range1 (by rfl) b_range (pa_cons (pe_callB call_len_seq (by rfl) b_len PySem.boot_len (pa_cons (pv 4) pa_nil)) pa_nil)) (blkOk_by (own := [("_law_k", 8)]) (N := ["_law_script", "_law_d", "_law_tolds", "_law_box_here", "_law_rows_here", "_law_told_here", "_law_made", "_law_row", "_law_k", "_law_count", "_law_due", "_law_number", "_law_rest", "_law_odd", "_law_calls"]) (sc := defScope s_law) (by decide +kernel)) (fun _ _ _ _ _ => (pg_name (i := 8) sc_law.nd rfl (by first | exact Or.inl rfl | exact Or.inr rfl))) (fun _ _ _ _ _ => (pts_one (pt_cmpR (r := rIn K true) op_notIn_seq (pv 11) (pe_ix (r := rIxL K) ix_list (pv 4) (pv 8) (fun _ _ => rfl)) (by rfl)))) (fun _ _ _ _ _ => (pe_ix (r := rIxL K) ix_list (pv 6) (pv 8) (fun _ _ => rfl)))) pa_nil)) pa_nil)))
    (pss_one (ps_set (i := 10) sc_law.nd rfl (by first | exact Or.inl rfl | exact Or.inr rfl) (pe_op op_cat (pv 10) (pe_op op_rep (pe_lst (pa_cons (pv 11) pa_nil)) (pe_callTy call_int1 (by rfl) b_int (by decide +kernel) (pa_cons (pe_cmpR (op_eq) (pe_callB call_len_seq (by rfl) b_len PySem.boot_len (pa_cons (pv 12) pa_nil)) (pv 9) (nomark _)) pa_nil))))))))
    (pss_cons (ps_if (PW.pt (pw_or (pt_not (pt_val (pc d_law_equal (hr.mono (by decide)) (pa_cons (pc d_needless_arms (hr.mono (by decide)) (pa_cons (pv 3) pa_nil)) (pa_cons (pv 10) pa_nil))))) (pw_or1 (pt_cmpR (r := rNeD K) (op_neD hr.units) (pe_ix (r := rIxL K) ix_list (pc d_rows_for (hr.mono (by decide)) (pa_cons (pv 3) (pa_cons (pe_make TC.mkC TC.ok (hr.mono (by decide)) (by rfl) TC.mgC TC.bd TC.bv pass0 (pa_cons (pe_tup (pa_cons pe_int (pa_cons pe_int (pa_cons pe_int pa_nil)))) (pa_cons (pe_tup (pa_cons pe_int (pa_cons pe_int (pa_cons pe_int pa_nil)))) pa_nil))) pa_nil))) pe_int (fun _ _ => rfl)) (pe_tup pa_nil) (nomark _))))) (pss_one (ps_ret pe_bl)) pss_nil)
    (pss_cons (ps_set (i := 13) sc_law.nd rfl (by first | exact Or.inl rfl | exact Or.inr rfl) (pe_ix (r := rIxL K) ix_list (pe_lst (pa_cons (pe_tup pa_nil) (pa_cons (pe_op (r := rMulT K) op_mulT (pe_slice (r := rSlA K) sl_tupA (pv 3) po_none (po_some pe_int)) pe_int) pa_nil))) (pc d_law_below (hr.mono (by decide)) (pa_cons (pv 1) (pa_cons pe_int pa_nil))) (fun _ _ => rfl)))
    (pss_cons (ps_set (i := 14) sc_law.nd rfl (by first | exact Or.inl rfl | exact Or.inr rfl) (pe_lst (pa_cons (pe_lamV0 (T := [(PL, _)]) (k := 10) (t := fun E => tClX (sp_rwfX K (Cs 10)) E (tCons (tVar 13) (tCons (tCl (sp_copyOf K C) (tCons (tVar 5) tNil)) tNil))) TBL (by rfl) (.head _) (fun p hp _ => by cases List.mem_singleton.mp hp; rfl) ⟨(show LamSD (defScope s_law) _ ["_law_script", "_law_d", "_law_tolds", "_law_box_here", "_law_rows_here", "_law_told_here", "_law_made", "_law_row", "_law_k", "_law_count", "_law_due", "_law_number", "_law_rest", "_law_odd", "_law_calls"] _ from lamSD_by (by decide +kernel)), fun _ _ _ _ _ _ _ => by rfl, (fun a h => by cases h)⟩ (by rfl) (fun A outer s H E f c' hr' => pcX d_rows_forX (hr'.mono (by decide)) (passes_call (takes_of rfl rfl rfl rfl) (fun _ _ _ _ h => h)) (pa_cons (pv 13) (pa_cons (pc d_law_copy (hr'.mono (by decide)) (pa_cons (pv 5) pa_nil)) pa_nil)))) (pa_cons (pe_lamV1 (a := "_law_a") (T := [(PL, _)]) (k := 10) (t := fun E => tClX (sp_bad1 K (Cs 10)) E (tCons (tVar 13) tNil)) TBL (by rfl) (.head _) (fun p hp _ => by cases List.mem_singleton.mp hp; rfl) ⟨(show LamSD (defScope s_law) _ ["_law_script", "_law_d", "_law_tolds", "_law_box_here", "_law_rows_here", "_law_told_here", "_law_made", "_law_row", "_law_k", "_law_count", "_law_due", "_law_number", "_law_rest", "_law_odd", "_law_calls"] _ from lamSD_by (by decide +kernel)), (fun h => by cases h), fun a h q cl t doc pm cv ctv v => by cases h; exact ⟨_, rfl, rfl⟩⟩ (by rfl) (by rfl) (fun A outer s H E f c' hr' => pcX d_copy_countX (hr'.mono (by decide)) (passes_call (takes_of rfl rfl rfl rfl) (fun _ _ _ _ h => h)) (pa_cons (pv 13) pa_nil))) (pa_cons (pe_lamV1 (a := "_law_b") (T := [(PL, _)]) (k := 10) (t := fun E => tClX (sp_bad1 K (Cs 10)) E (tCons (tVar 13) tNil)) TBL (by rfl) (.head _) (fun p hp _ => by cases List.mem_singleton.mp hp; rfl) ⟨(show LamSD (defScope s_law) _ ["_law_script", "_law_d", "_law_tolds", "_law_box_here", "_law_rows_here", "_law_told_here", "_law_made", "_law_row", "_law_k", "_law_count", "_law_due", "_law_number", "_law_rest", "_law_odd", "_law_calls"] _ from lamSD_by (by decide +kernel)), (fun h => by cases h), fun a h q cl t doc pm cv ctv v => by cases h; exact ⟨_, rfl, rfl⟩⟩ (by rfl) (by rfl) (fun A outer s H E f c' hr' => pcX d_needless_armsX (hr'.mono (by decide)) (passes_call (takes_of rfl rfl rfl rfl) (fun _ _ _ _ h => h)) (pa_cons (pv 13) pa_nil))) pa_nil)))))
    (pss_one (ps_ret (pe_and (pe_big (sp := fun σ => sp_ar _ 10 σ Cs [10]) (by rfl) m_AR k_AR (fun _ => rfl) (pa_cons (pv 14) (pa_cons (pe_tup (pa_cons pe_str (pa_cons pe_int pa_nil))) pa_nil)) (fun σ b B => rOf (ok_law_all_raise rfl ⟨_, errB l_E c_E b_E sc_law_error_of (by rfl) (Or.inl (by rfl)) (fun A outer => err_gives b_isinstance b_ValueError m_B ER) B, k_E, m_E⟩ F_AR) B_AR) (hr.mono (by decide))) (pe_one (pe_cmpR (op_eq) (pe_callB call_len_seq (by rfl) b_len PySem.boot_len (pa_cons (pv 3) pa_nil)) (pe_callB call_len_seq (by rfl) b_len PySem.boot_len (pa_cons (pv 2) pa_nil)) (nomark _))))))))))))))))))), ?_⟩
  refine ⟨_, rfl, a, ns, 28, rfl, hS, h63, by decide, by decide, fun H1 d st1 s1 hd1 ok1 => ?_⟩
  have hT1 := s1 _ _ hT
  refine gn_of ?_
  refine ⟨_, rfl, d, 4, st1, rfl, by decide, by decide, hd1, ok1, fun H2 st2 LT ust as nT k2 hd2 ok2 hT2 aT2 gA lo hi => gn_of ?_⟩
  have tb2 : TabS H2 PL qL := TabS.nil (k2 _ _ (ne_of hT1 hd1 (by intro z; cases z)) hT1)
  clear hT hT1 s1 hd1 ok1 k2
  have lus := Paired.length aT2
  have hi4 : as.length ≤ 4 := by omega
  have bo : BxOk as := ⟨lo, hi4, fun a ha => (gA a ha).ok, fun a ha => (gA a ha).bc.mono (by decide)⟩
  dsimp only
  refine ⟨_, rfl, LT, rfl, ⟨_, .inl (.inl hT2)⟩, fun D hD => lc_list (K := K) (a := LT) (xs := ust) (fun i H' => ∃ ws, Same H2 H' ∧ H' D = some (.lst ws) ∧ AllA K C CA H' ws (as.take i)) ⟨[], same_new hD _, upd_same, .nil⟩ ?_ ?_ ?_⟩
  · rintro i H' _ ⟨_, s', _⟩
    exact .inl (.inl (s' _ _ hT2))
  · rintro i x H' hx ⟨ws, s', hw, pw⟩
    obtain ⟨e, ee, ie⟩ := pgt aT2 hx
    have ai := gA e (List.mem_of_getElem? ee)
    refine ⟨rfl, yes_of ?_⟩
    refine ⟨_, rfl, _, e, rfl, IsB.same ie s', ai.ok, ai.bp.mono (by decide), ai.bt.mono (by decide), fun H3 r3 s3 i3 => ?_⟩
    have hw3 := s3 _ _ hw
    have kk := keep_upd (d := D) (H := H3) (o := .lst (ws ++ [r3]))
    have lw := Paired.length pw
    rw [List.length_take] at lw
    refine ⟨ws, hw3, small1000 (by omega), ws ++ [r3], fun b o h => ?_, upd_same, ?_⟩
    · rw [upd_ne (ne_of_none h hD)]; exact s3 _ _ (s' _ _ h)
    · rw [take_more ee]
      exact papp (AllA.keep (AllA.same pw s3) hw3 kk) (.cons (i3.keep hw3 kk) .nil)
  rintro H3 ⟨ws, s3, hw3, aA⟩
  rw [lus, List.take_length] at aA
  try dsimp only [tNil]
  refine ⟨D, ws, rfl, .inl ⟨.inl (.inl hw3), fun pb hpb => ?_⟩⟩
  have s4 := same_new hpb (.tup ws)
  have s34 := s3.trans s4
  have ib4 : IsBx K C CA (upd H3 pb (.tup ws)) (.ref pb) as := ⟨pb, ws, rfl, .inl (.inl upd_same), aA.same s4⟩
  have hT4 := s34 _ _ hT2
  refine ⟨_, rfl, LT, ust, rfl, .inl (.inl (.inl hT4)), _, rfl, LT, ust, rfl, .inl (.inl (.inl hT4)), as.length, as.length, by rw [lus], hi4, hi4, fun H5 LR ur s5 nR hR aR => ?_⟩
  have s35 := s34.trans s5
  refine ⟨(by show 2 ≤ sizeLine; decide), fun p6 hp6 => ?_⟩
  have s6 := same_new hp6 (.tup [.ref pb, .ref LR])
  refine ⟨p6, _, rfl, .inl (.inl upd_same), rfl, _, _, rfl, _, _, rfl, rfl, ?_⟩
  have nR' : LR ≠ d := fun e => by rw [e, s34 _ _ hd2] at nR; cases nR
  have s26 := s35.trans s6
  have hd6 := s26 _ _ hd2
  have tb6 := tb2.ext s26
  have hT6 := s26 _ _ hT2
  have aT6 : AllB K _ ust as := AllB.same aT2 s26
  have ib6 := ib4.same (s5.trans s6)
  have hR6 := s6 _ _ hR
  have aR6 := pimp (fun _ _ i => IsRw.same i s6) aR
  generalize upd H5 p6 (.tup [.ref pb, .ref LR]) = H6 at *
  clear s26 s35 s6 s5 hR aR nR hp6 hT4 ib4 s34 s4 aA hw3 s3 hpb hT2 aT2 tb2 hd2 hD
  have ro : ∀ r ∈ rowsF as.length as.length, RwOk as.length r := RwOk.all hi4
  have l65 := rows65 hi4 hi4
  obtain ⟨rt, hrt⟩ := rows_head as.length as.length
  have lur := Paired.length aR6
  refine ⟨_, rfl, LR, rfl, ⟨_, .inl (.inl hR6)⟩, fun LM hLM => lc_list (K := K) (a := LR) (xs := ur) (fun i H' => ∃ ws, Same H6 H' ∧ H' LM = some (.lst ws) ∧ AllD K H' ws (mbs as ((rowsF as.length as.length).take i))) ⟨[], same_new hLM _, upd_same, .nil⟩ ?_ ?_ ?_⟩
  · rintro i H' _ ⟨_, s', _⟩
    exact .inl (.inl (s' _ _ hR6))
  · rintro i x H' hx ⟨ws, s', hw, pw⟩
    obtain ⟨r, er, ir⟩ := pgt aR6 hx
    refine ⟨rfl, yes_of ?_⟩
    refine ⟨_, rfl, _, rfl, LT, ust, as, x, r, rfl, .inl (.inl (s' _ _ hT6)), AllB.same aT6 s', gA, ir.same s', ro r (List.mem_of_getElem? er), fun H3 v3 s3 i3 => ?_⟩
    have hw3 := s3 _ _ hw
    have kk := keep_upd (d := LM) (H := H3) (o := .lst (ws ++ [v3]))
    have lw := Paired.length pw
    unfold mbs at lw
    rw [List.length_map, List.length_take] at lw
    refine ⟨ws, hw3, small1000 (by omega), ws ++ [v3], fun b o h => ?_, upd_same, ?_⟩
    · rw [upd_ne (ne_of_none h hLM)]; exact s3 _ _ (s' _ _ h)
    · rw [take_more er]
      unfold mbs
      rw [List.map_append]
      exact papp (pimp (fun _ _ i => (i.same s3).keep hw3 kk) pw) (.cons (i3.keep hw3 kk) .nil)
  rintro H7 ⟨um, s7, hM7, aM7⟩
  rw [lur, List.take_length] at aM7
  refine gn_of ?_
  have nM : LM ≠ d := fun e => by rw [e, hd6] at hLM; cases hLM
  have S7 : S28 K C CA PL d LT ust as pb LR ur (rowsF as.length as.length) LM um H7 := ⟨⟨st2, s7 _ _ hd6, ok2⟩, tb6.ext s7, s7 _ _ hT6, AllB.same aT6 s7, ib6.same s7, s7 _ _ hR6, pimp (fun _ _ i => IsRw.same i s7) aR6, hM7, aM7⟩
  clear hd6 ok2 tb6 hT6 aT6 ib6 hR6 aR6 hM7 aM7 s7 hLM hS st2
  generalize hrs : rowsF as.length as.length = rs at *
  refine sig_of (σ' := sg28 a d LT pb LR none LM none none none none none none none none) rfl ?_
  try dsimp only [tNext]
  obtain ⟨st7, hd7, ok7⟩ := S7.hd
  have lum := Paired.length S7.aM
  have lrs : (mbs as rs).length = rs.length := by unfold mbs; rw [List.length_map]
  have lpos : 0 < rs.length := by rw [hrt]; exact Nat.succ_pos _
  have jo : ∀ r ∈ rs, CpOk (jall (pick as r)) := fun r hr => jall_ok fun a ha => bo.ok a (pick_mem ha)
  refine asg_of (te_join (fun v H' => ∃ c, S28 K C CA PL d LT ust as pb LR ur rs LM um H' ∧ IsD K H' v c ∧ CpOk c) ?_ ?_)
  rotate_left
  · intro Q' kQ
    refine ⟨_, rfl, d, _, st7, rfl, by decide, by decide, hd7, ok7, fun st8 r8 ok8 r80 r81 => ?_⟩
    have k8 := keep_upd (d := d) (H := H7) (o := .lst (encD st8))
    have S8 := S7.keep nT nR' nM hd7 k8 upd_same ok8
    refine ⟨_, _, rfl, rfl, _, rfl, ?_⟩
    refine ite2 (fun _ => ?_) (fun _ => ?_)
    · refine ⟨_, rfl, _, rfl, _, rfl, LM, um, rfl, .inl (.inl (.inl S8.hM)), d, _, st8, rfl, by omega, by omega, upd_same, ok8, fun st9 r9 ok9 r90 r91 => ?_⟩
      have k9 := keep_upd (d := d) (H := upd H7 d (.lst (encD st8))) (o := .lst (encD st9))
      have S9 := S8.keep nT nR' nM upd_same k9 upd_same ok9
      obtain ⟨j, rfl⟩ : ∃ j : Nat, r9 = (j : Int) := ⟨r9.toNat, by omega⟩
      obtain ⟨v, ev⟩ : ∃ v, um[j]? = some v := ⟨um[j]'(by omega), by simp⟩
      obtain ⟨c, ec, ic⟩ := pgt S9.aM ev
      obtain ⟨r, hr', rfl⟩ := List.mem_map.mp (List.mem_of_getElem? ec)
      exact ⟨LM, um, _, v, rfl, rfl, .inl (.inl S9.hM), atI_nat ev, kQ _ _ ⟨_, S9, ic, jo r hr'⟩⟩
    · exact ⟨_, rfl, d, st8, rfl, upd_same, ok8, fun H9 st9 v9 k9 hd9 ok9 ⟨c, ic, ci⟩ => kQ _ _ ⟨c, S8.keep nT nR' nM upd_same k9 hd9 ok9, ic, ci.ok⟩⟩
  rintro vt H9 ⟨c, S9, ic, oc⟩
  clear S7 hd7 ok7
  refine gn_of ?_
  refine sig_of (σ' := sg28 a d LT pb LR (some vt) LM none none none none none none none none) rfl ?_
  have lur := Paired.length S9.aR
  have ifR : ∀ {i : Nat}, i < rs.length → ∃ r v w, rs[i]? = some r ∧ ur[i]? = some v ∧ um[i]? = some w := fun {i} hi => by
    exact ⟨rs[i], ur[i]'(by omega), um[i]'(by omega), List.getElem?_eq_getElem hi, List.getElem?_eq_getElem _, List.getElem?_eq_getElem _⟩
  have key : ∀ {H' : Hp} {i : Nat} {r : List Nat} {v w : V}, S28 K C CA PL d LT ust as pb LR ur rs LM um H' → rs[i]? = some r → ur[i]? = some v → um[i]? = some w → IsRw K H' v r ∧ IsD K H' w (jall (pick as r)) := fun {H' i r v w} S er ev ew => by
    obtain ⟨r2, er2, iv⟩ := pgt S.aR ev
    obtain ⟨c2, ec2, iw⟩ := pgt S.aM ew
    rw [er] at er2
    obtain rfl := Option.some.inj er2
    unfold mbs at ec2
    rw [List.getElem?_map, er] at ec2
    obtain rfl := Option.some.inj ec2
    exact ⟨iv, iw⟩
  refine ⟨_, rfl, _, rfl, _, c, rfl, ic, oc, fun HA rA sA iA => ?_⟩
  try dsimp only [tNil]
  have SA := S9.same sA
  refine ⟨_, _, as, c, rfl, SA.ib, bo, iA, fun HB LB uB sB nB hB pB => ?_⟩
  have SB := SA.same sB
  rw [hrs] at pB
  have ic := (ic.same sA).same sB
  refine ⟨_, rfl, LR, ur, rfl, .inl (.inl (.inl SB.hR)), _, rfl, by omega, by omega, fun D hD => lc_range (lo := 0) (n := ((ur.length : Nat) : Int).toNat) (fun i H' => ∃ ws, Same HB H' ∧ H' D = some (.lst ws) ∧ Paired (IsRw K H') ws ((rs.take i).filter fun r => decide (jall (pick as r) = c))) ⟨[], same_new hD _, upd_same, .nil⟩ ?_ ?_⟩
  · rintro i H' hi ⟨ws, s', hw, pw⟩
    obtain ⟨r, v, w', er, ev, ew⟩ := ifR (show i < rs.length by omega)
    have S' := SB.same s'
    obtain ⟨iv, iw⟩ := key S' er ev ew
    rw [Int.zero_add]
    refine ⟨rfl, ?_⟩
    refine ⟨_, rfl, _, rfl, LM, um, _, w', rfl, rfl, .inl (.inl S'.hM), atI_nat ew, _, rfl, _, _, iw.dp, (ic.same s').dp, shapedC _, shapedC _, _, rfl, ?_⟩
    rw [eqvC, show ceq (jall (pick as r)) c = decide (jall (pick as r) = c) from by rw [Bool.eq_iff_iff, ceq_iff, decide_eq_true_iff], take_more er, List.filter_append]
    dsimp only
    have lw := Paired.length pw
    have lf := List.length_filter_le (fun r => decide (jall (pick as r) = c)) (rs.take i)
    rw [List.length_take] at lf
    by_cases e : jall (pick as r) = c
    · rw [decide_eq_true e]
      refine iteT ?_
      have kk := keep_upd (d := D) (H := H') (o := .lst (ws ++ [v]))
      refine ⟨_, rfl, _, rfl, LR, ur, _, v, rfl, rfl, .inl (.inl S'.hR), atI_nat ev, ws, hw, small1000 (by omega), ws ++ [v], fun b o h => ?_, upd_same, ?_⟩
      · rw [upd_ne (ne_of_none h hD)]
        exact s' _ _ h
      · rw [show [r].filter (fun r => decide (jall (pick as r) = c)) = [r] from by simp [e]]
        exact papp (pimp (fun _ _ i => i.keep hw kk) pw) (.cons (iv.keep hw kk) .nil)
    · rw [decide_eq_false e]
      refine iteF ⟨ws, s', hw, ?_⟩
      rw [show [r].filter (fun r => decide (jall (pick as r) = c)) = [] from by simp [e], List.append_nil]
      exact pw
  rintro HC ⟨ws, sC, hw, pw⟩
  rw [show rs.take ((ur.length : Nat) : Int).toNat = rs from by rw [Int.toNat_natCast, List.take_of_length_le (by omega)]] at pw
  try dsimp only [tNil]
  have lfs := List.length_filter_le (fun r => decide (jall (pick as r) = c)) rs
  refine ⟨_, _, .list ((rs.filter fun r => decide (jall (pick as r) = c)).map dRw), rfl, .lst (.inl (.inl (sC _ _ hB))) (dRws (pimp (fun _ _ i => i.same sC) pB)), .lst (.inl (.inl hw)) (dRws pw), deepRws (by omega) (fun r hr => Nat.le_trans (ro r (List.mem_filter.mp hr).1).1 (by decide)), fun HD sD => ⟨_, rfl, iteF ?_⟩⟩
  have SD := (SB.same sC).same sD
  have ic := (ic.same sC).same sD
  clear SA SB S9 sA sB sC sD iA pB hB hw pw
  try dsimp only [tNext]
  have setlen : ∀ {cs : List Cp} {L : List RowD}, (∀ p ∈ L, MemD K HD p ∧ p.2 ∈ cs.map dC) → True := fun _ => trivial
  clear setlen
  have okM : ∀ {cs : List Cp}, ∀ d ∈ cs.map dC, ∃ c, d = dC c := fun {cs} => memC cs
  have lmb : ∀ {xs : List (List Nat)}, xs.length ≤ 65 → (mbs as xs).length ≤ 65 := fun {xs} h => by unfold mbs; rw [List.length_map]; exact h
  refine ⟨_, rfl, LM, um, (mbs as rs).map dC, rfl, .inl (.inl SD.hM), dCs SD.aM, fun d hd => by obtain ⟨c, rfl⟩ := okM d hd; exact tupC c, by rw [List.length_map]; exact Nat.le_trans (lmb l65) (by decide), fun A L hA mL allL ndL => ?_⟩
  try dsimp only [tNil]
  have sG := same_new hA (SetDO P w A L)
  have okL : ∀ d ∈ L.map (·.2), ∃ c, d = dC c := fun d hd => by
    obtain ⟨p, hp, rfl⟩ := List.mem_map.mp hd
    exact okM _ (mL p hp).2
  refine ⟨A, L, rfl, upd_same, fun p hp => (mL p hp).1.mono fun _ _ t => same_T sG t, alikeD okL, sortD okL, fun p hp => depD okL _ (List.mem_map.mpr ⟨p, hp, rfl⟩), fun ys B hB dy => ?_⟩
  try dsimp only [tNil]
  obtain ⟨cz, ecz, ndz, memz⟩ := srt_of dC (fun _ _ => nk_dC) (fun p hp => (mL p hp).2) allL ndL
  rw [ecz] at dy
  have sH := same_new hB (.lst ys)
  have sGH := sG.trans sH
  have hB2 : (upd (upd HD A (SetDO P w A L)) B (.lst ys)) B = some (.lst ys) := upd_same
  have lys := dpl dy
  have SE := SD.same sGH
  have ic := ic.same sGH
  have lcz : cz.length = (dd (mbs as rs)).length := same_len ndz (dd_spec _).1 fun z => (memz z).trans ((dd_spec _).2 z).symm
  rw [List.length_map, lcz] at lys
  refine ⟨B, ys, rfl, .inl (.inl (.inl hB2)), gn_of ?_⟩
  rw [lys]
  clear dy sH sG sGH hA hB hB2 mL allL ndL okL ecz ndz memz lcz
  generalize upd (upd HD A (SetDO P w A L)) B (.lst ys) = HE at *
  refine sig_of (σ' := sg28 a d LT pb LR (some vt) LM none none (some (.int ((dd (mbs as rs)).length : Int))) none none none none none) rfl ?_
  try dsimp only [tNext]
  refine ⟨_, rfl, _, as, rfl, SE.ib, bo, fun HF sF => ?_⟩
  rw [hrs]
  refine ⟨_, rfl, _, _, .int _, rfl, .int _, .int _, trivial, fun HG sG => ⟨_, rfl, iteF ?_⟩⟩
  have SG := SE.same (sF.trans sG)
  have ic := ic.same (sF.trans sG)
  clear SE sF sG SD
  try dsimp only [tNext]
  refine ⟨(by show 0 ≤ sizeLine; decide), fun L0 hL0 => gn_of ?_⟩
  have s0 := same_new hL0 (.lst [])
  have SH := SG.same s0
  have ic := ic.same s0
  have h0 : (upd HG L0 (.lst [])) L0 = some (.lst (rv [])) := upd_same
  clear SG s0 hL0
  generalize upd HG L0 (.lst []) = HH at *
  refine sig_of (σ' := sg28 a d LT pb LR (some vt) LM none none (some (.int ((dd (mbs as rs)).length : Int))) (some (.ref L0)) none none none none) rfl ?_
  try dsimp only [tNext]
  obtain ⟨pb', ub, epb, hTb, hAb⟩ := id SH.ib
  cases epb
  have lub := Paired.length hAb
  have hnf : needF as = (List.range as.length).filter fun n => decide ((dd (mbs as (wo n rs))).length = (dd (mbs as rs)).length) := by unfold needF; rw [hrs]
  refine ⟨_, rfl, pb, ub, rfl, .inr hTb, _, rfl, by omega, by omega, ?_⟩
  refine for_range (lo := 0) (n := ((ub.length : Nat) : Int).toNat) (fun i σ H' => ∃ Ld x8 x11 x12, σ = sg28 a d LT pb LR (some vt) LM none x8 (some (.int ((dd (mbs as rs)).length : Int))) (some (.ref Ld)) x11 x12 none none ∧ Same HH H' ∧ H' Ld = some (.lst (rv (((List.range as.length).take i).filter fun n => decide ((dd (mbs as (wo n rs))).length = (dd (mbs as rs)).length))))) ⟨L0, none, none, none, rfl, Same.refl _, h0⟩ ?_ ?_
  · rintro i σ H' hi ⟨Ld, x8, x11, x12, rfl, s', hd'⟩
    have hi : i < as.length := by omega
    rw [Int.zero_add]
    refine gn_of ?_
    refine sig_of (σ' := sg28 a d LT pb LR (some vt) LM none x8 (some (.int ((dd (mbs as rs)).length : Int))) (some (.ref Ld)) (some (.int (i : Int))) x12 none none) rfl ?_
    have S' := SH.same s'
    refine ⟨_, rfl, LR, ur, rfl, .inl (.inl (.inl S'.hR)), _, rfl, by omega, by omega, fun D hD => lc_range (lo := 0) (n := ((ur.length : Nat) : Int).toNat) (fun k H2 => ∃ ws, Same H' H2 ∧ H2 D = some (.lst ws) ∧ AllD K H2 ws (mbs as (wo i (rs.take k)))) ⟨[], same_new hD _, upd_same, .nil⟩ ?_ ?_⟩
    · rintro k H2 hk ⟨ws, s2, hw, pw⟩
      obtain ⟨r, v, w', er, ev, ew⟩ := ifR (show k < rs.length by omega)
      have S2 := S'.same s2
      obtain ⟨iv, iw⟩ := key S2 er ev ew
      obtain ⟨px, rfl, hpx⟩ := iv
      rw [Int.zero_add]
      have lw := Paired.length pw
      have lf : (wo i (rs.take k)).length ≤ _ := List.length_filter_le _ _
      rw [List.length_take] at lf
      rw [show (mbs as (wo i (rs.take k))).length = (wo i (rs.take k)).length from by unfold mbs; rw [List.length_map]] at lw
      refine ⟨rfl, ?_⟩
      refine ⟨_, rfl, _, rfl, _, rfl, LR, ur, _, _, rfl, rfl, .inl (.inl S2.hR), atI_nat ev, px, rv r, rfl, .inr hpx, rfl, flat_rv r, _, rfl, ?_⟩
      rw [inV_rv, take_more er, show wo i (rs.take k ++ [r]) = wo i (rs.take k) ++ wo i [r] from List.filter_append ..]
      dsimp only
      cases e : r.contains i with
      | true =>
        refine iteF ⟨ws, s2, hw, ?_⟩
        rw [show wo i [r] = [] from by unfold wo; rw [List.filter_cons, List.filter_nil, e]; rfl, List.append_nil]
        exact pw
      | false =>
        refine iteT ?_
        have kk := keep_upd (d := D) (H := H2) (o := .lst (ws ++ [w']))
        refine ⟨_, rfl, _, rfl, LM, um, _, w', rfl, rfl, .inl (.inl S2.hM), atI_nat ew, ws, hw, small1000 (by omega), ws ++ [w'], fun b o h => ?_, upd_same, ?_⟩
        · rw [upd_ne (ne_of_none h hD)]
          exact s2 _ _ h
        · rw [show wo i [r] = [r] from by unfold wo; rw [List.filter_cons, List.filter_nil, e]; rfl]
          unfold mbs
          rw [List.map_append]
          exact papp (pimp (fun _ _ i => i.keep hw kk) pw) (.cons (iw.keep hw kk) .nil)
    rintro H2 ⟨ws, s2, hw, pw⟩
    rw [show rs.take ((ur.length : Nat) : Int).toNat = rs from by rw [Int.toNat_natCast, List.take_of_length_le (by omega)]] at pw
    try dsimp only [tNil]
    have lwo : (wo i rs).length ≤ rs.length := List.length_filter_le _ _
    refine ⟨D, ws, (mbs as (wo i rs)).map dC, rfl, .inl (.inl hw), dCs pw, fun d hd => by obtain ⟨c, rfl⟩ := okM d hd; exact tupC c, by rw [List.length_map]; exact Nat.le_trans (lmb (by omega)) (by decide), fun A L hA mL allL ndL => ?_⟩
    try dsimp only [tNil]
    have sG := same_new hA (SetDO P w A L)
    have okL : ∀ d ∈ L.map (·.2), ∃ c, d = dC c := fun d hd => by
      obtain ⟨p, hp, rfl⟩ := List.mem_map.mp hd
      exact okM _ (mL p hp).2
    refine ⟨A, L, rfl, upd_same, fun p hp => (mL p hp).1.mono fun _ _ t => same_T sG t, alikeD okL, sortD okL, fun p hp => depD okL _ (List.mem_map.mpr ⟨p, hp, rfl⟩), fun ys B hB dy => gn_of ?_⟩
    obtain ⟨cz, ecz, ndz, memz⟩ := srt_of dC (fun _ _ => nk_dC) (fun p hp => (mL p hp).2) allL ndL
    rw [ecz] at dy
    have sH := same_new hB (.lst ys)
    have s26 := s2.trans (sG.trans sH)
    have hB2 : (upd (upd H2 A (SetDO P w A L)) B (.lst ys)) B = some (.lst ys) := upd_same
    have lys := dpl dy
    have lcz : cz.length = (dd (mbs as (wo i rs))).length := same_len ndz (dd_spec _).1 fun z => (memz z).trans ((dd_spec _).2 z).symm
    rw [List.length_map, lcz] at lys
    have hd6 := s26 _ _ hd'
    clear dy sH sG hA hB mL allL ndL okL ecz ndz memz lcz pw hw hD
    generalize upd (upd H2 A (SetDO P w A L)) B (.lst ys) = H6 at *
    refine sig_of (σ' := sg28 a d LT pb LR (some vt) LM none x8 (some (.int ((dd (mbs as rs)).length : Int))) (some (.ref Ld)) (some (.int (i : Int))) (some (.ref B)) none none) rfl ?_
    try dsimp only [tNext]
    refine ⟨_, rfl, _, rfl, (by show 1 ≤ sizeLine; decide), fun L7 hL7 => ?_⟩
    have s7 := same_new hL7 (.lst [.int (i : Int)])
    refine ⟨_, rfl, B, ys, rfl, .inl (.inl (.inl (s7 _ _ hB2))), _, rfl, rfl, ?_⟩
    rw [lys, dVI]
    try dsimp only [tNil]
    refine .inr ⟨_, rfl, ?_⟩
    have lf := List.length_filter_le (fun n => decide ((dd (mbs as (wo n rs))).length = (dd (mbs as rs)).length)) ((List.range as.length).take i)
    rw [List.length_take, List.length_range] at lf
    by_cases e : (dd (mbs as (wo i rs))).length = (dd (mbs as rs)).length
    · rw [decide_eq_true e, if_pos rfl]
      refine ⟨L7, 1, _, rfl, rfl, upd_same, by decide, by decide, (by show 1 * 1 ≤ sizeLine; decide), fun L8 hL8 => ?_⟩
      have s8 := same_new hL8 (.lst [.int (i : Int)])
      refine ⟨Ld, L8, _, _, rfl, rfl, s8 _ _ (s7 _ _ hd6), upd_same, small (by rw [rv_len]; show _ + 1 ≤ _; omega), fun L9 hL9 => gn_of ?_⟩
      have s9 := same_new hL9 (.lst (rv (((List.range as.length).take i).filter fun n => decide ((dd (mbs as (wo n rs))).length = (dd (mbs as rs)).length)) ++ [.int (i : Int)]))
      refine ⟨L9, _, _, _, rfl, s'.trans (s26.trans (s7.trans (s8.trans s9))), ?_⟩
      rw [range_more hi, List.filter_append, show [i].filter (fun n => decide ((dd (mbs as (wo n rs))).length = (dd (mbs as rs)).length)) = [i] from by rw [List.filter_cons, List.filter_nil, decide_eq_true e]; rfl]
      rw [show rv (((List.range as.length).take i).filter (fun n => decide ((dd (mbs as (wo n rs))).length = (dd (mbs as rs)).length)) ++ [i]) = rv (((List.range as.length).take i).filter fun n => decide ((dd (mbs as (wo n rs))).length = (dd (mbs as rs)).length)) ++ [.int (i : Int)] from by unfold rv; rw [List.map_append]; rfl]
      exact upd_same
    · rw [decide_eq_false e, if_neg (by decide)]
      refine ⟨L7, 0, _, rfl, rfl, upd_same, by decide, by decide, (by show 1 * 0 ≤ sizeLine; decide), fun L8 hL8 => ?_⟩
      have s8 := same_new hL8 (.lst [])
      refine ⟨Ld, L8, _, _, rfl, rfl, s8 _ _ (s7 _ _ hd6), upd_same, small (by rw [rv_len]; show _ + 0 ≤ _; omega), fun L9 hL9 => gn_of ?_⟩
      have s9 := same_new hL9 (.lst (rv (((List.range as.length).take i).filter fun n => decide ((dd (mbs as (wo n rs))).length = (dd (mbs as rs)).length)) ++ []))
      refine ⟨L9, _, _, _, rfl, s'.trans (s26.trans (s7.trans (s8.trans s9))), ?_⟩
      rw [range_more hi, List.filter_append, show [i].filter (fun n => decide ((dd (mbs as (wo n rs))).length = (dd (mbs as rs)).length)) = [] from by rw [List.filter_cons, List.filter_nil, decide_eq_false e]; rfl, List.append_nil]
      rw [show (List.replicate (Int.toNat 0) [V.int (i : Int)]).flatten = [] from rfl, List.append_nil]
      exact upd_same
  rintro σ HI ⟨Ld, x8, x11, x12, rfl, sI, hdI⟩
  have SI := SH.same sI
  have ic := ic.same sI
  rw [show (List.range as.length).take ((ub.length : Nat) : Int).toNat = List.range as.length from by rw [Int.toNat_natCast, List.take_of_length_le (by rw [List.length_range]; omega)], ← hnf] at hdI
  clear SH sI h0 hTb hAb
  try dsimp only [tNext]
  have lnf : (needF as).length ≤ 4 := by
    have := List.length_filter_le (fun n => decide ((dd (mbs as (wo n (rowsF as.length as.length)))).length = (dd (mbs as (rowsF as.length as.length))).length)) (List.range as.length)
    rw [List.length_range] at this
    exact Nat.le_trans this hi4
  refine ⟨_, rfl, _, as, rfl, SI.ib, bo, fun HJ Ln sJ hn => ?_⟩
  try dsimp only [tNil]
  refine ⟨_, rfl, _, _, .list ((needF as).map fun (n : Nat) => .int (n : Int)), rfl, .lst (.inl (.inl hn)) (dpInts _), .lst (.inl (.inl (sJ _ _ hdI))) (dpInts _), ⟨by show ((needF as).map _).length ≤ 1000; rw [List.length_map]; omega, fun x hx => by obtain ⟨m, _, rfl⟩ := List.mem_map.mp hx; trivial⟩, fun HK sK => ⟨_, rfl, iteF ?_⟩⟩
  have SK := (SI.same sJ).same sK
  have ic := (ic.same sJ).same sK
  clear SI sJ sK hn hdI
  refine ⟨_, rfl, (by show 3 ≤ sizeLine; decide), fun p1 hp1 => ?_⟩
  have s1 := same_new hp1 (.tup [.int 1, .int 0, .int 1])
  refine ⟨(by show 3 ≤ sizeLine; decide), fun p2 hp2 => ?_⟩
  have s2 := same_new hp2 (.tup [.int 0, .int 0, .int 1])
  try dsimp only [tNil]
  refine mk_of2 (m := false) (t := (1, 0, 1)) (s := (0, 0, 1)) ⟨p1, rfl, same_T s2 (.inl (.inl upd_same))⟩ ⟨p2, rfl, .inl (.inl upd_same)⟩ still_ok.t still_ok.n still_ok.s fun HL x18 sL iL => ⟨rfl, ?_⟩
  have s12L := s1.trans (s2.trans sL)
  have SL := SK.same s12L
  have ic := ic.same s12L
  clear SK s1 s2 sL s12L hp1 hp2
  try dsimp only [tNil]
  refine ⟨_, _, as, _, rfl, SL.ib, bo, iL, fun HM LN uN sN nN hN pN => ?_⟩
  rw [hrs, hrt, List.filter_cons, show decide (jall (pick as []) = ({ t := (1, 0, 1), s := (0, 0, 1), m := false } : Cp)) = true from decide_eq_true rfl, if_pos rfl] at pN
  obtain ⟨v0, ut, rfl, i0⟩ : ∃ v0 ut, uN = v0 :: ut ∧ IsRw K HM v0 [] := by
    cases pN with
    | cons a t => exact ⟨_, _, rfl, a⟩
  refine ⟨LN, _, 0, v0, rfl, rfl, .inl (.inl hN), atI_nat (j := 0) rfl, ?_⟩
  refine ⟨(by show 0 ≤ sizeLine; decide), fun p3 hp3 => ?_⟩
  have s3 := same_new hp3 (.tup [])
  refine ⟨dRw [], .tuple [], (i0.same s3).dp, .tup (.inl (.inl upd_same)) .nil, rfl, rfl, _, rfl, ?_⟩
  refine iteF ?_
  have SO := (SL.same sN).same s3
  have ic := (ic.same sN).same s3
  clear SL sN pN hN i0 hp3 s3
  generalize upd HM p3 (.tup []) = HO' at *
  try dsimp only [tNext]
  obtain ⟨pb', ub', epb, hTb, hAb⟩ := id SO.ib
  cases epb
  have lub' := Paired.length hAb
  obtain ⟨u0, ut', rfl⟩ : ∃ u0 ut', ub' = u0 :: ut' := by
    cases ub' with
    | nil => rw [← lub'] at lo; exact absurd lo (by decide)
    | cons x y => exact ⟨x, y, rfl⟩
  obtain ⟨stO, hdO, okO⟩ := SO.hd
  refine ⟨(by show 0 ≤ sizeLine; decide), fun p4 hp4 => ?_⟩
  have s4 := same_new hp4 (.tup [])
  show tOp (rMulT K) (tSl (rSlA K) (tVar 3) tNoPart (tPart (tC (V.int 1)))) (tC (V.int 6)) _ _ _
  refine te_join (fun v H' => ∃ p6, v = .ref p6 ∧ Same (upd HO' p4 (.tup [])) H' ∧ SqT K H' p6 [u0, u0, u0, u0, u0, u0]) ?_ ?_
  rotate_left
  · intro Q' kQ
    refine ⟨_, rfl, 1, rfl, slB1 (same_T s4 hTb) fun H5 p5 s5 h5 => ?_⟩
    refine ⟨p5, 6, [u0], rfl, rfl, h5, (fun z => by cases z), by decide, by decide, (by show 1 ≤ 1000; decide), fun p6 hp6 => ?_⟩
    have s6 := same_new hp6 (.tup (List.replicate (Int.toNat 6) [u0]).flatten)
    exact kQ _ _ ⟨p6, rfl, s5.trans s6, .inl (.inl upd_same)⟩
  rintro _ H6 ⟨p6, rfl, s6, h6⟩
  try dsimp only [tNil]
  refine ⟨(by show 2 ≤ sizeLine; decide), fun L7 hL7 => ?_⟩
  have s7 := same_new hL7 (.lst [.ref p4, .ref p6])
  have hL7' : (upd H6 L7 (.lst [.ref p4, .ref p6])) L7 = some (.lst [.ref p4, .ref p6]) := upd_same
  have h4' : SqT K (upd H6 L7 (.lst [.ref p4, .ref p6])) p4 [] := .inl (.inl (s7 _ _ (s6 _ _ upd_same)))
  have h6' := same_T s7 h6
  have s47 := s4.trans (s6.trans s7)
  have nL7 : L7 ≠ d := fun e => by rw [e, s6 _ _ (s4 _ _ hdO)] at hL7; cases hL7
  have hd7 := s47 _ _ hdO
  have SP := SO.same s47
  have ic := ic.same s47
  have hTb := same_T s47 hTb
  clear SO s4 s6 s7 s47 h6 hp4 hL7 hAb
  generalize upd H6 L7 (.lst [.ref p4, .ref p6]) = HP at *
  refine ⟨_, rfl, d, 2, stO, rfl, by decide, by decide, hd7, okO, fun st8 r8 ok8 r80 r81 => ?_⟩
  have k8 := keep_upd (d := d) (H := HP) (o := .lst (encD st8))
  have hTb := keep_T hTb hd7 k8
  have ic := ic.keep hd7 k8
  have tb := TabS.keep SP.tb hd7 k8
  have hT := k8 _ _ nT SP.hT
  have hL8 := k8 _ _ nL7 hL7'
  have h4 := keep_T h4' hd7 k8
  have h6 := keep_T h6' hd7 k8
  clear SP k8 hd7 h4' h6' hL7'
  generalize upd HP d (.lst (encD st8)) = HQ at *
  obtain ⟨vo, evo, bado⟩ : ∃ vo, atI [V.ref p4, .ref p6] r8 = some vo ∧ BadBx K HQ vo := by
    obtain rfl | rfl : r8 = 0 ∨ r8 = 1 := by omega
    · exact ⟨_, rfl, p4, [], rfl, h4, by decide, by decide⟩
    · exact ⟨_, rfl, p6, _, rfl, h6, (by show 6 ≤ 1000; decide), (by show ¬ (1 ≤ 6 ∧ 6 ≤ 5); decide)⟩
  refine ⟨L7, _, _, vo, rfl, rfl, .inl (.inl hL8), evo, gn_of ?_⟩
  refine sig_of (σ' := sg28 a d LT pb LR (some vt) LM none x8 (some (.int ((dd (mbs as rs)).length : Int))) (some (.ref Ld)) x11 x12 (some vo) none) rfl ?_
  clear evo h4 h6 hL8
  try dsimp only [tNext]
  have T0 : Tabs [(PL, qL)] HQ := fun p hp => by cases List.mem_singleton.mp hp; exact tb
  refine ⟨T0, fun Hb1 f1 e1 T1 _ m1 => ⟨T1, fun Hb2 f2 e2 T2 _ m2 => ⟨T2, fun Hb3 f3 e3 T3 _ m3 => ⟨(by show 3 ≤ sizeLine; decide), fun L4 hL4 => gn_of ?_⟩⟩⟩⟩
  have s9 := same_new hL4 (.lst [.ref f1, .ref f2, .ref f3])
  have gC := upd_same (H := Hb3) (a := L4) (o := .lst [.ref f1, .ref f2, .ref f3])
  have eC : ExtN HQ (upd Hb3 L4 (.lst [.ref f1, .ref f2, .ref f3])) := e1.trans (e2.trans (e3.trans (ExtN.of s9)))
  have m1 := ((m1.extN e2).extN e3).same s9
  have m2 := (m2.extN e3).same s9
  have m3 := m3.same s9
  have hTb := extN_T hTb eC
  have ic := IsDe ic eC
  have hT := extN_L hT eC
  have bado := bado.ext eC
  generalize upd Hb3 L4 (.lst [.ref f1, .ref f2, .ref f3]) = HR at *
  clear s9 eC e1 e2 e3 T0 T1 T2 T3 tb hL4
  refine sig_of (σ' := sg28 a d LT pb LR (some vt) LM none x8 (some (.int ((dd (mbs as rs)).length : Int))) (some (.ref Ld)) x11 x12 (some vo) (some (.ref L4))) rfl ?_
  refine ⟨_, rfl, (by show 2 ≤ sizeLine; decide), fun pe hpe => ?_⟩
  have s5 := same_new hpe (.tup [.str "box", .int 0])
  refine ⟨L4, .ref pe, [.ref f1, .ref f2, .ref f3], 10, rfl, .inl (.inl (s5 _ _ gC)), (by show 3 ≤ 1000; decide), .head _, (by decide +kernel), .tup (.inl (.inl upd_same)) (.cons (.str _) (.cons (.int _) .nil)), fun i u hu => ?_, fun H36 s36 => ?_⟩
  · match i, hu with
    | 0, hu =>
      cases hu
      refine ⟨_, m1.same s5, fun H2 s2 Ech Q2 hE => ?_⟩
      refine ⟨_, rfl, _, rfl, _, c, rfl, (ic.same s5).same s2, oc, fun H3 r3 s3 i3 => ?_⟩
      exact ⟨_, _, rfl, bado.ext (ExtN.of ((s5.trans s2).trans s3)), hE H3 s3⟩
    | 1, hu =>
      cases hu
      refine ⟨_, m2.same s5, fun H2 s2 Ech Q2 hE => ?_⟩
      exact ⟨_, rfl, _, rfl, bado.ext (ExtN.of (s5.trans s2)), hE H2 (Same.refl _)⟩
    | 2, hu =>
      cases hu
      refine ⟨_, m3.same s5, fun H2 s2 Ech Q2 hE => ?_⟩
      exact ⟨_, rfl, _, rfl, bado.ext (ExtN.of (s5.trans s2)), hE H2 (Same.refl _)⟩
    | (n + 3), hu => simp at hu
  have s56 := s5.trans s36
  refine ⟨_, rfl, iteT ?_⟩
  refine ⟨_, rfl, pb, _, rfl, .inr (same_T s56 hTb), _, rfl, LT, ust, rfl, .inl (.inl (.inl (s56 _ _ hT))), rfl, ?_⟩
  rw [decide_eq_true (show V.int (((u0 :: ut').length : Nat) : Int) = V.int ((ust.length : Nat) : Int) from by rw [lub', lus])]
  exact q _
end
end My

namespace My
open PySem L2 Mth
abbrev s_Arm_pole : Stmt := inClass (topS 48) 1
theorem sc_Arm_pole : FnScope ["self"] ["self"] (defScope s_Arm_pole) := ⟨rfl, rfl, rfl, by decide +kernel, rfl, by decide +kernel, by decide +kernel⟩
theorem ok_Arm_pole {P : Program} {w : World} {K : PySem.W.Frag} {mg : Str → Option Value} {base : Heap} {f C : Addr} {fd : FuncData} (cl : Cls K C) (n : NoAttr K C "centre") (F : Fun K "pole" "Arm.pole" s_Arm_pole f fd) : FnOk P w K mg base CX0 1 f fd ["self"] (getSp C "centre") := by
  refine F.ok sc_Arm_pole (fun vs H Q E h => ?_) (fun cdv A outer s H vs Q E hr h => ?_)
  · obtain ⟨a, dx, fs, v, rfl, _⟩ := h
    rfl
  obtain ⟨a, dx, fs, v, rfl, ea, l, q⟩ := h
  exact ⟨_, pss_one (ps_ret (pe_fld (pv 0) rfl)), _, rfl, a, C, dx, fs, v, rfl, ea, cl, n, l, q⟩
end My
namespace My
open PySem L2 Mth
abbrev s_Arm_turn : Stmt := inClass (topS 48) 2
theorem sc_Arm_turn : FnScope ["self"] ["self"] (defScope s_Arm_turn) := ⟨rfl, rfl, rfl, by decide +kernel, rfl, by decide +kernel, by decide +kernel⟩
theorem ok_Arm_turn {P : Program} {w : World} {K : PySem.W.Frag} {mg : Str → Option Value} {base : Heap} {f C : Addr} {fd : FuncData} (cl : Cls K C) (n : NoAttr K C "factor") (F : Fun K "turn" "Arm.turn" s_Arm_turn f fd) : FnOk P w K mg base CX0 1 f fd ["self"] (getSp C "factor") := by
  refine F.ok sc_Arm_turn (fun vs H Q E h => ?_) (fun cdv A outer s H vs Q E hr h => ?_)
  · obtain ⟨a, dx, fs, v, rfl, _⟩ := h
    rfl
  obtain ⟨a, dx, fs, v, rfl, ea, l, q⟩ := h
  exact ⟨_, pss_one (ps_ret (pe_fld (pv 0) rfl)), _, rfl, a, C, dx, fs, v, rfl, ea, cl, n, l, q⟩
end My
namespace My
open PySem L2 Mth
abbrev s_Arm_near : Stmt := inClass (topS 48) 3
theorem sc_Arm_near : FnScope ["self"] ["self"] (defScope s_Arm_near) := ⟨rfl, rfl, rfl, by decide +kernel, rfl, by decide +kernel, by decide +kernel⟩
theorem ok_Arm_near {P : Program} {w : World} {K : PySem.W.Frag} {mg : Str → Option Value} {base : Heap} {f C : Addr} {fd : FuncData} (cl : Cls K C) (n : NoAttr K C "least") (F : Fun K "near" "Arm.near" s_Arm_near f fd) : FnOk P w K mg base CX0 1 f fd ["self"] (getSp C "least") := by
  refine F.ok sc_Arm_near (fun vs H Q E h => ?_) (fun cdv A outer s H vs Q E hr h => ?_)
  · obtain ⟨a, dx, fs, v, rfl, _⟩ := h
    rfl
  obtain ⟨a, dx, fs, v, rfl, ea, l, q⟩ := h
  exact ⟨_, pss_one (ps_ret (pe_fld (pv 0) rfl)), _, rfl, a, C, dx, fs, v, rfl, ea, cl, n, l, q⟩
end My
namespace My
open PySem L2 Mth
abbrev s_Arm_far : Stmt := inClass (topS 48) 4
theorem sc_Arm_far : FnScope ["self"] ["self"] (defScope s_Arm_far) := ⟨rfl, rfl, rfl, by decide +kernel, rfl, by decide +kernel, by decide +kernel⟩
theorem ok_Arm_far {P : Program} {w : World} {K : PySem.W.Frag} {mg : Str → Option Value} {base : Heap} {f C : Addr} {fd : FuncData} (cl : Cls K C) (n : NoAttr K C "most") (F : Fun K "far" "Arm.far" s_Arm_far f fd) : FnOk P w K mg base CX0 1 f fd ["self"] (getSp C "most") := by
  refine F.ok sc_Arm_far (fun vs H Q E h => ?_) (fun cdv A outer s H vs Q E hr h => ?_)
  · obtain ⟨a, dx, fs, v, rfl, _⟩ := h
    rfl
  obtain ⟨a, dx, fs, v, rfl, ea, l, q⟩ := h
  exact ⟨_, pss_one (ps_ret (pe_fld (pv 0) rfl)), _, rfl, a, C, dx, fs, v, rfl, ea, cl, n, l, q⟩
end My
namespace My
open PySem L2 Mth
abbrev s_Arm_mirrored : Stmt := inClass (topS 48) 5
theorem sc_Arm_mirrored : FnScope ["self"] ["self"] (defScope s_Arm_mirrored) := ⟨rfl, rfl, rfl, by decide +kernel, rfl, by decide +kernel, by decide +kernel⟩
theorem ok_Arm_mirrored {P : Program} {w : World} {K : PySem.W.Frag} {mg : Str → Option Value} {base : Heap} {f C : Addr} {fd : FuncData} (cl : Cls K C) (n : NoAttr K C "flips") (F : Fun K "mirrored" "Arm.mirrored" s_Arm_mirrored f fd) : FnOk P w K mg base CX0 1 f fd ["self"] (getSp C "flips") := by
  refine F.ok sc_Arm_mirrored (fun vs H Q E h => ?_) (fun cdv A outer s H vs Q E hr h => ?_)
  · obtain ⟨a, dx, fs, v, rfl, _⟩ := h
    rfl
  obtain ⟨a, dx, fs, v, rfl, ea, l, q⟩ := h
  exact ⟨_, pss_one (ps_ret (pe_fld (pv 0) rfl)), _, rfl, a, C, dx, fs, v, rfl, ea, cl, n, l, q⟩
end My
namespace My
open PySem L2 Mth
abbrev s_Arm_effect : Stmt := inClass (topS 48) 6
theorem sc_Arm_effect : FnScope ["self"] ["self"] (defScope s_Arm_effect) := ⟨rfl, rfl, rfl, by decide +kernel, rfl, by decide +kernel, by decide +kernel⟩
theorem ok_Arm_effect {P : Program} {w : World} {K : PySem.W.Frag} {mg : Str → Option Value} {base : Heap} {f C : Addr} {fd : FuncData} (cl : Cls K C) (n : NoAttr K C "pen") (F : Fun K "effect" "Arm.effect" s_Arm_effect f fd) : FnOk P w K mg base CX0 1 f fd ["self"] (getSp C "pen") := by
  refine F.ok sc_Arm_effect (fun vs H Q E h => ?_) (fun cdv A outer s H vs Q E hr h => ?_)
  · obtain ⟨a, dx, fs, v, rfl, _⟩ := h
    rfl
  obtain ⟨a, dx, fs, v, rfl, ea, l, q⟩ := h
  exact ⟨_, pss_one (ps_ret (pe_fld (pv 0) rfl)), _, rfl, a, C, dx, fs, v, rfl, ea, cl, n, l, q⟩
end My
namespace My
open PySem L2 Mth LamX
theorem all_mk {l : PySem.W.OpenLaw} {w : World} {K : PySem.W.Frag} {h : Heap} {mg : Str → Option Value} {fa : Addr} (X : K.In h) (G : h.Ns mainGlobals mg) (hfa : mg "law" = some (.ref fa)) (own : OwnTab K fa h)
    {a_tMIDDLE : Addr} {dd_MIDDLE : Option Addr} {t1_MIDDLE t2_MIDDLE t3_MIDDLE : Tok} {n_MIDDLE : Nat} {sl_tMIDDLE : Array (Option Value)}
    {a_tONE : Addr} {dd_ONE : Option Addr} {t1_ONE t2_ONE t3_ONE : Tok} {n_ONE : Nat} {sl_tONE : Array (Option Value)}
    {tk_MOST_REACH : Tok}
    {tk_MOST_IN_BOX : Tok}
    {CB : Addr} {e0 e1 e2 e3 e4 e5 e6 e7 e8 e9 e10 e11 e12 e13 e14 e15 e16 e17 e18 e19 : Addr}
    {f_law_error_of : Addr} {od_law_error_of an_law_error_of : Option Addr} {sl_law_error_of : Array (Option Value)} {oc_law_error_of kV_law_error_of dc_law_error_of pm_law_error_of cd_law_error_of ct_law_error_of : Value}
    {f_law_all_raise : Addr} {od_law_all_raise an_law_all_raise : Option Addr} {sl_law_all_raise : Array (Option Value)} {oc_law_all_raise kV_law_all_raise dc_law_all_raise pm_law_all_raise cd_law_all_raise ct_law_all_raise : Value}
    {f_common_divisor : Addr} {od_common_divisor an_common_divisor : Option Addr} {sl_common_divisor : Array (Option Value)} {oc_common_divisor kV_common_divisor dc_common_divisor pm_common_divisor cd_common_divisor ct_common_divisor : Value}
    {f_is_whole : Addr} {od_is_whole an_is_whole : Option Addr} {sl_is_whole : Array (Option Value)} {oc_is_whole kV_is_whole dc_is_whole pm_is_whole cd_is_whole ct_is_whole : Value}
    {f_is_spot : Addr} {od_is_spot an_is_spot : Option Addr} {sl_is_spot : Array (Option Value)} {oc_is_spot kV_is_spot dc_is_spot pm_is_spot cd_is_spot ct_is_spot : Value}
    {f_check_spot : Addr} {od_check_spot an_check_spot : Option Addr} {sl_check_spot : Array (Option Value)} {oc_check_spot kV_check_spot dc_check_spot pm_check_spot cd_check_spot ct_check_spot : Value}
    {f_check_turn : Addr} {od_check_turn an_check_turn : Option Addr} {sl_check_turn : Array (Option Value)} {oc_check_turn kV_check_turn dc_check_turn pm_check_turn cd_check_turn ct_check_turn : Value}
    {f_spot_at : Addr} {od_spot_at an_spot_at : Option Addr} {sl_spot_at : Array (Option Value)} {oc_spot_at kV_spot_at dc_spot_at pm_spot_at cd_spot_at ct_spot_at : Value}
    {f_fraction : Addr} {od_fraction an_fraction : Option Addr} {sl_fraction : Array (Option Value)} {oc_fraction kV_fraction dc_fraction pm_fraction cd_fraction ct_fraction : Value}
    {f_plus : Addr} {od_plus an_plus : Option Addr} {sl_plus : Array (Option Value)} {oc_plus kV_plus dc_plus pm_plus cd_plus ct_plus : Value}
    {f_negative : Addr} {od_negative an_negative : Option Addr} {sl_negative : Array (Option Value)} {oc_negative kV_negative dc_negative pm_negative cd_negative ct_negative : Value}
    {f_minus : Addr} {od_minus an_minus : Option Addr} {sl_minus : Array (Option Value)} {oc_minus kV_minus dc_minus pm_minus cd_minus ct_minus : Value}
    {f_product : Addr} {od_product an_product : Option Addr} {sl_product : Array (Option Value)} {oc_product kV_product dc_product pm_product cd_product ct_product : Value}
    {f_faced : Addr} {od_faced an_faced : Option Addr} {sl_faced : Array (Option Value)} {oc_faced kV_faced dc_faced pm_faced cd_faced ct_faced : Value}
    {f_carried : Addr} {od_carried an_carried : Option Addr} {sl_carried : Array (Option Value)} {oc_carried kV_carried dc_carried pm_carried cd_carried ct_carried : Value}
    {f_square_between : Addr} {od_square_between an_square_between : Option Addr} {sl_square_between : Array (Option Value)} {oc_square_between kV_square_between dc_square_between pm_square_between cd_square_between ct_square_between : Value}
    {f_is_from_to : Addr} {od_is_from_to an_is_from_to : Option Addr} {sl_is_from_to : Array (Option Value)} {oc_is_from_to kV_is_from_to dc_is_from_to pm_is_from_to cd_is_from_to ct_is_from_to : Value}
    {f_inverse : Addr} {od_inverse an_inverse : Option Addr} {sl_inverse : Array (Option Value)} {oc_inverse kV_inverse dc_inverse pm_inverse cd_inverse ct_inverse : Value}
    {C : Addr}
    {kD_Copy___init__ : Addr}
    {f_Copy___init__ : Addr} {od_Copy___init__ an_Copy___init__ : Option Addr} {sl_Copy___init__ : Array (Option Value)} {oc_Copy___init__ dc_Copy___init__ pm_Copy___init__ cd_Copy___init__ ct_Copy___init__ : Value}
    {f_Copy___rshift__ : Addr} {od_Copy___rshift__ an_Copy___rshift__ : Option Addr} {sl_Copy___rshift__ : Array (Option Value)} {oc_Copy___rshift__ kV_Copy___rshift__ dc_Copy___rshift__ pm_Copy___rshift__ cd_Copy___rshift__ ct_Copy___rshift__ : Value}
    {f_Copy___invert__ : Addr} {od_Copy___invert__ an_Copy___invert__ : Option Addr} {sl_Copy___invert__ : Array (Option Value)} {oc_Copy___invert__ kV_Copy___invert__ dc_Copy___invert__ pm_Copy___invert__ cd_Copy___invert__ ct_Copy___invert__ : Value}
    {f_Copy___eq__ : Addr} {od_Copy___eq__ an_Copy___eq__ : Option Addr} {sl_Copy___eq__ : Array (Option Value)} {oc_Copy___eq__ kV_Copy___eq__ dc_Copy___eq__ pm_Copy___eq__ cd_Copy___eq__ ct_Copy___eq__ : Value}
    {f_Copy___call__ : Addr} {od_Copy___call__ an_Copy___call__ : Option Addr} {sl_Copy___call__ : Array (Option Value)} {oc_Copy___call__ kV_Copy___call__ dc_Copy___call__ pm_Copy___call__ cd_Copy___call__ ct_Copy___call__ : Value}
    {q_Copy_turn : Addr} {rs_Copy_turn : List Value}
    {f_Copy_turn : Addr} {od_Copy_turn an_Copy_turn : Option Addr} {sl_Copy_turn : Array (Option Value)} {oc_Copy_turn kV_Copy_turn dc_Copy_turn pm_Copy_turn cd_Copy_turn ct_Copy_turn : Value}
    {q_Copy_shift : Addr} {rs_Copy_shift : List Value}
    {f_Copy_shift : Addr} {od_Copy_shift an_Copy_shift : Option Addr} {sl_Copy_shift : Array (Option Value)} {oc_Copy_shift kV_Copy_shift dc_Copy_shift pm_Copy_shift cd_Copy_shift ct_Copy_shift : Value}
    {q_Copy_mirrored : Addr} {rs_Copy_mirrored : List Value}
    {f_Copy_mirrored : Addr} {od_Copy_mirrored an_Copy_mirrored : Option Addr} {sl_Copy_mirrored : Array (Option Value)} {oc_Copy_mirrored kV_Copy_mirrored dc_Copy_mirrored pm_Copy_mirrored cd_Copy_mirrored ct_Copy_mirrored : Value}
    {f_check_reach : Addr} {od_check_reach an_check_reach : Option Addr} {sl_check_reach : Array (Option Value)} {oc_check_reach kV_check_reach dc_check_reach pm_check_reach cd_check_reach ct_check_reach : Value}
    {f_copy_around : Addr} {od_copy_around an_copy_around : Option Addr} {sl_copy_around : Array (Option Value)} {oc_copy_around kV_copy_around dc_copy_around pm_copy_around cd_copy_around ct_copy_around : Value}
    {CA : Addr}
    {kD_Arm___init__ : Addr}
    {f_Arm___init__ : Addr} {od_Arm___init__ an_Arm___init__ : Option Addr} {sl_Arm___init__ : Array (Option Value)} {oc_Arm___init__ dc_Arm___init__ pm_Arm___init__ cd_Arm___init__ ct_Arm___init__ : Value}
    {q_Arm_pole : Addr} {rs_Arm_pole : List Value}
    {f_Arm_pole : Addr} {od_Arm_pole an_Arm_pole : Option Addr} {sl_Arm_pole : Array (Option Value)} {oc_Arm_pole kV_Arm_pole dc_Arm_pole pm_Arm_pole cd_Arm_pole ct_Arm_pole : Value}
    {q_Arm_turn : Addr} {rs_Arm_turn : List Value}
    {f_Arm_turn : Addr} {od_Arm_turn an_Arm_turn : Option Addr} {sl_Arm_turn : Array (Option Value)} {oc_Arm_turn kV_Arm_turn dc_Arm_turn pm_Arm_turn cd_Arm_turn ct_Arm_turn : Value}
    {q_Arm_near : Addr} {rs_Arm_near : List Value}
    {f_Arm_near : Addr} {od_Arm_near an_Arm_near : Option Addr} {sl_Arm_near : Array (Option Value)} {oc_Arm_near kV_Arm_near dc_Arm_near pm_Arm_near cd_Arm_near ct_Arm_near : Value}
    {q_Arm_far : Addr} {rs_Arm_far : List Value}
    {f_Arm_far : Addr} {od_Arm_far an_Arm_far : Option Addr} {sl_Arm_far : Array (Option Value)} {oc_Arm_far kV_Arm_far dc_Arm_far pm_Arm_far cd_Arm_far ct_Arm_far : Value}
    {q_Arm_mirrored : Addr} {rs_Arm_mirrored : List Value}
    {f_Arm_mirrored : Addr} {od_Arm_mirrored an_Arm_mirrored : Option Addr} {sl_Arm_mirrored : Array (Option Value)} {oc_Arm_mirrored kV_Arm_mirrored dc_Arm_mirrored pm_Arm_mirrored cd_Arm_mirrored ct_Arm_mirrored : Value}
    {q_Arm_effect : Addr} {rs_Arm_effect : List Value}
    {f_Arm_effect : Addr} {od_Arm_effect an_Arm_effect : Option Addr} {sl_Arm_effect : Array (Option Value)} {oc_Arm_effect kV_Arm_effect dc_Arm_effect pm_Arm_effect cd_Arm_effect ct_Arm_effect : Value}
    {f_Arm___eq__ : Addr} {od_Arm___eq__ an_Arm___eq__ : Option Addr} {sl_Arm___eq__ : Array (Option Value)} {oc_Arm___eq__ kV_Arm___eq__ dc_Arm___eq__ pm_Arm___eq__ cd_Arm___eq__ ct_Arm___eq__ : Value}
    {f_law_random : Addr} {od_law_random an_law_random : Option Addr} {sl_law_random : Array (Option Value)} {oc_law_random kV_law_random dc_law_random pm_law_random cd_law_random ct_law_random : Value}
    {f_law_below : Addr} {od_law_below an_law_below : Option Addr} {sl_law_below : Array (Option Value)} {oc_law_below kV_law_below dc_law_below pm_law_below cd_law_below ct_law_below : Value}
    {f_law_step : Addr} {od_law_step an_law_step : Option Addr} {sl_law_step : Array (Option Value)} {oc_law_step kV_law_step dc_law_step pm_law_step cd_law_step ct_law_step : Value}
    {f_law_turn : Addr} {od_law_turn an_law_turn : Option Addr} {sl_law_turn : Array (Option Value)} {oc_law_turn kV_law_turn dc_law_turn pm_law_turn cd_law_turn ct_law_turn : Value}
    {f_law_common : Addr} {od_law_common an_law_common : Option Addr} {sl_law_common : Array (Option Value)} {oc_law_common kV_law_common dc_law_common pm_law_common cd_law_common ct_law_common : Value}
    {f_law_lowest : Addr} {od_law_lowest an_law_lowest : Option Addr} {sl_law_lowest : Array (Option Value)} {oc_law_lowest kV_law_lowest dc_law_lowest pm_law_lowest cd_law_lowest ct_law_lowest : Value}
    {f_law_spot : Addr} {od_law_spot an_law_spot : Option Addr} {sl_law_spot : Array (Option Value)} {oc_law_spot kV_law_spot dc_law_spot pm_law_spot cd_law_spot ct_law_spot : Value}
    {f_law_arm_told : Addr} {od_law_arm_told an_law_arm_told : Option Addr} {sl_law_arm_told : Array (Option Value)} {oc_law_arm_told kV_law_arm_told dc_law_arm_told pm_law_arm_told cd_law_arm_told ct_law_arm_told : Value}
    {f_law_arm : Addr} {od_law_arm an_law_arm : Option Addr} {sl_law_arm : Array (Option Value)} {oc_law_arm kV_law_arm dc_law_arm pm_law_arm cd_law_arm ct_law_arm : Value}
    {f_law_equal : Addr} {od_law_equal an_law_equal : Option Addr} {sl_law_equal : Array (Option Value)} {oc_law_equal kV_law_equal dc_law_equal pm_law_equal cd_law_equal ct_law_equal : Value}
    {f_law_over : Addr} {od_law_over an_law_over : Option Addr} {sl_law_over : Array (Option Value)} {oc_law_over kV_law_over dc_law_over pm_law_over cd_law_over ct_law_over : Value}
    {f_law_plus : Addr} {od_law_plus an_law_plus : Option Addr} {sl_law_plus : Array (Option Value)} {oc_law_plus kV_law_plus dc_law_plus pm_law_plus cd_law_plus ct_law_plus : Value}
    {f_law_times : Addr} {od_law_times an_law_times : Option Addr} {sl_law_times : Array (Option Value)} {oc_law_times kV_law_times dc_law_times pm_law_times cd_law_times ct_law_times : Value}
    {f_law_minus : Addr} {od_law_minus an_law_minus : Option Addr} {sl_law_minus : Array (Option Value)} {oc_law_minus kV_law_minus dc_law_minus pm_law_minus cd_law_minus ct_law_minus : Value}
    {f_law_about : Addr} {od_law_about an_law_about : Option Addr} {sl_law_about : Array (Option Value)} {oc_law_about kV_law_about dc_law_about pm_law_about cd_law_about ct_law_about : Value}
    {f_still_copy : Addr} {od_still_copy an_still_copy : Option Addr} {sl_still_copy : Array (Option Value)} {oc_still_copy kV_still_copy dc_still_copy pm_still_copy cd_still_copy ct_still_copy : Value}
    {f_joint_copy : Addr} {od_joint_copy an_joint_copy : Option Addr} {sl_joint_copy : Array (Option Value)} {oc_joint_copy kV_joint_copy dc_joint_copy pm_joint_copy cd_joint_copy ct_joint_copy : Value}
    {f_law_told : Addr} {od_law_told an_law_told : Option Addr} {sl_law_told : Array (Option Value)} {oc_law_told kV_law_told dc_law_told pm_law_told cd_law_told ct_law_told : Value}
    {f_law_copy : Addr} {od_law_copy an_law_copy : Option Addr} {sl_law_copy : Array (Option Value)} {oc_law_copy kV_law_copy dc_law_copy pm_law_copy cd_law_copy ct_law_copy : Value}
    {f_law_carried : Addr} {od_law_carried an_law_carried : Option Addr} {sl_law_carried : Array (Option Value)} {oc_law_carried kV_law_carried dc_law_carried pm_law_carried cd_law_carried ct_law_carried : Value}
    {f_check_box : Addr} {od_check_box an_check_box : Option Addr} {sl_check_box : Array (Option Value)} {oc_check_box kV_check_box dc_check_box pm_check_box cd_check_box ct_check_box : Value}
    {f_all_rows : Addr} {od_all_rows an_all_rows : Option Addr} {sl_all_rows : Array (Option Value)} {oc_all_rows kV_all_rows dc_all_rows pm_all_rows cd_all_rows ct_all_rows : Value}
    {f_arms_of : Addr} {od_arms_of an_arms_of : Option Addr} {sl_arms_of : Array (Option Value)} {oc_arms_of kV_arms_of dc_arms_of pm_arms_of cd_arms_of ct_arms_of : Value}
    {f_different_copies : Addr} {od_different_copies an_different_copies : Option Addr} {sl_different_copies : Array (Option Value)} {oc_different_copies kV_different_copies dc_different_copies pm_different_copies cd_different_copies ct_different_copies : Value}
    {f_rows_for : Addr} {od_rows_for an_rows_for : Option Addr} {sl_rows_for : Array (Option Value)} {oc_rows_for kV_rows_for dc_rows_for pm_rows_for cd_rows_for ct_rows_for : Value}
    {f_copy_count : Addr} {od_copy_count an_copy_count : Option Addr} {sl_copy_count : Array (Option Value)} {oc_copy_count kV_copy_count dc_copy_count pm_copy_count cd_copy_count ct_copy_count : Value}
    {f_copies_without : Addr} {od_copies_without an_copies_without : Option Addr} {sl_copies_without : Array (Option Value)} {oc_copies_without kV_copies_without dc_copies_without pm_copies_without cd_copies_without ct_copies_without : Value}
    {f_needless_arms : Addr} {od_needless_arms an_needless_arms : Option Addr} {sl_needless_arms : Array (Option Value)} {oc_needless_arms kV_needless_arms dc_needless_arms pm_needless_arms cd_needless_arms ct_needless_arms : Value}
    {f_law_box : Addr} {od_law_box an_law_box : Option Addr} {sl_law_box : Array (Option Value)} {oc_law_box kV_law_box dc_law_box pm_law_box cd_law_box ct_law_box : Value}
    {f_law_rows : Addr} {od_law_rows an_law_rows : Option Addr} {sl_law_rows : Array (Option Value)} {oc_law_rows kV_law_rows dc_law_rows pm_law_rows cd_law_rows ct_law_rows : Value}
    {f_law_made_by : Addr} {od_law_made_by an_law_made_by : Option Addr} {sl_law_made_by : Array (Option Value)} {oc_law_made_by kV_law_made_by dc_law_made_by pm_law_made_by cd_law_made_by ct_law_made_by : Value}
    {f_law cL PL : Addr} {od_law an_law : Option Addr} {sl_law : Array (Option Value)} {oc_law kV_law dc_law pm_law ct_law : Value} {oq_law : Value} {dq_law : Option Addr} {vq_law : Array Value} {sq_law : Array (Option Value)}
    (z_abs : PySem.W.nsIn K mainGlobals "abs" = some none)
    (z_len : PySem.W.nsIn K mainGlobals "len" = some none)
    (z_isinstance : PySem.W.nsIn K mainGlobals "isinstance" = some none)
    (z_int : PySem.W.nsIn K mainGlobals "int" = some none)
    (z_bool : PySem.W.nsIn K mainGlobals "bool" = some none)
    (z_str : PySem.W.nsIn K mainGlobals "str" = some none)
    (z_tuple : PySem.W.nsIn K mainGlobals "tuple" = some none)
    (z_list : PySem.W.nsIn K mainGlobals "list" = some none)
    (z_all : PySem.W.nsIn K mainGlobals "all" = some none)
    (z_range : PySem.W.nsIn K mainGlobals "range" = some none)
    (z_ValueError : PySem.W.nsIn K mainGlobals "ValueError" = some none)
    (z_min : PySem.W.nsIn K mainGlobals "min" = some none)
    (z_sorted : PySem.W.nsIn K mainGlobals "sorted" = some none)
    (z_set : PySem.W.nsIn K mainGlobals "set" = some none)
    (m_MIDDLE : PySem.W.nsIn K mainGlobals "MIDDLE" = some (some (.ref a_tMIDDLE)))
    (u_MIDDLE : K.lookup a_tMIDDLE = some ⟨.type "tuple", dd_MIDDLE, .seq #[.int 0 t1_MIDDLE, .int 0 t2_MIDDLE, .int 1 t3_MIDDLE] n_MIDDLE, sl_tMIDDLE⟩)
    (m_ONE : PySem.W.nsIn K mainGlobals "ONE" = some (some (.ref a_tONE)))
    (u_ONE : K.lookup a_tONE = some ⟨.type "tuple", dd_ONE, .seq #[.int 1 t1_ONE, .int 0 t2_ONE, .int 1 t3_ONE] n_ONE, sl_tONE⟩)
    (mi_MOST_REACH : PySem.W.nsIn K mainGlobals "MOST_REACH" = some (some (.int 1000 tk_MOST_REACH)))
    (mi_MOST_IN_BOX : PySem.W.nsIn K mainGlobals "MOST_IN_BOX" = some (some (.int 5 tk_MOST_IN_BOX)))
    (g_CB : PySem.W.nsIn K mainGlobals "CopyError" = some (some (.ref CB)))
    (ge_0 : PySem.W.nsIn K mainGlobals "InvalidSpot" = some (some (.ref e0)))
    (ge_1 : PySem.W.nsIn K mainGlobals "InvalidTurn" = some (some (.ref e1)))
    (ge_2 : PySem.W.nsIn K mainGlobals "InvalidTimes" = some (some (.ref e2)))
    (ge_3 : PySem.W.nsIn K mainGlobals "TooFew" = some (some (.ref e3)))
    (ge_4 : PySem.W.nsIn K mainGlobals "InvalidStroke" = some (some (.ref e4)))
    (ge_5 : PySem.W.nsIn K mainGlobals "OpenStroke" = some (some (.ref e5)))
    (ge_6 : PySem.W.nsIn K mainGlobals "InvalidReach" = some (some (.ref e6)))
    (ge_7 : PySem.W.nsIn K mainGlobals "OutOfReach" = some (some (.ref e7)))
    (ge_8 : PySem.W.nsIn K mainGlobals "TooMany" = some (some (.ref e8)))
    (ge_9 : PySem.W.nsIn K mainGlobals "InvalidSize" = some (some (.ref e9)))
    (ge_10 : PySem.W.nsIn K mainGlobals "InvalidBox" = some (some (.ref e10)))
    (ge_11 : PySem.W.nsIn K mainGlobals "Contradiction" = some (some (.ref e11)))
    (ge_12 : PySem.W.nsIn K mainGlobals "BadText" = some (some (.ref e12)))
    (ge_13 : PySem.W.nsIn K mainGlobals "BadRow" = some (some (.ref e13)))
    (ge_14 : PySem.W.nsIn K mainGlobals "UnknownName" = some (some (.ref e14)))
    (ge_15 : PySem.W.nsIn K mainGlobals "InvalidName" = some (some (.ref e15)))
    (ge_16 : PySem.W.nsIn K mainGlobals "InvalidCode" = some (some (.ref e16)))
    (ge_17 : PySem.W.nsIn K mainGlobals "UnknownArm" = some (some (.ref e17)))
    (ge_18 : PySem.W.nsIn K mainGlobals "NotFree" = some (some (.ref e18)))
    (ge_19 : PySem.W.nsIn K mainGlobals "InvalidOperation" = some (some (.ref e19)))
    (xc_n : PySem.W.specialIn K (.builtin "object.__class__") "__get__" = some (some (.builtin "getset_descriptor.__get__")))
    (xc_t : PySem.W.takesIn K (.builtin "object.__class__") = some true)
    (xg_10 : PySem.W.findIn K (.ref e10) "__getattribute__" = some (some (.builtin "BaseException.__getattribute__")))
    (xk_10 : PySem.W.findIn K (.ref e10) "__getattr__" = some none)
    (xs_10 : PySem.W.subIn K (.ref e10) (.type "BaseException") = some true)
    (xd_10 : PySem.W.hasDictIn K e10 = true)
    (xa_10 : PySem.W.findIn K (.ref e10) "__class__" = some (some (.builtin "object.__class__")))
    (xm_10 : PySem.W.mroIn K e10 (.type "object") = some true)
    (kt_10_0 : PySem.W.kitOne K (.ref e10) (.ref e0) = some false)
    (kt_10_1 : PySem.W.kitOne K (.ref e10) (.ref e1) = some false)
    (kt_10_2 : PySem.W.kitOne K (.ref e10) (.ref e2) = some false)
    (kt_10_3 : PySem.W.kitOne K (.ref e10) (.ref e3) = some false)
    (kt_10_4 : PySem.W.kitOne K (.ref e10) (.ref e4) = some false)
    (kt_10_5 : PySem.W.kitOne K (.ref e10) (.ref e5) = some false)
    (kt_10_6 : PySem.W.kitOne K (.ref e10) (.ref e6) = some false)
    (kt_10_7 : PySem.W.kitOne K (.ref e10) (.ref e7) = some false)
    (kt_10_8 : PySem.W.kitOne K (.ref e10) (.ref e8) = some false)
    (kt_10_9 : PySem.W.kitOne K (.ref e10) (.ref e9) = some false)
    (kt_10_10 : PySem.W.kitOne K (.ref e10) (.ref e10) = some true)
    (kt_10_11 : PySem.W.kitOne K (.ref e10) (.ref e11) = some false)
    (kt_10_12 : PySem.W.kitOne K (.ref e10) (.ref e12) = some false)
    (kt_10_13 : PySem.W.kitOne K (.ref e10) (.ref e13) = some false)
    (kt_10_14 : PySem.W.kitOne K (.ref e10) (.ref e14) = some false)
    (kt_10_15 : PySem.W.kitOne K (.ref e10) (.ref e15) = some false)
    (kt_10_16 : PySem.W.kitOne K (.ref e10) (.ref e16) = some false)
    (kt_10_17 : PySem.W.kitOne K (.ref e10) (.ref e17) = some false)
    (kt_10_18 : PySem.W.kitOne K (.ref e10) (.ref e18) = some false)
    (kt_10_19 : PySem.W.kitOne K (.ref e10) (.ref e19) = some false)
    (kv_10 : PySem.W.kitOne K (.ref e10) (.type "ValueError") = some true)
    (xx_10 : PySem.W.exmOne K (.ref e10) (.ref CB) = some true)
    (xq_10 : PySem.W.excIn K e10 [.type "ValueError", .type "Exception", .type "BaseException", .type "object"] "ValueError.__new__" = true)
    (xp_10 : PySem.W.keepIn K (.ref e10) = true)
    (xt_10 : PySem.W.typeIn K (.ref e10) = some (.type "type"))
    (a_law_error_of : PySem.W.nsIn K mainGlobals "_law_error_of" = some (some (.ref f_law_error_of)))
    (l_law_error_of : K.lookup f_law_error_of = some ⟨oc_law_error_of, od_law_error_of, .func (PySem.W.fnOf "_law_error_of" "_law_error_of" (defArgs s_law_error_of) (defBody s_law_error_of) (defScope s_law_error_of) .none kV_law_error_of dc_law_error_of pm_law_error_of an_law_error_of cd_law_error_of ct_law_error_of), sl_law_error_of⟩)
    (c_law_error_of : PySem.W.codeIn K cd_law_error_of "_law_error_of" = true)
    (k_law_error_of : PySem.W.keepIn K (.ref f_law_error_of) = true)
    (a_law_all_raise : PySem.W.nsIn K mainGlobals "_law_all_raise" = some (some (.ref f_law_all_raise)))
    (l_law_all_raise : K.lookup f_law_all_raise = some ⟨oc_law_all_raise, od_law_all_raise, .func (PySem.W.fnOf "_law_all_raise" "_law_all_raise" (defArgs s_law_all_raise) (defBody s_law_all_raise) (defScope s_law_all_raise) .none kV_law_all_raise dc_law_all_raise pm_law_all_raise an_law_all_raise cd_law_all_raise ct_law_all_raise), sl_law_all_raise⟩)
    (c_law_all_raise : PySem.W.codeIn K cd_law_all_raise "_law_all_raise" = true)
    (k_law_all_raise : PySem.W.keepIn K (.ref f_law_all_raise) = true)
    (a_common_divisor : PySem.W.nsIn K mainGlobals "common_divisor" = some (some (.ref f_common_divisor)))
    (l_common_divisor : K.lookup f_common_divisor = some ⟨oc_common_divisor, od_common_divisor, .func (PySem.W.fnOf "common_divisor" "common_divisor" (defArgs s_common_divisor) (defBody s_common_divisor) (defScope s_common_divisor) .none kV_common_divisor dc_common_divisor pm_common_divisor an_common_divisor cd_common_divisor ct_common_divisor), sl_common_divisor⟩)
    (c_common_divisor : PySem.W.codeIn K cd_common_divisor "common_divisor" = true)
    (k_common_divisor : PySem.W.keepIn K (.ref f_common_divisor) = true)
    (a_is_whole : PySem.W.nsIn K mainGlobals "is_whole" = some (some (.ref f_is_whole)))
    (l_is_whole : K.lookup f_is_whole = some ⟨oc_is_whole, od_is_whole, .func (PySem.W.fnOf "is_whole" "is_whole" (defArgs s_is_whole) (defBody s_is_whole) (defScope s_is_whole) .none kV_is_whole dc_is_whole pm_is_whole an_is_whole cd_is_whole ct_is_whole), sl_is_whole⟩)
    (c_is_whole : PySem.W.codeIn K cd_is_whole "is_whole" = true)
    (k_is_whole : PySem.W.keepIn K (.ref f_is_whole) = true)
    (a_is_spot : PySem.W.nsIn K mainGlobals "is_spot" = some (some (.ref f_is_spot)))
    (l_is_spot : K.lookup f_is_spot = some ⟨oc_is_spot, od_is_spot, .func (PySem.W.fnOf "is_spot" "is_spot" (defArgs s_is_spot) (defBody s_is_spot) (defScope s_is_spot) .none kV_is_spot dc_is_spot pm_is_spot an_is_spot cd_is_spot ct_is_spot), sl_is_spot⟩)
    (c_is_spot : PySem.W.codeIn K cd_is_spot "is_spot" = true)
    (k_is_spot : PySem.W.keepIn K (.ref f_is_spot) = true)
    (a_check_spot : PySem.W.nsIn K mainGlobals "check_spot" = some (some (.ref f_check_spot)))
    (l_check_spot : K.lookup f_check_spot = some ⟨oc_check_spot, od_check_spot, .func (PySem.W.fnOf "check_spot" "check_spot" (defArgs s_check_spot) (defBody s_check_spot) (defScope s_check_spot) .none kV_check_spot dc_check_spot pm_check_spot an_check_spot cd_check_spot ct_check_spot), sl_check_spot⟩)
    (c_check_spot : PySem.W.codeIn K cd_check_spot "check_spot" = true)
    (k_check_spot : PySem.W.keepIn K (.ref f_check_spot) = true)
    (a_check_turn : PySem.W.nsIn K mainGlobals "check_turn" = some (some (.ref f_check_turn)))
    (l_check_turn : K.lookup f_check_turn = some ⟨oc_check_turn, od_check_turn, .func (PySem.W.fnOf "check_turn" "check_turn" (defArgs s_check_turn) (defBody s_check_turn) (defScope s_check_turn) .none kV_check_turn dc_check_turn pm_check_turn an_check_turn cd_check_turn ct_check_turn), sl_check_turn⟩)
    (c_check_turn : PySem.W.codeIn K cd_check_turn "check_turn" = true)
    (k_check_turn : PySem.W.keepIn K (.ref f_check_turn) = true)
    (a_spot_at : PySem.W.nsIn K mainGlobals "spot_at" = some (some (.ref f_spot_at)))
    (l_spot_at : K.lookup f_spot_at = some ⟨oc_spot_at, od_spot_at, .func (PySem.W.fnOf "spot_at" "spot_at" (defArgs s_spot_at) (defBody s_spot_at) (defScope s_spot_at) .none kV_spot_at dc_spot_at pm_spot_at an_spot_at cd_spot_at ct_spot_at), sl_spot_at⟩)
    (c_spot_at : PySem.W.codeIn K cd_spot_at "spot_at" = true)
    (k_spot_at : PySem.W.keepIn K (.ref f_spot_at) = true)
    (a_fraction : PySem.W.nsIn K mainGlobals "fraction" = some (some (.ref f_fraction)))
    (l_fraction : K.lookup f_fraction = some ⟨oc_fraction, od_fraction, .func (PySem.W.fnOf "fraction" "fraction" (defArgs s_fraction) (defBody s_fraction) (defScope s_fraction) .none kV_fraction dc_fraction pm_fraction an_fraction cd_fraction ct_fraction), sl_fraction⟩)
    (c_fraction : PySem.W.codeIn K cd_fraction "fraction" = true)
    (k_fraction : PySem.W.keepIn K (.ref f_fraction) = true)
    (a_plus : PySem.W.nsIn K mainGlobals "plus" = some (some (.ref f_plus)))
    (l_plus : K.lookup f_plus = some ⟨oc_plus, od_plus, .func (PySem.W.fnOf "plus" "plus" (defArgs s_plus) (defBody s_plus) (defScope s_plus) .none kV_plus dc_plus pm_plus an_plus cd_plus ct_plus), sl_plus⟩)
    (c_plus : PySem.W.codeIn K cd_plus "plus" = true)
    (k_plus : PySem.W.keepIn K (.ref f_plus) = true)
    (a_negative : PySem.W.nsIn K mainGlobals "negative" = some (some (.ref f_negative)))
    (l_negative : K.lookup f_negative = some ⟨oc_negative, od_negative, .func (PySem.W.fnOf "negative" "negative" (defArgs s_negative) (defBody s_negative) (defScope s_negative) .none kV_negative dc_negative pm_negative an_negative cd_negative ct_negative), sl_negative⟩)
    (c_negative : PySem.W.codeIn K cd_negative "negative" = true)
    (k_negative : PySem.W.keepIn K (.ref f_negative) = true)
    (a_minus : PySem.W.nsIn K mainGlobals "minus" = some (some (.ref f_minus)))
    (l_minus : K.lookup f_minus = some ⟨oc_minus, od_minus, .func (PySem.W.fnOf "minus" "minus" (defArgs s_minus) (defBody s_minus) (defScope s_minus) .none kV_minus dc_minus pm_minus an_minus cd_minus ct_minus), sl_minus⟩)
    (c_minus : PySem.W.codeIn K cd_minus "minus" = true)
    (k_minus : PySem.W.keepIn K (.ref f_minus) = true)
    (a_product : PySem.W.nsIn K mainGlobals "product" = some (some (.ref f_product)))
    (l_product : K.lookup f_product = some ⟨oc_product, od_product, .func (PySem.W.fnOf "product" "product" (defArgs s_product) (defBody s_product) (defScope s_product) .none kV_product dc_product pm_product an_product cd_product ct_product), sl_product⟩)
    (c_product : PySem.W.codeIn K cd_product "product" = true)
    (k_product : PySem.W.keepIn K (.ref f_product) = true)
    (a_faced : PySem.W.nsIn K mainGlobals "faced" = some (some (.ref f_faced)))
    (l_faced : K.lookup f_faced = some ⟨oc_faced, od_faced, .func (PySem.W.fnOf "faced" "faced" (defArgs s_faced) (defBody s_faced) (defScope s_faced) .none kV_faced dc_faced pm_faced an_faced cd_faced ct_faced), sl_faced⟩)
    (c_faced : PySem.W.codeIn K cd_faced "faced" = true)
    (k_faced : PySem.W.keepIn K (.ref f_faced) = true)
    (a_carried : PySem.W.nsIn K mainGlobals "carried" = some (some (.ref f_carried)))
    (l_carried : K.lookup f_carried = some ⟨oc_carried, od_carried, .func (PySem.W.fnOf "carried" "carried" (defArgs s_carried) (defBody s_carried) (defScope s_carried) .none kV_carried dc_carried pm_carried an_carried cd_carried ct_carried), sl_carried⟩)
    (c_carried : PySem.W.codeIn K cd_carried "carried" = true)
    (k_carried : PySem.W.keepIn K (.ref f_carried) = true)
    (a_square_between : PySem.W.nsIn K mainGlobals "square_between" = some (some (.ref f_square_between)))
    (l_square_between : K.lookup f_square_between = some ⟨oc_square_between, od_square_between, .func (PySem.W.fnOf "square_between" "square_between" (defArgs s_square_between) (defBody s_square_between) (defScope s_square_between) .none kV_square_between dc_square_between pm_square_between an_square_between cd_square_between ct_square_between), sl_square_between⟩)
    (c_square_between : PySem.W.codeIn K cd_square_between "square_between" = true)
    (k_square_between : PySem.W.keepIn K (.ref f_square_between) = true)
    (a_is_from_to : PySem.W.nsIn K mainGlobals "is_from_to" = some (some (.ref f_is_from_to)))
    (l_is_from_to : K.lookup f_is_from_to = some ⟨oc_is_from_to, od_is_from_to, .func (PySem.W.fnOf "is_from_to" "is_from_to" (defArgs s_is_from_to) (defBody s_is_from_to) (defScope s_is_from_to) .none kV_is_from_to dc_is_from_to pm_is_from_to an_is_from_to cd_is_from_to ct_is_from_to), sl_is_from_to⟩)
    (c_is_from_to : PySem.W.codeIn K cd_is_from_to "is_from_to" = true)
    (k_is_from_to : PySem.W.keepIn K (.ref f_is_from_to) = true)
    (a_inverse : PySem.W.nsIn K mainGlobals "inverse" = some (some (.ref f_inverse)))
    (l_inverse : K.lookup f_inverse = some ⟨oc_inverse, od_inverse, .func (PySem.W.fnOf "inverse" "inverse" (defArgs s_inverse) (defBody s_inverse) (defScope s_inverse) .none kV_inverse dc_inverse pm_inverse an_inverse cd_inverse ct_inverse), sl_inverse⟩)
    (c_inverse : PySem.W.codeIn K cd_inverse "inverse" = true)
    (k_inverse : PySem.W.keepIn K (.ref f_inverse) = true)
    (aC : PySem.W.nsIn K mainGlobals "Copy" = some (some (.ref C)))
    (inI : PySem.W.findIn K (.ref C) "__init__" = some (some (.ref f_Copy___init__)))
    (l_Copy___init__ : K.lookup f_Copy___init__ = some ⟨oc_Copy___init__, od_Copy___init__, .func (PySem.W.fnOf "__init__" "Copy.__init__" (defArgs s_Copy___init__) (defBody s_Copy___init__) (defScope s_Copy___init__) .none (.ref kD_Copy___init__) dc_Copy___init__ pm_Copy___init__ an_Copy___init__ cd_Copy___init__ ct_Copy___init__), sl_Copy___init__⟩)
    (c_Copy___init__ : PySem.W.codeIn K cd_Copy___init__ "Copy.__init__" = true)
    (k_Copy___init__ : PySem.W.keepIn K (.ref f_Copy___init__) = true)
    (kw_init : PySem.W.nsIn K kD_Copy___init__ "mirrored" = some (some (.bool false)))
    (pg : PySem.W.plainGet K C Str.empty = true)
    (hdC : PySem.W.hasDictIn K C = true)
    (po : PySem.W.plainOver K C = true)
    (sa : PySem.W.findIn K (.ref C) "__setattr__" = some (some (.builtin "object.__setattr__")))
    (mkC : PySem.W.makesIn K C = true)
    (kc : PySem.W.keepIn K (.ref C) = true)
    (isI : PySem.W.isFn K (.ref f_Copy___init__) = true)
    (nF : PySem.W.findIn K (.ref C) "factor" = some none)
    (nO : PySem.W.findIn K (.ref C) "offset" = some none)
    (nL : PySem.W.findIn K (.ref C) "flips" = some none)
    (ha : PySem.W.findIn K (.ref C) "__class__" = some (some (.builtin "object.__class__")))
    (hn : PySem.W.specialIn K (.builtin "object.__class__") "__get__" = some (some (.builtin "getset_descriptor.__get__")))
    (htk : PySem.W.takesIn K (.builtin "object.__class__") = some true)
    (hmo : PySem.W.mroIn K C (.type "object") = some true)
    (sf : PySem.W.selfFirst K C = true)
    (a_Copy___rshift__ : PySem.W.findIn K (.ref C) "__rshift__" = some (some (.ref f_Copy___rshift__)))
    (i_Copy___rshift__ : PySem.W.isFn K (.ref f_Copy___rshift__) = true)
    (l_Copy___rshift__ : K.lookup f_Copy___rshift__ = some ⟨oc_Copy___rshift__, od_Copy___rshift__, .func (PySem.W.fnOf "__rshift__" "Copy.__rshift__" (defArgs s_Copy___rshift__) (defBody s_Copy___rshift__) (defScope s_Copy___rshift__) .none kV_Copy___rshift__ dc_Copy___rshift__ pm_Copy___rshift__ an_Copy___rshift__ cd_Copy___rshift__ ct_Copy___rshift__), sl_Copy___rshift__⟩)
    (c_Copy___rshift__ : PySem.W.codeIn K cd_Copy___rshift__ "Copy.__rshift__" = true)
    (k_Copy___rshift__ : PySem.W.keepIn K (.ref f_Copy___rshift__) = true)
    (a_Copy___invert__ : PySem.W.findIn K (.ref C) "__invert__" = some (some (.ref f_Copy___invert__)))
    (i_Copy___invert__ : PySem.W.isFn K (.ref f_Copy___invert__) = true)
    (l_Copy___invert__ : K.lookup f_Copy___invert__ = some ⟨oc_Copy___invert__, od_Copy___invert__, .func (PySem.W.fnOf "__invert__" "Copy.__invert__" (defArgs s_Copy___invert__) (defBody s_Copy___invert__) (defScope s_Copy___invert__) .none kV_Copy___invert__ dc_Copy___invert__ pm_Copy___invert__ an_Copy___invert__ cd_Copy___invert__ ct_Copy___invert__), sl_Copy___invert__⟩)
    (c_Copy___invert__ : PySem.W.codeIn K cd_Copy___invert__ "Copy.__invert__" = true)
    (k_Copy___invert__ : PySem.W.keepIn K (.ref f_Copy___invert__) = true)
    (a_Copy___eq__ : PySem.W.findIn K (.ref C) "__eq__" = some (some (.ref f_Copy___eq__)))
    (i_Copy___eq__ : PySem.W.isFn K (.ref f_Copy___eq__) = true)
    (l_Copy___eq__ : K.lookup f_Copy___eq__ = some ⟨oc_Copy___eq__, od_Copy___eq__, .func (PySem.W.fnOf "__eq__" "Copy.__eq__" (defArgs s_Copy___eq__) (defBody s_Copy___eq__) (defScope s_Copy___eq__) .none kV_Copy___eq__ dc_Copy___eq__ pm_Copy___eq__ an_Copy___eq__ cd_Copy___eq__ ct_Copy___eq__), sl_Copy___eq__⟩)
    (c_Copy___eq__ : PySem.W.codeIn K cd_Copy___eq__ "Copy.__eq__" = true)
    (k_Copy___eq__ : PySem.W.keepIn K (.ref f_Copy___eq__) = true)
    (a_Copy___call__ : PySem.W.findIn K (.ref C) "__call__" = some (some (.ref f_Copy___call__)))
    (i_Copy___call__ : PySem.W.isFn K (.ref f_Copy___call__) = true)
    (l_Copy___call__ : K.lookup f_Copy___call__ = some ⟨oc_Copy___call__, od_Copy___call__, .func (PySem.W.fnOf "__call__" "Copy.__call__" (defArgs s_Copy___call__) (defBody s_Copy___call__) (defScope s_Copy___call__) .none kV_Copy___call__ dc_Copy___call__ pm_Copy___call__ an_Copy___call__ cd_Copy___call__ ct_Copy___call__), sl_Copy___call__⟩)
    (c_Copy___call__ : PySem.W.codeIn K cd_Copy___call__ "Copy.__call__" = true)
    (k_Copy___call__ : PySem.W.keepIn K (.ref f_Copy___call__) = true)
    (fi_call : PySem.W.fnIn K f_Copy___call__ = true)
    (a_Copy_turn : PySem.W.findIn K (.ref C) "turn" = some (some (.ref q_Copy_turn)))
    (g_Copy_turn : PySem.W.specialIn K (.ref q_Copy_turn) "__get__" = some (some (.builtin "property.__get__")))
    (t_Copy_turn : PySem.W.takesIn K (.ref q_Copy_turn) = some true)
    (r_Copy_turn : PySem.W.recIn K q_Copy_turn "property" = some (.ref f_Copy_turn :: rs_Copy_turn))
    (l_Copy_turn : K.lookup f_Copy_turn = some ⟨oc_Copy_turn, od_Copy_turn, .func (PySem.W.fnOf "turn" "Copy.turn" (defArgs s_Copy_turn) (defBody s_Copy_turn) (defScope s_Copy_turn) .none kV_Copy_turn dc_Copy_turn pm_Copy_turn an_Copy_turn cd_Copy_turn ct_Copy_turn), sl_Copy_turn⟩)
    (c_Copy_turn : PySem.W.codeIn K cd_Copy_turn "Copy.turn" = true)
    (k_Copy_turn : PySem.W.keepIn K (.ref f_Copy_turn) = true)
    (a_Copy_shift : PySem.W.findIn K (.ref C) "shift" = some (some (.ref q_Copy_shift)))
    (g_Copy_shift : PySem.W.specialIn K (.ref q_Copy_shift) "__get__" = some (some (.builtin "property.__get__")))
    (t_Copy_shift : PySem.W.takesIn K (.ref q_Copy_shift) = some true)
    (r_Copy_shift : PySem.W.recIn K q_Copy_shift "property" = some (.ref f_Copy_shift :: rs_Copy_shift))
    (l_Copy_shift : K.lookup f_Copy_shift = some ⟨oc_Copy_shift, od_Copy_shift, .func (PySem.W.fnOf "shift" "Copy.shift" (defArgs s_Copy_shift) (defBody s_Copy_shift) (defScope s_Copy_shift) .none kV_Copy_shift dc_Copy_shift pm_Copy_shift an_Copy_shift cd_Copy_shift ct_Copy_shift), sl_Copy_shift⟩)
    (c_Copy_shift : PySem.W.codeIn K cd_Copy_shift "Copy.shift" = true)
    (k_Copy_shift : PySem.W.keepIn K (.ref f_Copy_shift) = true)
    (a_Copy_mirrored : PySem.W.findIn K (.ref C) "mirrored" = some (some (.ref q_Copy_mirrored)))
    (g_Copy_mirrored : PySem.W.specialIn K (.ref q_Copy_mirrored) "__get__" = some (some (.builtin "property.__get__")))
    (t_Copy_mirrored : PySem.W.takesIn K (.ref q_Copy_mirrored) = some true)
    (r_Copy_mirrored : PySem.W.recIn K q_Copy_mirrored "property" = some (.ref f_Copy_mirrored :: rs_Copy_mirrored))
    (l_Copy_mirrored : K.lookup f_Copy_mirrored = some ⟨oc_Copy_mirrored, od_Copy_mirrored, .func (PySem.W.fnOf "mirrored" "Copy.mirrored" (defArgs s_Copy_mirrored) (defBody s_Copy_mirrored) (defScope s_Copy_mirrored) .none kV_Copy_mirrored dc_Copy_mirrored pm_Copy_mirrored an_Copy_mirrored cd_Copy_mirrored ct_Copy_mirrored), sl_Copy_mirrored⟩)
    (c_Copy_mirrored : PySem.W.codeIn K cd_Copy_mirrored "Copy.mirrored" = true)
    (k_Copy_mirrored : PySem.W.keepIn K (.ref f_Copy_mirrored) = true)
    (a_check_reach : PySem.W.nsIn K mainGlobals "check_reach" = some (some (.ref f_check_reach)))
    (l_check_reach : K.lookup f_check_reach = some ⟨oc_check_reach, od_check_reach, .func (PySem.W.fnOf "check_reach" "check_reach" (defArgs s_check_reach) (defBody s_check_reach) (defScope s_check_reach) .none kV_check_reach dc_check_reach pm_check_reach an_check_reach cd_check_reach ct_check_reach), sl_check_reach⟩)
    (c_check_reach : PySem.W.codeIn K cd_check_reach "check_reach" = true)
    (k_check_reach : PySem.W.keepIn K (.ref f_check_reach) = true)
    (a_copy_around : PySem.W.nsIn K mainGlobals "copy_around" = some (some (.ref f_copy_around)))
    (l_copy_around : K.lookup f_copy_around = some ⟨oc_copy_around, od_copy_around, .func (PySem.W.fnOf "copy_around" "copy_around" (defArgs s_copy_around) (defBody s_copy_around) (defScope s_copy_around) .none kV_copy_around dc_copy_around pm_copy_around an_copy_around cd_copy_around ct_copy_around), sl_copy_around⟩)
    (c_copy_around : PySem.W.codeIn K cd_copy_around "copy_around" = true)
    (k_copy_around : PySem.W.keepIn K (.ref f_copy_around) = true)
    (aCA : PySem.W.nsIn K mainGlobals "Arm" = some (some (.ref CA)))
    (inCA : PySem.W.findIn K (.ref CA) "__init__" = some (some (.ref f_Arm___init__)))
    (l_Arm___init__ : K.lookup f_Arm___init__ = some ⟨oc_Arm___init__, od_Arm___init__, .func (PySem.W.fnOf "__init__" "Arm.__init__" (defArgs s_Arm___init__) (defBody s_Arm___init__) (defScope s_Arm___init__) .none (.ref kD_Arm___init__) dc_Arm___init__ pm_Arm___init__ an_Arm___init__ cd_Arm___init__ ct_Arm___init__), sl_Arm___init__⟩)
    (c_Arm___init__ : PySem.W.codeIn K cd_Arm___init__ "Arm.__init__" = true)
    (k_Arm___init__ : PySem.W.keepIn K (.ref f_Arm___init__) = true)
    (kw_A : PySem.W.nsIn K kD_Arm___init__ "mirrored" = some (some (.bool false)))
    (pgCA : PySem.W.plainGet K CA Str.empty = true)
    (hdCA : PySem.W.hasDictIn K CA = true)
    (poCA : PySem.W.plainOver K CA = true)
    (saCA : PySem.W.findIn K (.ref CA) "__setattr__" = some (some (.builtin "object.__setattr__")))
    (mkCA : PySem.W.makesIn K CA = true)
    (kcCA : PySem.W.keepIn K (.ref CA) = true)
    (isCA : PySem.W.isFn K (.ref f_Arm___init__) = true)
    (nCA_centre : PySem.W.findIn K (.ref CA) "centre" = some none)
    (nCA_factor : PySem.W.findIn K (.ref CA) "factor" = some none)
    (nCA_least : PySem.W.findIn K (.ref CA) "least" = some none)
    (nCA_most : PySem.W.findIn K (.ref CA) "most" = some none)
    (nCA_flips : PySem.W.findIn K (.ref CA) "flips" = some none)
    (nCA_pen : PySem.W.findIn K (.ref CA) "pen" = some none)
    (haA : PySem.W.findIn K (.ref CA) "__class__" = some (some (.builtin "object.__class__")))
    (hmA : PySem.W.mroIn K CA (.type "object") = some true)
    (a_Arm_pole : PySem.W.findIn K (.ref CA) "pole" = some (some (.ref q_Arm_pole)))
    (g_Arm_pole : PySem.W.specialIn K (.ref q_Arm_pole) "__get__" = some (some (.builtin "property.__get__")))
    (t_Arm_pole : PySem.W.takesIn K (.ref q_Arm_pole) = some true)
    (r_Arm_pole : PySem.W.recIn K q_Arm_pole "property" = some (.ref f_Arm_pole :: rs_Arm_pole))
    (l_Arm_pole : K.lookup f_Arm_pole = some ⟨oc_Arm_pole, od_Arm_pole, .func (PySem.W.fnOf "pole" "Arm.pole" (defArgs s_Arm_pole) (defBody s_Arm_pole) (defScope s_Arm_pole) .none kV_Arm_pole dc_Arm_pole pm_Arm_pole an_Arm_pole cd_Arm_pole ct_Arm_pole), sl_Arm_pole⟩)
    (c_Arm_pole : PySem.W.codeIn K cd_Arm_pole "Arm.pole" = true)
    (k_Arm_pole : PySem.W.keepIn K (.ref f_Arm_pole) = true)
    (a_Arm_turn : PySem.W.findIn K (.ref CA) "turn" = some (some (.ref q_Arm_turn)))
    (g_Arm_turn : PySem.W.specialIn K (.ref q_Arm_turn) "__get__" = some (some (.builtin "property.__get__")))
    (t_Arm_turn : PySem.W.takesIn K (.ref q_Arm_turn) = some true)
    (r_Arm_turn : PySem.W.recIn K q_Arm_turn "property" = some (.ref f_Arm_turn :: rs_Arm_turn))
    (l_Arm_turn : K.lookup f_Arm_turn = some ⟨oc_Arm_turn, od_Arm_turn, .func (PySem.W.fnOf "turn" "Arm.turn" (defArgs s_Arm_turn) (defBody s_Arm_turn) (defScope s_Arm_turn) .none kV_Arm_turn dc_Arm_turn pm_Arm_turn an_Arm_turn cd_Arm_turn ct_Arm_turn), sl_Arm_turn⟩)
    (c_Arm_turn : PySem.W.codeIn K cd_Arm_turn "Arm.turn" = true)
    (k_Arm_turn : PySem.W.keepIn K (.ref f_Arm_turn) = true)
    (a_Arm_near : PySem.W.findIn K (.ref CA) "near" = some (some (.ref q_Arm_near)))
    (g_Arm_near : PySem.W.specialIn K (.ref q_Arm_near) "__get__" = some (some (.builtin "property.__get__")))
    (t_Arm_near : PySem.W.takesIn K (.ref q_Arm_near) = some true)
    (r_Arm_near : PySem.W.recIn K q_Arm_near "property" = some (.ref f_Arm_near :: rs_Arm_near))
    (l_Arm_near : K.lookup f_Arm_near = some ⟨oc_Arm_near, od_Arm_near, .func (PySem.W.fnOf "near" "Arm.near" (defArgs s_Arm_near) (defBody s_Arm_near) (defScope s_Arm_near) .none kV_Arm_near dc_Arm_near pm_Arm_near an_Arm_near cd_Arm_near ct_Arm_near), sl_Arm_near⟩)
    (c_Arm_near : PySem.W.codeIn K cd_Arm_near "Arm.near" = true)
    (k_Arm_near : PySem.W.keepIn K (.ref f_Arm_near) = true)
    (a_Arm_far : PySem.W.findIn K (.ref CA) "far" = some (some (.ref q_Arm_far)))
    (g_Arm_far : PySem.W.specialIn K (.ref q_Arm_far) "__get__" = some (some (.builtin "property.__get__")))
    (t_Arm_far : PySem.W.takesIn K (.ref q_Arm_far) = some true)
    (r_Arm_far : PySem.W.recIn K q_Arm_far "property" = some (.ref f_Arm_far :: rs_Arm_far))
    (l_Arm_far : K.lookup f_Arm_far = some ⟨oc_Arm_far, od_Arm_far, .func (PySem.W.fnOf "far" "Arm.far" (defArgs s_Arm_far) (defBody s_Arm_far) (defScope s_Arm_far) .none kV_Arm_far dc_Arm_far pm_Arm_far an_Arm_far cd_Arm_far ct_Arm_far), sl_Arm_far⟩)
    (c_Arm_far : PySem.W.codeIn K cd_Arm_far "Arm.far" = true)
    (k_Arm_far : PySem.W.keepIn K (.ref f_Arm_far) = true)
    (a_Arm_mirrored : PySem.W.findIn K (.ref CA) "mirrored" = some (some (.ref q_Arm_mirrored)))
    (g_Arm_mirrored : PySem.W.specialIn K (.ref q_Arm_mirrored) "__get__" = some (some (.builtin "property.__get__")))
    (t_Arm_mirrored : PySem.W.takesIn K (.ref q_Arm_mirrored) = some true)
    (r_Arm_mirrored : PySem.W.recIn K q_Arm_mirrored "property" = some (.ref f_Arm_mirrored :: rs_Arm_mirrored))
    (l_Arm_mirrored : K.lookup f_Arm_mirrored = some ⟨oc_Arm_mirrored, od_Arm_mirrored, .func (PySem.W.fnOf "mirrored" "Arm.mirrored" (defArgs s_Arm_mirrored) (defBody s_Arm_mirrored) (defScope s_Arm_mirrored) .none kV_Arm_mirrored dc_Arm_mirrored pm_Arm_mirrored an_Arm_mirrored cd_Arm_mirrored ct_Arm_mirrored), sl_Arm_mirrored⟩)
    (c_Arm_mirrored : PySem.W.codeIn K cd_Arm_mirrored "Arm.mirrored" = true)
    (k_Arm_mirrored : PySem.W.keepIn K (.ref f_Arm_mirrored) = true)
    (a_Arm_effect : PySem.W.findIn K (.ref CA) "effect" = some (some (.ref q_Arm_effect)))
    (g_Arm_effect : PySem.W.specialIn K (.ref q_Arm_effect) "__get__" = some (some (.builtin "property.__get__")))
    (t_Arm_effect : PySem.W.takesIn K (.ref q_Arm_effect) = some true)
    (r_Arm_effect : PySem.W.recIn K q_Arm_effect "property" = some (.ref f_Arm_effect :: rs_Arm_effect))
    (l_Arm_effect : K.lookup f_Arm_effect = some ⟨oc_Arm_effect, od_Arm_effect, .func (PySem.W.fnOf "effect" "Arm.effect" (defArgs s_Arm_effect) (defBody s_Arm_effect) (defScope s_Arm_effect) .none kV_Arm_effect dc_Arm_effect pm_Arm_effect an_Arm_effect cd_Arm_effect ct_Arm_effect), sl_Arm_effect⟩)
    (c_Arm_effect : PySem.W.codeIn K cd_Arm_effect "Arm.effect" = true)
    (k_Arm_effect : PySem.W.keepIn K (.ref f_Arm_effect) = true)
    (a_Arm___eq__ : PySem.W.findIn K (.ref CA) "__eq__" = some (some (.ref f_Arm___eq__)))
    (i_Arm___eq__ : PySem.W.isFn K (.ref f_Arm___eq__) = true)
    (l_Arm___eq__ : K.lookup f_Arm___eq__ = some ⟨oc_Arm___eq__, od_Arm___eq__, .func (PySem.W.fnOf "__eq__" "Arm.__eq__" (defArgs s_Arm___eq__) (defBody s_Arm___eq__) (defScope s_Arm___eq__) .none kV_Arm___eq__ dc_Arm___eq__ pm_Arm___eq__ an_Arm___eq__ cd_Arm___eq__ ct_Arm___eq__), sl_Arm___eq__⟩)
    (c_Arm___eq__ : PySem.W.codeIn K cd_Arm___eq__ "Arm.__eq__" = true)
    (k_Arm___eq__ : PySem.W.keepIn K (.ref f_Arm___eq__) = true)
    (a_law_random : PySem.W.nsIn K mainGlobals "_law_random" = some (some (.ref f_law_random)))
    (l_law_random : K.lookup f_law_random = some ⟨oc_law_random, od_law_random, .func (PySem.W.fnOf "_law_random" "_law_random" (defArgs s_law_random) (defBody s_law_random) (defScope s_law_random) .none kV_law_random dc_law_random pm_law_random an_law_random cd_law_random ct_law_random), sl_law_random⟩)
    (c_law_random : PySem.W.codeIn K cd_law_random "_law_random" = true)
    (k_law_random : PySem.W.keepIn K (.ref f_law_random) = true)
    (a_law_below : PySem.W.nsIn K mainGlobals "_law_below" = some (some (.ref f_law_below)))
    (l_law_below : K.lookup f_law_below = some ⟨oc_law_below, od_law_below, .func (PySem.W.fnOf "_law_below" "_law_below" (defArgs s_law_below) (defBody s_law_below) (defScope s_law_below) .none kV_law_below dc_law_below pm_law_below an_law_below cd_law_below ct_law_below), sl_law_below⟩)
    (c_law_below : PySem.W.codeIn K cd_law_below "_law_below" = true)
    (k_law_below : PySem.W.keepIn K (.ref f_law_below) = true)
    (a_law_step : PySem.W.nsIn K mainGlobals "_law_step" = some (some (.ref f_law_step)))
    (l_law_step : K.lookup f_law_step = some ⟨oc_law_step, od_law_step, .func (PySem.W.fnOf "_law_step" "_law_step" (defArgs s_law_step) (defBody s_law_step) (defScope s_law_step) .none kV_law_step dc_law_step pm_law_step an_law_step cd_law_step ct_law_step), sl_law_step⟩)
    (c_law_step : PySem.W.codeIn K cd_law_step "_law_step" = true)
    (k_law_step : PySem.W.keepIn K (.ref f_law_step) = true)
    (a_law_turn : PySem.W.nsIn K mainGlobals "_law_turn" = some (some (.ref f_law_turn)))
    (l_law_turn : K.lookup f_law_turn = some ⟨oc_law_turn, od_law_turn, .func (PySem.W.fnOf "_law_turn" "_law_turn" (defArgs s_law_turn) (defBody s_law_turn) (defScope s_law_turn) .none kV_law_turn dc_law_turn pm_law_turn an_law_turn cd_law_turn ct_law_turn), sl_law_turn⟩)
    (c_law_turn : PySem.W.codeIn K cd_law_turn "_law_turn" = true)
    (k_law_turn : PySem.W.keepIn K (.ref f_law_turn) = true)
    (a_law_common : PySem.W.nsIn K mainGlobals "_law_common" = some (some (.ref f_law_common)))
    (l_law_common : K.lookup f_law_common = some ⟨oc_law_common, od_law_common, .func (PySem.W.fnOf "_law_common" "_law_common" (defArgs s_law_common) (defBody s_law_common) (defScope s_law_common) .none kV_law_common dc_law_common pm_law_common an_law_common cd_law_common ct_law_common), sl_law_common⟩)
    (c_law_common : PySem.W.codeIn K cd_law_common "_law_common" = true)
    (k_law_common : PySem.W.keepIn K (.ref f_law_common) = true)
    (a_law_lowest : PySem.W.nsIn K mainGlobals "_law_lowest" = some (some (.ref f_law_lowest)))
    (l_law_lowest : K.lookup f_law_lowest = some ⟨oc_law_lowest, od_law_lowest, .func (PySem.W.fnOf "_law_lowest" "_law_lowest" (defArgs s_law_lowest) (defBody s_law_lowest) (defScope s_law_lowest) .none kV_law_lowest dc_law_lowest pm_law_lowest an_law_lowest cd_law_lowest ct_law_lowest), sl_law_lowest⟩)
    (c_law_lowest : PySem.W.codeIn K cd_law_lowest "_law_lowest" = true)
    (k_law_lowest : PySem.W.keepIn K (.ref f_law_lowest) = true)
    (a_law_spot : PySem.W.nsIn K mainGlobals "_law_spot" = some (some (.ref f_law_spot)))
    (l_law_spot : K.lookup f_law_spot = some ⟨oc_law_spot, od_law_spot, .func (PySem.W.fnOf "_law_spot" "_law_spot" (defArgs s_law_spot) (defBody s_law_spot) (defScope s_law_spot) .none kV_law_spot dc_law_spot pm_law_spot an_law_spot cd_law_spot ct_law_spot), sl_law_spot⟩)
    (c_law_spot : PySem.W.codeIn K cd_law_spot "_law_spot" = true)
    (k_law_spot : PySem.W.keepIn K (.ref f_law_spot) = true)
    (a_law_arm_told : PySem.W.nsIn K mainGlobals "_law_arm_told" = some (some (.ref f_law_arm_told)))
    (l_law_arm_told : K.lookup f_law_arm_told = some ⟨oc_law_arm_told, od_law_arm_told, .func (PySem.W.fnOf "_law_arm_told" "_law_arm_told" (defArgs s_law_arm_told) (defBody s_law_arm_told) (defScope s_law_arm_told) .none kV_law_arm_told dc_law_arm_told pm_law_arm_told an_law_arm_told cd_law_arm_told ct_law_arm_told), sl_law_arm_told⟩)
    (c_law_arm_told : PySem.W.codeIn K cd_law_arm_told "_law_arm_told" = true)
    (k_law_arm_told : PySem.W.keepIn K (.ref f_law_arm_told) = true)
    (a_law_arm : PySem.W.nsIn K mainGlobals "_law_arm" = some (some (.ref f_law_arm)))
    (l_law_arm : K.lookup f_law_arm = some ⟨oc_law_arm, od_law_arm, .func (PySem.W.fnOf "_law_arm" "_law_arm" (defArgs s_law_arm) (defBody s_law_arm) (defScope s_law_arm) .none kV_law_arm dc_law_arm pm_law_arm an_law_arm cd_law_arm ct_law_arm), sl_law_arm⟩)
    (c_law_arm : PySem.W.codeIn K cd_law_arm "_law_arm" = true)
    (k_law_arm : PySem.W.keepIn K (.ref f_law_arm) = true)
    (a_law_equal : PySem.W.nsIn K mainGlobals "_law_equal" = some (some (.ref f_law_equal)))
    (l_law_equal : K.lookup f_law_equal = some ⟨oc_law_equal, od_law_equal, .func (PySem.W.fnOf "_law_equal" "_law_equal" (defArgs s_law_equal) (defBody s_law_equal) (defScope s_law_equal) .none kV_law_equal dc_law_equal pm_law_equal an_law_equal cd_law_equal ct_law_equal), sl_law_equal⟩)
    (c_law_equal : PySem.W.codeIn K cd_law_equal "_law_equal" = true)
    (k_law_equal : PySem.W.keepIn K (.ref f_law_equal) = true)
    (a_law_over : PySem.W.nsIn K mainGlobals "_law_over" = some (some (.ref f_law_over)))
    (l_law_over : K.lookup f_law_over = some ⟨oc_law_over, od_law_over, .func (PySem.W.fnOf "_law_over" "_law_over" (defArgs s_law_over) (defBody s_law_over) (defScope s_law_over) .none kV_law_over dc_law_over pm_law_over an_law_over cd_law_over ct_law_over), sl_law_over⟩)
    (c_law_over : PySem.W.codeIn K cd_law_over "_law_over" = true)
    (k_law_over : PySem.W.keepIn K (.ref f_law_over) = true)
    (a_law_plus : PySem.W.nsIn K mainGlobals "_law_plus" = some (some (.ref f_law_plus)))
    (l_law_plus : K.lookup f_law_plus = some ⟨oc_law_plus, od_law_plus, .func (PySem.W.fnOf "_law_plus" "_law_plus" (defArgs s_law_plus) (defBody s_law_plus) (defScope s_law_plus) .none kV_law_plus dc_law_plus pm_law_plus an_law_plus cd_law_plus ct_law_plus), sl_law_plus⟩)
    (c_law_plus : PySem.W.codeIn K cd_law_plus "_law_plus" = true)
    (k_law_plus : PySem.W.keepIn K (.ref f_law_plus) = true)
    (a_law_times : PySem.W.nsIn K mainGlobals "_law_times" = some (some (.ref f_law_times)))
    (l_law_times : K.lookup f_law_times = some ⟨oc_law_times, od_law_times, .func (PySem.W.fnOf "_law_times" "_law_times" (defArgs s_law_times) (defBody s_law_times) (defScope s_law_times) .none kV_law_times dc_law_times pm_law_times an_law_times cd_law_times ct_law_times), sl_law_times⟩)
    (c_law_times : PySem.W.codeIn K cd_law_times "_law_times" = true)
    (k_law_times : PySem.W.keepIn K (.ref f_law_times) = true)
    (a_law_minus : PySem.W.nsIn K mainGlobals "_law_minus" = some (some (.ref f_law_minus)))
    (l_law_minus : K.lookup f_law_minus = some ⟨oc_law_minus, od_law_minus, .func (PySem.W.fnOf "_law_minus" "_law_minus" (defArgs s_law_minus) (defBody s_law_minus) (defScope s_law_minus) .none kV_law_minus dc_law_minus pm_law_minus an_law_minus cd_law_minus ct_law_minus), sl_law_minus⟩)
    (c_law_minus : PySem.W.codeIn K cd_law_minus "_law_minus" = true)
    (k_law_minus : PySem.W.keepIn K (.ref f_law_minus) = true)
    (a_law_about : PySem.W.nsIn K mainGlobals "_law_about" = some (some (.ref f_law_about)))
    (l_law_about : K.lookup f_law_about = some ⟨oc_law_about, od_law_about, .func (PySem.W.fnOf "_law_about" "_law_about" (defArgs s_law_about) (defBody s_law_about) (defScope s_law_about) .none kV_law_about dc_law_about pm_law_about an_law_about cd_law_about ct_law_about), sl_law_about⟩)
    (c_law_about : PySem.W.codeIn K cd_law_about "_law_about" = true)
    (k_law_about : PySem.W.keepIn K (.ref f_law_about) = true)
    (a_still_copy : PySem.W.nsIn K mainGlobals "still_copy" = some (some (.ref f_still_copy)))
    (l_still_copy : K.lookup f_still_copy = some ⟨oc_still_copy, od_still_copy, .func (PySem.W.fnOf "still_copy" "still_copy" (defArgs s_still_copy) (defBody s_still_copy) (defScope s_still_copy) .none kV_still_copy dc_still_copy pm_still_copy an_still_copy cd_still_copy ct_still_copy), sl_still_copy⟩)
    (c_still_copy : PySem.W.codeIn K cd_still_copy "still_copy" = true)
    (k_still_copy : PySem.W.keepIn K (.ref f_still_copy) = true)
    (a_joint_copy : PySem.W.nsIn K mainGlobals "joint_copy" = some (some (.ref f_joint_copy)))
    (l_joint_copy : K.lookup f_joint_copy = some ⟨oc_joint_copy, od_joint_copy, .func (PySem.W.fnOf "joint_copy" "joint_copy" (defArgs s_joint_copy) (defBody s_joint_copy) (defScope s_joint_copy) .none kV_joint_copy dc_joint_copy pm_joint_copy an_joint_copy cd_joint_copy ct_joint_copy), sl_joint_copy⟩)
    (c_joint_copy : PySem.W.codeIn K cd_joint_copy "joint_copy" = true)
    (k_joint_copy : PySem.W.keepIn K (.ref f_joint_copy) = true)
    (a_law_told : PySem.W.nsIn K mainGlobals "_law_told" = some (some (.ref f_law_told)))
    (l_law_told : K.lookup f_law_told = some ⟨oc_law_told, od_law_told, .func (PySem.W.fnOf "_law_told" "_law_told" (defArgs s_law_told) (defBody s_law_told) (defScope s_law_told) .none kV_law_told dc_law_told pm_law_told an_law_told cd_law_told ct_law_told), sl_law_told⟩)
    (c_law_told : PySem.W.codeIn K cd_law_told "_law_told" = true)
    (k_law_told : PySem.W.keepIn K (.ref f_law_told) = true)
    (a_law_copy : PySem.W.nsIn K mainGlobals "_law_copy" = some (some (.ref f_law_copy)))
    (l_law_copy : K.lookup f_law_copy = some ⟨oc_law_copy, od_law_copy, .func (PySem.W.fnOf "_law_copy" "_law_copy" (defArgs s_law_copy) (defBody s_law_copy) (defScope s_law_copy) .none kV_law_copy dc_law_copy pm_law_copy an_law_copy cd_law_copy ct_law_copy), sl_law_copy⟩)
    (c_law_copy : PySem.W.codeIn K cd_law_copy "_law_copy" = true)
    (k_law_copy : PySem.W.keepIn K (.ref f_law_copy) = true)
    (a_law_carried : PySem.W.nsIn K mainGlobals "_law_carried" = some (some (.ref f_law_carried)))
    (l_law_carried : K.lookup f_law_carried = some ⟨oc_law_carried, od_law_carried, .func (PySem.W.fnOf "_law_carried" "_law_carried" (defArgs s_law_carried) (defBody s_law_carried) (defScope s_law_carried) .none kV_law_carried dc_law_carried pm_law_carried an_law_carried cd_law_carried ct_law_carried), sl_law_carried⟩)
    (c_law_carried : PySem.W.codeIn K cd_law_carried "_law_carried" = true)
    (k_law_carried : PySem.W.keepIn K (.ref f_law_carried) = true)
    (a_check_box : PySem.W.nsIn K mainGlobals "check_box" = some (some (.ref f_check_box)))
    (l_check_box : K.lookup f_check_box = some ⟨oc_check_box, od_check_box, .func (PySem.W.fnOf "check_box" "check_box" (defArgs s_check_box) (defBody s_check_box) (defScope s_check_box) .none kV_check_box dc_check_box pm_check_box an_check_box cd_check_box ct_check_box), sl_check_box⟩)
    (c_check_box : PySem.W.codeIn K cd_check_box "check_box" = true)
    (k_check_box : PySem.W.keepIn K (.ref f_check_box) = true)
    (a_all_rows : PySem.W.nsIn K mainGlobals "all_rows" = some (some (.ref f_all_rows)))
    (l_all_rows : K.lookup f_all_rows = some ⟨oc_all_rows, od_all_rows, .func (PySem.W.fnOf "all_rows" "all_rows" (defArgs s_all_rows) (defBody s_all_rows) (defScope s_all_rows) .none kV_all_rows dc_all_rows pm_all_rows an_all_rows cd_all_rows ct_all_rows), sl_all_rows⟩)
    (c_all_rows : PySem.W.codeIn K cd_all_rows "all_rows" = true)
    (k_all_rows : PySem.W.keepIn K (.ref f_all_rows) = true)
    (a_arms_of : PySem.W.nsIn K mainGlobals "arms_of" = some (some (.ref f_arms_of)))
    (l_arms_of : K.lookup f_arms_of = some ⟨oc_arms_of, od_arms_of, .func (PySem.W.fnOf "arms_of" "arms_of" (defArgs s_arms_of) (defBody s_arms_of) (defScope s_arms_of) .none kV_arms_of dc_arms_of pm_arms_of an_arms_of cd_arms_of ct_arms_of), sl_arms_of⟩)
    (c_arms_of : PySem.W.codeIn K cd_arms_of "arms_of" = true)
    (k_arms_of : PySem.W.keepIn K (.ref f_arms_of) = true)
    (a_different_copies : PySem.W.nsIn K mainGlobals "different_copies" = some (some (.ref f_different_copies)))
    (l_different_copies : K.lookup f_different_copies = some ⟨oc_different_copies, od_different_copies, .func (PySem.W.fnOf "different_copies" "different_copies" (defArgs s_different_copies) (defBody s_different_copies) (defScope s_different_copies) .none kV_different_copies dc_different_copies pm_different_copies an_different_copies cd_different_copies ct_different_copies), sl_different_copies⟩)
    (c_different_copies : PySem.W.codeIn K cd_different_copies "different_copies" = true)
    (k_different_copies : PySem.W.keepIn K (.ref f_different_copies) = true)
    (a_rows_for : PySem.W.nsIn K mainGlobals "rows_for" = some (some (.ref f_rows_for)))
    (l_rows_for : K.lookup f_rows_for = some ⟨oc_rows_for, od_rows_for, .func (PySem.W.fnOf "rows_for" "rows_for" (defArgs s_rows_for) (defBody s_rows_for) (defScope s_rows_for) .none kV_rows_for dc_rows_for pm_rows_for an_rows_for cd_rows_for ct_rows_for), sl_rows_for⟩)
    (c_rows_for : PySem.W.codeIn K cd_rows_for "rows_for" = true)
    (k_rows_for : PySem.W.keepIn K (.ref f_rows_for) = true)
    (a_copy_count : PySem.W.nsIn K mainGlobals "copy_count" = some (some (.ref f_copy_count)))
    (l_copy_count : K.lookup f_copy_count = some ⟨oc_copy_count, od_copy_count, .func (PySem.W.fnOf "copy_count" "copy_count" (defArgs s_copy_count) (defBody s_copy_count) (defScope s_copy_count) .none kV_copy_count dc_copy_count pm_copy_count an_copy_count cd_copy_count ct_copy_count), sl_copy_count⟩)
    (c_copy_count : PySem.W.codeIn K cd_copy_count "copy_count" = true)
    (k_copy_count : PySem.W.keepIn K (.ref f_copy_count) = true)
    (a_copies_without : PySem.W.nsIn K mainGlobals "copies_without" = some (some (.ref f_copies_without)))
    (l_copies_without : K.lookup f_copies_without = some ⟨oc_copies_without, od_copies_without, .func (PySem.W.fnOf "copies_without" "copies_without" (defArgs s_copies_without) (defBody s_copies_without) (defScope s_copies_without) .none kV_copies_without dc_copies_without pm_copies_without an_copies_without cd_copies_without ct_copies_without), sl_copies_without⟩)
    (c_copies_without : PySem.W.codeIn K cd_copies_without "copies_without" = true)
    (k_copies_without : PySem.W.keepIn K (.ref f_copies_without) = true)
    (a_needless_arms : PySem.W.nsIn K mainGlobals "needless_arms" = some (some (.ref f_needless_arms)))
    (l_needless_arms : K.lookup f_needless_arms = some ⟨oc_needless_arms, od_needless_arms, .func (PySem.W.fnOf "needless_arms" "needless_arms" (defArgs s_needless_arms) (defBody s_needless_arms) (defScope s_needless_arms) .none kV_needless_arms dc_needless_arms pm_needless_arms an_needless_arms cd_needless_arms ct_needless_arms), sl_needless_arms⟩)
    (c_needless_arms : PySem.W.codeIn K cd_needless_arms "needless_arms" = true)
    (k_needless_arms : PySem.W.keepIn K (.ref f_needless_arms) = true)
    (a_law_box : PySem.W.nsIn K mainGlobals "_law_box" = some (some (.ref f_law_box)))
    (l_law_box : K.lookup f_law_box = some ⟨oc_law_box, od_law_box, .func (PySem.W.fnOf "_law_box" "_law_box" (defArgs s_law_box) (defBody s_law_box) (defScope s_law_box) .none kV_law_box dc_law_box pm_law_box an_law_box cd_law_box ct_law_box), sl_law_box⟩)
    (c_law_box : PySem.W.codeIn K cd_law_box "_law_box" = true)
    (k_law_box : PySem.W.keepIn K (.ref f_law_box) = true)
    (a_law_rows : PySem.W.nsIn K mainGlobals "_law_rows" = some (some (.ref f_law_rows)))
    (l_law_rows : K.lookup f_law_rows = some ⟨oc_law_rows, od_law_rows, .func (PySem.W.fnOf "_law_rows" "_law_rows" (defArgs s_law_rows) (defBody s_law_rows) (defScope s_law_rows) .none kV_law_rows dc_law_rows pm_law_rows an_law_rows cd_law_rows ct_law_rows), sl_law_rows⟩)
    (c_law_rows : PySem.W.codeIn K cd_law_rows "_law_rows" = true)
    (k_law_rows : PySem.W.keepIn K (.ref f_law_rows) = true)
    (a_law_made_by : PySem.W.nsIn K mainGlobals "_law_made_by" = some (some (.ref f_law_made_by)))
    (l_law_made_by : K.lookup f_law_made_by = some ⟨oc_law_made_by, od_law_made_by, .func (PySem.W.fnOf "_law_made_by" "_law_made_by" (defArgs s_law_made_by) (defBody s_law_made_by) (defScope s_law_made_by) .none kV_law_made_by dc_law_made_by pm_law_made_by an_law_made_by cd_law_made_by ct_law_made_by), sl_law_made_by⟩)
    (c_law_made_by : PySem.W.codeIn K cd_law_made_by "_law_made_by" = true)
    (k_law_made_by : PySem.W.keepIn K (.ref f_law_made_by) = true)
    (a_law : PySem.W.nsIn K mainGlobals "law" = some (some (.ref f_law)))
    (l_law : K.lookup f_law = some ⟨oc_law, od_law, .func (PySem.W.fnOf "law" "law" (defArgs s_law) (defBody s_law) (defScope s_law) .none kV_law dc_law pm_law an_law (.ref cL) ct_law), sl_law⟩)
    (c_law : PySem.W.codeIn K (.ref cL) "law" = true)
    (q_law : K.lookup cL = some ⟨oq_law, dq_law, .fields vq_law, sq_law⟩)
    (v_law : vq_law[11]? = some (.ref PL))
    (n_law : K.lookup PL = none)
    (h_law : PySem.W.codeHdIn K cL PL = true)
    : LawAtS l w K CX0 14 63 "_law_script" mg fa h := by
  have e := hfa.symm.trans (PySem.W.mg_of X G a_law)
  cases e
  have b_abs := PySem.W.mg_none_of X G z_abs
  have b_len := PySem.W.mg_none_of X G z_len
  have b_isinstance := PySem.W.mg_none_of X G z_isinstance
  have b_int := PySem.W.mg_none_of X G z_int
  have b_bool := PySem.W.mg_none_of X G z_bool
  have b_str := PySem.W.mg_none_of X G z_str
  have b_tuple := PySem.W.mg_none_of X G z_tuple
  have b_list := PySem.W.mg_none_of X G z_list
  have b_all := PySem.W.mg_none_of X G z_all
  have b_range := PySem.W.mg_none_of X G z_range
  have b_ValueError := PySem.W.mg_none_of X G z_ValueError
  have b_min := PySem.W.mg_none_of X G z_min
  have b_sorted := PySem.W.mg_none_of X G z_sorted
  have b_set := PySem.W.mg_none_of X G z_set
  have m_MIDDLE := PySem.W.mg_of X G m_MIDDLE
  have t_MIDDLE : ∀ H, SqT K H a_tMIDDLE (v3 (0, 0, 1)) := fun H => .inr ⟨_, _, _, u_MIDDLE, rfl, rfl, (by show 3 ≤ sizeLine; decide), .cons ⟨_, rfl⟩ (.cons ⟨_, rfl⟩ (.cons ⟨_, rfl⟩ .nil))⟩
  have m_ONE := PySem.W.mg_of X G m_ONE
  have t_ONE : ∀ H, SqT K H a_tONE (v3 (1, 0, 1)) := fun H => .inr ⟨_, _, _, u_ONE, rfl, rfl, (by show 3 ≤ sizeLine; decide), .cons ⟨_, rfl⟩ (.cons ⟨_, rfl⟩ (.cons ⟨_, rfl⟩ .nil))⟩
  have m_MOST_REACH := PySem.W.mg_of X G mi_MOST_REACH
  have m_MOST_IN_BOX := PySem.W.mg_of X G mi_MOST_IN_BOX
  have m_B := PySem.W.mg_of X G g_CB
  have ER : Errs K mg CB (fun j => [e0, e1, e2, e3, e4, e5, e6, e7, e8, e9, e10, e11, e12, e13, e14, e15, e16, e17, e18, e19].getD j 0) [10] := ⟨fun j x h => match j, h with
    | 0, h => by cases h; exact PySem.W.mg_of X G ge_0
    | 1, h => by cases h; exact PySem.W.mg_of X G ge_1
    | 2, h => by cases h; exact PySem.W.mg_of X G ge_2
    | 3, h => by cases h; exact PySem.W.mg_of X G ge_3
    | 4, h => by cases h; exact PySem.W.mg_of X G ge_4
    | 5, h => by cases h; exact PySem.W.mg_of X G ge_5
    | 6, h => by cases h; exact PySem.W.mg_of X G ge_6
    | 7, h => by cases h; exact PySem.W.mg_of X G ge_7
    | 8, h => by cases h; exact PySem.W.mg_of X G ge_8
    | 9, h => by cases h; exact PySem.W.mg_of X G ge_9
    | 10, h => by cases h; exact PySem.W.mg_of X G ge_10
    | 11, h => by cases h; exact PySem.W.mg_of X G ge_11
    | 12, h => by cases h; exact PySem.W.mg_of X G ge_12
    | 13, h => by cases h; exact PySem.W.mg_of X G ge_13
    | 14, h => by cases h; exact PySem.W.mg_of X G ge_14
    | 15, h => by cases h; exact PySem.W.mg_of X G ge_15
    | 16, h => by cases h; exact PySem.W.mg_of X G ge_16
    | 17, h => by cases h; exact PySem.W.mg_of X G ge_17
    | 18, h => by cases h; exact PySem.W.mg_of X G ge_18
    | 19, h => by cases h; exact PySem.W.mg_of X G ge_19
    | (k + 20), h => by simp [eCls] at h,
  fun n hn => by
    simp only [List.mem_cons, List.mem_nil_iff, or_false] at hn
    rcases hn with rfl
    · exact ⟨xg_10, xk_10, xs_10, xd_10, xa_10, xc_n, xc_t, xm_10⟩,
  fun n j hn hj => by
    simp only [List.mem_cons, List.mem_nil_iff, or_false] at hn
    rcases hn with rfl
    · exact match j, hj with
      | 0, _ => kt_10_0
      | 1, _ => kt_10_1
      | 2, _ => kt_10_2
      | 3, _ => kt_10_3
      | 4, _ => kt_10_4
      | 5, _ => kt_10_5
      | 6, _ => kt_10_6
      | 7, _ => kt_10_7
      | 8, _ => kt_10_8
      | 9, _ => kt_10_9
      | 10, _ => kt_10_10
      | 11, _ => kt_10_11
      | 12, _ => kt_10_12
      | 13, _ => kt_10_13
      | 14, _ => kt_10_14
      | 15, _ => kt_10_15
      | 16, _ => kt_10_16
      | 17, _ => kt_10_17
      | 18, _ => kt_10_18
      | 19, _ => kt_10_19
      | (k + 20), h => absurd h (by omega),
  fun n hn => by
    simp only [List.mem_cons, List.mem_nil_iff, or_false] at hn
    rcases hn with rfl
    · exact kv_10,
  fun n hn => by
    simp only [List.mem_cons, List.mem_nil_iff, or_false] at hn
    rcases hn with rfl
    · exact xx_10,
  fun n hn => by
    simp only [List.mem_cons, List.mem_nil_iff, or_false] at hn
    rcases hn with rfl
    · decide⟩
  have X_InvalidBox : ExX K mg "InvalidBox" e10 := ⟨xq_10, xp_10, xs_10, xt_10, PySem.W.mg_of X G ge_10⟩
  have F_law_error_of := fun_mk (st := s_law_error_of) l_law_error_of c_law_error_of k_law_error_of
  have B_law_error_of := F_law_error_of.binds (ps := ["_law_call"]) fun _ _ _ _ _ _ us hl => match us, hl with | [_], _ => rfl
  have m_E := PySem.W.mg_of X G a_law_error_of
  have F_law_all_raise := fun_mk (st := s_law_all_raise) l_law_all_raise c_law_all_raise k_law_all_raise
  have B_law_all_raise := F_law_all_raise.binds (ps := ["_law_calls", "_law_expected"]) fun _ _ _ _ _ _ us hl => match us, hl with | [_, _], _ => rfl
  have m_law_all_raise := PySem.W.mg_of X G a_law_all_raise
  have F_common_divisor := fun_mk (st := s_common_divisor) l_common_divisor c_common_divisor k_common_divisor
  have B_common_divisor := F_common_divisor.binds (ps := ["one", "other"]) fun _ _ _ _ _ _ us hl => match us, hl with | [_, _], _ => rfl
  have F_is_whole := fun_mk (st := s_is_whole) l_is_whole c_is_whole k_is_whole
  have B_is_whole := F_is_whole.binds (ps := ["value"]) fun _ _ _ _ _ _ us hl => match us, hl with | [_], _ => rfl
  have F_is_spot := fun_mk (st := s_is_spot) l_is_spot c_is_spot k_is_spot
  have B_is_spot := F_is_spot.binds (ps := ["value"]) fun _ _ _ _ _ _ us hl => match us, hl with | [_], _ => rfl
  have F_check_spot := fun_mk (st := s_check_spot) l_check_spot c_check_spot k_check_spot
  have B_check_spot := F_check_spot.binds (ps := ["value"]) fun _ _ _ _ _ _ us hl => match us, hl with | [_], _ => rfl
  have F_check_turn := fun_mk (st := s_check_turn) l_check_turn c_check_turn k_check_turn
  have B_check_turn := F_check_turn.binds (ps := ["value"]) fun _ _ _ _ _ _ us hl => match us, hl with | [_], _ => rfl
  have F_spot_at := fun_mk (st := s_spot_at) l_spot_at c_spot_at k_spot_at
  have B_spot_at := F_spot_at.binds (ps := ["x", "y", "d"]) fun _ _ _ _ _ _ us hl => match us, hl with | [_, _, _], _ => rfl
  have F_fraction := fun_mk (st := s_fraction) l_fraction c_fraction k_fraction
  have B_fraction := F_fraction.binds (ps := ["p", "q"]) fun _ _ _ _ _ _ us hl => match us, hl with | [_, _], _ => rfl
  have F_plus := fun_mk (st := s_plus) l_plus c_plus k_plus
  have B_plus := F_plus.binds (ps := ["one", "other"]) fun _ _ _ _ _ _ us hl => match us, hl with | [_, _], _ => rfl
  have F_negative := fun_mk (st := s_negative) l_negative c_negative k_negative
  have B_negative := F_negative.binds (ps := ["number"]) fun _ _ _ _ _ _ us hl => match us, hl with | [_], _ => rfl
  have F_minus := fun_mk (st := s_minus) l_minus c_minus k_minus
  have B_minus := F_minus.binds (ps := ["one", "other"]) fun _ _ _ _ _ _ us hl => match us, hl with | [_, _], _ => rfl
  have F_product := fun_mk (st := s_product) l_product c_product k_product
  have B_product := F_product.binds (ps := ["one", "other"]) fun _ _ _ _ _ _ us hl => match us, hl with | [_, _], _ => rfl
  have F_faced := fun_mk (st := s_faced) l_faced c_faced k_faced
  have B_faced := F_faced.binds (ps := ["number", "mirrored"]) fun _ _ _ _ _ _ us hl => match us, hl with | [_, _], _ => rfl
  have F_carried := fun_mk (st := s_carried) l_carried c_carried k_carried
  have B_carried := F_carried.binds (ps := ["turn", "shift", "mirrored", "spot"]) fun _ _ _ _ _ _ us hl => match us, hl with | [_, _, _, _], _ => rfl
  have F_square_between := fun_mk (st := s_square_between) l_square_between c_square_between k_square_between
  have B_square_between := F_square_between.binds (ps := ["one", "other"]) fun _ _ _ _ _ _ us hl => match us, hl with | [_, _], _ => rfl
  have F_is_from_to := fun_mk (st := s_is_from_to) l_is_from_to c_is_from_to k_is_from_to
  have B_is_from_to := F_is_from_to.binds (ps := ["value", "least", "most"]) fun _ _ _ _ _ _ us hl => match us, hl with | [_, _, _], _ => rfl
  have F_inverse := fun_mk (st := s_inverse) l_inverse c_inverse k_inverse
  have B_inverse := F_inverse.binds (ps := ["number"]) fun _ _ _ _ _ _ us hl => match us, hl with | [_], _ => rfl
  have TX : CTxt K C := ⟨⟨pg, hdC, po, sa⟩, nF, nO, nL, ha, hn, htk, hmo⟩
  have mgC := PySem.W.mg_of X G aC
  have FI : FunD K "__init__" "Copy.__init__" (defArgs s_Copy___init__) (defBody s_Copy___init__) (defScope s_Copy___init__) [] [("mirrored", .bl false)] f_Copy___init__ _ := ⟨⟨_, _, _, _, _, _, _, _, _, _, rfl, l_Copy___init__, c_Copy___init__, .inl ⟨rfl, rfl⟩, .inr ⟨_, rfl, fun q hq => by cases List.mem_singleton.mp hq; exact ⟨_, kw_init, rfl⟩⟩⟩, k_Copy___init__⟩
  obtain ⟨⟨ds, bv, bd⟩, mv, kb⟩ := bind_init FI
  have F_Copy___rshift__ := fun_mk (st := s_Copy___rshift__) l_Copy___rshift__ c_Copy___rshift__ k_Copy___rshift__
  have B_Copy___rshift__ := F_Copy___rshift__.binds (ps := ["self", "other"]) fun _ _ _ _ _ _ us hl => match us, hl with | [_, _], _ => rfl
  have F_Copy___invert__ := fun_mk (st := s_Copy___invert__) l_Copy___invert__ c_Copy___invert__ k_Copy___invert__
  have B_Copy___invert__ := F_Copy___invert__.binds (ps := ["self"]) fun _ _ _ _ _ _ us hl => match us, hl with | [_], _ => rfl
  have F_Copy___eq__ := fun_mk (st := s_Copy___eq__) l_Copy___eq__ c_Copy___eq__ k_Copy___eq__
  have B_Copy___eq__ := F_Copy___eq__.binds (ps := ["self", "other"]) fun _ _ _ _ _ _ us hl => match us, hl with | [_, _], _ => rfl
  have F_Copy___call__ := fun_mk (st := s_Copy___call__) l_Copy___call__ c_Copy___call__ k_Copy___call__
  have B_Copy___call__ := F_Copy___call__.binds (ps := ["self", "spot"]) fun _ _ _ _ _ _ us hl => match us, hl with | [_, _], _ => rfl
  have F_Copy_turn := fun_mk (st := s_Copy_turn) l_Copy_turn c_Copy_turn k_Copy_turn
  have B_Copy_turn := F_Copy_turn.binds (ps := ["self"]) fun _ _ _ _ _ _ us hl => match us, hl with | [_], _ => rfl
  have F_Copy_shift := fun_mk (st := s_Copy_shift) l_Copy_shift c_Copy_shift k_Copy_shift
  have B_Copy_shift := F_Copy_shift.binds (ps := ["self"]) fun _ _ _ _ _ _ us hl => match us, hl with | [_], _ => rfl
  have F_Copy_mirrored := fun_mk (st := s_Copy_mirrored) l_Copy_mirrored c_Copy_mirrored k_Copy_mirrored
  have B_Copy_mirrored := F_Copy_mirrored.binds (ps := ["self"]) fun _ _ _ _ _ _ us hl => match us, hl with | [_], _ => rfl
  have F_check_reach := fun_mk (st := s_check_reach) l_check_reach c_check_reach k_check_reach
  have B_check_reach := F_check_reach.binds (ps := ["near", "far"]) fun _ _ _ _ _ _ us hl => match us, hl with | [_, _], _ => rfl
  have F_copy_around := fun_mk (st := s_copy_around) l_copy_around c_copy_around k_copy_around
  have B_copy_around := F_copy_around.binds (ps := ["pole", "turn", "mirrored"]) fun _ _ _ _ _ _ us hl => match us, hl with | [_, _, _], _ => rfl
  have mgCA := PySem.W.mg_of X G aCA
  have MKCA : Mk K CA f_Arm___init__ := ⟨mkCA, inCA, isCA, kcCA⟩
  have clCA : Cls K CA := ⟨pgCA, hdCA, poCA, saCA⟩
  have TXA : ATxt K CA := ⟨clCA, nCA_centre, nCA_factor, nCA_least, nCA_most, nCA_flips, nCA_pen, haA, hn, htk, hmA⟩
  have FIA : FunD K "__init__" "Arm.__init__" (defArgs s_Arm___init__) (defBody s_Arm___init__) (defScope s_Arm___init__) [] [("mirrored", .bl false)] f_Arm___init__ _ := ⟨⟨_, _, _, _, _, _, _, _, _, _, rfl, l_Arm___init__, c_Arm___init__, .inl ⟨rfl, rfl⟩, .inr ⟨_, rfl, fun q hq => by cases List.mem_singleton.mp hq; exact ⟨_, kw_A, rfl⟩⟩⟩, k_Arm___init__⟩
  obtain ⟨⟨dsA, bvA, bdA⟩, mvA, kbA⟩ := bind_ainit FIA
  have F_Arm_pole := fun_mk (st := s_Arm_pole) l_Arm_pole c_Arm_pole k_Arm_pole
  have B_Arm_pole := F_Arm_pole.binds (ps := ["self"]) fun _ _ _ _ _ _ us hl => match us, hl with | [_], _ => rfl
  have F_Arm_turn := fun_mk (st := s_Arm_turn) l_Arm_turn c_Arm_turn k_Arm_turn
  have B_Arm_turn := F_Arm_turn.binds (ps := ["self"]) fun _ _ _ _ _ _ us hl => match us, hl with | [_], _ => rfl
  have F_Arm_near := fun_mk (st := s_Arm_near) l_Arm_near c_Arm_near k_Arm_near
  have B_Arm_near := F_Arm_near.binds (ps := ["self"]) fun _ _ _ _ _ _ us hl => match us, hl with | [_], _ => rfl
  have F_Arm_far := fun_mk (st := s_Arm_far) l_Arm_far c_Arm_far k_Arm_far
  have B_Arm_far := F_Arm_far.binds (ps := ["self"]) fun _ _ _ _ _ _ us hl => match us, hl with | [_], _ => rfl
  have F_Arm_mirrored := fun_mk (st := s_Arm_mirrored) l_Arm_mirrored c_Arm_mirrored k_Arm_mirrored
  have B_Arm_mirrored := F_Arm_mirrored.binds (ps := ["self"]) fun _ _ _ _ _ _ us hl => match us, hl with | [_], _ => rfl
  have F_Arm_effect := fun_mk (st := s_Arm_effect) l_Arm_effect c_Arm_effect k_Arm_effect
  have B_Arm_effect := F_Arm_effect.binds (ps := ["self"]) fun _ _ _ _ _ _ us hl => match us, hl with | [_], _ => rfl
  have F_Arm___eq__ := fun_mk (st := s_Arm___eq__) l_Arm___eq__ c_Arm___eq__ k_Arm___eq__
  have B_Arm___eq__ := F_Arm___eq__.binds (ps := ["self", "other"]) fun _ _ _ _ _ _ us hl => match us, hl with | [_, _], _ => rfl
  have F_law_random := fun_mk (st := s_law_random) l_law_random c_law_random k_law_random
  have B_law_random := F_law_random.binds (ps := ["_law_script", "_law_salt"]) fun _ _ _ _ _ _ us hl => match us, hl with | [_, _], _ => rfl
  have F_law_below := fun_mk (st := s_law_below) l_law_below c_law_below k_law_below
  have B_law_below := F_law_below.binds (ps := ["_law_d", "_law_limit"]) fun _ _ _ _ _ _ us hl => match us, hl with | [_, _], _ => rfl
  have F_law_step := fun_mk (st := s_law_step) l_law_step c_law_step k_law_step
  have B_law_step := F_law_step.binds (ps := ["_law_d", "_law_size_now"]) fun _ _ _ _ _ _ us hl => match us, hl with | [_, _], _ => rfl
  have F_law_turn := fun_mk (st := s_law_turn) l_law_turn c_law_turn k_law_turn
  have B_law_turn := F_law_turn.binds (ps := ["_law_d"]) fun _ _ _ _ _ _ us hl => match us, hl with | [_], _ => rfl
  have F_law_common := fun_mk (st := s_law_common) l_law_common c_law_common k_law_common
  have B_law_common := F_law_common.binds (ps := ["_law_one", "_law_other"]) fun _ _ _ _ _ _ us hl => match us, hl with | [_, _], _ => rfl
  have F_law_lowest := fun_mk (st := s_law_lowest) l_law_lowest c_law_lowest k_law_lowest
  have B_law_lowest := F_law_lowest.binds (ps := ["_law_x", "_law_y", "_law_q"]) fun _ _ _ _ _ _ us hl => match us, hl with | [_, _, _], _ => rfl
  have F_law_spot := fun_mk (st := s_law_spot) l_law_spot c_law_spot k_law_spot
  have B_law_spot := F_law_spot.binds (ps := ["_law_d"]) fun _ _ _ _ _ _ us hl => match us, hl with | [_], _ => rfl
  have F_law_arm_told := fun_mk (st := s_law_arm_told) l_law_arm_told c_law_arm_told k_law_arm_told
  have B_law_arm_told := F_law_arm_told.binds (ps := ["_law_d"]) fun _ _ _ _ _ _ us hl => match us, hl with | [_], _ => rfl
  have F_law_arm := fun_mk (st := s_law_arm) l_law_arm c_law_arm k_law_arm
  have B_law_arm := F_law_arm.binds (ps := ["_law_told_here"]) fun _ _ _ _ _ _ us hl => match us, hl with | [_], _ => rfl
  have F_law_equal := fun_mk (st := s_law_equal) l_law_equal c_law_equal k_law_equal
  have B_law_equal := F_law_equal.binds (ps := ["_law_actual", "_law_expected"]) fun _ _ _ _ _ _ us hl => match us, hl with | [_, _], _ => rfl
  have F_law_over := fun_mk (st := s_law_over) l_law_over c_law_over k_law_over
  have B_law_over := F_law_over.binds (ps := ["_law_one"]) fun _ _ _ _ _ _ us hl => match us, hl with | [_], _ => rfl
  have F_law_plus := fun_mk (st := s_law_plus) l_law_plus c_law_plus k_law_plus
  have B_law_plus := F_law_plus.binds (ps := ["_law_one", "_law_other"]) fun _ _ _ _ _ _ us hl => match us, hl with | [_, _], _ => rfl
  have F_law_times := fun_mk (st := s_law_times) l_law_times c_law_times k_law_times
  have B_law_times := F_law_times.binds (ps := ["_law_one", "_law_other"]) fun _ _ _ _ _ _ us hl => match us, hl with | [_, _], _ => rfl
  have F_law_minus := fun_mk (st := s_law_minus) l_law_minus c_law_minus k_law_minus
  have B_law_minus := F_law_minus.binds (ps := ["_law_one", "_law_other"]) fun _ _ _ _ _ _ us hl => match us, hl with | [_, _], _ => rfl
  have F_law_about := fun_mk (st := s_law_about) l_law_about c_law_about k_law_about
  have B_law_about := F_law_about.binds (ps := ["_law_told_here"]) fun _ _ _ _ _ _ us hl => match us, hl with | [_], _ => rfl
  have F_still_copy := fun_mk (st := s_still_copy) l_still_copy c_still_copy k_still_copy
  have B_still_copy := F_still_copy.binds (ps := []) fun _ _ _ _ _ _ us hl => match us, hl with | [], _ => rfl
  have F_joint_copy := fun_mk (st := s_joint_copy) l_joint_copy c_joint_copy k_joint_copy
  have B_joint_copy := F_joint_copy.binds (ps := ["arms"]) fun _ _ _ _ _ _ us hl => match us, hl with | [_], _ => rfl
  have F_law_told := fun_mk (st := s_law_told) l_law_told c_law_told k_law_told
  have B_law_told := F_law_told.binds (ps := ["_law_d"]) fun _ _ _ _ _ _ us hl => match us, hl with | [_], _ => rfl
  have F_law_copy := fun_mk (st := s_law_copy) l_law_copy c_law_copy k_law_copy
  have B_law_copy := F_law_copy.binds (ps := ["_law_told_here"]) fun _ _ _ _ _ _ us hl => match us, hl with | [_], _ => rfl
  have F_law_carried := fun_mk (st := s_law_carried) l_law_carried c_law_carried k_law_carried
  have B_law_carried := F_law_carried.binds (ps := ["_law_told_here", "_law_spot_here"]) fun _ _ _ _ _ _ us hl => match us, hl with | [_, _], _ => rfl
  have F_check_box := fun_mk (st := s_check_box) l_check_box c_check_box k_check_box
  have B_check_box := F_check_box.binds (ps := ["box"]) fun _ _ _ _ _ _ us hl => match us, hl with | [_], _ => rfl
  have F_all_rows := fun_mk (st := s_all_rows) l_all_rows c_all_rows k_all_rows
  have B_all_rows := F_all_rows.binds (ps := ["count", "most"]) fun _ _ _ _ _ _ us hl => match us, hl with | [_, _], _ => rfl
  have F_arms_of := fun_mk (st := s_arms_of) l_arms_of c_arms_of k_arms_of
  have B_arms_of := F_arms_of.binds (ps := ["box", "row"]) fun _ _ _ _ _ _ us hl => match us, hl with | [_, _], _ => rfl
  have F_different_copies := fun_mk (st := s_different_copies) l_different_copies c_different_copies k_different_copies
  have B_different_copies := F_different_copies.binds (ps := ["box", "rows"]) fun _ _ _ _ _ _ us hl => match us, hl with | [_, _], _ => rfl
  have F_rows_for := fun_mk (st := s_rows_for) l_rows_for c_rows_for k_rows_for
  have B_rows_for := F_rows_for.binds (ps := ["box", "copy"]) fun _ _ _ _ _ _ us hl => match us, hl with | [_, _], _ => rfl
  have F_copy_count := fun_mk (st := s_copy_count) l_copy_count c_copy_count k_copy_count
  have B_copy_count := F_copy_count.binds (ps := ["box"]) fun _ _ _ _ _ _ us hl => match us, hl with | [_], _ => rfl
  have F_copies_without := fun_mk (st := s_copies_without) l_copies_without c_copies_without k_copies_without
  have B_copies_without := F_copies_without.binds (ps := ["box", "number"]) fun _ _ _ _ _ _ us hl => match us, hl with | [_, _], _ => rfl
  have F_needless_arms := fun_mk (st := s_needless_arms) l_needless_arms c_needless_arms k_needless_arms
  have B_needless_arms := F_needless_arms.binds (ps := ["box"]) fun _ _ _ _ _ _ us hl => match us, hl with | [_], _ => rfl
  have F_law_box := fun_mk (st := s_law_box) l_law_box c_law_box k_law_box
  have B_law_box := F_law_box.binds (ps := ["_law_d", "_law_most"]) fun _ _ _ _ _ _ us hl => match us, hl with | [_, _], _ => rfl
  have F_law_rows := fun_mk (st := s_law_rows) l_law_rows c_law_rows k_law_rows
  have B_law_rows := F_law_rows.binds (ps := ["_law_count", "_law_most"]) fun _ _ _ _ _ _ us hl => match us, hl with | [_, _], _ => rfl
  have F_law_made_by := fun_mk (st := s_law_made_by) l_law_made_by c_law_made_by k_law_made_by
  have B_law_made_by := F_law_made_by.binds (ps := ["_law_tolds", "_law_row"]) fun _ _ _ _ _ _ us hl => match us, hl with | [_, _], _ => rfl
  refine ⟨PySem.W.fnOf "law" "law" (defArgs s_law) (defBody s_law) (defScope s_law) .none kV_law dc_law pm_law an_law (.ref cL) ct_law, [(cL, PL)], spLaw K PL, fun p hp => ?_, fun p hp => ?_, fun p hp => ?_, fun s v => .of_eq rfl, fun H a ns hl _ hH hS => ⟨a, ns, rfl, hS, hl, hH _ (.head _), fun _ => rfl⟩, fun base _ _ TB => ?_⟩
  · cases List.mem_singleton.mp hp; exact own cL PL _ _ _ _ _ _ l_law rfl rfl q_law v_law
  · cases List.mem_singleton.mp hp; exact n_law
  · cases List.mem_singleton.mp hp; exact PySem.W.codeHd_of_K X h_law
  have d_common_divisor : D l.prog w K mg base "common_divisor" 1 sp_gcd := ⟨_, rOf (ok_common_divisor b_abs F_common_divisor) B_common_divisor, k_common_divisor, PySem.W.mg_of X G a_common_divisor⟩
  have d_is_whole : D l.prog w K mg base "is_whole" 1 sp_whole := ⟨_, rOf (ok_is_whole b_isinstance b_int b_bool F_is_whole) B_is_whole, k_is_whole, PySem.W.mg_of X G a_is_whole⟩
  have d_is_spot : D l.prog w K mg base "is_spot" 2 (sp_isspot K) := ⟨_, rOf (ok_is_spot b_isinstance b_tuple b_len b_all d_common_divisor d_is_whole F_is_spot) B_is_spot, k_is_spot, PySem.W.mg_of X G a_is_spot⟩
  have d_check_spot : D l.prog w K mg base "check_spot" 3 (sp_check K) := ⟨_, rOf (ok_check_spot d_is_spot F_check_spot) B_check_spot, k_check_spot, PySem.W.mg_of X G a_check_spot⟩
  have d_check_turn : D l.prog w K mg base "check_turn" 3 (sp_checkT K) := ⟨_, rOf (ok_check_turn d_is_spot m_MIDDLE t_MIDDLE F_check_turn) B_check_turn, k_check_turn, PySem.W.mg_of X G a_check_turn⟩
  have d_spot_at : D l.prog w K mg base "spot_at" 2 (sp_low K) := ⟨_, rOf (ok_spot_at d_common_divisor F_spot_at) B_spot_at, k_spot_at, PySem.W.mg_of X G a_spot_at⟩
  have d_fraction : D l.prog w K mg base "fraction" 2 (sp_fr K) := ⟨_, rOf (ok_fraction d_common_divisor F_fraction) B_fraction, k_fraction, PySem.W.mg_of X G a_fraction⟩
  have d_plus : D l.prog w K mg base "plus" 3 (sp_two K plus) := ⟨_, rOf (ok_plus d_spot_at F_plus) B_plus, k_plus, PySem.W.mg_of X G a_plus⟩
  have d_negative : D l.prog w K mg base "negative" 1 (sp_one K neg) := ⟨_, rOf (ok_negative F_negative) B_negative, k_negative, PySem.W.mg_of X G a_negative⟩
  have d_minus : D l.prog w K mg base "minus" 4 (sp_two K minus) := ⟨_, rOf (ok_minus d_plus d_negative F_minus) B_minus, k_minus, PySem.W.mg_of X G a_minus⟩
  have d_product : D l.prog w K mg base "product" 3 (sp_two K times) := ⟨_, rOf (ok_product d_spot_at F_product) B_product, k_product, PySem.W.mg_of X G a_product⟩
  have d_faced : D l.prog w K mg base "faced" 1 (sp_face K) := ⟨_, rOf (ok_faced F_faced) B_faced, k_faced, PySem.W.mg_of X G a_faced⟩
  have d_carried : D l.prog w K mg base "carried" 4 (sp_car K) := ⟨_, rOf (ok_carried d_plus d_product d_faced F_carried) B_carried, k_carried, PySem.W.mg_of X G a_carried⟩
  have d_square_between : D l.prog w K mg base "square_between" 5 (sp_sqb K) := ⟨_, rOf (ok_square_between d_minus d_fraction F_square_between) B_square_between, k_square_between, PySem.W.mg_of X G a_square_between⟩
  have d_is_from_to : D l.prog w K mg base "is_from_to" 1 (sp_ft K) := ⟨_, rOf (ok_is_from_to F_is_from_to) B_is_from_to, k_is_from_to, PySem.W.mg_of X G a_is_from_to⟩
  have d_inverse : D l.prog w K mg base "inverse" 3 (sp_inv K) := ⟨_, rOf (ok_inverse d_spot_at F_inverse) B_inverse, k_inverse, PySem.W.mg_of X G a_inverse⟩
  have TC : CopyI l.prog w K mg base C f_Copy___init__ _ mv ds := ⟨TX, ⟨mkC, inI, isI, kc⟩, ok_init TX d_check_turn d_check_spot FI, mgC, bv, bd, kb⟩
  have m_ca : MCa l.prog w K mg base C := ⟨⟨_, rOf (ok_call TX d_check_spot d_carried F_Copy___call__) B_Copy___call__, ⟨a_Copy___call__, i_Copy___call__, fi_call⟩⟩⟩
  have m_rs : MRs l.prog w K mg base C := ⟨sf, ⟨_, rOf (ok_rshift TC d_product d_faced d_carried F_Copy___rshift__) B_Copy___rshift__, a_Copy___rshift__, i_Copy___rshift__⟩⟩
  have m_iv : MIv l.prog w K mg base C := ⟨⟨_, rOf (ok_invert TC d_product d_inverse d_negative d_faced F_Copy___invert__) B_Copy___invert__, a_Copy___invert__, i_Copy___invert__⟩⟩
  have m_eq : MEq l.prog w K mg base C := ⟨⟨_, rOf (ok_eq TX mgC b_isinstance F_Copy___eq__) B_Copy___eq__, a_Copy___eq__, i_Copy___eq__⟩⟩
  have m_pt : MPt l.prog w K mg base C := ⟨TX.cl, _, _, _, ok_turn TX F_Copy_turn, B_Copy_turn, ⟨a_Copy_turn, g_Copy_turn, t_Copy_turn, ⟨_, r_Copy_turn⟩⟩⟩
  have m_ps : MPs l.prog w K mg base C := ⟨TX.cl, _, _, _, ok_shift TX F_Copy_shift, B_Copy_shift, ⟨a_Copy_shift, g_Copy_shift, t_Copy_shift, ⟨_, r_Copy_shift⟩⟩⟩
  have m_pm : MPm l.prog w K mg base C := ⟨TX.cl, _, _, _, ok_mirrored TX F_Copy_mirrored, B_Copy_mirrored, ⟨a_Copy_mirrored, g_Copy_mirrored, t_Copy_mirrored, ⟨_, r_Copy_mirrored⟩⟩⟩
  have d_check_reach : D l.prog w K mg base "check_reach" 2 sp_reach := ⟨_, rOf (ok_check_reach m_MOST_REACH d_is_whole F_check_reach) B_check_reach, k_check_reach, PySem.W.mg_of X G a_check_reach⟩
  have d_copy_around : D l.prog w K mg base "copy_around" 6 (sp_around K C) := ⟨_, rOf (ok_copy_around TC d_minus d_product d_faced F_copy_around) B_copy_around, k_copy_around, PySem.W.mg_of X G a_copy_around⟩
  have TA : ArmI l.prog w K mg base C CA f_Arm___init__ _ mvA dsA := ⟨TXA, MKCA, ok_ainit TXA d_check_turn d_check_spot d_check_reach d_copy_around FIA, mgCA, bvA, bdA, kbA⟩
  have m_A_pole : MPf l.prog w K mg base CA "pole" "centre" := ⟨clCA, _, _, _, ok_Arm_pole clCA nCA_centre F_Arm_pole, B_Arm_pole, ⟨a_Arm_pole, g_Arm_pole, t_Arm_pole, ⟨_, r_Arm_pole⟩⟩⟩
  have m_A_turn : MPf l.prog w K mg base CA "turn" "factor" := ⟨clCA, _, _, _, ok_Arm_turn clCA nCA_factor F_Arm_turn, B_Arm_turn, ⟨a_Arm_turn, g_Arm_turn, t_Arm_turn, ⟨_, r_Arm_turn⟩⟩⟩
  have m_A_near : MPf l.prog w K mg base CA "near" "least" := ⟨clCA, _, _, _, ok_Arm_near clCA nCA_least F_Arm_near, B_Arm_near, ⟨a_Arm_near, g_Arm_near, t_Arm_near, ⟨_, r_Arm_near⟩⟩⟩
  have m_A_far : MPf l.prog w K mg base CA "far" "most" := ⟨clCA, _, _, _, ok_Arm_far clCA nCA_most F_Arm_far, B_Arm_far, ⟨a_Arm_far, g_Arm_far, t_Arm_far, ⟨_, r_Arm_far⟩⟩⟩
  have m_A_mirrored : MPf l.prog w K mg base CA "mirrored" "flips" := ⟨clCA, _, _, _, ok_Arm_mirrored clCA nCA_flips F_Arm_mirrored, B_Arm_mirrored, ⟨a_Arm_mirrored, g_Arm_mirrored, t_Arm_mirrored, ⟨_, r_Arm_mirrored⟩⟩⟩
  have m_A_effect : MPf l.prog w K mg base CA "effect" "pen" := ⟨clCA, _, _, _, ok_Arm_effect clCA nCA_pen F_Arm_effect, B_Arm_effect, ⟨a_Arm_effect, g_Arm_effect, t_Arm_effect, ⟨_, r_Arm_effect⟩⟩⟩
  have m_aeq : MAe l.prog w K mg base C CA := ⟨⟨_, rOf (ok_aeq TXA mgCA b_isinstance F_Arm___eq__) B_Arm___eq__, a_Arm___eq__, i_Arm___eq__⟩⟩
  have d_law_random : D l.prog w K mg base "_law_random" 1 (sp_random K) := ⟨_, rOf (ok_law_random b_abs F_law_random) B_law_random, k_law_random, PySem.W.mg_of X G a_law_random⟩
  have d_law_below : D l.prog w K mg base "_law_below" 1 sp_below := ⟨_, rOf (ok_law_below b_len F_law_below) B_law_below, k_law_below, PySem.W.mg_of X G a_law_below⟩
  have d_law_step : D l.prog w K mg base "_law_step" 2 (sp_step K) := ⟨_, rOf (ok_law_step d_law_below F_law_step) B_law_step, k_law_step, PySem.W.mg_of X G a_law_step⟩
  have d_law_turn : D l.prog w K mg base "_law_turn" 2 (sp_draw fun H r => ∃ t, IsT K H r t ∧ TurnIn t) := ⟨_, rOf (ok_law_turn d_law_below F_law_turn) B_law_turn, k_law_turn, PySem.W.mg_of X G a_law_turn⟩
  have d_law_common : D l.prog w K mg base "_law_common" 1 sp_gcd := ⟨_, rOf (ok_law_common b_abs F_law_common) B_law_common, k_law_common, PySem.W.mg_of X G a_law_common⟩
  have d_law_lowest : D l.prog w K mg base "_law_lowest" 2 (sp_low K) := ⟨_, rOf (ok_law_lowest d_law_common F_law_lowest) B_law_lowest, k_law_lowest, PySem.W.mg_of X G a_law_lowest⟩
  have d_law_spot : D l.prog w K mg base "_law_spot" 3 (sp_draw fun H r => ∃ t, IsT K H r t ∧ SpotIn t) := ⟨_, rOf (ok_law_spot d_law_below d_law_lowest F_law_spot) B_law_spot, k_law_spot, PySem.W.mg_of X G a_law_spot⟩
  have d_law_arm_told : D l.prog w K mg base "_law_arm_told" 4 (sp_draw fun H r => ∃ a, IsB K H r a ∧ ArmIn a) := ⟨_, rOf (ok_law_arm_told d_law_below d_law_step d_law_turn d_law_spot F_law_arm_told) B_law_arm_told, k_law_arm_told, PySem.W.mg_of X G a_law_arm_told⟩
  have d_law_arm : D l.prog w K mg base "_law_arm" 9 (sp_armOf K C CA) := ⟨_, rOf (ok_law_arm TA F_law_arm) B_law_arm, k_law_arm, PySem.W.mg_of X G a_law_arm⟩
  have d_law_equal_0 : D l.prog w K mg base "_law_equal" 0 (sp_equal K 0) := ⟨_, fun A outer s H us vs Q E hr e0 r h => absurd h (by rintro ⟨_, _, _, _, _, _, z, _⟩; exact z), k_law_equal, PySem.W.mg_of X G a_law_equal⟩
  have d_law_equal_1 : D l.prog w K mg base "_law_equal" 1 (sp_equal K 1) := ⟨_, rOf (ok_law_equal b_isinstance b_int b_bool b_str b_tuple b_list b_len b_all b_range d_law_equal_0 F_law_equal) B_law_equal, k_law_equal, PySem.W.mg_of X G a_law_equal⟩
  have d_law_equal_2 : D l.prog w K mg base "_law_equal" 2 (sp_equal K 2) := ⟨_, rOf (ok_law_equal b_isinstance b_int b_bool b_str b_tuple b_list b_len b_all b_range d_law_equal_1 F_law_equal) B_law_equal, k_law_equal, PySem.W.mg_of X G a_law_equal⟩
  have d_law_equal_3 : D l.prog w K mg base "_law_equal" 3 (sp_equal K 3) := ⟨_, rOf (ok_law_equal b_isinstance b_int b_bool b_str b_tuple b_list b_len b_all b_range d_law_equal_2 F_law_equal) B_law_equal, k_law_equal, PySem.W.mg_of X G a_law_equal⟩
  have d_law_equal_4 : D l.prog w K mg base "_law_equal" 4 (sp_equal K 4) := ⟨_, rOf (ok_law_equal b_isinstance b_int b_bool b_str b_tuple b_list b_len b_all b_range d_law_equal_3 F_law_equal) B_law_equal, k_law_equal, PySem.W.mg_of X G a_law_equal⟩
  have d_law_equal := d_law_equal_4
  have d_law_over : D l.prog w K mg base "_law_over" 1 (sp_one K over) := ⟨_, rOf (ok_law_over F_law_over) B_law_over, k_law_over, PySem.W.mg_of X G a_law_over⟩
  have d_law_plus : D l.prog w K mg base "_law_plus" 3 (sp_two K plus) := ⟨_, rOf (ok_law_plus d_law_lowest F_law_plus) B_law_plus, k_law_plus, PySem.W.mg_of X G a_law_plus⟩
  have d_law_times : D l.prog w K mg base "_law_times" 3 (sp_two K times) := ⟨_, rOf (ok_law_times d_law_lowest F_law_times) B_law_times, k_law_times, PySem.W.mg_of X G a_law_times⟩
  have d_law_minus : D l.prog w K mg base "_law_minus" 4 (sp_two K minus) := ⟨_, rOf (ok_law_minus d_law_plus F_law_minus) B_law_minus, k_law_minus, PySem.W.mg_of X G a_law_minus⟩
  have d_law_about : D l.prog w K mg base "_law_about" 5 (sp_labout K) := ⟨_, rOf (ok_law_about d_law_times d_law_over d_law_minus F_law_about) B_law_about, k_law_about, PySem.W.mg_of X G a_law_about⟩
  have d_still_copy : D l.prog w K mg base "still_copy" 6 (sp_still K C) := ⟨_, rOf (ok_still_copy TC m_ONE t_ONE m_MIDDLE t_MIDDLE F_still_copy) B_still_copy, k_still_copy, PySem.W.mg_of X G a_still_copy⟩
  have d_joint_copy : D l.prog w K mg base "joint_copy" 7 (sp_jointL K C CA) := ⟨_, rOf (ok_joint_copyL m_A_effect m_rs d_still_copy F_joint_copy) B_joint_copy, k_joint_copy, PySem.W.mg_of X G a_joint_copy⟩
  have d_law_told : D l.prog w K mg base "_law_told" 4 (sp_draw fun H r => ∃ c, IsD K H r c ∧ CopyIn c) := ⟨_, rOf (ok_law_told d_law_below d_law_turn d_law_spot F_law_told) B_law_told, k_law_told, PySem.W.mg_of X G a_law_told⟩
  have d_law_copy : D l.prog w K mg base "_law_copy" 6 (sp_copyOf K C) := ⟨_, rOf (ok_law_copy TC F_law_copy) B_law_copy, k_law_copy, PySem.W.mg_of X G a_law_copy⟩
  have d_law_carried : D l.prog w K mg base "_law_carried" 4 (sp_lcar K) := ⟨_, rOf (ok_law_carried d_law_plus d_law_times d_law_over F_law_carried) B_law_carried, k_law_carried, PySem.W.mg_of X G a_law_carried⟩
  have d_check_box : D l.prog w K mg base "check_box" 1 (sp_cbox K) := ⟨_, rOf (ok_check_box b_len m_MOST_IN_BOX F_check_box) B_check_box, k_check_box, PySem.W.mg_of X G a_check_box⟩
  have d_all_rows : D l.prog w K mg base "all_rows" 1 (sp_rows K) := ⟨_, rOf (ok_all_rows b_range b_min F_all_rows) B_all_rows, k_all_rows, PySem.W.mg_of X G a_all_rows⟩
  have d_arms_of : D l.prog w K mg base "arms_of" 1 (sp_aof K C CA) := ⟨_, rOf (ok_arms_of F_arms_of) B_arms_of, k_arms_of, PySem.W.mg_of X G a_arms_of⟩
  have d_different_copies : D l.prog w K mg base "different_copies" 8 (sp_dif K C CA) := ⟨_, rOf (ok_different_copies b_len m_pt m_ps m_pm d_joint_copy d_arms_of F_different_copies) B_different_copies, k_different_copies, PySem.W.mg_of X G a_different_copies⟩
  have d_rows_for : D l.prog w K mg base "rows_for" 8 (sp_rwf K C CA) := ⟨_, rOf (ok_rows_for b_len m_eq d_check_box d_all_rows d_joint_copy d_arms_of F_rows_for) B_rows_for, k_rows_for, PySem.W.mg_of X G a_rows_for⟩
  have d_copy_count : D l.prog w K mg base "copy_count" 9 (sp_cct K C CA) := ⟨_, rOf (ok_copy_count b_len d_check_box d_all_rows d_different_copies F_copy_count) B_copy_count, k_copy_count, PySem.W.mg_of X G a_copy_count⟩
  have d_copies_without : D l.prog w K mg base "copies_without" 9 (sp_cwo K C CA) := ⟨_, rOf (ok_copies_without b_len d_all_rows d_different_copies F_copies_without) B_copies_without, k_copies_without, PySem.W.mg_of X G a_copies_without⟩
  have d_needless_arms : D l.prog w K mg base "needless_arms" 10 (sp_nda K C CA) := ⟨_, rOf (ok_needless_arms b_len b_range d_copy_count d_copies_without F_needless_arms) B_needless_arms, k_needless_arms, PySem.W.mg_of X G a_needless_arms⟩
  have d_check_boxX : DX l.prog w K mg base "check_box" 1 (sp_cboxX K e10) := ⟨_, rOfX (ok_check_boxX b_len m_MOST_IN_BOX X_InvalidBox F_check_box) B_check_box, k_check_box, PySem.W.mg_of X G a_check_box⟩
  have d_rows_forX : DX l.prog w K mg base "rows_for" 8 (sp_rwfX K e10) := ⟨_, rOfX (ok_rows_forX d_check_boxX F_rows_for) B_rows_for, k_rows_for, PySem.W.mg_of X G a_rows_for⟩
  have d_copy_countX : DX l.prog w K mg base "copy_count" 9 (sp_bad1 K e10) := ⟨_, rOfX (ok_copy_countX d_check_boxX F_copy_count) B_copy_count, k_copy_count, PySem.W.mg_of X G a_copy_count⟩
  have d_needless_armsX : DX l.prog w K mg base "needless_arms" 10 (sp_bad1 K e10) := ⟨_, rOfX (ok_needless_armsX d_copy_countX F_needless_arms) B_needless_arms, k_needless_arms, PySem.W.mg_of X G a_needless_arms⟩
  have d_law_box : D l.prog w K mg base "_law_box" 5 (sp_lbox K) := ⟨_, rOf (ok_law_box b_range d_law_below d_law_arm_told F_law_box) B_law_box, k_law_box, PySem.W.mg_of X G a_law_box⟩
  have d_law_rows : D l.prog w K mg base "_law_rows" 1 (sp_lrows K) := ⟨_, rOf (ok_law_rows b_range F_law_rows) B_law_rows, k_law_rows, PySem.W.mg_of X G a_law_rows⟩
  have d_law_made_by : D l.prog w K mg base "_law_made_by" 6 (sp_lmade K) := ⟨_, rOf (ok_law_made_by d_law_about d_law_carried d_law_minus d_law_times F_law_made_by) B_law_made_by, k_law_made_by, PySem.W.mg_of X G a_law_made_by⟩
  exact ok_law (Cs := fun j => [e0, e1, e2, e3, e4, e5, e6, e7, e8, e9, e10, e11, e12, e13, e14, e15, e16, e17, e18, e19].getD j 0) TC TA b_len b_range b_tuple b_int b_sorted b_set b_isinstance b_ValueError m_B ER m_E k_law_error_of l_law_error_of c_law_error_of B_law_error_of m_law_all_raise k_law_all_raise F_law_all_raise B_law_all_raise d_law_random d_law_below d_law_box d_law_arm d_law_rows d_law_made_by d_law_told d_law_equal d_law_copy d_rows_for d_copy_count d_needless_arms d_rows_forX d_copy_countX d_needless_armsX (TB _ (.head _)) l_law c_law
end My
open PySem PySem.W PyProof.Rows in
set_option maxRecDepth 100000 in
set_option maxHeartbeats 0 in
theorem PySem.Challenge.cw_copyarms_k28_rows_of_arms_holds : PySem.Challenge.rw_copyarms_k28_rows_of_arms.Holds := by
  w_on; o_law
  refine HandSHeadRun.head_any (r := My.R) (q := My.qv) (H := PySem.W.kHook My.fragHere.heap_1 My.addrs My.addrs_eq) (ob := My.ob) (M := 20000) (loose := My.loose) (d := HandSHeadRun.topDef My.R.prog 87) (kwd := []) My.ob_eq ?e ?f My.run ?hdef ?hp ?hk ?hwr ?k1 ?ok ?hb ?hw ?hc
  case e => kernel_rfl
  case f => intro s; kernel_rfl
  case hdef => kernel_rfl
  case hp => kernel_rfl
  case hk => kernel_rfl
  case hwr => rfl
  case k1 => first | assumption | decide +kernel
  case ok => decide +kernel
  case hb => exact ⟨rfl, rfl, rfl, rfl, rfl, by decide +kernel⟩
  case hw => w_witness2
  case hc =>
    k_fill
    refine LamX.walk_ofOwn (l := PySem.Challenge.rw_copyarms_k28_rows_of_arms) (n := 63) (k := 14) (x := "_law_script") (CX := fun _ => L2.CX0) rfl (by decide) rfl ⟨rfl, by decide, by decide⟩ ?R (fun w h Y => by first | exact PySem.W.km_in_of Y | exact PySem.W.kIn_of Y) ?F (fun _ _ _ _ _ z => z)
    case R => first | rfl | decide +kernel
    case F =>
      intro w mg fa h Y KX G hmg own
      refine' My.all_mk KX G hmg own ?z_abs ?z_len ?z_isinstance ?z_int ?z_bool ?z_str ?z_tuple ?z_list ?z_all ?z_range ?z_ValueError ?z_min ?z_sorted ?z_set ?m_MIDDLE ?u_MIDDLE ?m_ONE ?u_ONE ?mi_MOST_REACH ?mi_MOST_IN_BOX ?g_CB ?ge_0 ?ge_1 ?ge_2 ?ge_3 ?ge_4 ?ge_5 ?ge_6 ?ge_7 ?ge_8 ?ge_9 ?ge_10 ?ge_11 ?ge_12 ?ge_13 ?ge_14 ?ge_15 ?ge_16 ?ge_17 ?ge_18 ?ge_19 ?xc_n ?xc_t ?xg_10 ?xk_10 ?xs_10 ?xd_10 ?xa_10 ?xm_10 ?kt_10_0 ?kt_10_1 ?kt_10_2 ?kt_10_3 ?kt_10_4 ?kt_10_5 ?kt_10_6 ?kt_10_7 ?kt_10_8 ?kt_10_9 ?kt_10_10 ?kt_10_11 ?kt_10_12 ?kt_10_13 ?kt_10_14 ?kt_10_15 ?kt_10_16 ?kt_10_17 ?kt_10_18 ?kt_10_19 ?kv_10 ?xx_10 ?xq_10 ?xp_10 ?xt_10 ?a_law_error_of ?l_law_error_of ?c_law_error_of ?k_law_error_of ?a_law_all_raise ?l_law_all_raise ?c_law_all_raise ?k_law_all_raise ?a_common_divisor ?l_common_divisor ?c_common_divisor ?k_common_divisor ?a_is_whole ?l_is_whole ?c_is_whole ?k_is_whole ?a_is_spot ?l_is_spot ?c_is_spot ?k_is_spot ?a_check_spot ?l_check_spot ?c_check_spot ?k_check_spot ?a_check_turn ?l_check_turn ?c_check_turn ?k_check_turn ?a_spot_at ?l_spot_at ?c_spot_at ?k_spot_at ?a_fraction ?l_fraction ?c_fraction ?k_fraction ?a_plus ?l_plus ?c_plus ?k_plus ?a_negative ?l_negative ?c_negative ?k_negative ?a_minus ?l_minus ?c_minus ?k_minus ?a_product ?l_product ?c_product ?k_product ?a_faced ?l_faced ?c_faced ?k_faced ?a_carried ?l_carried ?c_carried ?k_carried ?a_square_between ?l_square_between ?c_square_between ?k_square_between ?a_is_from_to ?l_is_from_to ?c_is_from_to ?k_is_from_to ?a_inverse ?l_inverse ?c_inverse ?k_inverse ?aC ?inI ?l_Copy___init__ ?c_Copy___init__ ?k_Copy___init__ ?kw_init ?pg ?hdC ?po ?sa ?mkC ?kc ?isI ?nF ?nO ?nL ?ha ?hn ?htk ?hmo ?sf ?a_Copy___rshift__ ?i_Copy___rshift__ ?l_Copy___rshift__ ?c_Copy___rshift__ ?k_Copy___rshift__ ?a_Copy___invert__ ?i_Copy___invert__ ?l_Copy___invert__ ?c_Copy___invert__ ?k_Copy___invert__ ?a_Copy___eq__ ?i_Copy___eq__ ?l_Copy___eq__ ?c_Copy___eq__ ?k_Copy___eq__ ?a_Copy___call__ ?i_Copy___call__ ?l_Copy___call__ ?c_Copy___call__ ?k_Copy___call__ ?fi_call ?a_Copy_turn ?g_Copy_turn ?t_Copy_turn ?r_Copy_turn ?l_Copy_turn ?c_Copy_turn ?k_Copy_turn ?a_Copy_shift ?g_Copy_shift ?t_Copy_shift ?r_Copy_shift ?l_Copy_shift ?c_Copy_shift ?k_Copy_shift ?a_Copy_mirrored ?g_Copy_mirrored ?t_Copy_mirrored ?r_Copy_mirrored ?l_Copy_mirrored ?c_Copy_mirrored ?k_Copy_mirrored ?a_check_reach ?l_check_reach ?c_check_reach ?k_check_reach ?a_copy_around ?l_copy_around ?c_copy_around ?k_copy_around ?aCA ?inCA ?l_Arm___init__ ?c_Arm___init__ ?k_Arm___init__ ?kw_A ?pgCA ?hdCA ?poCA ?saCA ?mkCA ?kcCA ?isCA ?nCA_centre ?nCA_factor ?nCA_least ?nCA_most ?nCA_flips ?nCA_pen ?haA ?hmA ?a_Arm_pole ?g_Arm_pole ?t_Arm_pole ?r_Arm_pole ?l_Arm_pole ?c_Arm_pole ?k_Arm_pole ?a_Arm_turn ?g_Arm_turn ?t_Arm_turn ?r_Arm_turn ?l_Arm_turn ?c_Arm_turn ?k_Arm_turn ?a_Arm_near ?g_Arm_near ?t_Arm_near ?r_Arm_near ?l_Arm_near ?c_Arm_near ?k_Arm_near ?a_Arm_far ?g_Arm_far ?t_Arm_far ?r_Arm_far ?l_Arm_far ?c_Arm_far ?k_Arm_far ?a_Arm_mirrored ?g_Arm_mirrored ?t_Arm_mirrored ?r_Arm_mirrored ?l_Arm_mirrored ?c_Arm_mirrored ?k_Arm_mirrored ?a_Arm_effect ?g_Arm_effect ?t_Arm_effect ?r_Arm_effect ?l_Arm_effect ?c_Arm_effect ?k_Arm_effect ?a_Arm___eq__ ?i_Arm___eq__ ?l_Arm___eq__ ?c_Arm___eq__ ?k_Arm___eq__ ?a_law_random ?l_law_random ?c_law_random ?k_law_random ?a_law_below ?l_law_below ?c_law_below ?k_law_below ?a_law_step ?l_law_step ?c_law_step ?k_law_step ?a_law_turn ?l_law_turn ?c_law_turn ?k_law_turn ?a_law_common ?l_law_common ?c_law_common ?k_law_common ?a_law_lowest ?l_law_lowest ?c_law_lowest ?k_law_lowest ?a_law_spot ?l_law_spot ?c_law_spot ?k_law_spot ?a_law_arm_told ?l_law_arm_told ?c_law_arm_told ?k_law_arm_told ?a_law_arm ?l_law_arm ?c_law_arm ?k_law_arm ?a_law_equal ?l_law_equal ?c_law_equal ?k_law_equal ?a_law_over ?l_law_over ?c_law_over ?k_law_over ?a_law_plus ?l_law_plus ?c_law_plus ?k_law_plus ?a_law_times ?l_law_times ?c_law_times ?k_law_times ?a_law_minus ?l_law_minus ?c_law_minus ?k_law_minus ?a_law_about ?l_law_about ?c_law_about ?k_law_about ?a_still_copy ?l_still_copy ?c_still_copy ?k_still_copy ?a_joint_copy ?l_joint_copy ?c_joint_copy ?k_joint_copy ?a_law_told ?l_law_told ?c_law_told ?k_law_told ?a_law_copy ?l_law_copy ?c_law_copy ?k_law_copy ?a_law_carried ?l_law_carried ?c_law_carried ?k_law_carried ?a_check_box ?l_check_box ?c_check_box ?k_check_box ?a_all_rows ?l_all_rows ?c_all_rows ?k_all_rows ?a_arms_of ?l_arms_of ?c_arms_of ?k_arms_of ?a_different_copies ?l_different_copies ?c_different_copies ?k_different_copies ?a_rows_for ?l_rows_for ?c_rows_for ?k_rows_for ?a_copy_count ?l_copy_count ?c_copy_count ?k_copy_count ?a_copies_without ?l_copies_without ?c_copies_without ?k_copies_without ?a_needless_arms ?l_needless_arms ?c_needless_arms ?k_needless_arms ?a_law_box ?l_law_box ?c_law_box ?k_law_box ?a_law_rows ?l_law_rows ?c_law_rows ?k_law_rows ?a_law_made_by ?l_law_made_by ?c_law_made_by ?k_law_made_by ?a_law ?l_law ?c_law ?q_law ?v_law ?n_law ?h_law
      (case z_abs => k_is)
      (case z_len => k_is)
      (case z_isinstance => k_is)
      (case z_int => k_is)
      (case z_bool => k_is)
      (case z_str => k_is)
      (case z_tuple => k_is)
      (case z_list => k_is)
      (case z_all => k_is)
      (case z_range => k_is)
      (case z_ValueError => k_is)
      (case z_min => k_is)
      (case z_sorted => k_is)
      (case z_set => k_is)
      (case m_MIDDLE => k_is)
      (case u_MIDDLE => k_is)
      (case m_ONE => k_is)
      (case u_ONE => k_is)
      (case mi_MOST_REACH => k_is)
      (case mi_MOST_IN_BOX => k_is)
      (case g_CB => k_is)
      (case ge_0 => k_is)
      (case ge_1 => k_is)
      (case ge_2 => k_is)
      (case ge_3 => k_is)
      (case ge_4 => k_is)
      (case ge_5 => k_is)
      (case ge_6 => k_is)
      (case ge_7 => k_is)
      (case ge_8 => k_is)
      (case ge_9 => k_is)
      (case ge_10 => k_is)
      (case ge_11 => k_is)
      (case ge_12 => k_is)
      (case ge_13 => k_is)
      (case ge_14 => k_is)
      (case ge_15 => k_is)
      (case ge_16 => k_is)
      (case ge_17 => k_is)
      (case ge_18 => k_is)
      (case ge_19 => k_is)
      (case xc_n => k_is)
      (case xc_t => k_is)
      (case xg_10 => k_is)
      (case xk_10 => k_is)
      (case xs_10 => k_is)
      (case xd_10 => k_is)
      (case xa_10 => k_is)
      (case xm_10 => k_is)
      (case kt_10_0 => first | kernel_rfl | rfl | decide +kernel)
      (case kt_10_1 => first | kernel_rfl | rfl | decide +kernel)
      (case kt_10_2 => first | kernel_rfl | rfl | decide +kernel)
      (case kt_10_3 => first | kernel_rfl | rfl | decide +kernel)
      (case kt_10_4 => first | kernel_rfl | rfl | decide +kernel)
      (case kt_10_5 => first | kernel_rfl | rfl | decide +kernel)
      (case kt_10_6 => first | kernel_rfl | rfl | decide +kernel)
      (case kt_10_7 => first | kernel_rfl | rfl | decide +kernel)
      (case kt_10_8 => first | kernel_rfl | rfl | decide +kernel)
      (case kt_10_9 => first | kernel_rfl | rfl | decide +kernel)
      (case kt_10_10 => first | kernel_rfl | rfl | decide +kernel)
      (case kt_10_11 => first | kernel_rfl | rfl | decide +kernel)
      (case kt_10_12 => first | kernel_rfl | rfl | decide +kernel)
      (case kt_10_13 => first | kernel_rfl | rfl | decide +kernel)
      (case kt_10_14 => first | kernel_rfl | rfl | decide +kernel)
      (case kt_10_15 => first | kernel_rfl | rfl | decide +kernel)
      (case kt_10_16 => first | kernel_rfl | rfl | decide +kernel)
      (case kt_10_17 => first | kernel_rfl | rfl | decide +kernel)
      (case kt_10_18 => first | kernel_rfl | rfl | decide +kernel)
      (case kt_10_19 => first | kernel_rfl | rfl | decide +kernel)
      (case kv_10 => first | kernel_rfl | rfl | decide +kernel)
      (case xx_10 => first | kernel_rfl | rfl | decide +kernel)
      (case xq_10 => k_exc)
      (case xp_10 => k_is)
      (case xt_10 => k_is)
      (case a_law_error_of => k_is)
      (case l_law_error_of => k_is)
      (case c_law_error_of => k_is)
      (case k_law_error_of => k_is)
      (case a_law_all_raise => k_is)
      (case l_law_all_raise => k_is)
      (case c_law_all_raise => k_is)
      (case k_law_all_raise => k_is)
      (case a_common_divisor => k_is)
      (case l_common_divisor => k_is)
      (case c_common_divisor => k_is)
      (case k_common_divisor => k_is)
      (case a_is_whole => k_is)
      (case l_is_whole => k_is)
      (case c_is_whole => k_is)
      (case k_is_whole => k_is)
      (case a_is_spot => k_is)
      (case l_is_spot => k_is)
      (case c_is_spot => k_is)
      (case k_is_spot => k_is)
      (case a_check_spot => k_is)
      (case l_check_spot => k_is)
      (case c_check_spot => k_is)
      (case k_check_spot => k_is)
      (case a_check_turn => k_is)
      (case l_check_turn => k_is)
      (case c_check_turn => k_is)
      (case k_check_turn => k_is)
      (case a_spot_at => k_is)
      (case l_spot_at => k_is)
      (case c_spot_at => k_is)
      (case k_spot_at => k_is)
      (case a_fraction => k_is)
      (case l_fraction => k_is)
      (case c_fraction => k_is)
      (case k_fraction => k_is)
      (case a_plus => k_is)
      (case l_plus => k_is)
      (case c_plus => k_is)
      (case k_plus => k_is)
      (case a_negative => k_is)
      (case l_negative => k_is)
      (case c_negative => k_is)
      (case k_negative => k_is)
      (case a_minus => k_is)
      (case l_minus => k_is)
      (case c_minus => k_is)
      (case k_minus => k_is)
      (case a_product => k_is)
      (case l_product => k_is)
      (case c_product => k_is)
      (case k_product => k_is)
      (case a_faced => k_is)
      (case l_faced => k_is)
      (case c_faced => k_is)
      (case k_faced => k_is)
      (case a_carried => k_is)
      (case l_carried => k_is)
      (case c_carried => k_is)
      (case k_carried => k_is)
      (case a_square_between => k_is)
      (case l_square_between => k_is)
      (case c_square_between => k_is)
      (case k_square_between => k_is)
      (case a_is_from_to => k_is)
      (case l_is_from_to => k_is)
      (case c_is_from_to => k_is)
      (case k_is_from_to => k_is)
      (case a_inverse => k_is)
      (case l_inverse => k_is)
      (case c_inverse => k_is)
      (case k_inverse => k_is)
      (case aC => k_is)
      (case inI => k_is)
      (case l_Copy___init__ => k_is)
      (case c_Copy___init__ => k_is)
      (case k_Copy___init__ => k_is)
      (case kw_init => k_is)
      (case pg => k_is)
      (case hdC => k_is)
      (case po => k_is)
      (case sa => k_is)
      (case mkC => k_is)
      (case kc => k_is)
      (case isI => k_is)
      (case nF => k_is)
      (case nO => k_is)
      (case nL => k_is)
      (case ha => k_is)
      (case hn => k_is)
      (case htk => k_is)
      (case hmo => k_is)
      (case sf => k_is)
      (case a_Copy___rshift__ => k_is)
      (case i_Copy___rshift__ => k_is)
      (case l_Copy___rshift__ => k_is)
      (case c_Copy___rshift__ => k_is)
      (case k_Copy___rshift__ => k_is)
      (case a_Copy___invert__ => k_is)
      (case i_Copy___invert__ => k_is)
      (case l_Copy___invert__ => k_is)
      (case c_Copy___invert__ => k_is)
      (case k_Copy___invert__ => k_is)
      (case a_Copy___eq__ => k_is)
      (case i_Copy___eq__ => k_is)
      (case l_Copy___eq__ => k_is)
      (case c_Copy___eq__ => k_is)
      (case k_Copy___eq__ => k_is)
      (case a_Copy___call__ => k_is)
      (case i_Copy___call__ => k_is)
      (case l_Copy___call__ => k_is)
      (case c_Copy___call__ => k_is)
      (case k_Copy___call__ => k_is)
      (case fi_call => k_is)
      (case a_Copy_turn => k_is)
      (case g_Copy_turn => k_is)
      (case t_Copy_turn => k_is)
      (case r_Copy_turn => k_is)
      (case l_Copy_turn => k_is)
      (case c_Copy_turn => k_is)
      (case k_Copy_turn => k_is)
      (case a_Copy_shift => k_is)
      (case g_Copy_shift => k_is)
      (case t_Copy_shift => k_is)
      (case r_Copy_shift => k_is)
      (case l_Copy_shift => k_is)
      (case c_Copy_shift => k_is)
      (case k_Copy_shift => k_is)
      (case a_Copy_mirrored => k_is)
      (case g_Copy_mirrored => k_is)
      (case t_Copy_mirrored => k_is)
      (case r_Copy_mirrored => k_is)
      (case l_Copy_mirrored => k_is)
      (case c_Copy_mirrored => k_is)
      (case k_Copy_mirrored => k_is)
      (case a_check_reach => k_is)
      (case l_check_reach => k_is)
      (case c_check_reach => k_is)
      (case k_check_reach => k_is)
      (case a_copy_around => k_is)
      (case l_copy_around => k_is)
      (case c_copy_around => k_is)
      (case k_copy_around => k_is)
      (case aCA => k_is)
      (case inCA => k_is)
      (case l_Arm___init__ => k_is)
      (case c_Arm___init__ => k_is)
      (case k_Arm___init__ => k_is)
      (case kw_A => k_is)
      (case pgCA => k_is)
      (case hdCA => k_is)
      (case poCA => k_is)
      (case saCA => k_is)
      (case mkCA => k_is)
      (case kcCA => k_is)
      (case isCA => k_is)
      (case nCA_centre => k_is)
      (case nCA_factor => k_is)
      (case nCA_least => k_is)
      (case nCA_most => k_is)
      (case nCA_flips => k_is)
      (case nCA_pen => k_is)
      (case haA => k_is)
      (case hmA => k_is)
      (case a_Arm_pole => k_is)
      (case g_Arm_pole => k_is)
      (case t_Arm_pole => k_is)
      (case r_Arm_pole => k_is)
      (case l_Arm_pole => k_is)
      (case c_Arm_pole => k_is)
      (case k_Arm_pole => k_is)
      (case a_Arm_turn => k_is)
      (case g_Arm_turn => k_is)
      (case t_Arm_turn => k_is)
      (case r_Arm_turn => k_is)
      (case l_Arm_turn => k_is)
      (case c_Arm_turn => k_is)
      (case k_Arm_turn => k_is)
      (case a_Arm_near => k_is)
      (case g_Arm_near => k_is)
      (case t_Arm_near => k_is)
      (case r_Arm_near => k_is)
      (case l_Arm_near => k_is)
      (case c_Arm_near => k_is)
      (case k_Arm_near => k_is)
      (case a_Arm_far => k_is)
      (case g_Arm_far => k_is)
      (case t_Arm_far => k_is)
      (case r_Arm_far => k_is)
      (case l_Arm_far => k_is)
      (case c_Arm_far => k_is)
      (case k_Arm_far => k_is)
      (case a_Arm_mirrored => k_is)
      (case g_Arm_mirrored => k_is)
      (case t_Arm_mirrored => k_is)
      (case r_Arm_mirrored => k_is)
      (case l_Arm_mirrored => k_is)
      (case c_Arm_mirrored => k_is)
      (case k_Arm_mirrored => k_is)
      (case a_Arm_effect => k_is)
      (case g_Arm_effect => k_is)
      (case t_Arm_effect => k_is)
      (case r_Arm_effect => k_is)
      (case l_Arm_effect => k_is)
      (case c_Arm_effect => k_is)
      (case k_Arm_effect => k_is)
      (case a_Arm___eq__ => k_is)
      (case i_Arm___eq__ => k_is)
      (case l_Arm___eq__ => k_is)
      (case c_Arm___eq__ => k_is)
      (case k_Arm___eq__ => k_is)
      (case a_law_random => k_is)
      (case l_law_random => k_is)
      (case c_law_random => k_is)
      (case k_law_random => k_is)
      (case a_law_below => k_is)
      (case l_law_below => k_is)
      (case c_law_below => k_is)
      (case k_law_below => k_is)
      (case a_law_step => k_is)
      (case l_law_step => k_is)
      (case c_law_step => k_is)
      (case k_law_step => k_is)
      (case a_law_turn => k_is)
      (case l_law_turn => k_is)
      (case c_law_turn => k_is)
      (case k_law_turn => k_is)
      (case a_law_common => k_is)
      (case l_law_common => k_is)
      (case c_law_common => k_is)
      (case k_law_common => k_is)
      (case a_law_lowest => k_is)
      (case l_law_lowest => k_is)
      (case c_law_lowest => k_is)
      (case k_law_lowest => k_is)
      (case a_law_spot => k_is)
      (case l_law_spot => k_is)
      (case c_law_spot => k_is)
      (case k_law_spot => k_is)
      (case a_law_arm_told => k_is)
      (case l_law_arm_told => k_is)
      (case c_law_arm_told => k_is)
      (case k_law_arm_told => k_is)
      (case a_law_arm => k_is)
      (case l_law_arm => k_is)
      (case c_law_arm => k_is)
      (case k_law_arm => k_is)
      (case a_law_equal => k_is)
      (case l_law_equal => k_is)
      (case c_law_equal => k_is)
      (case k_law_equal => k_is)
      (case a_law_over => k_is)
      (case l_law_over => k_is)
      (case c_law_over => k_is)
      (case k_law_over => k_is)
      (case a_law_plus => k_is)
      (case l_law_plus => k_is)
      (case c_law_plus => k_is)
      (case k_law_plus => k_is)
      (case a_law_times => k_is)
      (case l_law_times => k_is)
      (case c_law_times => k_is)
      (case k_law_times => k_is)
      (case a_law_minus => k_is)
      (case l_law_minus => k_is)
      (case c_law_minus => k_is)
      (case k_law_minus => k_is)
      (case a_law_about => k_is)
      (case l_law_about => k_is)
      (case c_law_about => k_is)
      (case k_law_about => k_is)
      (case a_still_copy => k_is)
      (case l_still_copy => k_is)
      (case c_still_copy => k_is)
      (case k_still_copy => k_is)
      (case a_joint_copy => k_is)
      (case l_joint_copy => k_is)
      (case c_joint_copy => k_is)
      (case k_joint_copy => k_is)
      (case a_law_told => k_is)
      (case l_law_told => k_is)
      (case c_law_told => k_is)
      (case k_law_told => k_is)
      (case a_law_copy => k_is)
      (case l_law_copy => k_is)
      (case c_law_copy => k_is)
      (case k_law_copy => k_is)
      (case a_law_carried => k_is)
      (case l_law_carried => k_is)
      (case c_law_carried => k_is)
      (case k_law_carried => k_is)
      (case a_check_box => k_is)
      (case l_check_box => k_is)
      (case c_check_box => k_is)
      (case k_check_box => k_is)
      (case a_all_rows => k_is)
      (case l_all_rows => k_is)
      (case c_all_rows => k_is)
      (case k_all_rows => k_is)
      (case a_arms_of => k_is)
      (case l_arms_of => k_is)
      (case c_arms_of => k_is)
      (case k_arms_of => k_is)
      (case a_different_copies => k_is)
      (case l_different_copies => k_is)
      (case c_different_copies => k_is)
      (case k_different_copies => k_is)
      (case a_rows_for => k_is)
      (case l_rows_for => k_is)
      (case c_rows_for => k_is)
      (case k_rows_for => k_is)
      (case a_copy_count => k_is)
      (case l_copy_count => k_is)
      (case c_copy_count => k_is)
      (case k_copy_count => k_is)
      (case a_copies_without => k_is)
      (case l_copies_without => k_is)
      (case c_copies_without => k_is)
      (case k_copies_without => k_is)
      (case a_needless_arms => k_is)
      (case l_needless_arms => k_is)
      (case c_needless_arms => k_is)
      (case k_needless_arms => k_is)
      (case a_law_box => k_is)
      (case l_law_box => k_is)
      (case c_law_box => k_is)
      (case k_law_box => k_is)
      (case a_law_rows => k_is)
      (case l_law_rows => k_is)
      (case c_law_rows => k_is)
      (case k_law_rows => k_is)
      (case a_law_made_by => k_is)
      (case l_law_made_by => k_is)
      (case c_law_made_by => k_is)
      (case k_law_made_by => k_is)
      (case a_law => k_is)
      (case l_law => k_is)
      (case c_law => k_is)
      (case q_law => k_is)
      (case v_law => first | exact rfl | (with_unfolding_all exact rfl) | (simp; rfl))
      (case n_law => first | k_is | kernel_rfl | rfl)
      (case h_law => first | kernel_rfl | rfl | decide +kernel)
#print axioms PySem.Challenge.cw_copyarms_k28_rows_of_arms_holds
