import PyProof.Rows.All
import Wide.All
import OpenK.AllK
import Wide.FinOn
import HandS.ForMost
import HandS.ForExc
import HandS.Flow
import HandS.Style
import HandS.Wide
import HandS.Property
import HandS.Star
import HandS.MakeKw
import HandS.MakeKwOnly
import HandS.OwnEq
import HandS.IsInst
import HandS.Defaults
import HandS.TryOnly
import HandS.NoneIn
import HandS.Lambda
import HandS.EndTab
import HandS.EndOwn
import HandS.ExcOwn
import HandS.ExcIs
import HandS.TupSets
import HandS.Deep
import KE.KDictZip
import HandS.Zip
import HandS.Conv
import HandS.ExcInit
import HandS.ExcField
import KE.KRevSl
import HandS.TupAny
import KE.SortKeyHeap
import KE.GoesMore
import OpenK.KOps
import OpenK.KMeth
import KE.KDflt
import HandS.TupLe
import KE.KStateDown
import Lean
import HandS.Head0
import HandS.Head1
import HandS.Head2
import PySem.Challenge.RW_copyarms_k20_spots_in_reach
set_option Elab.async false
set_option linter.all false
set_option maxRecDepth 100000
set_option maxHeartbeats 4000000
set_option exponentiation.threshold 100000
namespace My
def loose0 : List PySem.Str := [("_wall" : PySem.Str), ("CopyError" : PySem.Str), ("InvalidSpot" : PySem.Str), ("InvalidTurn" : PySem.Str), ("InvalidTimes" : PySem.Str), ("TooFew" : PySem.Str), ("InvalidStroke" : PySem.Str), ("OpenStroke" : PySem.Str), ("InvalidReach" : PySem.Str), ("OutOfReach" : PySem.Str), ("TooMany" : PySem.Str), ("InvalidSize" : PySem.Str), ("InvalidBox" : PySem.Str), ("Contradiction" : PySem.Str), ("BadText" : PySem.Str), ("BadRow" : PySem.Str), ("UnknownName" : PySem.Str), ("InvalidName" : PySem.Str), ("InvalidCode" : PySem.Str), ("UnknownArm" : PySem.Str)]
def loose1 : List PySem.Str := [("NotFree" : PySem.Str), ("InvalidOperation" : PySem.Str), ("MIDDLE" : PySem.Str), ("ONE" : PySem.Str), ("MOST_LIMIT" : PySem.Str), ("is_whole" : PySem.Str), ("common_divisor" : PySem.Str), ("is_spot" : PySem.Str), ("check_spot" : PySem.Str), ("check_turn" : PySem.Str), ("check_limit" : PySem.Str), ("spot_at" : PySem.Str), ("fraction" : PySem.Str), ("plus" : PySem.Str), ("negative" : PySem.Str), ("minus" : PySem.Str), ("product" : PySem.Str), ("inverse" : PySem.Str), ("faced" : PySem.Str), ("carried" : PySem.Str)]
def loose2 : List PySem.Str := [("parting_scale" : PySem.Str), ("Copy" : PySem.Str), ("still_copy" : PySem.Str), ("square_between" : PySem.Str), ("is_from_to" : PySem.Str), ("square_beside" : PySem.Str), ("squares_along" : PySem.Str), ("MOST_SPOTS" : PySem.Str), ("MOST_STROKES" : PySem.Str), ("Drawing" : PySem.Str), ("parts_of" : PySem.Str), ("is_stroke" : PySem.Str), ("check_strokes" : PySem.Str), ("MOST_REACH" : PySem.Str), ("Arm" : PySem.Str), ("check_reach" : PySem.Str), ("copy_around" : PySem.Str), ("traced_parts" : PySem.Str), ("can_trace" : PySem.Str), ("traced" : PySem.Str)]
def loose3 : List PySem.Str := [("MOST_ARMS" : PySem.Str), ("Chain" : PySem.Str), ("joint_copy" : PySem.Str), ("zones" : PySem.Str), ("square_ahead" : PySem.Str), ("reachable_spots" : PySem.Str), ("is_in_all" : PySem.Str), ("can_draw" : PySem.Str), ("_law_random" : PySem.Str), ("_law_below" : PySem.Str), ("_law_step" : PySem.Str), ("_law_common" : PySem.Str), ("_law_lowest" : PySem.Str), ("_law_spot" : PySem.Str), ("_law_turn" : PySem.Str), ("_law_arm_told" : PySem.Str), ("_law_arm" : PySem.Str), ("_law_chain" : PySem.Str), ("_law_ratio" : PySem.Str), ("_law_size" : PySem.Str)]
def loose4 : List PySem.Str := [("_law_plus" : PySem.Str), ("_law_minus" : PySem.Str), ("_law_less" : PySem.Str), ("_law_reached" : PySem.Str), ("_law_times" : PySem.Str), ("_law_over" : PySem.Str), ("_law_near" : PySem.Str), ("_law_traced" : PySem.Str), ("_law_about" : PySem.Str), ("_law_carried" : PySem.Str), ("_law_moved" : PySem.Str), ("_law_missed" : PySem.Str), ("_law_equal" : PySem.Str), ("_law_drawing" : PySem.Str), ("_law_error_of" : PySem.Str)]
def loose : List PySem.Str := loose0 ++ loose1 ++ loose2 ++ loose3 ++ loose4
abbrev R : PySem.W.OpenRow := PySem.W.OpenLaw.row PySem.Challenge.rw_copyarms_k20_spots_in_reach
abbrev qv : PySem.Program := PySem.W.view R.prog [43, 104]
end My
namespace My
section
local macro_rules | `(tactic| o_head $_) => `(tactic| assumption)
theorem fragHere (h : R.Holds) : R.Holds := by
  k_head
end
noncomputable abbrev KF : PySem.Params → PySem.W.Frag := fragHere.heap_1
noncomputable def addrs : List Nat := (KF { strHash := fun _ => 0, shareClass := fun _ => 0, mergeTok := fun t => t, idOf := fun _ => 0, idOfShared := fun _ _ => 0, followText := fun _ => false, idOfImm := fun _ => 0 }).map (·.1)
theorem addrs_eq (P : PySem.Params) : addrs = (KF P).map (·.1) := by kernel_rfl
noncomputable def ob (s : PySem.W.SharedT) : (PySem.W.kHook KF addrs addrs_eq).α := addrs.map (HandSHeadRun.getT s)
theorem ob_eq (s : PySem.W.SharedT) : ob s = (PySem.W.kHook KF addrs addrs_eq).obs s.abs := List.map_congr_left fun a _ => HandSHeadRun.getT_eq s a
theorem run (w : PySem.World) : HandSHeadRun.RunEq R qv (PySem.W.kHook KF addrs addrs_eq) ob 20000 loose w := by
  intro os
  kernel_rfl
end My
namespace Mth
/-! ### numbers of two parts, in lowest terms -/
abbrev T3 := Int × Int × Int
def g3 (x y d : Int) : Int := ((Int.gcd ((Int.gcd x y : Nat) : Int) d : Nat) : Int)
def sg (x y d : Int) : Int := if d < 0 then -(g3 x y d) else g3 x y d
def low (x y d : Int) : T3 := (x.fdiv (sg x y d), y.fdiv (sg x y d), d.fdiv (sg x y d))
def Ok (s : T3) : Prop := 0 < s.2.2 ∧ g3 s.1 s.2.1 s.2.2 = 1
def re (s : T3) : Rat := (s.1 : Rat) / (s.2.2 : Rat)
def im (s : T3) : Rat := (s.2.1 : Rat) / (s.2.2 : Rat)
theorem g3_pos {x y d : Int} (hd : d ≠ 0) : 0 < g3 x y d := by
  unfold g3
  have : 0 < Int.gcd ((Int.gcd x y : Nat) : Int) d := Int.gcd_pos_of_ne_zero_right _ hd
  omega
theorem g3_dx {x y d : Int} : g3 x y d ∣ x := Int.dvd_trans (Int.gcd_dvd_left _ _) (Int.gcd_dvd_left _ _)
theorem g3_dy {x y d : Int} : g3 x y d ∣ y := Int.dvd_trans (Int.gcd_dvd_left _ _) (Int.gcd_dvd_right _ _)
theorem g3_dd {x y d : Int} : g3 x y d ∣ d := Int.gcd_dvd_right _ _
theorem g3_great {x y d c : Int} (h1 : c ∣ x) (h2 : c ∣ y) (h3 : c ∣ d) : c ∣ g3 x y d := Int.dvd_coe_gcd (Int.dvd_coe_gcd h1 h2) h3
theorem sg_ne {x y d : Int} (hd : d ≠ 0) : sg x y d ≠ 0 := by
  have := g3_pos (x := x) (y := y) hd
  unfold sg; split <;> omega
theorem sg_of {x y d : Int} : sg x y d = g3 x y d ∨ sg x y d = -g3 x y d := by unfold sg; split <;> simp
theorem sg_dx {x y d : Int} : sg x y d ∣ x := by rcases @sg_of x y d with h | h <;> rw [h]; exact g3_dx; exact Int.neg_dvd.mpr g3_dx
theorem sg_dy {x y d : Int} : sg x y d ∣ y := by rcases @sg_of x y d with h | h <;> rw [h]; exact g3_dy; exact Int.neg_dvd.mpr g3_dy
theorem sg_dd {x y d : Int} : sg x y d ∣ d := by rcases @sg_of x y d with h | h <;> rw [h]; exact g3_dd; exact Int.neg_dvd.mpr g3_dd
/-- the three parts, times the divisor -/
theorem low_mul (x y d : Int) : x = sg x y d * (low x y d).1 ∧ y = sg x y d * (low x y d).2.1 ∧ d = sg x y d * (low x y d).2.2 := by
  unfold low
  refine ⟨?_, ?_, ?_⟩ <;> dsimp only
  · rw [Int.fdiv_eq_ediv_of_dvd sg_dx]; exact (Int.mul_ediv_cancel' sg_dx).symm
  · rw [Int.fdiv_eq_ediv_of_dvd sg_dy]; exact (Int.mul_ediv_cancel' sg_dy).symm
  · rw [Int.fdiv_eq_ediv_of_dvd sg_dd]; exact (Int.mul_ediv_cancel' sg_dd).symm
theorem low_pos {x y d : Int} (hd : d ≠ 0) : 0 < (low x y d).2.2 := by
  have h := (low_mul x y d).2.2
  have hg := g3_pos (x := x) (y := y) hd
  generalize (low x y d).2.2 = z at h ⊢
  unfold sg at h
  rcases Int.lt_trichotomy z 0 with hz | hz | hz
  · exfalso
    split at h
    · have : 0 < (g3 x y d) * (-z) := Int.mul_pos hg (by omega)
      have e : g3 x y d * -z = - g3 x y d * z := by grind
      omega
    · have : 0 < (g3 x y d) * (-z) := Int.mul_pos hg (by omega)
      have e : g3 x y d * -z = - (g3 x y d * z) := by grind
      omega
  · subst hz; simp at h; exact absurd h hd
  · exact hz
theorem low_ok {x y d : Int} (hd : d ≠ 0) : Ok (low x y d) := by
  refine ⟨low_pos hd, ?_⟩
  obtain ⟨h1, h2, h3⟩ := low_mul x y d
  have hs := sg_ne (x := x) (y := y) hd
  have hp := low_pos (x := x) (y := y) hd
  generalize (low x y d).1 = a at *
  generalize (low x y d).2.1 = b at *
  generalize (low x y d).2.2 = c at *
  have hg := g3_pos (x := a) (y := b) (d := c) (by omega)
  have k1 : sg x y d * g3 a b c ∣ x := by
    obtain ⟨u, hu⟩ := @g3_dx a b c
    exact ⟨u, by rw [Int.mul_assoc, ← hu, ← h1]⟩
  have k2 : sg x y d * g3 a b c ∣ y := by
    obtain ⟨u, hu⟩ := @g3_dy a b c
    exact ⟨u, by rw [Int.mul_assoc, ← hu, ← h2]⟩
  have k3 : sg x y d * g3 a b c ∣ d := by
    obtain ⟨u, hu⟩ := @g3_dd a b c
    exact ⟨u, by rw [Int.mul_assoc, ← hu, ← h3]⟩
  have k := g3_great k1 k2 k3
  have k' : sg x y d * g3 a b c ∣ sg x y d := by
    rcases @sg_of x y d with h | h
    · rw [h] at k ⊢; exact k
    · rw [h]; rw [h] at k; exact (Int.dvd_neg).mpr k
  obtain ⟨u, hu⟩ := k'
  have e : g3 a b c * u = 1 := by
    have : sg x y d * (g3 a b c * u) = sg x y d * 1 := by rw [← Int.mul_assoc, ← hu, Int.mul_one]
    exact Int.eq_of_mul_eq_mul_left hs this
  exact Int.eq_one_of_dvd_one (by omega) ⟨u, e.symm⟩
theorem cast_ne {d : Int} (h : d ≠ 0) : (d : Rat) ≠ 0 := by simpa using h
theorem low_re {x y d : Int} (hd : d ≠ 0) : re (low x y d) = (x : Rat) / (d : Rat) := by
  obtain ⟨h1, h2, h3⟩ := low_mul x y d
  have hs := cast_ne (sg_ne (x := x) (y := y) hd)
  have hp := cast_ne (show (low x y d).2.2 ≠ 0 by have := low_pos (x := x) (y := y) hd; omega)
  unfold re
  have e1 : (x : Rat) = (sg x y d : Rat) * ((low x y d).1 : Rat) := by rw [← Rat.intCast_mul, ← h1]
  have e3 : (d : Rat) = (sg x y d : Rat) * ((low x y d).2.2 : Rat) := by rw [← Rat.intCast_mul, ← h3]
  generalize (sg x y d : Rat) = s at *
  generalize ((low x y d).1 : Rat) = a at *
  generalize ((low x y d).2.2 : Rat) = c at *
  grind
theorem low_im {x y d : Int} (hd : d ≠ 0) : im (low x y d) = (y : Rat) / (d : Rat) := by
  obtain ⟨h1, h2, h3⟩ := low_mul x y d
  have hs := cast_ne (sg_ne (x := x) (y := y) hd)
  have hp := cast_ne (show (low x y d).2.2 ≠ 0 by have := low_pos (x := x) (y := y) hd; omega)
  unfold im
  have e1 : (y : Rat) = (sg x y d : Rat) * ((low x y d).2.1 : Rat) := by rw [← Rat.intCast_mul, ← h2]
  have e3 : (d : Rat) = (sg x y d : Rat) * ((low x y d).2.2 : Rat) := by rw [← Rat.intCast_mul, ← h3]
  generalize (sg x y d : Rat) = s at *
  generalize ((low x y d).2.1 : Rat) = a at *
  generalize ((low x y d).2.2 : Rat) = c at *
  grind
theorem div_eq {a b c d : Int} (hb : b ≠ 0) (hd : d ≠ 0) (h : (a : Rat) / (b : Rat) = (c : Rat) / (d : Rat)) : a * d = c * b := by
  have h1 := cast_ne hb
  have h2 := cast_ne hd
  have : (a : Rat) * (d : Rat) = (c : Rat) * (b : Rat) := by grind
  rw [← Rat.intCast_mul, ← Rat.intCast_mul] at this
  exact Rat.intCast_inj.mp this
theorem dvd_of {s t : T3} (hs : Ok s) (ht : Ok t) (h1 : s.1 * t.2.2 = t.1 * s.2.2) (h2 : s.2.1 * t.2.2 = t.2.1 * s.2.2) : s.2.2 ∣ t.2.2 := by
  have a : s.2.2 ∣ s.1 * t.2.2 := ⟨t.1, by rw [h1, Int.mul_comm]⟩
  have b : s.2.2 ∣ s.2.1 * t.2.2 := ⟨t.2.1, by rw [h2, Int.mul_comm]⟩
  have c := Int.dvd_coe_gcd a b
  rw [Int.gcd_mul_right] at c
  have d : s.2.2 ∣ s.2.2 * ((t.2.2.natAbs : Nat) : Int) := ⟨_, rfl⟩
  have c' : s.2.2 ∣ ((Int.gcd s.1 s.2.1 : Nat) : Int) * ((t.2.2.natAbs : Nat) : Int) := by rw [← Int.natCast_mul]; exact c
  have e := Int.dvd_coe_gcd c' d
  rw [Int.gcd_mul_right] at e
  have g := hs.2
  unfold g3 at g
  have g' : Int.gcd ((Int.gcd s.1 s.2.1 : Nat) : Int) s.2.2 = 1 := by omega
  rw [g'] at e
  have ht2 := ht.1
  have e2 : (((1 * ((t.2.2.natAbs : Nat) : Int).natAbs : Nat)) : Int) = t.2.2 := by omega
  rw [e2] at e
  exact e
theorem ext {s t : T3} (hs : Ok s) (ht : Ok t) (h1 : re s = re t) (h2 : im s = im t) : s = t := by
  have ps := hs.1
  have pt := ht.1
  have e1 := div_eq (by omega) (by omega) h1
  have e2 := div_eq (by omega) (by omega) h2
  have d1 := dvd_of hs ht e1 e2
  have d2 := dvd_of ht hs e1.symm e2.symm
  have e3 : s.2.2 = t.2.2 := Int.le_antisymm (Int.le_of_dvd pt d1) (Int.le_of_dvd ps d2)
  obtain ⟨a, b, c⟩ := s
  obtain ⟨u, v, w⟩ := t
  dsimp only at *
  subst e3
  have q1 := Int.eq_of_mul_eq_mul_right (by omega) e1
  have q2 := Int.eq_of_mul_eq_mul_right (by omega) e2
  rw [q1, q2]
/-! ### reckoning -/
def plus (a b : T3) : T3 := low (a.1 * b.2.2 + b.1 * a.2.2) (a.2.1 * b.2.2 + b.2.1 * a.2.2) (a.2.2 * b.2.2)
def times (a b : T3) : T3 := low (a.1 * b.1 - a.2.1 * b.2.1) (a.1 * b.2.1 + a.2.1 * b.1) (a.2.2 * b.2.2)
def over (a : T3) : T3 := (a.1, -a.2.1, a.2.2)
def neg (a : T3) : T3 := (-a.1, -a.2.1, a.2.2)
def inv (a : T3) : T3 := low (a.1 * a.2.2) (-a.2.1 * a.2.2) (a.1 * a.1 + a.2.1 * a.2.1)
def face (a : T3) (m : Bool) : T3 := if m = true then over a else a
def car (t s : T3) (m : Bool) (z : T3) : T3 := plus (times t (face z m)) s
theorem Ok.ne {a : T3} (h : Ok a) : a.2.2 ≠ 0 := by have := h.1; omega
theorem mul_ne {a b : Int} (ha : a ≠ 0) (hb : b ≠ 0) : a * b ≠ 0 := fun h => (Int.mul_eq_zero.mp h).elim ha hb
theorem plus_ok {a b : T3} (ha : Ok a) (hb : Ok b) : Ok (plus a b) := low_ok (mul_ne ha.ne hb.ne)
theorem times_ok {a b : T3} (ha : Ok a) (hb : Ok b) : Ok (times a b) := low_ok (mul_ne ha.ne hb.ne)
theorem over_ok {a : T3} (ha : Ok a) : Ok (over a) := by
  refine ⟨ha.1, ?_⟩
  have h := ha.2
  unfold g3 over at *
  dsimp only at *
  rw [Int.gcd_neg]; exact h
theorem neg_ok {a : T3} (ha : Ok a) : Ok (neg a) := by
  refine ⟨ha.1, ?_⟩
  have h := ha.2
  unfold g3 neg at *
  dsimp only at *
  rw [Int.gcd_neg, Int.neg_gcd]; exact h
theorem face_ok {a : T3} (ha : Ok a) (m : Bool) : Ok (face a m) := by
  unfold face; split
  · exact over_ok ha
  · exact ha
theorem car_ok {t s z : T3} {m : Bool} (ht : Ok t) (hs : Ok s) (hz : Ok z) : Ok (car t s m z) := plus_ok (times_ok ht (face_ok hz m)) hs
def Nz (a : T3) : Prop := a.1 ≠ 0 ∨ a.2.1 ≠ 0
theorem sq_ne {a : T3} (h : Nz a) : a.1 * a.1 + a.2.1 * a.2.1 ≠ 0 := by
  have h1 : 0 ≤ a.1 * a.1 := by rcases Int.le_total 0 a.1 with h | h; exact Int.mul_nonneg h h; exact Int.mul_nonneg_of_nonpos_of_nonpos h h
  have h2 : 0 ≤ a.2.1 * a.2.1 := by rcases Int.le_total 0 a.2.1 with h | h; exact Int.mul_nonneg h h; exact Int.mul_nonneg_of_nonpos_of_nonpos h h
  rcases h with h | h
  · have := mul_ne h h; omega
  · have := mul_ne h h; omega
theorem inv_ok {a : T3} (h : Nz a) : Ok (inv a) := low_ok (sq_ne h)
theorem re_plus {a b : T3} (ha : Ok a) (hb : Ok b) : re (plus a b) = re a + re b := by
  unfold plus
  rw [low_re (mul_ne ha.ne hb.ne)]
  have h1 := cast_ne ha.ne
  have h2 := cast_ne hb.ne
  unfold re
  simp only [Rat.intCast_add, Rat.intCast_mul]
  grind
theorem im_plus {a b : T3} (ha : Ok a) (hb : Ok b) : im (plus a b) = im a + im b := by
  unfold plus
  rw [low_im (mul_ne ha.ne hb.ne)]
  have h1 := cast_ne ha.ne
  have h2 := cast_ne hb.ne
  unfold im
  simp only [Rat.intCast_add, Rat.intCast_mul]
  grind
theorem re_times {a b : T3} (ha : Ok a) (hb : Ok b) : re (times a b) = re a * re b - im a * im b := by
  unfold times
  rw [low_re (mul_ne ha.ne hb.ne)]
  have h1 := cast_ne ha.ne
  have h2 := cast_ne hb.ne
  unfold re im
  simp only [Rat.intCast_sub, Rat.intCast_mul]
  grind
theorem im_times {a b : T3} (ha : Ok a) (hb : Ok b) : im (times a b) = re a * im b + im a * re b := by
  unfold times
  rw [low_im (mul_ne ha.ne hb.ne)]
  have h1 := cast_ne ha.ne
  have h2 := cast_ne hb.ne
  unfold re im
  simp only [Rat.intCast_add, Rat.intCast_mul]
  grind
theorem re_over (a : T3) : re (over a) = re a := rfl
theorem im_over (a : T3) : im (over a) = - im a := by
  unfold im over
  simp only [Rat.intCast_neg]
  grind
theorem re_neg (a : T3) : re (neg a) = - re a := by
  unfold re neg
  simp only [Rat.intCast_neg]
  grind
theorem im_neg (a : T3) : im (neg a) = - im a := by
  unfold im neg
  simp only [Rat.intCast_neg]
  grind
theorem re_face (a : T3) (m : Bool) : re (face a m) = re a := by
  unfold face; split <;> first | exact re_over a | rfl
theorem im_face (a : T3) (m : Bool) : im (face a m) = (if m = true then -1 else 1) * im a := by
  unfold face; split
  · rw [im_over]; grind
  · grind
/-- the square of the size -/
def nn (a : T3) : Rat := re a * re a + im a * im a
theorem nn_eq {a : T3} (ha : Ok a) : nn a * ((a.2.2 : Rat) * (a.2.2 : Rat)) = ((a.1 * a.1 + a.2.1 * a.2.1 : Int) : Rat) := by
  have h1 := cast_ne ha.ne
  unfold nn re im
  simp only [Rat.intCast_add, Rat.intCast_mul]
  grind
theorem nn_ne {a : T3} (ha : Ok a) (h : Nz a) : nn a ≠ 0 := by
  intro e
  have q := nn_eq ha
  rw [e] at q
  have : ((a.1 * a.1 + a.2.1 * a.2.1 : Int) : Rat) = 0 := by rw [← q]; grind
  exact cast_ne (sq_ne h) this
theorem re_inv {a : T3} (ha : Ok a) (h : Nz a) : re (inv a) = re a / nn a := by
  have q := nn_eq ha
  have n := nn_ne ha h
  have h1 := cast_ne ha.ne
  have h2 := cast_ne (sq_ne h)
  unfold inv
  rw [low_re (sq_ne h), ← q]
  unfold re
  simp only [Rat.intCast_mul]
  rw [← q] at h2
  generalize nn a = k at *
  grind
theorem im_inv {a : T3} (ha : Ok a) (h : Nz a) : im (inv a) = - im a / nn a := by
  have q := nn_eq ha
  have n := nn_ne ha h
  have h1 := cast_ne ha.ne
  have h2 := cast_ne (sq_ne h)
  unfold inv
  rw [low_im (sq_ne h), ← q]
  unfold im
  simp only [Rat.intCast_mul, Rat.intCast_neg]
  rw [← q] at h2
  generalize nn a = k at *
  grind
theorem nz_iff {a : T3} (ha : Ok a) : Nz a ↔ nn a ≠ 0 := by
  refine ⟨nn_ne ha, fun h => ?_⟩
  by_cases h1 : a.1 = 0
  · by_cases h2 : a.2.1 = 0
    · exfalso; apply h; unfold nn re im; rw [h1, h2]; grind
    · exact .inr h2
  · exact .inl h1
theorem nn_times {a b : T3} (ha : Ok a) (hb : Ok b) : nn (times a b) = nn a * nn b := by
  unfold nn; rw [re_times ha hb, im_times ha hb]; grind
theorem nn_face (a : T3) (m : Bool) : nn (face a m) = nn a := by
  unfold nn; rw [re_face, im_face]; split <;> grind
theorem nn_inv {a : T3} (ha : Ok a) (h : Nz a) : nn (inv a) = 1 / nn a := by
  have n := nn_ne ha h
  have e : nn (inv a) = (re a / nn a) * (re a / nn a) + (- im a / nn a) * (- im a / nn a) := by
    rw [← re_inv ha h, ← im_inv ha h]; rfl
  rw [e]
  have q : nn a = re a * re a + im a * im a := rfl
  generalize nn a = k at *
  grind
theorem times_nz {a b : T3} (ha : Ok a) (hb : Ok b) (na : Nz a) (nb : Nz b) : Nz (times a b) := (nz_iff (times_ok ha hb)).mpr (by
  rw [nn_times ha hb]
  have := nn_ne ha na
  have := nn_ne hb nb
  grind)
theorem face_nz {a : T3} (ha : Ok a) (na : Nz a) (m : Bool) : Nz (face a m) := (nz_iff (face_ok ha m)).mpr (by rw [nn_face]; exact nn_ne ha na)
theorem inv_nz {a : T3} (ha : Ok a) (na : Nz a) : Nz (inv a) := (nz_iff (inv_ok na)).mpr (by
  rw [nn_inv ha na]
  have := nn_ne ha na
  grind)
/-! ### copies -/
structure Cp where
  t : T3
  s : T3
  m : Bool
  deriving DecidableEq
structure CpOk (c : Cp) : Prop where
  t : Ok c.t
  n : Nz c.t
  s : Ok c.s
def ap (c : Cp) (z : T3) : T3 := car c.t c.s c.m z
def jn (a b : Cp) : Cp := ⟨times b.t (face a.t b.m), car b.t b.s b.m a.s, a.m != b.m⟩
def bk (c : Cp) : Cp := ⟨face (inv c.t) c.m, face (neg (times (inv c.t) c.s)) c.m, c.m⟩
def still : Cp := ⟨(1, 0, 1), (0, 0, 1), false⟩
theorem still_ok : CpOk still := ⟨⟨by decide, by decide⟩, .inl (by decide), ⟨by decide, by decide⟩⟩
theorem jn_ok {a b : Cp} (ha : CpOk a) (hb : CpOk b) : CpOk (jn a b) :=
  ⟨times_ok hb.t (face_ok ha.t _), times_nz hb.t (face_ok ha.t _) hb.n (face_nz ha.t ha.n _), car_ok hb.t hb.s ha.s⟩
theorem bk_ok {c : Cp} (h : CpOk c) : CpOk (bk c) :=
  ⟨face_ok (inv_ok h.n) _, face_nz (inv_ok h.n) (inv_nz h.t h.n) _, face_ok (neg_ok (times_ok (inv_ok h.n) h.s)) _⟩
theorem re_car {t s z : T3} {m : Bool} (ht : Ok t) (hs : Ok s) (hz : Ok z) : re (car t s m z) = re t * re z - im t * ((if m = true then -1 else 1) * im z) + re s := by
  unfold car
  rw [re_plus (times_ok ht (face_ok hz m)) hs, re_times ht (face_ok hz m), re_face, im_face]
theorem im_car {t s z : T3} {m : Bool} (ht : Ok t) (hs : Ok s) (hz : Ok z) : im (car t s m z) = re t * ((if m = true then -1 else 1) * im z) + im t * re z + im s := by
  unfold car
  rw [im_plus (times_ok ht (face_ok hz m)) hs, im_times ht (face_ok hz m), re_face, im_face]
theorem ap_ok {c : Cp} {z : T3} (h : CpOk c) (hz : Ok z) : Ok (ap c z) := car_ok h.t h.s hz
theorem jn_ap {a b : Cp} (ha : CpOk a) (hb : CpOk b) {z : T3} (hz : Ok z) : ap (jn a b) z = ap b (ap a z) := by
  have hj := jn_ok ha hb
  refine ext (ap_ok hj hz) (ap_ok hb (ap_ok ha hz)) ?_ ?_
  · unfold ap
    rw [re_car hj.t hj.s hz, re_car hb.t hb.s (car_ok ha.t ha.s hz), re_car ha.t ha.s hz, im_car ha.t ha.s hz]
    show re (times b.t (face a.t b.m)) * re z - im (times b.t (face a.t b.m)) * ((if (a.m != b.m) = true then -1 else 1) * im z) + re (car b.t b.s b.m a.s) = _
    rw [re_times hb.t (face_ok ha.t _), im_times hb.t (face_ok ha.t _), re_face, im_face, re_car hb.t hb.s ha.s]
    cases a.m <;> cases b.m <;> simp <;> grind
  · unfold ap
    rw [im_car hj.t hj.s hz, im_car hb.t hb.s (car_ok ha.t ha.s hz), re_car ha.t ha.s hz, im_car ha.t ha.s hz]
    show re (times b.t (face a.t b.m)) * ((if (a.m != b.m) = true then -1 else 1) * im z) + im (times b.t (face a.t b.m)) * re z + im (car b.t b.s b.m a.s) = _
    rw [re_times hb.t (face_ok ha.t _), im_times hb.t (face_ok ha.t _), re_face, im_face, im_car hb.t hb.s ha.s]
    cases a.m <;> cases b.m <;> simp <;> grind
theorem cp_ext {a b : Cp} (ha : CpOk a) (hb : CpOk b) (h1 : re a.t = re b.t) (h2 : im a.t = im b.t) (h3 : re a.s = re b.s) (h4 : im a.s = im b.s) (h5 : a.m = b.m) : a = b := by
  have e1 := ext ha.t hb.t h1 h2
  have e2 := ext ha.s hb.s h3 h4
  cases a; cases b
  dsimp only at e1 e2 h5
  rw [e1, e2, h5]
theorem re_jt {a b : Cp} (ha : CpOk a) (hb : CpOk b) : re (jn a b).t = re b.t * re a.t - im b.t * ((if b.m = true then -1 else 1) * im a.t) := by
  show re (times b.t (face a.t b.m)) = _
  rw [re_times hb.t (face_ok ha.t _), re_face, im_face]
theorem im_jt {a b : Cp} (ha : CpOk a) (hb : CpOk b) : im (jn a b).t = re b.t * ((if b.m = true then -1 else 1) * im a.t) + im b.t * re a.t := by
  show im (times b.t (face a.t b.m)) = _
  rw [im_times hb.t (face_ok ha.t _), re_face, im_face]
theorem re_js {a b : Cp} (ha : CpOk a) (hb : CpOk b) : re (jn a b).s = re b.t * re a.s - im b.t * ((if b.m = true then -1 else 1) * im a.s) + re b.s := re_car hb.t hb.s ha.s
theorem im_js {a b : Cp} (ha : CpOk a) (hb : CpOk b) : im (jn a b).s = re b.t * ((if b.m = true then -1 else 1) * im a.s) + im b.t * re a.s + im b.s := im_car hb.t hb.s ha.s
theorem jn_m (a b : Cp) : (jn a b).m = (a.m != b.m) := rfl
theorem jn_assoc {a b c : Cp} (ha : CpOk a) (hb : CpOk b) (hc : CpOk c) : jn (jn a b) c = jn a (jn b c) := by
  have h1 := jn_ok ha hb
  have h2 := jn_ok hb hc
  refine cp_ext (jn_ok h1 hc) (jn_ok ha h2) ?_ ?_ ?_ ?_ ?_
  · rw [re_jt h1 hc, re_jt ha h2, re_jt ha hb, im_jt ha hb, re_jt hb hc, im_jt hb hc, jn_m]
    cases b.m <;> cases c.m <;> simp <;> grind
  · rw [im_jt h1 hc, im_jt ha h2, re_jt ha hb, im_jt ha hb, re_jt hb hc, im_jt hb hc, jn_m]
    cases b.m <;> cases c.m <;> simp <;> grind
  · rw [re_js h1 hc, re_js ha h2, re_js ha hb, im_js ha hb, re_js hb hc, re_jt hb hc, im_jt hb hc, jn_m]
    cases b.m <;> cases c.m <;> simp <;> grind
  · rw [im_js h1 hc, im_js ha h2, re_js ha hb, im_js ha hb, im_js hb hc, re_jt hb hc, im_jt hb hc, jn_m]
    cases b.m <;> cases c.m <;> simp <;> grind
  · show ((a.m != b.m) != c.m) = (a.m != (b.m != c.m))
    cases a.m <;> cases b.m <;> cases c.m <;> rfl
theorem re_1 : re (1, 0, 1) = 1 := by unfold re; decide +kernel
theorem im_1 : im (1, 0, 1) = 0 := by unfold im; decide +kernel
theorem re_0 : re (0, 0, 1) = 0 := by unfold re; decide +kernel
theorem im_0 : im (0, 0, 1) = 0 := by unfold im; decide +kernel
theorem jn_still {a : Cp} (ha : CpOk a) : jn a still = a := by
  refine cp_ext (jn_ok ha still_ok) ha ?_ ?_ ?_ ?_ ?_
  · rw [re_jt ha still_ok]; simp only [still, re_1, im_1]; grind
  · rw [im_jt ha still_ok]; simp only [still, re_1, im_1]; grind
  · rw [re_js ha still_ok]; simp only [still, re_1, im_1, re_0, im_0]; grind
  · rw [im_js ha still_ok]; simp only [still, re_1, im_1, re_0, im_0]; grind
  · rw [jn_m]; simp [still]
theorem still_jn {a : Cp} (ha : CpOk a) : jn still a = a := by
  refine cp_ext (jn_ok still_ok ha) ha ?_ ?_ ?_ ?_ ?_
  · rw [re_jt still_ok ha]; simp only [still, re_1, im_1]; grind
  · rw [im_jt still_ok ha]; simp only [still, re_1, im_1]; grind
  · rw [re_js still_ok ha]; simp only [still, re_1, im_1, re_0, im_0]; grind
  · rw [im_js still_ok ha]; simp only [still, re_1, im_1, re_0, im_0]; grind
  · rw [jn_m]; simp [still]
theorem re_bt {a : Cp} (ha : CpOk a) : re (bk a).t = re a.t / nn a.t := by
  show re (face (inv a.t) a.m) = _
  rw [re_face, re_inv ha.t ha.n]
theorem im_bt {a : Cp} (ha : CpOk a) : im (bk a).t = (if a.m = true then -1 else 1) * (- im a.t / nn a.t) := by
  show im (face (inv a.t) a.m) = _
  rw [im_face, im_inv ha.t ha.n]
theorem re_bs {a : Cp} (ha : CpOk a) : re (bk a).s = -((re a.t / nn a.t) * re a.s - (- im a.t / nn a.t) * im a.s) := by
  show re (face (neg (times (inv a.t) a.s)) a.m) = _
  rw [re_face, re_neg, re_times (inv_ok ha.n) ha.s, re_inv ha.t ha.n, im_inv ha.t ha.n]
theorem im_bs {a : Cp} (ha : CpOk a) : im (bk a).s = (if a.m = true then -1 else 1) * -((re a.t / nn a.t) * im a.s + (- im a.t / nn a.t) * re a.s) := by
  show im (face (neg (times (inv a.t) a.s)) a.m) = _
  rw [im_face, im_neg, im_times (inv_ok ha.n) ha.s, re_inv ha.t ha.n, im_inv ha.t ha.n]
theorem jn_bk {a : Cp} (ha : CpOk a) : jn a (bk a) = still := by
  have hb := bk_ok ha
  have n := nn_ne ha.t ha.n
  have q : nn a.t = re a.t * re a.t + im a.t * im a.t := rfl
  have em : (bk a).m = a.m := rfl
  refine cp_ext (jn_ok ha hb) still_ok ?_ ?_ ?_ ?_ ?_
  · rw [re_jt ha hb, re_bt ha, im_bt ha, em]; simp only [still, re_1, im_1]
    generalize nn a.t = k at *
    cases a.m <;> simp <;> grind
  · rw [im_jt ha hb, re_bt ha, im_bt ha, em]; simp only [still, re_1, im_1]
    generalize nn a.t = k at *
    cases a.m <;> simp <;> grind
  · rw [re_js ha hb, re_bt ha, im_bt ha, re_bs ha, em]; simp only [still, re_0, im_0]
    generalize nn a.t = k at *
    cases a.m <;> simp <;> grind
  · rw [im_js ha hb, re_bt ha, im_bt ha, im_bs ha, em]; simp only [still, re_0, im_0]
    generalize nn a.t = k at *
    cases a.m <;> simp <;> grind
  · show (a.m != a.m) = false
    simp
theorem bk_jn {a : Cp} (ha : CpOk a) : jn (bk a) a = still := by
  have hb := bk_ok ha
  have n := nn_ne ha.t ha.n
  have q : nn a.t = re a.t * re a.t + im a.t * im a.t := rfl
  have em : (bk a).m = a.m := rfl
  refine cp_ext (jn_ok hb ha) still_ok ?_ ?_ ?_ ?_ ?_
  · rw [re_jt hb ha, re_bt ha, im_bt ha]; simp only [still, re_1, im_1]
    generalize nn a.t = k at *
    cases a.m <;> simp <;> grind
  · rw [im_jt hb ha, re_bt ha, im_bt ha]; simp only [still, re_1, im_1]
    generalize nn a.t = k at *
    cases a.m <;> simp <;> grind
  · rw [re_js hb ha, re_bs ha, im_bs ha]; simp only [still, re_0, im_0]
    generalize nn a.t = k at *
    cases a.m <;> simp <;> grind
  · rw [im_js hb ha, re_bs ha, im_bs ha]; simp only [still, re_0, im_0]
    generalize nn a.t = k at *
    cases a.m <;> simp <;> grind
  · show (a.m != a.m) = false
    simp
/-- what brings back is one -/
theorem bk_uniq {a b : Cp} (ha : CpOk a) (hb : CpOk b) (h : jn a b = still) : b = bk a := by
  have e : jn (jn (bk a) a) b = jn (bk a) (jn a b) := jn_assoc (bk_ok ha) ha hb
  rw [bk_jn ha, h, still_jn hb, jn_still (bk_ok ha)] at e
  exact e
theorem bk_bk {a : Cp} (ha : CpOk a) : bk (bk a) = a := (bk_uniq (bk_ok ha) ha (bk_jn ha)).symm
theorem bk_jn_eq {a b : Cp} (ha : CpOk a) (hb : CpOk b) : bk (jn a b) = jn (bk b) (bk a) := by
  refine (bk_uniq (jn_ok ha hb) (jn_ok (bk_ok hb) (bk_ok ha)) ?_).symm
  rw [jn_assoc ha hb (jn_ok (bk_ok hb) (bk_ok ha)), ← jn_assoc hb (bk_ok hb) (bk_ok ha), jn_bk hb, still_jn (bk_ok ha), jn_bk ha]
theorem bk_still : bk still = still := (bk_uniq still_ok still_ok (jn_still still_ok)).symm
theorem ap_still {z : T3} (hz : Ok z) : ap still z = z := by
  refine ext (ap_ok still_ok hz) hz ?_ ?_
  · unfold ap; rw [re_car still_ok.t still_ok.s hz]; simp only [still, re_1, im_1, re_0]; grind
  · unfold ap; rw [im_car still_ok.t still_ok.s hz]; simp only [still, re_1, im_1, im_0]; grind
theorem bk_ap {a : Cp} (ha : CpOk a) {z : T3} (hz : Ok z) : ap (bk a) (ap a z) = z := by
  rw [← jn_ap ha (bk_ok ha) hz, jn_bk ha, ap_still hz]
theorem ap_bk {a : Cp} (ha : CpOk a) {z : T3} (hz : Ok z) : ap a (ap (bk a) z) = z := by
  rw [← jn_ap (bk_ok ha) ha hz, bk_jn ha, ap_still hz]
/-! ### growth: the square of the size, a fraction -/
def fr (p q : Int) : Int × Int := ((low p 0 q).1, (low p 0 q).2.2)
def gr (t : T3) : Int × Int := fr (t.1 * t.1 + t.2.1 * t.2.1) (t.2.2 * t.2.2)
def gr3 (t : T3) : T3 := low (t.1 * t.1 + t.2.1 * t.2.1) 0 (t.2.2 * t.2.2)
theorem low_0 (p q : Int) : (low p 0 q).2.1 = 0 := by
  unfold low; dsimp only; exact Int.zero_fdiv _
theorem low_fr (p q : Int) : low p 0 q = ((fr p q).1, 0, (fr p q).2) := by
  have e := low_0 p q
  unfold fr
  generalize low p 0 q = z at *
  obtain ⟨a, b, c⟩ := z
  dsimp only at *
  rw [e]
theorem gr3_eq (t : T3) : gr3 t = ((gr t).1, 0, (gr t).2) := low_fr _ _
theorem gr3_ok {t : T3} (h : Ok t) : Ok (gr3 t) := low_ok (mul_ne h.ne h.ne)
theorem re_gr3 {t : T3} (h : Ok t) : re (gr3 t) = nn t := by
  have h1 := cast_ne h.ne
  have q := nn_eq h
  unfold gr3
  rw [low_re (mul_ne h.ne h.ne), ← q]
  simp only [Rat.intCast_mul]
  generalize nn t = k at *
  grind
theorem im_gr3 {t : T3} (h : Ok t) : im (gr3 t) = 0 := by
  unfold im gr3; rw [low_0]; grind
theorem gr_jn {a b : Cp} (ha : CpOk a) (hb : CpOk b) : times (gr3 a.t) (gr3 b.t) = gr3 (jn a b).t := by
  refine ext (times_ok (gr3_ok ha.t) (gr3_ok hb.t)) (gr3_ok (jn_ok ha hb).t) ?_ ?_
  · rw [re_times (gr3_ok ha.t) (gr3_ok hb.t), re_gr3 (jn_ok ha hb).t, re_gr3 ha.t, re_gr3 hb.t, im_gr3 ha.t]
    show _ = nn (times b.t (face a.t b.m))
    rw [nn_times hb.t (face_ok ha.t _), nn_face]
    grind
  · rw [im_times (gr3_ok ha.t) (gr3_ok hb.t), im_gr3 (jn_ok ha hb).t, im_gr3 ha.t, im_gr3 hb.t]
    grind
theorem gr_pos {t : T3} (h : Ok t) (n : Nz t) : 0 < (gr t).1 ∧ 0 < (gr t).2 := by
  have k := low_pos (x := t.1 * t.1 + t.2.1 * t.2.1) (y := 0) (d := t.2.2 * t.2.2) (mul_ne h.ne h.ne)
  refine ⟨?_, k⟩
  obtain ⟨h1, h2, h3⟩ := low_mul (t.1 * t.1 + t.2.1 * t.2.1) 0 (t.2.2 * t.2.2)
  have hsq := sq_ne n
  have q1 : 0 ≤ t.1 * t.1 := by rcases Int.le_total 0 t.1 with h | h; exact Int.mul_nonneg h h; exact Int.mul_nonneg_of_nonpos_of_nonpos h h
  have q2 : 0 ≤ t.2.1 * t.2.1 := by rcases Int.le_total 0 t.2.1 with h | h; exact Int.mul_nonneg h h; exact Int.mul_nonneg_of_nonpos_of_nonpos h h
  have q3 : 0 < t.2.2 * t.2.2 := Int.mul_pos h.1 h.1
  show 0 < (low (t.1 * t.1 + t.2.1 * t.2.1) 0 (t.2.2 * t.2.2)).1
  generalize (low (t.1 * t.1 + t.2.1 * t.2.1) 0 (t.2.2 * t.2.2)).1 = a at *
  generalize (low (t.1 * t.1 + t.2.1 * t.2.1) 0 (t.2.2 * t.2.2)).2.2 = c at *
  generalize hS : sg (t.1 * t.1 + t.2.1 * t.2.1) 0 (t.2.2 * t.2.2) = g at *
  have gp : 0 < g := by
    rcases Int.lt_trichotomy g 0 with z | z | z
    · have : g * c < 0 := Int.mul_neg_of_neg_of_pos z k
      omega
    · subst z; simp at h3; omega
    · exact z
  rcases Int.lt_trichotomy a 0 with z | z | z
  · have : g * a < 0 := Int.mul_neg_of_pos_of_neg gp z
    omega
  · subst z; simp at h1; omega
  · exact z
theorem gr_bk {a : Cp} (ha : CpOk a) : gr (bk a).t = ((gr a.t).2, (gr a.t).1) := by
  obtain ⟨p1, p2⟩ := gr_pos ha.t ha.n
  have o := gr3_ok ha.t
  rw [gr3_eq] at o
  have o2 : Ok ((gr a.t).2, 0, (gr a.t).1) := by
    refine ⟨p1, ?_⟩
    have z := o.2
    unfold g3 at z ⊢
    dsimp only at z ⊢
    rw [Int.gcd_zero_right] at z ⊢
    have e1 : (((gr a.t).1.natAbs : Nat) : Int) = (gr a.t).1 := by omega
    have e2 : (((gr a.t).2.natAbs : Nat) : Int) = (gr a.t).2 := by omega
    rw [e1] at z
    rw [e2, Int.gcd_comm]
    exact z
  have e : gr3 (bk a).t = ((gr a.t).2, 0, (gr a.t).1) := by
    have n := nn_ne ha.t ha.n
    refine ext (gr3_ok (bk_ok ha).t) o2 ?_ ?_
    · rw [re_gr3 (bk_ok ha).t]
      show nn (face (inv a.t) a.m) = _
      rw [nn_face, nn_inv ha.t ha.n, ← re_gr3 ha.t, gr3_eq]
      unfold re
      dsimp only
      have c1 := cast_ne (show (gr a.t).1 ≠ 0 by omega)
      have c2 := cast_ne (show (gr a.t).2 ≠ 0 by omega)
      grind
    · rw [im_gr3 (bk_ok ha).t]; unfold im; dsimp only; grind
  rw [gr3_eq] at e
  have x1 := congrArg (fun z : T3 => z.1) e
  have x2 := congrArg (fun z : T3 => z.2.2) e
  dsimp only at x1 x2
  exact Prod.ext x1 x2
/-! ### sizes -/
def B (n : Nat) (s : T3) : Prop := s.1.natAbs < 2 ^ n ∧ s.2.1.natAbs < 2 ^ n ∧ s.2.2.natAbs < 2 ^ n
theorem pw {n m : Nat} (h : n ≤ m) : 2 ^ n ≤ 2 ^ m := Nat.pow_le_pow_right (by decide) h
theorem B.mono {n m : Nat} {s : T3} (b : B n s) (h : n ≤ m) : B m s := ⟨Nat.lt_of_lt_of_le b.1 (pw h), Nat.lt_of_lt_of_le b.2.1 (pw h), Nat.lt_of_lt_of_le b.2.2 (pw h)⟩
theorem abs_le {g a : Int} (h : g ≠ 0) : a.natAbs ≤ (g * a).natAbs := by
  rw [Int.natAbs_mul]
  have : 1 ≤ g.natAbs := by omega
  calc a.natAbs = 1 * a.natAbs := by omega
    _ ≤ g.natAbs * a.natAbs := Nat.mul_le_mul_right _ this
theorem low_B {x y d : Int} {n : Nat} (hd : d ≠ 0) (h1 : x.natAbs < 2 ^ n) (h2 : y.natAbs < 2 ^ n) (h3 : d.natAbs < 2 ^ n) : B n (low x y d) := by
  obtain ⟨e1, e2, e3⟩ := low_mul x y d
  have hs := sg_ne (x := x) (y := y) hd
  refine ⟨?_, ?_, ?_⟩
  · have := abs_le (a := (low x y d).1) hs; rw [← e1] at this; omega
  · have := abs_le (a := (low x y d).2.1) hs; rw [← e2] at this; omega
  · have := abs_le (a := (low x y d).2.2) hs; rw [← e3] at this; omega
theorem mul_lt {a b : Int} {n m : Nat} (ha : a.natAbs < 2 ^ n) (hb : b.natAbs < 2 ^ m) : (a * b).natAbs < 2 ^ (n + m) := by
  rw [Int.natAbs_mul, Nat.pow_add]
  exact Nat.mul_lt_mul'' ha hb
theorem add_lt {a b : Int} {n : Nat} (ha : a.natAbs < 2 ^ n) (hb : b.natAbs < 2 ^ n) : (a + b).natAbs < 2 ^ (n + 1) := by
  rw [Nat.pow_succ]; omega
theorem sub_lt {a b : Int} {n : Nat} (ha : a.natAbs < 2 ^ n) (hb : b.natAbs < 2 ^ n) : (a - b).natAbs < 2 ^ (n + 1) := by
  rw [Nat.pow_succ]; omega
theorem up_lt {a : Int} {n m : Nat} (h : n ≤ m) (ha : a.natAbs < 2 ^ n) : a.natAbs < 2 ^ m := Nat.lt_of_lt_of_le ha (pw h)
theorem plus_B {a b : T3} {n m : Nat} (oa : Ok a) (ob : Ok b) (ha : B n a) (hb : B m b) : B (n + m + 1) (plus a b) := by
  refine low_B (mul_ne oa.ne ob.ne) (add_lt (mul_lt ha.1 hb.2.2) ?_) (add_lt (mul_lt ha.2.1 hb.2.2) ?_) (up_lt (Nat.le_succ _) (mul_lt ha.2.2 hb.2.2))
  · rw [Nat.add_comm]; exact mul_lt hb.1 ha.2.2
  · rw [Nat.add_comm]; exact mul_lt hb.2.1 ha.2.2
theorem times_B {a b : T3} {n m : Nat} (oa : Ok a) (ob : Ok b) (ha : B n a) (hb : B m b) : B (n + m + 1) (times a b) :=
  low_B (mul_ne oa.ne ob.ne) (sub_lt (mul_lt ha.1 hb.1) (mul_lt ha.2.1 hb.2.1)) (add_lt (mul_lt ha.1 hb.2.1) (mul_lt ha.2.1 hb.1)) (up_lt (Nat.le_succ _) (mul_lt ha.2.2 hb.2.2))
theorem over_B {a : T3} {n : Nat} (h : B n a) : B n (over a) := ⟨h.1, by show (-a.2.1).natAbs < _; rw [Int.natAbs_neg]; exact h.2.1, h.2.2⟩
theorem neg_B {a : T3} {n : Nat} (h : B n a) : B n (neg a) := ⟨by show (-a.1).natAbs < _; rw [Int.natAbs_neg]; exact h.1, by show (-a.2.1).natAbs < _; rw [Int.natAbs_neg]; exact h.2.1, h.2.2⟩
theorem face_B {a : T3} {n : Nat} (h : B n a) (m : Bool) : B n (face a m) := by unfold face; split; exact over_B h; exact h
theorem neg_lt {a : Int} {n : Nat} (h : a.natAbs < 2 ^ n) : (-a).natAbs < 2 ^ n := by rw [Int.natAbs_neg]; exact h
theorem inv_B {a : T3} {n : Nat} (z : Nz a) (h : B n a) : B (n + n + 1) (inv a) :=
  low_B (sq_ne z) (up_lt (Nat.le_succ _) (mul_lt h.1 h.2.2)) (up_lt (Nat.le_succ _) (mul_lt (neg_lt h.2.1) h.2.2)) (add_lt (mul_lt h.1 h.1) (mul_lt h.2.1 h.2.1))
theorem car_B {t s z : T3} {m : Bool} {i j k : Nat} (ot : Ok t) (os : Ok s) (oz : Ok z) (ht : B i t) (hs : B j s) (hz : B k z) : B (i + k + 1 + j + 1) (car t s m z) :=
  plus_B (times_ok ot (face_ok oz m)) os (times_B ot (face_ok oz m) ht (face_B hz m)) hs
/-! ### the divisor by remainders -/
theorem gcd_fmod (a b : Int) : Int.gcd b (a.fmod b) = Int.gcd a b := by
  rw [Int.fmod_def, Int.gcd_sub_mul_left_right, Int.gcd_comm]
theorem fmod_small {a b : Int} (h : b ≠ 0) : (a.fmod b).natAbs < b.natAbs := by
  rw [Int.fmod_eq_emod]
  have h1 := Int.emod_nonneg a h
  have h2 : a % b < (b.natAbs : Int) := Int.emod_lt a h
  split
  · omega
  · have h3 : a % b ≠ 0 := fun e => by
      have := Int.dvd_of_emod_eq_zero e
      simp_all
    omega
theorem gcd_0 (a : Int) : ((Int.gcd a 0 : Nat) : Int) = if a < 0 then -a else a := by
  rw [Int.gcd_zero_right]; split <;> omega
end Mth
namespace Mth
/-! ### copies done several times -/
def ag (c : Cp) : Nat → Cp
  | 0 => still
  | n + 1 => jn (ag c n) c
theorem ag_ok {c : Cp} (h : CpOk c) : ∀ n, CpOk (ag c n)
  | 0 => still_ok
  | n + 1 => jn_ok (ag_ok h n) h
theorem ag_add {c : Cp} (h : CpOk c) (n : Nat) : ∀ m, ag c (n + m) = jn (ag c n) (ag c m)
  | 0 => (jn_still (ag_ok h n)).symm
  | m + 1 => by
    show jn (ag c (n + m)) c = jn (ag c n) (jn (ag c m) c)
    rw [ag_add h n m, jn_assoc (ag_ok h n) (ag_ok h m) h]
theorem ag_one {c : Cp} (h : CpOk c) : ag c 1 = c := still_jn h
theorem ag_comm {c : Cp} (h : CpOk c) (n : Nat) : jn c (ag c n) = jn (ag c n) c := by
  have e1 := ag_add h 1 n
  rw [ag_one h, Nat.add_comm] at e1
  exact e1.symm
theorem ag_mul {c : Cp} (h : CpOk c) (n : Nat) : ∀ m, ag c (n * m) = ag (ag c n) m
  | 0 => rfl
  | m + 1 => by
    show ag c (n * m + n) = jn (ag (ag c n) m) (ag c n)
    rw [ag_add h, ag_mul h n m]
theorem bk_ag {c : Cp} (h : CpOk c) : ∀ n, bk (ag c n) = ag (bk c) n
  | 0 => bk_still
  | n + 1 => by
    show bk (jn (ag c n) c) = jn (ag (bk c) n) (bk c)
    rw [bk_jn_eq (ag_ok h n) h, bk_ag h n, ag_comm (bk_ok h)]
theorem jn_l {a b c : Cp} (ha : CpOk a) (hb : CpOk b) (hc : CpOk c) (e : jn a b = jn a c) : b = c := by
  have q := congrArg (jn (bk a)) e
  rw [← jn_assoc (bk_ok ha) ha hb, ← jn_assoc (bk_ok ha) ha hc, bk_jn ha, still_jn hb, still_jn hc] at q
  exact q
theorem bk_still_iff {a : Cp} (ha : CpOk a) : bk a = still ↔ a = still := ⟨fun e => by have q := congrArg bk e; rw [bk_bk ha, bk_still] at q; exact q, fun e => by rw [e, bk_still]⟩
/-- seen from elsewhere -/
def cj (o c : Cp) : Cp := jn (jn (bk o) c) o
theorem cj_ok {o c : Cp} (ho : CpOk o) (hc : CpOk c) : CpOk (cj o c) := jn_ok (jn_ok (bk_ok ho) hc) ho
theorem cj_jn {o a b : Cp} (ho : CpOk o) (ha : CpOk a) (hb : CpOk b) : jn (cj o a) (cj o b) = cj o (jn a b) := by
  have hbo := bk_ok ho
  unfold cj
  rw [jn_assoc (jn_ok hbo ha) ho (jn_ok (jn_ok hbo hb) ho), jn_assoc hbo hb ho, ← jn_assoc ho hbo (jn_ok hb ho), jn_bk ho, still_jn (jn_ok hb ho),
    jn_assoc hbo ha (jn_ok hb ho), ← jn_assoc ha hb ho, jn_assoc hbo (jn_ok ha hb) ho]
theorem cj_still {o : Cp} (ho : CpOk o) : cj o still = still := by
  unfold cj; rw [jn_still (bk_ok ho), bk_jn ho]
theorem cj_ag {o c : Cp} (ho : CpOk o) (hc : CpOk c) : ∀ n, ag (cj o c) n = cj o (ag c n)
  | 0 => (cj_still ho).symm
  | n + 1 => by
    show jn (ag (cj o c) n) (cj o c) = cj o (jn (ag c n) c)
    rw [cj_ag ho hc n, cj_jn ho (ag_ok hc n) hc]
theorem cj_iff {o c : Cp} (ho : CpOk o) (hc : CpOk c) : cj o c = still ↔ c = still := by
  refine ⟨fun e => ?_, fun e => by rw [e, cj_still ho]⟩
  have q := congrArg (fun z => jn (jn o z) (bk o)) e
  unfold cj at q
  have hbo := bk_ok ho
  rw [jn_assoc hbo hc ho, ← jn_assoc ho hbo (jn_ok hc ho), jn_bk ho, still_jn (jn_ok hc ho), jn_assoc hc ho hbo, jn_bk ho, jn_still hc, jn_still ho, jn_bk ho] at q
  exact q
/-- the times as the program has them -/
def stp (c : Cp) (n : Int) : Cp := if 0 ≤ n then c else bk c
def agz (c : Cp) (n : Int) : Cp := ag (stp c n) n.natAbs
theorem stp_ok {c : Cp} (h : CpOk c) (n : Int) : CpOk (stp c n) := by unfold stp; split; exact h; exact bk_ok h
theorem agz_ok {c : Cp} (h : CpOk c) (n : Int) : CpOk (agz c n) := ag_ok (stp_ok h n) _
/-! ### the first time at which all is as it was -/
def At (c : Cp) (n : Nat) : Prop := ag c n = still
/-- the turns alone -/
def tn (t : T3) (m : Bool) : Nat → T3
  | 0 => (1, 0, 1)
  | n + 1 => times t (face (tn t m n) m)
theorem ag_t (c : Cp) : ∀ n, (ag c n).t = tn c.t c.m n
  | 0 => rfl
  | n + 1 => by
    show times c.t (face (ag c n).t c.m) = times c.t (face (tn c.t c.m n) c.m)
    rw [ag_t c n]
theorem ag_m (c : Cp) : ∀ n, (ag c n).m = (c.m && (n % 2 == 1))
  | 0 => by show false = _; simp
  | n + 1 => by
    show ((ag c n).m != c.m) = _
    rw [ag_m c n]
    rcases Nat.mod_two_eq_zero_or_one n with h | h
    · have h' : (n + 1) % 2 = 1 := by omega
      rw [h, h']; cases c.m <;> rfl
    · have h' : (n + 1) % 2 = 0 := by omega
      rw [h, h']; cases c.m <;> rfl
/-- only a shift: k times it is still none but if the shift is none -/
theorem shift_only {c : Cp} (h : CpOk c) (ht : c.t = (1, 0, 1)) (hm : c.m = false) : ∀ n : Nat, re (ag c n).s = (n : Rat) * re c.s ∧ im (ag c n).s = (n : Rat) * im c.s
  | 0 => by
    refine ⟨?_, ?_⟩
    · show re (0, 0, 1) = _; rw [re_0]; simp
    · show im (0, 0, 1) = _; rw [im_0]; simp
  | n + 1 => by
    obtain ⟨h1, h2⟩ := shift_only h ht hm n
    have e1 : re (ag c (n + 1)).s = _ := re_js (ag_ok h n) h
    have e2 : im (ag c (n + 1)).s = _ := im_js (ag_ok h n) h
    rw [ht, hm, re_1, im_1, h1] at e1
    rw [ht, hm, re_1, im_1, h2] at e2
    have ec : ((n + 1 : Nat) : Rat) = (n : Rat) + 1 := by simp
    rw [e1, e2, ec]
    refine ⟨?_, ?_⟩
    · simp; grind
    · simp; grind
theorem shift_still {c : Cp} (h : CpOk c) (ht : c.t = (1, 0, 1)) (hm : c.m = false) {n : Nat} (hn : 0 < n) (e : ag c n = still) : c = still := by
  obtain ⟨h1, h2⟩ := shift_only h ht hm n
  rw [e] at h1 h2
  have n0 : (n : Rat) ≠ 0 := by
    have : ((n : Int) : Rat) ≠ 0 := cast_ne (by omega)
    simpa using this
  have z1 : re c.s = 0 := by
    have : re still.s = 0 := re_0
    rw [this] at h1
    grind
  have z2 : im c.s = 0 := by
    have : im still.s = 0 := im_0
    rw [this] at h2
    grind
  refine cp_ext h still_ok ?_ ?_ ?_ ?_ hm
  · rw [ht]; rfl
  · rw [ht]; rfl
  · rw [z1]; exact re_0.symm
  · rw [z2]; exact im_0.symm
theorem at_half {c : Cp} (h : CpOk c) (ht : c.t = (-1, 0, 1)) (hm : c.m = false) : ag c 2 = still := by
  have e : ag c 2 = jn c c := by
    show jn (jn still c) c = _
    rw [still_jn h]
  have r : re (-1, 0, 1) = -1 := by unfold re; decide +kernel
  have i : im (-1, 0, 1) = 0 := by unfold im; decide +kernel
  rw [e]
  refine cp_ext (jn_ok h h) still_ok ?_ ?_ ?_ ?_ ?_
  · rw [re_jt h h, ht, hm, r, i]; show _ = re (1, 0, 1); rw [re_1]; simp; grind
  · rw [im_jt h h, ht, hm, r, i]; show _ = im (1, 0, 1); rw [im_1]; simp; grind
  · rw [re_js h h, ht, hm, r, i]; show _ = re (0, 0, 1); rw [re_0]; simp; grind
  · rw [im_js h h, ht, hm, r, i]; show _ = im (0, 0, 1); rw [im_0]; simp; grind
  · rw [jn_m, hm]; rfl
def turns13 : List T3 := [(1, 0, 1), (-1, 0, 1), (0, 1, 1), (0, -1, 1), (2, 0, 1), (1, 0, 2), (1, 1, 1), (3, 4, 5), (0, 2, 1), (-1, 0, 3), (1, -1, 2), (2, 1, 1), (-4, 3, 5)]
theorem turns_cases : ∀ t ∈ turns13, ∀ m ∈ [false, true], (t = (1, 0, 1) ∧ m = false) ∨ (t = (-1, 0, 1) ∧ m = false) ∨ (tn t m 2 = (-1, 0, 1) ∧ m = false ∧ ∀ n ∈ [1, 2, 3], tn t m n ≠ (1, 0, 1)) ∨ (tn t m 2 = (1, 0, 1) ∧ m = true) ∨
    (∀ n ∈ [1, 2, 3, 4, 5, 6, 7, 8, 9, 10, 11, 12], tn t m n ≠ (1, 0, 1) ∨ (m = true ∧ n % 2 = 1)) := by decide +kernel
theorem first_of {c : Cp} (h : CpOk c) (ht : c.t ∈ turns13) {n : Nat} (n1 : 1 ≤ n) (n12 : n ≤ 12) (e : ag c n = still) : ag c 1 = still ∨ (2 ≤ n ∧ ag c 2 = still) ∨ (4 ≤ n ∧ ag c 4 = still) := by
  have et : tn c.t c.m n = (1, 0, 1) := by rw [← ag_t, e]; rfl
  have em : (c.m && (n % 2 == 1)) = false := by rw [← ag_m, e]; rfl
  rcases turns_cases c.t ht c.m (by cases c.m <;> simp) with ⟨h1, h2⟩ | ⟨h1, h2⟩ | ⟨h1, h2, h3⟩ | ⟨h1, h2⟩ | h1
  · left
    rw [ag_one h]
    exact shift_still h h1 h2 n1 e
  · right; left
    refine ⟨?_, at_half h h1 h2⟩
    rcases Nat.lt_or_ge n 2 with z | z
    · have : n = 1 := by omega
      subst this
      rw [ag_one h] at e
      rw [e] at h1
      exact absurd h1 (by decide)
    · exact z
  · right; right
    refine ⟨?_, ?_⟩
    · rcases Nat.lt_or_ge n 4 with z | z
      · exact absurd et (h3 n (by simp; omega))
      · exact z
    · show ag c (2 * 2) = still
      rw [ag_mul h]
      exact at_half (ag_ok h 2) (by rw [ag_t]; exact h1) (by rw [ag_m, h2]; rfl)
  · right; left
    rw [h2] at em
    have ev : n % 2 = 0 := by
      rcases Nat.mod_two_eq_zero_or_one n with z | z
      · exact z
      · rw [z] at em; simp at em
    refine ⟨by omega, ?_⟩
    obtain ⟨k, rfl⟩ : ∃ k, n = 2 * k := ⟨n / 2, by omega⟩
    rw [ag_mul h] at e
    refine shift_still (ag_ok h 2) (by rw [ag_t]; exact h1) (by rw [ag_m]; simp) (by omega) e
  · exfalso
    rcases h1 n (by simp; omega) with z | ⟨z1, z2⟩
    · exact z et
    · rw [z1, z2] at em; simp at em
/-! ### the order as the program finds it -/
def ord (c : Cp) : Option Nat := if ag c 1 = still then some 1 else if ag c 2 = still then some 2 else if ag c 4 = still then some 4 else none
theorem ord_congr {a b : Cp} (h : ∀ n, ag a n = still ↔ ag b n = still) : ord a = ord b := by
  unfold ord
  simp only [h]
theorem ord_bk {c : Cp} (h : CpOk c) : ord (bk c) = ord c := ord_congr fun n => by rw [← bk_ag h, bk_still_iff (ag_ok h n)]
theorem ord_cj {o c : Cp} (ho : CpOk o) (h : CpOk c) : ord (cj o c) = ord c := ord_congr fun n => by rw [cj_ag ho h, cj_iff ho (ag_ok h n)]
/-- the first one of 1 .. i -/
def due (c : Cp) : Nat → Option Nat
  | 0 => none
  | n + 1 => if due c n = none ∧ ag c (n + 1) = still then some (n + 1) else due c n
theorem due_eq {c : Cp} (h : CpOk c) (ht : c.t ∈ turns13) : due c 12 = ord c := by
  have P := fun n n1 n12 e => first_of (n := n) h ht n1 n12 e
  have s1 : due c 1 = if ag c 1 = still then some 1 else none := by simp [due]
  by_cases h1 : ag c 1 = still
  · have k : ∀ n, due c (n + 1) = some 1 := fun n => by
      induction n with
      | zero => rw [s1, if_pos h1]
      | succ n ih => simp [due] at ih ⊢; simp [ih]
    rw [k 11]
    unfold ord
    rw [if_pos h1]
  · have d1 : due c 1 = none := by rw [s1, if_neg h1]
    by_cases h2 : ag c 2 = still
    · have k : ∀ n, due c (n + 2) = some 2 := fun n => by
        induction n with
        | zero => show (if due c 1 = none ∧ ag c 2 = still then some 2 else due c 1) = _; rw [if_pos ⟨d1, h2⟩]
        | succ n ih => show (if due c (n + 2) = none ∧ ag c (n + 3) = still then some (n + 3) else due c (n + 2)) = _; rw [ih]; simp
      rw [k 10]
      unfold ord
      rw [if_neg h1, if_pos h2]
    · have d2 : due c 2 = none := by show (if due c 1 = none ∧ ag c 2 = still then some 2 else due c 1) = _; rw [if_neg (fun z => h2 z.2), d1]
      have n3 : ag c 3 ≠ still := fun e => by
        rcases P 3 (by decide) (by decide) e with z | ⟨_, z⟩ | ⟨z, _⟩
        · exact h1 z
        · exact h2 z
        · omega
      have d3 : due c 3 = none := by show (if due c 2 = none ∧ ag c 3 = still then some 3 else due c 2) = _; rw [if_neg (fun z => n3 z.2), d2]
      by_cases h4 : ag c 4 = still
      · have k : ∀ n, due c (n + 4) = some 4 := fun n => by
          induction n with
          | zero => show (if due c 3 = none ∧ ag c 4 = still then some 4 else due c 3) = _; rw [if_pos ⟨d3, h4⟩]
          | succ n ih => show (if due c (n + 4) = none ∧ ag c (n + 5) = still then some (n + 5) else due c (n + 4)) = _; rw [ih]; simp
        rw [k 8]
        unfold ord
        rw [if_neg h1, if_neg h2, if_pos h4]
      · have k : ∀ n, n ≤ 12 → due c n = none := fun n => by
          induction n with
          | zero => intro _; rfl
          | succ n ih =>
            intro hn
            have nn : ag c (n + 1) ≠ still := fun e => by
              rcases P (n + 1) (by omega) hn e with z | ⟨_, z⟩ | ⟨_, z⟩
              · exact h1 z
              · exact h2 z
              · exact h4 z
            show (if due c n = none ∧ ag c (n + 1) = still then some (n + 1) else due c n) = _
            rw [if_neg (fun z => nn z.2)]
            exact ih (by omega)
        rw [k 12 (by decide)]
        unfold ord
        rw [if_neg h1, if_neg h2, if_neg h4]
end Mth
namespace Mth
/-! ### lines a * x + b * y = c, and what satisfies rows of them -/
def sgl (a b c : Int) : Int := if a < 0 ∨ (a = 0 ∧ b < 0) then -(g3 a b c) else g3 a b c
def lf (r : T3) : T3 := (r.1.fdiv (sgl r.1 r.2.1 r.2.2), r.2.1.fdiv (sgl r.1 r.2.1 r.2.2), r.2.2.fdiv (sgl r.1 r.2.1 r.2.2))
def on (l z : T3) : Prop := l.1 * z.1 + l.2.1 * z.2.1 = l.2.2 * z.2.2
instance (l z : T3) : Decidable (on l z) := inferInstanceAs (Decidable (_ = _))
theorem g3_pos' {a b c : Int} (h : a ≠ 0 ∨ b ≠ 0) : 0 < g3 a b c := by
  unfold g3
  have h1 : 0 < Int.gcd a b := by
    rcases h with h | h
    · exact Int.gcd_pos_of_ne_zero_left _ h
    · exact Int.gcd_pos_of_ne_zero_right _ h
  have h2 : 0 < Int.gcd ((Int.gcd a b : Nat) : Int) c := Int.gcd_pos_of_ne_zero_left _ (by omega)
  omega
theorem sgl_of {a b c : Int} : sgl a b c = g3 a b c ∨ sgl a b c = -g3 a b c := by unfold sgl; split <;> simp
theorem sgl_ne {a b c : Int} (h : a ≠ 0 ∨ b ≠ 0) : sgl a b c ≠ 0 := by
  have := g3_pos' (c := c) h
  rcases @sgl_of a b c with e | e <;> omega
theorem sgl_d1 {a b c : Int} : sgl a b c ∣ a := by rcases @sgl_of a b c with h | h <;> rw [h]; exact g3_dx; exact Int.neg_dvd.mpr g3_dx
theorem sgl_d2 {a b c : Int} : sgl a b c ∣ b := by rcases @sgl_of a b c with h | h <;> rw [h]; exact g3_dy; exact Int.neg_dvd.mpr g3_dy
theorem sgl_d3 {a b c : Int} : sgl a b c ∣ c := by rcases @sgl_of a b c with h | h <;> rw [h]; exact g3_dd; exact Int.neg_dvd.mpr g3_dd
theorem lf_mul (r : T3) : r.1 = sgl r.1 r.2.1 r.2.2 * (lf r).1 ∧ r.2.1 = sgl r.1 r.2.1 r.2.2 * (lf r).2.1 ∧ r.2.2 = sgl r.1 r.2.1 r.2.2 * (lf r).2.2 := by
  unfold lf
  refine ⟨?_, ?_, ?_⟩ <;> dsimp only
  · rw [Int.fdiv_eq_ediv_of_dvd sgl_d1]; exact (Int.mul_ediv_cancel' sgl_d1).symm
  · rw [Int.fdiv_eq_ediv_of_dvd sgl_d2]; exact (Int.mul_ediv_cancel' sgl_d2).symm
  · rw [Int.fdiv_eq_ediv_of_dvd sgl_d3]; exact (Int.mul_ediv_cancel' sgl_d3).symm
/-- a line in its only form -/
structure Ln (l : T3) : Prop where
  g : g3 l.1 l.2.1 l.2.2 = 1
  s : 0 < l.1 ∨ (l.1 = 0 ∧ 0 < l.2.1)
theorem lf_ln {r : T3} (h : r.1 ≠ 0 ∨ r.2.1 ≠ 0) : Ln (lf r) := by
  obtain ⟨h1, h2, h3⟩ := lf_mul r
  have hs := sgl_ne (c := r.2.2) h
  have hg := g3_pos' (c := r.2.2) h
  have sdef : sgl r.1 r.2.1 r.2.2 = if r.1 < 0 ∨ (r.1 = 0 ∧ r.2.1 < 0) then -(g3 r.1 r.2.1 r.2.2) else g3 r.1 r.2.1 r.2.2 := rfl
  have so := @sgl_of r.1 r.2.1 r.2.2
  generalize hx : (lf r).1 = x at *
  generalize hy : (lf r).2.1 = y at *
  generalize hz : (lf r).2.2 = z at *
  generalize sgl r.1 r.2.1 r.2.2 = g at *
  generalize hG : g3 r.1 r.2.1 r.2.2 = G at *
  have sgn : ∀ u v : Int, u = g * v → 0 < G → (g = G → (0 < u → 0 < v) ∧ (u = 0 → v = 0)) ∧ (g = -G → (u < 0 → 0 < v) ∧ (u = 0 → v = 0)) := by
    intro u v e hG
    refine ⟨fun eg => ⟨fun hu => ?_, fun hu => ?_⟩, fun eg => ⟨fun hu => ?_, fun hu => ?_⟩⟩
    · rcases Int.lt_trichotomy v 0 with z | z | z
      · have : g * v < 0 := Int.mul_neg_of_pos_of_neg (by omega) z
        omega
      · subst z; simp at e; omega
      · exact z
    · rw [hu] at e; exact (Int.mul_eq_zero.mp e.symm).resolve_left hs
    · rcases Int.lt_trichotomy v 0 with z | z | z
      · have : 0 < g * v := Int.mul_pos_of_neg_of_neg (by omega) z
        omega
      · subst z; simp at e; omega
      · exact z
    · rw [hu] at e; exact (Int.mul_eq_zero.mp e.symm).resolve_left hs
  refine ⟨?_, ?_⟩
  · rw [hx, hy, hz]
    have k1 : g * g3 x y z ∣ r.1 := by
      obtain ⟨u, hu⟩ := @g3_dx x y z
      exact ⟨u, by rw [Int.mul_assoc, ← hu, ← h1]⟩
    have k2 : g * g3 x y z ∣ r.2.1 := by
      obtain ⟨u, hu⟩ := @g3_dy x y z
      exact ⟨u, by rw [Int.mul_assoc, ← hu, ← h2]⟩
    have k3 : g * g3 x y z ∣ r.2.2 := by
      obtain ⟨u, hu⟩ := @g3_dd x y z
      exact ⟨u, by rw [Int.mul_assoc, ← hu, ← h3]⟩
    have k := g3_great k1 k2 k3
    rw [hG] at k
    have k' : g * g3 x y z ∣ g := by
      rcases so with e | e
      · rw [e] at k ⊢; exact k
      · rw [e]; rw [e] at k; exact (Int.dvd_neg).mpr k
    obtain ⟨u, hu⟩ := k'
    have e : g3 x y z * u = 1 := by
      have : g * (g3 x y z * u) = g * 1 := by rw [← Int.mul_assoc, ← hu, Int.mul_one]
      exact Int.eq_of_mul_eq_mul_left hs this
    have nn : 0 ≤ g3 x y z := by unfold g3; omega
    exact Int.eq_one_of_dvd_one nn ⟨u, e.symm⟩
  · rw [hx, hy]
    by_cases c : r.1 < 0 ∨ (r.1 = 0 ∧ r.2.1 < 0)
    · rw [if_pos c] at sdef
      have a1 := (sgn r.1 x h1 hg).2 sdef
      have a2 := (sgn r.2.1 y h2 hg).2 sdef
      rcases c with c | ⟨c1, c2⟩
      · exact .inl (a1.1 c)
      · exact .inr ⟨a1.2 c1, a2.1 c2⟩
    · rw [if_neg c] at sdef
      have a1 := (sgn r.1 x h1 hg).1 sdef
      have a2 := (sgn r.2.1 y h2 hg).1 sdef
      rcases Int.lt_trichotomy r.1 0 with z1 | z1 | z1
      · exact absurd (.inl z1) c
      · rcases Int.lt_trichotomy r.2.1 0 with z2 | z2 | z2
        · exact absurd (.inr ⟨z1, z2⟩) c
        · omega
        · exact .inr ⟨a1.2 z1, a2.1 z2⟩
      · exact .inl (a1.1 z1)
theorem lf_on {r : T3} (h : r.1 ≠ 0 ∨ r.2.1 ≠ 0) (z : T3) : on (lf r) z ↔ on r z := by
  obtain ⟨h1, h2, h3⟩ := lf_mul r
  have hs := sgl_ne (c := r.2.2) h
  unfold on
  generalize sgl r.1 r.2.1 r.2.2 = g at *
  refine ⟨fun e => ?_, fun e => ?_⟩
  · rw [h1, h2, h3]
    have : g * ((lf r).1 * z.1 + (lf r).2.1 * z.2.1) = g * ((lf r).2.2 * z.2.2) := by rw [e]
    grind
  · have : g * ((lf r).1 * z.1 + (lf r).2.1 * z.2.1) = g * ((lf r).2.2 * z.2.2) := by
      rw [h1, h2, h3] at e
      grind
    exact Int.eq_of_mul_eq_mul_left hs this
theorem on_iff {l z : T3} (hz : Ok z) : on l z ↔ (l.1 : Rat) * re z + (l.2.1 : Rat) * im z = (l.2.2 : Rat) := by
  have d := cast_ne hz.ne
  unfold on re im
  rw [← Rat.intCast_inj]
  simp only [Rat.intCast_add, Rat.intCast_mul]
  refine ⟨fun e => ?_, fun e => ?_⟩ <;> grind
theorem dvd3 {k m x y z : Int} (h1 : k ∣ x * m) (h2 : k ∣ y * m) (h3 : k ∣ z * m) (g : g3 x y z = 1) : k ∣ m := by
  have c := Int.dvd_coe_gcd h1 h2
  rw [Int.gcd_mul_right] at c
  have c' : k ∣ ((Int.gcd x y : Nat) : Int) * ((m.natAbs : Nat) : Int) := by rw [← Int.natCast_mul]; exact c
  have d : k ∣ z * ((m.natAbs : Nat) : Int) := by
    rcases Int.natAbs_eq m with e | e
    · rw [← e]; exact h3
    · have : ((m.natAbs : Nat) : Int) = -m := by omega
      rw [this, Int.mul_neg]; exact (Int.dvd_neg).mpr h3
  have e := Int.dvd_coe_gcd c' d
  rw [Int.gcd_mul_right] at e
  unfold g3 at g
  have g' : Int.gcd ((Int.gcd x y : Nat) : Int) z = 1 := by omega
  rw [g', Nat.one_mul, Int.natAbs_natCast] at e
  exact Int.dvd_natAbs.mp e
theorem ln_same {l m z : T3} (hl : Ln l) (hm : Ln m) (hz : Ok z) (p : l.1 * m.2.1 = m.1 * l.2.1) (h1 : on l z) (h2 : on m z) : l = m := by
  have dz := hz.ne
  unfold on at h1 h2
  obtain ⟨a, b, c⟩ := l
  obtain ⟨u, v, w⟩ := m
  obtain ⟨x, y, d⟩ := z
  have sl := hl.s
  have sm := hm.s
  have gl := hl.g
  have gm := hm.g
  dsimp only at *
  have e1 : a * w = u * c := by
    have : d * (a * w) = d * (u * c) := by grind
    exact Int.eq_of_mul_eq_mul_left dz this
  have e2 : b * w = v * c := by
    have : d * (b * w) = d * (v * c) := by grind
    exact Int.eq_of_mul_eq_mul_left dz this
  by_cases a0 : a = 0
  · subst a0
    have b0 : 0 < b := by omega
    have u0 : u = 0 := by
      have : u * b = 0 := by rw [← p]; simp
      exact (Int.mul_eq_zero.mp this).resolve_right (by omega)
    subst u0
    have v0 : 0 < v := by omega
    have d1 : b ∣ v := dvd3 (x := 0) (y := b) (z := c) (by simp) ⟨v, rfl⟩ ⟨w, by grind⟩ gl
    have d2 : v ∣ b := dvd3 (x := 0) (y := v) (z := w) (by simp) ⟨b, rfl⟩ ⟨c, by grind⟩ gm
    have eb : b = v := Int.le_antisymm (Int.le_of_dvd v0 d1) (Int.le_of_dvd b0 d2)
    subst eb
    have : w = c := Int.eq_of_mul_eq_mul_left (by omega) e2
    rw [this]
  · have a1 : 0 < a := by omega
    have u1 : 0 < u := by
      rcases sm with h | ⟨h, _⟩
      · exact h
      · exfalso
        subst h
        have : a * v = 0 := by rw [p]; simp
        have v0 := (Int.mul_eq_zero.mp this).resolve_left a0
        omega
    have d1 : a ∣ u := dvd3 (x := a) (y := b) (z := c) ⟨u, rfl⟩ ⟨v, by grind⟩ ⟨w, by grind⟩ gl
    have d2 : u ∣ a := dvd3 (x := u) (y := v) (z := w) ⟨a, rfl⟩ ⟨b, by grind⟩ ⟨c, by grind⟩ gm
    have ea : a = u := Int.le_antisymm (Int.le_of_dvd u1 d1) (Int.le_of_dvd a1 d2)
    subst ea
    have : v = b := Int.eq_of_mul_eq_mul_left a0 (by grind)
    have : w = c := Int.eq_of_mul_eq_mul_left a0 (by grind)
    simp_all
def cross (l m : T3) : T3 := low (l.2.2 * m.2.1 - m.2.2 * l.2.1) (l.1 * m.2.2 - m.1 * l.2.2) (l.1 * m.2.1 - m.1 * l.2.1)
theorem cross_iff {l m z : T3} (hz : Ok z) (d : l.1 * m.2.1 ≠ m.1 * l.2.1) : (on l z ∧ on m z) ↔ z = cross l m := by
  have dn : l.1 * m.2.1 - m.1 * l.2.1 ≠ 0 := by omega
  have oc : Ok (cross l m) := low_ok dn
  have r : re (cross l m) = ((l.2.2 * m.2.1 - m.2.2 * l.2.1 : Int) : Rat) / ((l.1 * m.2.1 - m.1 * l.2.1 : Int) : Rat) := low_re dn
  have i : im (cross l m) = ((l.1 * m.2.2 - m.1 * l.2.2 : Int) : Rat) / ((l.1 * m.2.1 - m.1 * l.2.1 : Int) : Rat) := low_im dn
  have dq := cast_ne dn
  simp only [Rat.intCast_sub, Rat.intCast_mul] at r i dq
  refine ⟨fun ⟨h1, h2⟩ => ?_, fun e => ?_⟩
  · rw [on_iff hz] at h1 h2
    refine ext hz oc ?_ ?_
    · rw [r]; grind
    · rw [i]; grind
  · rw [e, on_iff oc, on_iff oc, r, i]
    refine ⟨?_, ?_⟩ <;> grind
/-! ### what satisfies all rows -/
inductive KS where
  | all | none | spot (s : T3) | line (l : T3)
def Mem : KS → T3 → Prop
  | .all, _ => True
  | .none, _ => False
  | .spot s, z => z = s
  | .line l, z => on l z
def bad (r : T3) : Bool := decide (r.1 = 0) && (decide (r.2.1 = 0) && !decide (r.2.2 = 0))
def nz2 (r : T3) : Bool := !decide (r.1 = 0) || !decide (r.2.1 = 0)
def solL : List T3 → KS
  | [] => .all
  | f :: ls => match (f :: ls).filter (fun l => !decide (l = f)) with
    | [] => .line f
    | o :: _ => if f.1 * o.2.1 = o.1 * f.2.1 then .none else if (f :: ls).all (fun l => decide (on l (cross f o))) = true then .spot (cross f o) else .none
def sol (rows : List T3) : KS := if rows.any bad = true then .none else solL ((rows.filter nz2).map lf)
theorem sol_mem (rows : List T3) {z : T3} (hz : Ok z) : Mem (sol rows) z ↔ ∀ r ∈ rows, on r z := by
  unfold sol
  by_cases hb : rows.any bad = true
  · rw [if_pos hb]
    refine ⟨fun h => h.elim, fun h => ?_⟩
    obtain ⟨r, hr, b⟩ := List.any_eq_true.mp hb
    have o := h r hr
    unfold bad at b
    simp at b
    unfold on at o
    rw [b.1, b.2.1] at o
    have o' : r.2.2 * z.2.2 = 0 := by rw [← o]; simp
    rcases Int.mul_eq_zero.mp o' with o | o
    · exact absurd o b.2.2
    · exact absurd o hz.ne
  · rw [if_neg hb]
    have key : (∀ r ∈ rows, on r z) ↔ ∀ l ∈ (rows.filter nz2).map lf, on l z := by
      refine ⟨fun h l hl => ?_, fun h r hr => ?_⟩
      · obtain ⟨r, hr, rfl⟩ := List.mem_map.mp hl
        obtain ⟨hr1, hr2⟩ := List.mem_filter.mp hr
        have n : r.1 ≠ 0 ∨ r.2.1 ≠ 0 := by unfold nz2 at hr2; simpa using hr2
        exact (lf_on n z).mpr (h r hr1)
      · by_cases n : nz2 r = true
        · have n' : r.1 ≠ 0 ∨ r.2.1 ≠ 0 := by unfold nz2 at n; simpa using n
          exact (lf_on n' z).mp (h _ (List.mem_map.mpr ⟨r, List.mem_filter.mpr ⟨hr, n⟩, rfl⟩))
        · unfold nz2 at n
          simp at n
          have nb : bad r = false := by
            cases e : bad r with
            | false => rfl
            | true => exact absurd (List.any_eq_true.mpr ⟨r, hr, e⟩) hb
          unfold bad at nb
          simp [n.1, n.2] at nb
          unfold on
          rw [n.1, n.2, nb]
          simp
    have lns : ∀ l ∈ (rows.filter nz2).map lf, Ln l := fun l hl => by
      obtain ⟨r, hr, rfl⟩ := List.mem_map.mp hl
      obtain ⟨hr1, hr2⟩ := List.mem_filter.mp hr
      exact lf_ln (by unfold nz2 at hr2; simpa using hr2)
    rw [key]
    generalize (rows.filter nz2).map lf = ls at *
    cases ls with
    | nil => simp [solL, Mem]
    | cons f ls =>
      unfold solL
      dsimp only
      cases ho : (f :: ls).filter (fun l => !decide (l = f)) with
      | nil =>
        dsimp only
        show on f z ↔ _
        refine ⟨fun h l hl => ?_, fun h => h f (List.mem_cons_self ..)⟩
        have := List.filter_eq_nil_iff.mp ho l hl
        simp at this
        rw [this]; exact h
      | cons o os =>
        dsimp only
        have om : o ∈ (f :: ls).filter (fun l => !decide (l = f)) := by rw [ho]; exact List.mem_cons_self ..
        obtain ⟨om1, om2⟩ := List.mem_filter.mp om
        have one : o ≠ f := by simpa using om2
        have fm : f ∈ f :: ls := List.mem_cons_self ..
        by_cases p : f.1 * o.2.1 = o.1 * f.2.1
        · rw [if_pos p]
          refine ⟨fun h => h.elim, fun h => ?_⟩
          exact one (ln_same (lns f fm) (lns o om1) hz p (h f fm) (h o om1)).symm
        · rw [if_neg p]
          have ci := cross_iff hz p
          by_cases q : (f :: ls).all (fun l => decide (on l (cross f o))) = true
          · rw [if_pos q]
            show z = _ ↔ _
            refine ⟨fun e l hl => ?_, fun h => ci.mp ⟨h f fm, h o om1⟩⟩
            rw [e]
            exact of_decide_eq_true (List.all_eq_true.mp q l hl)
          · rw [if_neg q]
            refine ⟨fun h => h.elim, fun h => ?_⟩
            have e := ci.mp ⟨h f fm, h o om1⟩
            refine q (List.all_eq_true.mpr fun l hl => ?_)
            rw [← e]
            exact decide_eq_true (h l hl)
/-- the form of what is told -/
def KOk : KS → Prop
  | .spot s => Ok s
  | .line l => Ln l
  | _ => True
theorem sol_ok (rows : List T3) : KOk (sol rows) := by
  unfold sol
  split
  · trivial
  · have lns : ∀ l ∈ (rows.filter nz2).map lf, Ln l := fun l hl => by
      obtain ⟨r, hr, rfl⟩ := List.mem_map.mp hl
      obtain ⟨hr1, hr2⟩ := List.mem_filter.mp hr
      exact lf_ln (by unfold nz2 at hr2; simpa using hr2)
    generalize (rows.filter nz2).map lf = ls at *
    cases ls with
    | nil => trivial
    | cons f ls =>
      unfold solL
      dsimp only
      cases (f :: ls).filter (fun l => !decide (l = f)) with
      | nil => exact lns f (List.mem_cons_self ..)
      | cons o os =>
        dsimp only
        split
        · trivial
        · rename_i p
          split
          · exact low_ok (by omega)
          · trivial
/-! ### where two copies meet -/
def minus (a b : T3) : T3 := plus a (neg b)
def gap (a b : Cp) (z : T3) : T3 := minus (ap a z) (ap b z)
def eqs (R U G : T3) : List T3 := [(R.1 * U.2.2 * G.2.2, U.1 * R.2.2 * G.2.2, G.1 * R.2.2 * U.2.2), (R.2.1 * U.2.2 * G.2.2, U.2.1 * R.2.2 * G.2.2, G.2.1 * R.2.2 * U.2.2)]
def meet (a b : Cp) : KS := sol (eqs (minus (gap a b (1, 0, 1)) (gap a b (0, 0, 1))) (minus (gap a b (0, 1, 1)) (gap a b (0, 0, 1))) (neg (gap a b (0, 0, 1))))
theorem minus_ok {a b : T3} (ha : Ok a) (hb : Ok b) : Ok (minus a b) := plus_ok ha (neg_ok hb)
theorem re_minus {a b : T3} (ha : Ok a) (hb : Ok b) : re (minus a b) = re a - re b := by unfold minus; rw [re_plus ha (neg_ok hb), re_neg]; grind
theorem im_minus {a b : T3} (ha : Ok a) (hb : Ok b) : im (minus a b) = im a - im b := by unfold minus; rw [im_plus ha (neg_ok hb), im_neg]; grind
theorem eqs_iff {R U G z : T3} (hR : Ok R) (hU : Ok U) (hG : Ok G) (hz : Ok z) : (∀ r ∈ eqs R U G, on r z) ↔ (re R * re z + re U * im z = re G ∧ im R * re z + im U * im z = im G) := by
  have r0 := cast_ne hR.ne
  have u0 := cast_ne hU.ne
  have g0 := cast_ne hG.ne
  have h : ∀ r1 u1 g1 : Int, on (r1 * U.2.2 * G.2.2, u1 * R.2.2 * G.2.2, g1 * R.2.2 * U.2.2) z ↔ (r1 : Rat) / (R.2.2 : Rat) * re z + (u1 : Rat) / (U.2.2 : Rat) * im z = (g1 : Rat) / (G.2.2 : Rat) := fun r1 u1 g1 => by
    rw [on_iff hz]
    simp only [Rat.intCast_mul]
    refine ⟨fun e => ?_, fun e => ?_⟩ <;> grind
  have e : (∀ r ∈ eqs R U G, on r z) ↔ (on (R.1 * U.2.2 * G.2.2, U.1 * R.2.2 * G.2.2, G.1 * R.2.2 * U.2.2) z ∧ on (R.2.1 * U.2.2 * G.2.2, U.2.1 * R.2.2 * G.2.2, G.2.1 * R.2.2 * U.2.2) z) := by
    unfold eqs; simp
  rw [e, h, h]
  rfl
theorem ok_0 : Ok (0, 0, 1) := ⟨by decide, by decide⟩
theorem ok_1 : Ok (1, 0, 1) := ⟨by decide, by decide⟩
theorem ok_i : Ok (0, 1, 1) := ⟨by decide, by decide⟩
theorem re_i : re (0, 1, 1) = 0 := by unfold re; decide +kernel
theorem im_i : im (0, 1, 1) = 1 := by unfold im; decide +kernel
theorem gap_ok {a b : Cp} {z : T3} (ha : CpOk a) (hb : CpOk b) (hz : Ok z) : Ok (gap a b z) := minus_ok (ap_ok ha hz) (ap_ok hb hz)
theorem re_gap {a b : Cp} {z : T3} (ha : CpOk a) (hb : CpOk b) (hz : Ok z) : re (gap a b z) = re (ap a z) - re (ap b z) := re_minus (ap_ok ha hz) (ap_ok hb hz)
theorem im_gap {a b : Cp} {z : T3} (ha : CpOk a) (hb : CpOk b) (hz : Ok z) : im (gap a b z) = im (ap a z) - im (ap b z) := im_minus (ap_ok ha hz) (ap_ok hb hz)
theorem meet_mem {a b : Cp} {z : T3} (ha : CpOk a) (hb : CpOk b) (hz : Ok z) : Mem (meet a b) z ↔ ap a z = ap b z := by
  unfold meet
  have g0 := gap_ok ha hb ok_0
  have g1 := gap_ok ha hb ok_1
  have gi := gap_ok ha hb ok_i
  rw [sol_mem _ hz, eqs_iff (minus_ok g1 g0) (minus_ok gi g0) (neg_ok g0) hz, re_minus g1 g0, re_minus gi g0, im_minus g1 g0, im_minus gi g0, re_neg, im_neg]
  simp only [re_gap ha hb ok_0, re_gap ha hb ok_1, re_gap ha hb ok_i, im_gap ha hb ok_0, im_gap ha hb ok_1, im_gap ha hb ok_i]
  unfold ap
  simp only [re_car ha.t ha.s ok_0, re_car ha.t ha.s ok_1, re_car ha.t ha.s ok_i, re_car hb.t hb.s ok_0, re_car hb.t hb.s ok_1, re_car hb.t hb.s ok_i, im_car ha.t ha.s ok_0, im_car ha.t ha.s ok_1, im_car ha.t ha.s ok_i, im_car hb.t hb.s ok_0, im_car hb.t hb.s ok_1, im_car hb.t hb.s ok_i, re_0, im_0, re_1, im_1, re_i, im_i]
  have k : car a.t a.s a.m z = car b.t b.s b.m z ↔ (re (car a.t a.s a.m z) = re (car b.t b.s b.m z) ∧ im (car a.t a.s a.m z) = im (car b.t b.s b.m z)) :=
    ⟨fun e => by rw [e]; exact ⟨rfl, rfl⟩, fun ⟨e1, e2⟩ => ext (car_ok ha.t ha.s hz) (car_ok hb.t hb.s hz) e1 e2⟩
  rw [k, re_car ha.t ha.s hz, re_car hb.t hb.s hz, im_car ha.t ha.s hz, im_car hb.t hb.s hz]
  generalize (if a.m = true then (-1 : Rat) else 1) = sa
  generalize (if b.m = true then (-1 : Rat) else 1) = sb
  refine ⟨fun ⟨e1, e2⟩ => ⟨?_, ?_⟩, fun ⟨e1, e2⟩ => ⟨?_, ?_⟩⟩ <;> grind
theorem meet_ok (a b : Cp) : KOk (meet a b) := sol_ok _
theorem all_iff {a b : Cp} (ha : CpOk a) (hb : CpOk b) : meet a b = .all ↔ a = b := by
  refine ⟨fun e => ?_, fun e => ?_⟩
  · have h : ∀ z, Ok z → ap a z = ap b z := fun z hz => (meet_mem ha hb hz).mp (by rw [e]; trivial)
    have e0 := h _ ok_0
    have e1 := h _ ok_1
    have ei := h _ ok_i
    have r0 := congrArg re e0
    have i0 := congrArg im e0
    have r1 := congrArg re e1
    have i1 := congrArg im e1
    have ri := congrArg re ei
    have ii := congrArg im ei
    unfold ap at r0 i0 r1 i1 ri ii
    simp only [re_car ha.t ha.s ok_0, re_car ha.t ha.s ok_1, re_car ha.t ha.s ok_i, re_car hb.t hb.s ok_0, re_car hb.t hb.s ok_1, re_car hb.t hb.s ok_i, im_car ha.t ha.s ok_0, im_car ha.t ha.s ok_1, im_car ha.t ha.s ok_i, im_car hb.t hb.s ok_0, im_car hb.t hb.s ok_1, im_car hb.t hb.s ok_i, re_0, im_0, re_1, im_1, re_i, im_i] at r0 i0 r1 i1 ri ii
    have n := nn_ne ha.t ha.n
    have q : nn a.t = re a.t * re a.t + im a.t * im a.t := rfl
    have tr : re a.t = re b.t := by grind
    have ti : im a.t = im b.t := by grind
    refine cp_ext ha hb tr ti (by grind) (by grind) ?_
    have no : a.m ≠ b.m → False := fun hne => by
      apply n
      rw [q]
      have z : re a.t = 0 ∧ im a.t = 0 := by
        cases hm : a.m <;> cases hm' : b.m
        · exact absurd (hm.trans hm'.symm) hne
        · rw [hm, hm'] at ri ii
          simp at ri ii
          exact ⟨by grind, by grind⟩
        · rw [hm, hm'] at ri ii
          simp at ri ii
          exact ⟨by grind, by grind⟩
        · exact absurd (hm.trans hm'.symm) hne
      rw [z.1, z.2]
      grind
    exact Decidable.byContradiction no
  · have h : ∀ z, Ok z → Mem (meet a b) z := fun z hz => (meet_mem ha hb hz).mpr (by rw [e])
    have ok := meet_ok a b
    generalize meet a b = k at *
    have h0 := h _ ok_0
    have h1 := h _ ok_1
    have hi := h _ ok_i
    cases k with
    | all => rfl
    | none => exact h0.elim
    | spot s =>
      have z0 : ((0, 0, 1) : T3) = s := h0
      have z1 : ((1, 0, 1) : T3) = s := h1
      rw [← z0] at z1
      exact absurd z1 (by decide)
    | line l =>
      exfalso
      have ok : Ln l := ok
      have z0 : on l (0, 0, 1) := h0
      have z1 : on l (1, 0, 1) := h1
      have zi : on l (0, 1, 1) := hi
      unfold on at z0 z1 zi
      simp at z0 z1 zi
      have := ok.s
      omega
/-! ### sizes of what is told -/
def KB (n m : Nat) : KS → Prop
  | .spot s => B n s
  | .line l => B m l
  | _ => True
theorem lf_B {r : T3} {n : Nat} (h : r.1 ≠ 0 ∨ r.2.1 ≠ 0) (b : B n r) : B n (lf r) := by
  obtain ⟨e1, e2, e3⟩ := lf_mul r
  have hs := sgl_ne (c := r.2.2) h
  obtain ⟨b1, b2, b3⟩ := b
  refine ⟨?_, ?_, ?_⟩
  · have := abs_le (a := (lf r).1) hs; rw [← e1] at this; omega
  · have := abs_le (a := (lf r).2.1) hs; rw [← e2] at this; omega
  · have := abs_le (a := (lf r).2.2) hs; rw [← e3] at this; omega
theorem sol_KB {rows : List T3} {n : Nat} (h : ∀ r ∈ rows, B n r) : KB (n + n + 1) n (sol rows) := by
  unfold sol
  split
  · trivial
  · have lns : ∀ l ∈ (rows.filter nz2).map lf, B n l := fun l hl => by
      obtain ⟨r, hr, rfl⟩ := List.mem_map.mp hl
      obtain ⟨hr1, hr2⟩ := List.mem_filter.mp hr
      exact lf_B (by unfold nz2 at hr2; simpa using hr2) (h r hr1)
    generalize (rows.filter nz2).map lf = ls at *
    cases ls with
    | nil => trivial
    | cons f ls =>
      unfold solL
      dsimp only
      have hf := lns f (List.mem_cons_self ..)
      cases ho : (f :: ls).filter (fun l => !decide (l = f)) with
      | nil => exact hf
      | cons o os =>
        dsimp only
        have om : o ∈ (f :: ls).filter (fun l => !decide (l = f)) := by rw [ho]; exact List.mem_cons_self ..
        have hO := lns o (List.mem_filter.mp om).1
        split
        · trivial
        · rename_i p
          split
          · exact low_B (fun z => p (Int.sub_eq_zero.mp z)) (sub_lt (mul_lt hf.2.2 hO.2.1) (mul_lt hO.2.2 hf.2.1)) (sub_lt (mul_lt hf.1 hO.2.2) (mul_lt hO.1 hf.2.2)) (sub_lt (mul_lt hf.1 hO.2.1) (mul_lt hO.1 hf.2.1))
          · trivial
theorem eqs_B {R U G : T3} {n : Nat} (hR : B n R) (hU : B n U) (hG : B n G) : ∀ r ∈ eqs R U G, B (n + n + n) r := by
  intro r hr
  unfold eqs at hr
  simp only [List.mem_cons, List.mem_nil_iff, or_false] at hr
  rcases hr with rfl | rfl
  · exact ⟨mul_lt (mul_lt hR.1 hU.2.2) hG.2.2, mul_lt (mul_lt hU.1 hR.2.2) hG.2.2, mul_lt (mul_lt hG.1 hR.2.2) hU.2.2⟩
  · exact ⟨mul_lt (mul_lt hR.2.1 hU.2.2) hG.2.2, mul_lt (mul_lt hU.2.1 hR.2.2) hG.2.2, mul_lt (mul_lt hG.2.1 hR.2.2) hU.2.2⟩
theorem minus_B {a b : T3} {n m : Nat} (oa : Ok a) (ob : Ok b) (ha : B n a) (hb : B m b) : B (n + m + 1) (minus a b) := plus_B oa (neg_ok ob) ha (neg_B hb)
theorem gap_Bn {a b : Cp} {z : T3} {n m : Nat} (ha : CpOk a) (hb : CpOk b) (hz : Ok z) (ta : B n a.t) (sa : B n a.s) (tb : B m b.t) (sb : B m b.s) (bz : B 1 z) : B (2 * n + 3 + (2 * m + 3) + 1) (gap a b z) :=
  minus_B (ap_ok ha hz) (ap_ok hb hz) ((car_B ha.t ha.s hz ta sa bz).mono (by omega)) ((car_B hb.t hb.s hz tb sb bz).mono (by omega))
instance (n : Nat) (t : T3) : Decidable (B n t) := inferInstanceAs (Decidable (_ ∧ _ ∧ _))
theorem meet_KB {a b : Cp} {n m : Nat} (ha : CpOk a) (hb : CpOk b) (ta : B n a.t) (sa : B n a.s) (tb : B m b.t) (sb : B m b.s) : KB (24 * n + 24 * m + 91) (12 * n + 12 * m + 45) (meet a b) := by
  have z0 : B 1 (0, 0, 1) := by decide
  have z1 : B 1 (1, 0, 1) := by decide
  have zi : B 1 (0, 1, 1) := by decide
  have b0 := gap_Bn ha hb ok_0 ta sa tb sb z0
  have b1 := gap_Bn ha hb ok_1 ta sa tb sb z1
  have bi := gap_Bn ha hb ok_i ta sa tb sb zi
  have g0 := gap_ok ha hb ok_0
  have g1 := gap_ok ha hb ok_1
  have gi := gap_ok ha hb ok_i
  have bR := minus_B g1 g0 b1 b0
  have bU := minus_B gi g0 bi b0
  have bG := (neg_B b0).mono (show 2 * n + 3 + (2 * m + 3) + 1 ≤ 2 * n + 3 + (2 * m + 3) + 1 + (2 * n + 3 + (2 * m + 3) + 1) + 1 by omega)
  have e1 : 24 * n + 24 * m + 91 = (12 * n + 12 * m + 45) + (12 * n + 12 * m + 45) + 1 := by omega
  rw [e1]
  exact sol_KB fun r hr => (eqs_B bR bU bG r hr).mono (by omega)
/-! ### a spot of a line, and others along it -/
def along (l : T3) (k : Int) : T3 := low (l.1 * l.2.2 + k * l.2.1) (l.2.1 * l.2.2 - k * l.1) (l.1 * l.1 + l.2.1 * l.2.1)
theorem ln_sq {l : T3} (h : Ln l) : l.1 * l.1 + l.2.1 * l.2.1 ≠ 0 := sq_ne (a := l) (by have := h.s; unfold Nz; omega)
theorem along_ok {l : T3} (h : Ln l) (k : Int) : Ok (along l k) := low_ok (ln_sq h)
theorem along_on {l : T3} (h : Ln l) (k : Int) : on l (along l k) := by
  rw [on_iff (along_ok h k)]
  have n := cast_ne (ln_sq h)
  unfold along
  rw [low_re (ln_sq h), low_im (ln_sq h)]
  simp only [Rat.intCast_add, Rat.intCast_sub, Rat.intCast_mul] at n ⊢
  grind
theorem along_re {l : T3} (h : Ln l) (k : Int) : re (along l k) = ((l.1 * l.2.2 + k * l.2.1 : Int) : Rat) / ((l.1 * l.1 + l.2.1 * l.2.1 : Int) : Rat) := low_re (ln_sq h)
theorem along_im {l : T3} (h : Ln l) (k : Int) : im (along l k) = ((l.2.1 * l.2.2 - k * l.1 : Int) : Rat) / ((l.1 * l.1 + l.2.1 * l.2.1 : Int) : Rat) := low_im (ln_sq h)
theorem two_on {l m : T3} (hl : Ln l) (hm : Ln m) (h0 : on m (along l 0)) (h1 : on m (along l 1)) : l = m := by
  refine ln_same hl hm (along_ok hl 0) ?_ (along_on hl 0) h0
  rw [on_iff (along_ok hl _), along_re hl, along_im hl] at h0 h1
  have n := cast_ne (ln_sq hl)
  simp only [Rat.intCast_add, Rat.intCast_sub, Rat.intCast_mul] at n h0 h1
  have e : (l.1 : Rat) * (m.2.1 : Rat) = (m.1 : Rat) * (l.2.1 : Rat) := by
    simp at h0 h1
    grind
  rw [← Rat.intCast_mul, ← Rat.intCast_mul] at e
  exact Rat.intCast_inj.mp e
theorem along_ne {l : T3} (h : Ln l) : along l 0 ≠ along l 1 := fun e => by
  have r := congrArg re e
  have i := congrArg im e
  rw [along_re h, along_re h] at r
  rw [along_im h, along_im h] at i
  have n := cast_ne (ln_sq h)
  simp only [Rat.intCast_add, Rat.intCast_sub, Rat.intCast_mul] at n r i
  have e1 : (l.2.1 : Rat) = 0 := by simp at r; grind
  have e2 : (l.1 : Rat) = 0 := by simp at i; grind
  have z1 : l.2.1 = 0 := by
    have : ((l.2.1 : Int) : Rat) = ((0 : Int) : Rat) := by rw [e1]; simp
    exact Rat.intCast_inj.mp this
  have z2 : l.1 = 0 := by
    have : ((l.1 : Int) : Rat) = ((0 : Int) : Rat) := by rw [e2]; simp
    exact Rat.intCast_inj.mp this
  have := h.s
  omega
theorem no_line {l : T3} (h : Ln l) (a : ∀ z, Ok z → on l z) : False := by
  have z0 := a _ ok_0
  have z1 := a _ ok_1
  have zi := a _ ok_i
  unfold on at z0 z1 zi
  simp at z0 z1 zi
  have := h.s
  omega
theorem no_spot {s : T3} (a : ∀ z, Ok z → z = s) : False := by
  have e := (a _ ok_0).trans (a _ ok_1).symm
  exact absurd e (by decide)
theorem ks_ext {k m : KS} (hk : KOk k) (hm : KOk m) (h : ∀ z, Ok z → (Mem k z ↔ Mem m z)) : k = m := by
  cases k with
  | all =>
    cases m with
    | all => rfl
    | none => exact ((h _ ok_0).mp trivial).elim
    | spot s => exact (no_spot fun z hz => (h z hz).mp trivial).elim
    | line l => exact (no_line hm fun z hz => (h z hz).mp trivial).elim
  | none =>
    cases m with
    | all => exact ((h _ ok_0).mpr trivial).elim
    | none => rfl
    | spot s => exact ((h s hm).mpr rfl).elim
    | line l => exact ((h _ (along_ok hm 0)).mpr (along_on hm 0)).elim
  | spot s =>
    cases m with
    | all => exact (no_spot fun z hz => (h z hz).mpr trivial).elim
    | none => exact ((h s hk).mp rfl).elim
    | spot t => exact congrArg KS.spot ((h s hk).mp rfl)
    | line l =>
      have a : along l 0 = s := (h _ (along_ok hm 0)).mpr (along_on hm 0)
      have b : along l 1 = s := (h _ (along_ok hm 1)).mpr (along_on hm 1)
      exact absurd (a.trans b.symm) (along_ne hm)
  | line l =>
    cases m with
    | all => exact (no_line hk fun z hz => (h z hz).mpr trivial).elim
    | none => exact ((h _ (along_ok hk 0)).mp (along_on hk 0)).elim
    | spot s =>
      have a : along l 0 = s := (h _ (along_ok hk 0)).mp (along_on hk 0)
      have b : along l 1 = s := (h _ (along_ok hk 1)).mp (along_on hk 1)
      exact absurd (a.trans b.symm) (along_ne hk)
    | line l' => exact congrArg KS.line (two_on hk hm ((h _ (along_ok hk 0)).mp (along_on hk 0)) ((h _ (along_ok hk 1)).mp (along_on hk 1)))
theorem meet_comm {a b : Cp} (ha : CpOk a) (hb : CpOk b) : meet b a = meet a b := ks_ext (meet_ok b a) (meet_ok a b) fun z hz => by
  rw [meet_mem hb ha hz, meet_mem ha hb hz]; exact ⟨Eq.symm, Eq.symm⟩
end Mth
namespace Mth
/-! ### times of any sign -/
theorem agz_zero (c : Cp) : agz c 0 = still := rfl
theorem agz_one {c : Cp} (h : CpOk c) : agz c 1 = c := ag_one h
theorem agz_neg1 {c : Cp} (h : CpOk c) : agz c (-1) = bk c := ag_one (bk_ok h)
theorem agz_pos (c : Cp) (n : Nat) : agz c (n : Int) = ag c n := by
  unfold agz stp
  rw [if_pos (by omega), Int.natAbs_natCast]
theorem agz_neg (c : Cp) (n : Nat) : agz c (-(n : Int)) = ag (bk c) n := by
  by_cases h0 : n = 0
  · subst h0; rfl
  · unfold agz stp
    rw [if_neg (by omega), Int.natAbs_neg, Int.natAbs_natCast]
theorem agz_succ {c : Cp} (h : CpOk c) (n : Int) : agz c (n + 1) = jn (agz c n) c := by
  by_cases h0 : 0 ≤ n
  · obtain ⟨k, rfl⟩ : ∃ k : Nat, n = (k : Int) := ⟨n.toNat, by omega⟩
    have e : ((k : Int) + 1) = ((k + 1 : Nat) : Int) := by omega
    rw [e, agz_pos, agz_pos]
    rfl
  · obtain ⟨k, rfl⟩ : ∃ k : Nat, n = -((k + 1 : Nat) : Int) := ⟨(-n).toNat - 1, by omega⟩
    have e : (-((k + 1 : Nat) : Int) + 1) = -(k : Int) := by omega
    rw [e, agz_neg, agz_neg]
    show ag (bk c) k = jn (jn (ag (bk c) k) (bk c)) c
    rw [jn_assoc (ag_ok (bk_ok h) k) (bk_ok h) h, bk_jn h, jn_still (ag_ok (bk_ok h) k)]
theorem agz_pred {c : Cp} (h : CpOk c) (n : Int) : agz c (n - 1) = jn (agz c n) (bk c) := by
  have e := agz_succ h (n - 1)
  rw [show n - 1 + 1 = n by omega] at e
  rw [e, jn_assoc (agz_ok h _) h (bk_ok h), jn_bk h, jn_still (agz_ok h _)]
theorem agz_addn {c : Cp} (h : CpOk c) (m : Int) : ∀ k : Nat, agz c (m + (k : Int)) = jn (agz c m) (ag c k)
  | 0 => by
    show agz c (m + 0) = jn (agz c m) still
    rw [Int.add_zero, jn_still (agz_ok h m)]
  | k + 1 => by
    have e : m + ((k + 1 : Nat) : Int) = m + (k : Int) + 1 := by omega
    rw [e, agz_succ h, agz_addn h m k]
    show jn (jn (agz c m) (ag c k)) c = jn (agz c m) (jn (ag c k) c)
    rw [jn_assoc (agz_ok h m) (ag_ok h k) h]
theorem agz_subn {c : Cp} (h : CpOk c) (m : Int) : ∀ k : Nat, agz c (m - (k : Int)) = jn (agz c m) (ag (bk c) k)
  | 0 => by
    show agz c (m - 0) = jn (agz c m) still
    rw [Int.sub_zero, jn_still (agz_ok h m)]
  | k + 1 => by
    have e : m - ((k + 1 : Nat) : Int) = m - (k : Int) - 1 := by omega
    rw [e, agz_pred h, agz_subn h m k]
    show jn (jn (agz c m) (ag (bk c) k)) (bk c) = jn (agz c m) (jn (ag (bk c) k) (bk c))
    rw [jn_assoc (agz_ok h m) (ag_ok (bk_ok h) k) (bk_ok h)]
theorem agz_add {c : Cp} (h : CpOk c) (m n : Int) : agz c (m + n) = jn (agz c m) (agz c n) := by
  by_cases h0 : 0 ≤ n
  · obtain ⟨k, rfl⟩ : ∃ k : Nat, n = (k : Int) := ⟨n.toNat, by omega⟩
    rw [agz_addn h, agz_pos]
  · obtain ⟨k, rfl⟩ : ∃ k : Nat, n = -(k : Int) := ⟨(-n).toNat, by omega⟩
    rw [show m + -(k : Int) = m - (k : Int) by omega, agz_subn h, agz_neg]
theorem agz_two {c : Cp} (h : CpOk c) (n : Int) : agz (agz c n) 2 = agz c (2 * n) := by
  rw [show 2 * n = n + n by omega, agz_add h]
  show jn (jn still (agz c n)) (agz c n) = _
  rw [still_jn (agz_ok h n)]
/-! ### step by step -/
def itn (c : Cp) (z : T3) : Nat → T3
  | 0 => z
  | n + 1 => ap c (itn c z n)
theorem itn_ok {c : Cp} (h : CpOk c) {z : T3} (hz : Ok z) : ∀ n, Ok (itn c z n)
  | 0 => hz
  | n + 1 => ap_ok h (itn_ok h hz n)
theorem ap_ag {c : Cp} (h : CpOk c) {z : T3} (hz : Ok z) : ∀ n, ap (ag c n) z = itn c z n
  | 0 => ap_still hz
  | n + 1 => by
    show ap (jn (ag c n) c) z = ap c (itn c z n)
    rw [jn_ap (ag_ok h n) h hz, ap_ag h hz n]
/-! ### a quarter -/
theorem ag_still : ∀ n, ag still n = still
  | 0 => rfl
  | n + 1 => by
    show jn (ag still n) still = still
    rw [ag_still n, jn_still still_ok]
theorem quarter4 {c : Cp} (h : CpOk c) (ht : c.t = (0, 1, 1)) (hm : c.m = false) : ag c 4 = still := by
  have e : ag c 4 = ag (ag c 2) 2 := ag_mul h 2 2
  rw [e]
  refine at_half (ag_ok h 2) ?_ ?_
  · rw [ag_t, ht, hm]; decide
  · rw [ag_m, hm]; rfl
theorem period4 {c : Cp} (h : CpOk c) (e4 : ag c 4 = still) (k : Nat) : ag c k = ag c (k % 4) := by
  have e : ag c (4 * (k / 4) + k % 4) = jn (ag c (4 * (k / 4))) (ag c (k % 4)) := ag_add h _ _
  rw [Nat.div_add_mod, ag_mul h, e4, ag_still, still_jn (ag_ok h _)] at e
  exact e
theorem quarter100 {c : Cp} (h : CpOk c) (e4 : ag c 4 = still) : agz c 100 = still := by
  show ag c 100 = still
  rw [period4 h e4]
  rfl
theorem quarter99 {c : Cp} (h : CpOk c) (e4 : ag c 4 = still) : agz c (-99) = c := by
  show ag (bk c) 99 = c
  rw [← bk_ag h]
  refine (bk_uniq (ag_ok h 99) h ?_).symm
  show ag c 100 = still
  rw [period4 h e4]
  rfl
theorem back4 {c : Cp} (h : CpOk c) (e4 : ag c 4 = still) : ag (bk c) 4 = still := by
  rw [← bk_ag h, e4, bk_still]
end Mth
namespace Mth
/-! ### arms -/
structure Am where
  pole : T3
  t : T3
  near : Int
  far : Int
  m : Bool
  deriving DecidableEq
structure AmOk (a : Am) : Prop where
  p : Ok a.pole
  t : Ok a.t
  n : Nz a.t
  lo : 0 ≤ a.near
  mi : a.near ≤ a.far
  hi : a.far ≤ 1000
def about (a : Am) : Cp := ⟨a.t, minus a.pole (times a.t (face a.pole a.m)), a.m⟩
theorem about_ok {a : Am} (h : AmOk a) : CpOk (about a) := ⟨h.t, h.n, minus_ok h.p (times_ok h.t (face_ok h.p _))⟩
theorem re_sh {p t : T3} (hp : Ok p) (ht : Ok t) (m : Bool) : re (minus p (times t (face p m))) = re p - (re t * re p - im t * ((if m = true then -1 else 1) * im p)) := by
  rw [re_minus hp (times_ok ht (face_ok hp m)), re_times ht (face_ok hp m), re_face, im_face]
theorem im_sh {p t : T3} (hp : Ok p) (ht : Ok t) (m : Bool) : im (minus p (times t (face p m))) = im p - (re t * ((if m = true then -1 else 1) * im p) + im t * re p) := by
  rw [im_minus hp (times_ok ht (face_ok hp m)), im_times ht (face_ok hp m), re_face, im_face]
theorem about_fix {a : Am} (h : AmOk a) : ap (about a) a.pole = a.pole := by
  have o := minus_ok h.p (times_ok h.t (face_ok h.p a.m))
  refine ext (ap_ok (about_ok h) h.p) h.p ?_ ?_
  · show re (car a.t (minus a.pole (times a.t (face a.pole a.m))) a.m a.pole) = _
    rw [re_car h.t o h.p, re_sh h.p h.t]; grind
  · show im (car a.t (minus a.pole (times a.t (face a.pole a.m))) a.m a.pole) = _
    rw [im_car h.t o h.p, im_sh h.p h.t]; grind
theorem about_of {c : Cp} {z : T3} {n f : Int} (hc : CpOk c) (hz : Ok z) (h : ap c z = z) : about ⟨z, c.t, n, f, c.m⟩ = c := by
  have o := minus_ok hz (times_ok hc.t (face_ok hz c.m))
  have h1 := congrArg re h
  have h2 := congrArg im h
  unfold ap at h1 h2
  rw [re_car hc.t hc.s hz] at h1
  rw [im_car hc.t hc.s hz] at h2
  refine cp_ext (a := about ⟨z, c.t, n, f, c.m⟩) ⟨hc.t, hc.n, o⟩ hc rfl rfl ?_ ?_ rfl
  · show re (minus z (times c.t (face z c.m))) = _
    rw [re_sh hz hc.t]; grind
  · show im (minus z (times c.t (face z c.m))) = _
    rw [im_sh hz hc.t]; grind
/-! ### chains -/
def jall (as : List Am) : Cp := as.foldl (fun c a => jn c (about a)) still
theorem foldl_ok {as : List Am} : ∀ {c : Cp}, CpOk c → (∀ a ∈ as, AmOk a) → CpOk (as.foldl (fun c a => jn c (about a)) c) := by
  induction as with
  | nil => intro c hc _; exact hc
  | cons a as ih => intro c hc h; exact ih (jn_ok hc (about_ok (h a (List.mem_cons_self ..)))) fun b hb => h b (List.mem_cons_of_mem _ hb)
theorem jall_ok {as : List Am} (h : ∀ a ∈ as, AmOk a) : CpOk (jall as) := foldl_ok still_ok h
theorem jall_snoc (as : List Am) (a : Am) : jall (as ++ [a]) = jn (jall as) (about a) := by
  unfold jall; rw [List.foldl_append]; rfl
theorem jall_take {as : List Am} {i : Nat} {a : Am} (h : as[i]? = some a) : jall (as.take (i + 1)) = jn (jall (as.take i)) (about a) := by
  rw [List.take_succ, h]; exact jall_snoc _ _
theorem jall_one {a : Am} (h : AmOk a) : jall [a] = about a := still_jn (about_ok h)
/-! ### the spot nearest to the middle -/
def near0 : KS → Option T3
  | .none => none
  | .all => some (0, 0, 1)
  | .spot s => some s
  | .line l => some (along l 0)
theorem along0 (l : T3) : along l 0 = low (l.1 * l.2.2) (l.2.1 * l.2.2) (l.1 * l.1 + l.2.1 * l.2.1) := by
  unfold along; rw [Int.zero_mul, Int.zero_mul, Int.add_zero, Int.sub_zero]
theorem near0_mem {k : KS} (hk : KOk k) {z : T3} (h : near0 k = some z) : Ok z ∧ Mem k z := by
  cases k with
  | none => cases h
  | all => cases h; exact ⟨ok_0, trivial⟩
  | spot s => cases h; exact ⟨hk, rfl⟩
  | line l => cases h; exact ⟨along_ok hk 0, along_on hk 0⟩
theorem along_perp {l : T3} (h : Ln l) : l.1 * (along l 0).2.1 = l.2.1 * (along l 0).1 := by
  have o := along_ok h 0
  have n := cast_ne (ln_sq h)
  have d := cast_ne o.ne
  have e1 := along_re h 0
  have e2 := along_im h 0
  unfold re at e1
  unfold im at e2
  generalize along l 0 = z at *
  simp only [Rat.intCast_add, Rat.intCast_sub, Rat.intCast_mul] at e1 e2 n
  have : ((l.1 * z.2.1 : Int) : Rat) = ((l.2.1 * z.1 : Int) : Rat) := by
    simp only [Rat.intCast_mul]
    grind
  exact_mod_cast this
def sng (c : Cp) : Option Am := (near0 (meet c still)).map fun z => ⟨z, c.t, 0, 1000, c.m⟩
theorem sng_ok {c : Cp} {a : Am} (hc : CpOk c) (h : sng c = some a) : AmOk a ∧ about a = c ∧ near0 (meet c still) = some a.pole ∧ a.near = 0 ∧ a.far = 1000 ∧ a.t = c.t ∧ a.m = c.m := by
  unfold sng at h
  cases e : near0 (meet c still) with
  | none => rw [e] at h; cases h
  | some z =>
    rw [e] at h
    cases h
    obtain ⟨oz, mz⟩ := near0_mem (meet_ok c still) e
    have fz : ap c z = z := by rw [(meet_mem hc still_ok oz).mp mz, ap_still oz]
    exact ⟨⟨oz, hc.t, hc.n, by show (0 : Int) ≤ 0; decide, by show (0 : Int) ≤ 1000; decide, by show (1000 : Int) ≤ 1000; decide⟩, about_of hc oz fz, rfl, rfl, rfl, rfl, rfl⟩
theorem sng_none {c : Cp} : sng c = none ↔ meet c still = .none := by
  unfold sng
  cases e : meet c still with
  | none => exact ⟨fun _ => rfl, fun _ => rfl⟩
  | all => exact ⟨(fun h => by cases h), (fun h => by cases h)⟩
  | spot s => exact ⟨(fun h => by cases h), (fun h => by cases h)⟩
  | line l => exact ⟨(fun h => by cases h), (fun h => by cases h)⟩
theorem near0_B {k : KS} {n m : Nat} (hk : KOk k) (kb : KB n m k) (hn : n ≤ 2600) (hm : m + m + 1 ≤ 2600) {z : T3} (e : near0 k = some z) : B 2600 z := by
  cases k with
  | none => cases e
  | all => cases e; exact B.mono (n := 3) (by decide) (by decide)
  | spot s => cases e; exact B.mono kb hn
  | line l =>
    cases e
    have kb : B m l := kb
    rw [along0]
    exact (low_B (ln_sq hk) (up_lt (by omega) (mul_lt kb.1 kb.2.2)) (up_lt (by omega) (mul_lt kb.2.1 kb.2.2)) (add_lt (mul_lt kb.1 kb.1) (mul_lt kb.2.1 kb.2.1))).mono hm
/-- a single arm is its own -/
theorem sng_single {c : Cp} {a : Am} (hc : CpOk c) (h : sng c = some a) : sng (jall [a]) = some a := by
  obtain ⟨o, e, _⟩ := sng_ok hc h
  rw [jall_one o, e]; exact h
/-- the level line of a spot -/
def lev (s : T3) : Am := ⟨s, (1, 0, 1), 0, 9, true⟩
theorem lev_ok {s : T3} (h : Ok s) : AmOk (lev s) := ⟨h, ok_1, .inl (show (1 : Int) ≠ 0 by decide), (by show (0 : Int) ≤ 0; decide), (by show (0 : Int) ≤ 9; decide), (by show (9 : Int) ≤ 1000; decide)⟩
theorem lev_meet {s : T3} (h : Ok s) : meet (jall [lev s]) still = .line (lf (0, s.2.2, s.2.1)) := by
  have oa := lev_ok h
  have oc := about_ok oa
  have hn : (0, s.2.2, s.2.1).1 ≠ (0 : Int) ∨ (0, s.2.2, s.2.1).2.1 ≠ (0 : Int) := .inr h.ne
  rw [jall_one oa]
  refine ks_ext (meet_ok _ _) (lf_ln hn) fun z hz => ?_
  rw [meet_mem oc still_ok hz, ap_still hz]
  show _ ↔ on (lf (0, s.2.2, s.2.1)) z
  rw [lf_on hn z, on_iff hz]
  have n := cast_ne h.ne
  have ei : im s = (s.2.1 : Rat) / (s.2.2 : Rat) := rfl
  have e1 : re (ap (about (lev s)) z) = re z := by
    unfold ap; rw [re_car oc.t oc.s hz]; unfold about lev; dsimp only; rw [re_sh h ok_1, re_1, im_1]; grind
  have e2 : im (ap (about (lev s)) z) = 2 * im s - im z := by
    unfold ap; rw [im_car oc.t oc.s hz]; unfold about lev; dsimp only; rw [im_sh h ok_1, re_1, im_1]; grind
  have z0 : (((0 : Int)) : Rat) = 0 := rfl
  dsimp only
  rw [z0]
  constructor
  · intro e
    have := congrArg im e
    rw [e2] at this
    grind
  · intro e
    refine ext (ap_ok oc hz) hz e1 ?_
    rw [e2]
    grind
theorem lev_pole {s : T3} (h : Ok s) {a : Am} (e : sng (jall [lev s]) = some a) : a.pole = low 0 s.2.1 s.2.2 := by
  obtain ⟨_, _, h3, _⟩ := sng_ok (jall_ok fun b hb => by rw [List.mem_singleton.mp hb]; exact lev_ok h) e
  rw [lev_meet h] at h3
  have h3 := Option.some.inj h3
  rw [← h3]
  have hn : (0, s.2.2, s.2.1).1 ≠ (0 : Int) ∨ (0, s.2.2, s.2.1).2.1 ≠ (0 : Int) := .inr h.ne
  have hl := lf_ln hn
  have hm := lf_mul (0, s.2.2, s.2.1)
  have sn := sgl_ne (c := s.2.1) hn
  dsimp only at hm sn
  have l1 : (lf (0, s.2.2, s.2.1)).1 = 0 := by
    rcases Int.mul_eq_zero.mp hm.1.symm with z | z
    · exact absurd z sn
    · exact z
  have on1 := along_on hl 0
  rw [lf_on hn, on_iff (along_ok hl 0)] at on1
  have n := cast_ne h.ne
  refine ext (along_ok hl 0) (low_ok h.ne) ?_ ?_
  · rw [along_re hl, low_re h.ne, l1]
    simp only [Int.zero_mul, Int.add_zero, Rat.intCast_zero, Rat.div_def, Rat.zero_mul]
  · rw [low_im h.ne]
    have z0 : (((0 : Int)) : Rat) = 0 := rfl
    dsimp only at on1
    rw [z0] at on1
    grind
theorem lev_some {s : T3} (h : Ok s) : ∃ a, sng (jall [lev s]) = some a := by
  unfold sng
  rw [lev_meet h]
  exact ⟨_, rfl⟩
end Mth
namespace Mth
/-! ### fractions -/
def val (a : Int × Int) : Rat := (a.1 : Rat) / (a.2 : Rat)
def lessF (a b : Int × Int) : Bool := decide (a.1 * b.2 < b.1 * a.2)
theorem div_lt {a b c d : Rat} (hb : 0 < b) (hd : 0 < d) : a / b < c / d ↔ a * d < c * b := by
  have e1 : a / b * (b * d) = a * d := by grind
  have e2 : c / d * (b * d) = c * b := by grind
  have p : 0 < b * d := Rat.mul_pos hb hd
  rw [← e1, ← e2]
  exact (Rat.mul_lt_mul_right p).symm
theorem cast_pos {a : Int} (h : 0 < a) : (0 : Rat) < (a : Rat) := by exact_mod_cast h
theorem lessF_iff {a b : Int × Int} (ha : 0 < a.2) (hb : 0 < b.2) : lessF a b = decide (val a < val b) := by
  unfold lessF val
  have h := div_lt (a := (a.1 : Rat)) (c := (b.1 : Rat)) (cast_pos ha) (cast_pos hb)
  have e : (a.1 : Rat) * (b.2 : Rat) < (b.1 : Rat) * (a.2 : Rat) ↔ a.1 * b.2 < b.1 * a.2 := by
    rw [← Rat.intCast_mul, ← Rat.intCast_mul]
    exact Rat.intCast_lt_intCast
  rw [decide_eq_decide]
  exact (h.trans e).symm
theorem fr_pos {p q : Int} (hq : q ≠ 0) : 0 < (fr p q).2 := low_pos hq
theorem fr_val {p q : Int} (hq : q ≠ 0) : val (fr p q) = (p : Rat) / (q : Rat) := low_re (y := 0) hq
theorem gr_val {t : T3} (h : Ok t) : val (gr t) = nn t := by
  have := re_gr3 h
  rw [gr3_eq] at this
  exact this
theorem gr_p2 {t : T3} (h : Ok t) : 0 < (gr t).2 := low_pos (mul_ne h.ne h.ne)
theorem gr_congr {s t : T3} (hs : Ok s) (ht : Ok t) (h : nn s = nn t) : gr s = gr t := by
  have e : gr3 s = gr3 t := ext (gr3_ok hs) (gr3_ok ht) (by rw [re_gr3 hs, re_gr3 ht, h]) (by rw [im_gr3 hs, im_gr3 ht])
  rw [gr3_eq, gr3_eq] at e
  have x1 := congrArg (fun z : T3 => z.1) e
  have x2 := congrArg (fun z : T3 => z.2.2) e
  dsimp only at x1 x2
  exact Prod.ext x1 x2
/-! ### zones -/
theorem nn_ap {c : Cp} {z u : T3} (hc : CpOk c) (hz : Ok z) (hu : Ok u) : nn (minus (ap c z) (ap c u)) = nn c.t * nn (minus z u) := by
  unfold nn
  rw [re_minus (ap_ok hc hz) (ap_ok hc hu), im_minus (ap_ok hc hz) (ap_ok hc hu), re_minus hz hu, im_minus hz hu]
  unfold ap
  rw [re_car hc.t hc.s hz, re_car hc.t hc.s hu, im_car hc.t hc.s hz, im_car hc.t hc.s hu]
  cases c.m <;> simp only [if_true, if_false, Bool.false_eq_true] <;> grind
def zfr (c : Cp) (n : Int) : Int × Int := fr (n * n * (gr c.t).2) (gr c.t).1
theorem nn_pos {t : T3} (h : Ok t) (n : Nz t) : 0 < nn t := by
  rw [← gr_val h]
  obtain ⟨p1, p2⟩ := gr_pos h n
  unfold val
  have h := (div_lt (a := 0) (b := 1) (c := ((gr t).1 : Rat)) (by decide) (cast_pos p2)).mpr (by rw [Rat.zero_mul, Rat.mul_one]; exact cast_pos p1)
  have e : (0 : Rat) / 1 = 0 := by grind
  rw [e] at h
  exact h
theorem zfr_p2 {c : Cp} (hc : CpOk c) (n : Int) : 0 < (zfr c n).2 := fr_pos (by have := (gr_pos hc.t hc.n).1; omega)
theorem zfr_val {c : Cp} (hc : CpOk c) (n : Int) : val (zfr c n) * nn c.t = (n : Rat) * (n : Rat) := by
  obtain ⟨p1, p2⟩ := gr_pos hc.t hc.n
  unfold zfr
  rw [fr_val (by omega), ← gr_val hc.t]
  unfold val
  have c1 := cast_ne (show (gr c.t).1 ≠ 0 by omega)
  have c2 := cast_ne (show (gr c.t).2 ≠ 0 by omega)
  simp only [Rat.intCast_mul]
  grind
theorem val1 (n : Int) : val (n, 1) = (n : Rat) := by unfold val; dsimp only; simp only [Rat.intCast_one]; grind
theorem lt_mul {x y g : Rat} (hg : 0 < g) : x < y ↔ g * x < y * g := by
  rw [Rat.mul_comm g x]; exact (Rat.mul_lt_mul_right hg).symm
theorem lt_mul' {x y g : Rat} (hg : 0 < g) : x < y ↔ x * g < g * y := by
  rw [Rat.mul_comm g y]; exact (Rat.mul_lt_mul_right hg).symm
theorem zone1 {c : Cp} {z p : T3} (hc : CpOk c) (hz : Ok z) (hp : Ok p) (n : Int) : lessF (gr (minus z (ap (bk c) p))) (zfr c n) = lessF (gr (minus (ap c z) p)) (n * n, 1) := by
  have hu := ap_ok (bk_ok hc) hp
  have e := nn_ap hc hz hu
  rw [ap_bk hc hp] at e
  have o1 := minus_ok hz hu
  have o2 := minus_ok (ap_ok hc hz) hp
  rw [lessF_iff (gr_p2 o1) (zfr_p2 hc n), lessF_iff (gr_p2 o2) (show (0 : Int) < 1 by decide), gr_val o1, gr_val o2, val1, e]
  rw [decide_eq_decide, lt_mul (nn_pos hc.t hc.n), zfr_val hc, ← Rat.intCast_mul]
theorem zone2 {c : Cp} {z p : T3} (hc : CpOk c) (hz : Ok z) (hp : Ok p) (n : Int) : lessF (zfr c n) (gr (minus z (ap (bk c) p))) = lessF (n * n, 1) (gr (minus (ap c z) p)) := by
  have hu := ap_ok (bk_ok hc) hp
  have e := nn_ap hc hz hu
  rw [ap_bk hc hp] at e
  have o1 := minus_ok hz hu
  have o2 := minus_ok (ap_ok hc hz) hp
  rw [lessF_iff (zfr_p2 hc n) (gr_p2 o1), lessF_iff (show (0 : Int) < 1 by decide) (gr_p2 o2), gr_val o1, gr_val o2, val1, e]
  rw [decide_eq_decide, lt_mul' (nn_pos hc.t hc.n), zfr_val hc, ← Rat.intCast_mul]
def inF (d lo hi : Int × Int) : Bool := !lessF d lo && !lessF hi d
def rch (a : Am) (z : T3) : Bool := inF (gr (minus z a.pole)) (a.near * a.near, 1) (a.far * a.far, 1)
/-- the zone of an arm behind a copy -/
def zctr (c : Cp) (a : Am) : T3 := ap (bk c) a.pole
theorem zone_in {c : Cp} {a : Am} {z : T3} (hc : CpOk c) (ha : AmOk a) (hz : Ok z) : inF (gr (minus z (zctr c a))) (zfr c a.near) (zfr c a.far) = rch a (ap c z) := by
  unfold inF rch zctr inF
  rw [zone1 hc hz ha.p, zone2 hc hz ha.p]
structure Zn where
  ctr : T3
  lo : Int × Int
  hi : Int × Int
def zn (c : Cp) (a : Am) : Zn := ⟨zctr c a, zfr c a.near, zfr c a.far⟩
def zl : Cp → List Am → List Zn
  | _, [] => []
  | c, a :: as => zn c a :: zl (jn c (about a)) as
theorem zl_len : ∀ (c : Cp) (as : List Am), (zl c as).length = as.length
  | _, [] => rfl
  | c, a :: as => by unfold zl; rw [List.length_cons, List.length_cons, zl_len]
theorem zl_at : ∀ {as : List Am} {c : Cp} {i : Nat} {a : Am}, as[i]? = some a → (zl c as)[i]? = some (zn ((as.take i).foldl (fun c a => jn c (about a)) c) a)
  | [], c, i, a, h => by simp at h
  | b :: as, c, 0, a, h => by simp at h; subst h; rfl
  | b :: as, c, i + 1, a, h => by
    have h' : as[i]? = some a := by simpa using h
    have z := zl_at (c := jn c (about b)) h'
    unfold zl
    simpa using z
def zns (as : List Am) : List Zn := zl still as
theorem zns_at {as : List Am} {i : Nat} {a : Am} (h : as[i]? = some a) : (zns as)[i]? = some (zn (jall (as.take i)) a) := zl_at h
theorem zns_len (as : List Am) : (zns as).length = as.length := zl_len _ _
def FB (n : Nat) (f : Int × Int) : Prop := f.1.natAbs < 2 ^ n ∧ f.2.natAbs < 2 ^ n
theorem FB.mono {n m : Nat} {f : Int × Int} (h : FB n f) (e : n ≤ m) : FB m f := ⟨up_lt e h.1, up_lt e h.2⟩
theorem fr_FB {p q : Int} {n : Nat} (hq : q ≠ 0) (h1 : p.natAbs < 2 ^ n) (h2 : q.natAbs < 2 ^ n) : FB n (fr p q) := by
  have b := low_B (y := 0) hq h1 (by show 0 < 2 ^ n; exact Nat.pos_of_ne_zero (by simp)) h2
  exact ⟨b.1, b.2.2⟩
theorem gr_FB {t : T3} {n : Nat} (h : Ok t) (b : B n t) : FB (n + n + 1) (gr t) := fr_FB (mul_ne h.ne h.ne) (add_lt (mul_lt b.1 b.1) (mul_lt b.2.1 b.2.1)) (up_lt (by omega) (mul_lt b.2.2 b.2.2))
theorem nn_jt {c : Cp} {a : Am} (hc : CpOk c) (ha : AmOk a) : nn (jn c (about a)).t = nn c.t * nn a.t := by
  show nn (times a.t (face c.t a.m)) = _
  rw [nn_times ha.t (face_ok hc.t _), nn_face]; grind
end Mth
namespace Mth
/-! ### copies that carry pairs of spots -/
abbrev Pr := T3 × T3
def crC (s g : T3) (o : Pr) (m : Bool) : Cp := ⟨times (minus o.2 g) (inv (face (minus o.1 s) m)), minus g (times (times (minus o.2 g) (inv (face (minus o.1 s) m))) (face s m)), m⟩
def crb (prs : List Pr) (h o : Pr) (m : Bool) : List Cp := if (crC h.1 h.2 o m).t = (0, 0, 1) then [] else if prs.any (fun p => !decide (ap (crC h.1 h.2 o m) p.1 = p.2)) = true then [] else [crC h.1 h.2 o m]
def oth (prs : List Pr) (h : Pr) : List Pr := prs.filter fun p => !decide (p.1 = h.1)
def crs (prs : List Pr) (h o : Pr) : List Cp := crb prs h o false ++ crb prs h o true
structure PrOk (p : Pr) : Prop where
  a : Ok p.1
  b : Ok p.2
theorem sq_nonneg (x : Rat) : 0 ≤ x * x := by
  rcases Rat.le_total (a := 0) (b := x) with c | c
  · exact Rat.mul_nonneg c c
  · have d : 0 ≤ -x := by grind
    have := Rat.mul_nonneg d d
    grind
theorem sq_zero {x y : Rat} (e : x * x + y * y = 0) : x = 0 ∧ y = 0 := by
  have p := sq_nonneg x
  have q := sq_nonneg y
  have ex : x * x = 0 := by grind
  have ey : y * y = 0 := by grind
  constructor
  · rcases Rat.mul_eq_zero.mp ex with c | c <;> exact c
  · rcases Rat.mul_eq_zero.mp ey with c | c <;> exact c
/-- two ways to carry -/
theorem two_ways {a b a' b' u v x y : Rat} (e1 : a * u - b * v = a' * u + b' * v) (e2 : a * v + b * u = b' * u - a' * v) (e3 : a * x - b * y = a' * x + b' * y) (e4 : a * y + b * x = b' * x - a' * y) (k : a * a + b * b ≠ 0) (w : u * u + v * v ≠ 0) : x * v = y * u := by
  have f1 : a' * (u * u + v * v) = (a * u - b * v) * u - (a * v + b * u) * v := by rw [e1, e2]; grind
  have f2 : b' * (u * u + v * v) = (a * u - b * v) * v + (a * v + b * u) * u := by rw [e1, e2]; grind
  have g1 : (a * x - b * y) * (u * u + v * v) = a' * (u * u + v * v) * x + b' * (u * u + v * v) * y := by rw [e3]; grind
  have g2 : (a * y + b * x) * (u * u + v * v) = b' * (u * u + v * v) * x - a' * (u * u + v * v) * y := by rw [e4]; grind
  rw [f1, f2] at g1 g2
  have h1 : (a * v + b * u) * (x * v - y * u) = 0 := by grind
  have h2 : (b * v - a * u) * (x * v - y * u) = 0 := by grind
  have h3 : ((a * a + b * b) * (u * u + v * v)) * (x * v - y * u) = 0 := by
    have : ((a * a + b * b) * (u * u + v * v)) * (x * v - y * u) = (a * v + b * u) * ((a * v + b * u) * (x * v - y * u)) + (b * v - a * u) * ((b * v - a * u) * (x * v - y * u)) := by grind
    rw [this, h1, h2]; grind
  rcases Rat.mul_eq_zero.mp h3 with c | c
  · rcases Rat.mul_eq_zero.mp c with c | c
    · exact absurd c k
    · exact absurd c w
  · grind
theorem minus_ne {a b : T3} (ha : Ok a) (hb : Ok b) (h : a ≠ b) : Nz (minus a b) := (nz_iff (minus_ok ha hb)).mpr fun e => by
  unfold nn at e
  rw [re_minus ha hb, im_minus ha hb] at e
  obtain ⟨h1, h2⟩ := sq_zero e
  exact h (ext ha hb (by grind) (by grind))
theorem zero_of {t : T3} (h : Ok t) (z : ¬ Nz t) : t = (0, 0, 1) := by
  unfold Nz at z
  refine ext h ok_0 ?_ ?_
  · rw [re_0]; unfold re; rw [show t.1 = 0 by omega]; simp only [Rat.intCast_zero, Rat.div_def, Rat.zero_mul]
  · rw [im_0]; unfold im; rw [show t.2.1 = 0 by omega]; simp only [Rat.intCast_zero, Rat.div_def, Rat.zero_mul]
section
variable {h o : Pr} {m : Bool} (ph : PrOk h) (po : PrOk o) (hn : o.1 ≠ h.1)
include ph po hn
theorem st_nz : Nz (face (minus o.1 h.1) m) := face_nz (minus_ok po.a ph.a) (minus_ne po.a ph.a hn) m
theorem crC_t : Ok (crC h.1 h.2 o m).t := times_ok (minus_ok po.b ph.b) (inv_ok (st_nz ph po hn))
theorem crC_s : Ok (crC h.1 h.2 o m).s := minus_ok ph.b (times_ok (crC_t ph po hn) (face_ok ph.a m))
theorem crC_ok (z : (crC h.1 h.2 o m).t ≠ (0, 0, 1)) : CpOk (crC h.1 h.2 o m) := ⟨crC_t ph po hn, Classical.byContradiction fun c => z (zero_of (crC_t ph po hn) c), crC_s ph po hn⟩
/-- the only one -/
theorem crC_uniq {c : Cp} (hc : CpOk c) (hm : c.m = m) (e1 : ap c h.1 = h.2) (e2 : ap c o.1 = o.2) : crC h.1 h.2 o m = c := by
  have n1 := st_nz (m := m) ph po hn
  have os := face_ok (minus_ok po.a ph.a) m
  have nn0 := nn_ne os n1
  have a1 := congrArg re e1
  have a2 := congrArg im e1
  have b1 := congrArg re e2
  have b2 := congrArg im e2
  unfold ap at a1 a2 b1 b2
  rw [re_car hc.t hc.s ph.a] at a1
  rw [im_car hc.t hc.s ph.a] at a2
  rw [re_car hc.t hc.s po.a] at b1
  rw [im_car hc.t hc.s po.a] at b2
  have ot : Ok (times (minus o.2 h.2) (inv (face (minus o.1 h.1) m))) := times_ok (minus_ok po.b ph.b) (inv_ok n1)
  have t1 : times (minus o.2 h.2) (inv (face (minus o.1 h.1) m)) = c.t := by
    have en : nn (face (minus o.1 h.1) m) = (re o.1 - re h.1) * (re o.1 - re h.1) + (im o.1 - im h.1) * (im o.1 - im h.1) := by
      rw [nn_face]; unfold nn; rw [re_minus po.a ph.a, im_minus po.a ph.a]
    refine ext ot hc.t ?_ ?_
    · rw [re_times (minus_ok po.b ph.b) (inv_ok n1), re_inv os n1, im_inv os n1, re_minus po.b ph.b, im_minus po.b ph.b, re_face, im_face, re_minus po.a ph.a, im_minus po.a ph.a]
      rw [en] at nn0 ⊢
      rw [hm] at a1 a2 b1 b2
      cases m <;> simp only [if_true, if_false, Bool.false_eq_true] at * <;> grind
    · rw [im_times (minus_ok po.b ph.b) (inv_ok n1), re_inv os n1, im_inv os n1, re_minus po.b ph.b, im_minus po.b ph.b, re_face, im_face, re_minus po.a ph.a, im_minus po.a ph.a]
      rw [en] at nn0 ⊢
      rw [hm] at a1 a2 b1 b2
      cases m <;> simp only [if_true, if_false, Bool.false_eq_true] at * <;> grind
  have e : crC h.1 h.2 o m = ⟨c.t, minus h.2 (times c.t (face h.1 m)), m⟩ := by unfold crC; rw [t1]
  rw [e]
  refine cp_ext (a := ⟨c.t, minus h.2 (times c.t (face h.1 m)), m⟩) ⟨hc.t, hc.n, minus_ok ph.b (times_ok hc.t (face_ok ph.a m))⟩ hc rfl rfl ?_ ?_ hm.symm
  · show re (minus h.2 (times c.t (face h.1 m))) = _
    rw [re_minus ph.b (times_ok hc.t (face_ok ph.a m)), re_times hc.t (face_ok ph.a m), re_face, im_face]
    rw [hm] at a1; grind
  · show im (minus h.2 (times c.t (face h.1 m))) = _
    rw [im_minus ph.b (times_ok hc.t (face_ok ph.a m)), im_times hc.t (face_ok ph.a m), re_face, im_face]
    rw [hm] at a2; grind
theorem crb_mem {prs : List Pr} (hh : h ∈ prs) (ho : o ∈ prs) {c : Cp} : c ∈ crb prs h o m ↔ (CpOk c ∧ c.m = m ∧ ∀ p ∈ prs, ap c p.1 = p.2) := by
  unfold crb
  constructor
  · intro hc
    split at hc
    · cases hc
    · rename_i z
      split at hc
      · cases hc
      · rename_i a
        rw [List.mem_singleton.mp hc]
        refine ⟨crC_ok ph po hn z, rfl, fun p hp => ?_⟩
        have a' : prs.any (fun p => !decide (ap (crC h.1 h.2 o m) p.1 = p.2)) = false := by simpa using a
        have := List.any_eq_false.mp a' p hp
        simpa using this
  · rintro ⟨hc, hm, hp⟩
    have e := crC_uniq ph po hn hc hm (hp h hh) (hp o ho)
    rw [e]
    rw [if_neg (fun z => by have := hc.n; rw [z] at this; rcases this with n | n <;> exact n rfl)]
    rw [if_neg (by
      intro a
      obtain ⟨p, h1, h2⟩ := List.any_eq_true.mp a
      simp [hp p h1] at h2)]
    exact List.mem_singleton.mpr rfl
theorem crb_len {prs : List Pr} : (crb prs h o m).length ≤ 1 := by
  unfold crb
  split
  · simp
  · split <;> simp
end
/-- all in one line -/
def flatP (h o p : Pr) : Prop := (minus p.1 h.1).1 * (minus o.1 h.1).2.1 = (minus p.1 h.1).2.1 * (minus o.1 h.1).1
theorem flat_iff {h o p : Pr} (ph : PrOk h) (po : PrOk o) (pp : PrOk p) : flatP h o p ↔ (re p.1 - re h.1) * (im o.1 - im h.1) = (im p.1 - im h.1) * (re o.1 - re h.1) := by
  have o1 := minus_ok pp.a ph.a
  have o2 := minus_ok po.a ph.a
  rw [← re_minus pp.a ph.a, ← im_minus pp.a ph.a, ← re_minus po.a ph.a, ← im_minus po.a ph.a]
  unfold flatP
  generalize minus p.1 h.1 = a at *
  generalize minus o.1 h.1 = b at *
  have na := cast_ne o1.ne
  have nb := cast_ne o2.ne
  unfold re im
  constructor
  · intro e
    have e' : ((a.1 * b.2.1 : Int) : Rat) = ((a.2.1 * b.1 : Int) : Rat) := by rw [e]
    simp only [Rat.intCast_mul] at e'
    grind
  · intro e
    have e' : ((a.1 * b.2.1 : Int) : Rat) = ((a.2.1 * b.1 : Int) : Rat) := by
      simp only [Rat.intCast_mul]
      grind
    exact_mod_cast e'
section
variable {h o : Pr} (ph : PrOk h) (po : PrOk o) (hn : o.1 ≠ h.1)
include ph po hn
theorem wn : (re o.1 - re h.1) * (re o.1 - re h.1) + (im o.1 - im h.1) * (im o.1 - im h.1) ≠ 0 := by
  have := nn_ne (minus_ok po.a ph.a) (minus_ne po.a ph.a hn)
  unfold nn at this
  rwa [re_minus po.a ph.a, im_minus po.a ph.a] at this
/-- carried the other way round, where all is in one line -/
theorem flat_both {prs : List Pr} (hh : h ∈ prs) (ho : o ∈ prs) (ok : ∀ p ∈ prs, PrOk p) (fl : ∀ p ∈ prs, flatP h o p) (m : Bool) {c : Cp} (hc : c ∈ crb prs h o m) : crb prs h o (!m) ≠ [] := by
  obtain ⟨oc, cm, cp⟩ := (crb_mem ph po hn hh ho).mp hc
  intro em
  have w := wn ph po hn
  have ot := crC_t (m := !m) ph po hn
  have n1 := st_nz (m := !m) ph po hn
  have os := face_ok (minus_ok po.a ph.a) (!m)
  have nn0 := nn_ne os n1
  have en : nn (face (minus o.1 h.1) (!m)) = (re o.1 - re h.1) * (re o.1 - re h.1) + (im o.1 - im h.1) * (im o.1 - im h.1) := by
    rw [nn_face]; unfold nn; rw [re_minus po.a ph.a, im_minus po.a ph.a]
  have a1 := congrArg re (cp h hh)
  have a2 := congrArg im (cp h hh)
  have b1 := congrArg re (cp o ho)
  have b2 := congrArg im (cp o ho)
  unfold ap at a1 a2 b1 b2
  rw [re_car oc.t oc.s ph.a, cm] at a1
  rw [im_car oc.t oc.s ph.a, cm] at a2
  rw [re_car oc.t oc.s po.a, cm] at b1
  rw [im_car oc.t oc.s po.a, cm] at b2
  have rt : re (crC h.1 h.2 o (!m)).t = ((re o.2 - re h.2) * (re o.1 - re h.1) + (im o.2 - im h.2) * ((if (!m) = true then -1 else 1) * (im o.1 - im h.1))) / ((re o.1 - re h.1) * (re o.1 - re h.1) + (im o.1 - im h.1) * (im o.1 - im h.1)) := by
    show re (times _ _) = _
    rw [re_times (minus_ok po.b ph.b) (inv_ok n1), re_inv os n1, im_inv os n1, en, re_minus po.b ph.b, im_minus po.b ph.b, re_face, im_face, re_minus po.a ph.a, im_minus po.a ph.a]
    grind
  have it : im (crC h.1 h.2 o (!m)).t = ((im o.2 - im h.2) * (re o.1 - re h.1) - (re o.2 - re h.2) * ((if (!m) = true then -1 else 1) * (im o.1 - im h.1))) / ((re o.1 - re h.1) * (re o.1 - re h.1) + (im o.1 - im h.1) * (im o.1 - im h.1)) := by
    show im (times _ _) = _
    rw [im_times (minus_ok po.b ph.b) (inv_ok n1), re_inv os n1, im_inv os n1, en, re_minus po.b ph.b, im_minus po.b ph.b, re_face, im_face, re_minus po.a ph.a, im_minus po.a ph.a]
    grind
  have nt : (crC h.1 h.2 o (!m)).t ≠ (0, 0, 1) := fun z => by
    have z1 := congrArg re z
    have z2 := congrArg im z
    rw [re_0] at z1
    rw [im_0] at z2
    have k := nn_ne oc.t oc.n
    unfold nn at k
    rw [rt] at z1
    rw [it] at z2
    cases m <;> simp only [Bool.not_true, Bool.not_false, if_true, if_false, Bool.false_eq_true] at * <;> grind
  have oc' := crC_ok ph po hn nt
  have key : crC h.1 h.2 o (!m) ∈ crb prs h o (!m) := (crb_mem ph po hn hh ho).mpr ⟨oc', rfl, fun p hp => by
    have pp := ok p hp
    have f := (flat_iff ph po pp).mp (fl p hp)
    have c1 := congrArg re (cp p hp)
    have c2 := congrArg im (cp p hp)
    unfold ap at c1 c2
    rw [re_car oc.t oc.s pp.a, cm] at c1
    rw [im_car oc.t oc.s pp.a, cm] at c2
    have sre : re (crC h.1 h.2 o (!m)).s = re h.2 - (re (crC h.1 h.2 o (!m)).t * re h.1 - im (crC h.1 h.2 o (!m)).t * ((if (!m) = true then -1 else 1) * im h.1)) := by
      show re (minus h.2 (times (crC h.1 h.2 o (!m)).t (face h.1 (!m)))) = _
      rw [re_minus ph.b (times_ok ot (face_ok ph.a _)), re_times ot (face_ok ph.a _), re_face, im_face]
    have sim : im (crC h.1 h.2 o (!m)).s = im h.2 - (re (crC h.1 h.2 o (!m)).t * ((if (!m) = true then -1 else 1) * im h.1) + im (crC h.1 h.2 o (!m)).t * re h.1) := by
      show im (minus h.2 (times (crC h.1 h.2 o (!m)).t (face h.1 (!m)))) = _
      rw [im_minus ph.b (times_ok ot (face_ok ph.a _)), im_times ot (face_ok ph.a _), re_face, im_face]
    refine ext (ap_ok oc' pp.a) pp.b ?_ ?_
    · unfold ap
      rw [re_car oc'.t oc'.s pp.a, sre, rt, it]
      show _ - _ * ((if (!m) = true then -1 else 1) * _) + _ = _
      cases m <;> simp only [Bool.not_true, Bool.not_false, if_true, if_false, Bool.false_eq_true] at * <;> grind
    · unfold ap
      rw [im_car oc'.t oc'.s pp.a, sim, rt, it]
      show _ * ((if (!m) = true then -1 else 1) * _) + _ + _ = _
      cases m <;> simp only [Bool.not_true, Bool.not_false, if_true, if_false, Bool.false_eq_true] at * <;> grind⟩
  rw [em] at key
  cases key
/-- not both, where not all is in one line -/
theorem not_both {prs : List Pr} (hh : h ∈ prs) (ho : o ∈ prs) (ok : ∀ p ∈ prs, PrOk p) {c e : Cp} (hc : c ∈ crb prs h o false) (he : e ∈ crb prs h o true) : ∀ p ∈ prs, flatP h o p := by
  obtain ⟨oc, cm, cp⟩ := (crb_mem ph po hn hh ho).mp hc
  obtain ⟨oe, em, ep⟩ := (crb_mem ph po hn hh ho).mp he
  intro p hp
  have pp := ok p hp
  rw [flat_iff ph po pp]
  have rows : ∀ q : Pr, q ∈ prs → PrOk q → re c.t * re q.1 - im c.t * im q.1 + re c.s = re q.2 ∧ re c.t * im q.1 + im c.t * re q.1 + im c.s = im q.2 ∧ re e.t * re q.1 + im e.t * im q.1 + re e.s = re q.2 ∧ im e.t * re q.1 - re e.t * im q.1 + im e.s = im q.2 := fun q hq pq => by
    have c1 := congrArg re (cp q hq)
    have c2 := congrArg im (cp q hq)
    have e1 := congrArg re (ep q hq)
    have e2 := congrArg im (ep q hq)
    unfold ap at c1 c2 e1 e2
    rw [re_car oc.t oc.s pq.a, cm] at c1
    rw [im_car oc.t oc.s pq.a, cm] at c2
    rw [re_car oe.t oe.s pq.a, em] at e1
    rw [im_car oe.t oe.s pq.a, em] at e2
    simp only [if_true, if_false, Bool.false_eq_true] at c1 c2 e1 e2
    exact ⟨by grind, by grind, by grind, by grind⟩
  obtain ⟨h1, h2, h3, h4⟩ := rows h hh ph
  obtain ⟨o1, o2, o3, o4⟩ := rows o ho po
  obtain ⟨p1, p2, p3, p4⟩ := rows p hp pp
  have k := nn_ne oc.t oc.n
  unfold nn at k
  have w := wn ph po hn
  exact two_ways (a := re c.t) (b := im c.t) (a' := re e.t) (b' := im e.t) (u := re o.1 - re h.1) (v := im o.1 - im h.1) (x := re p.1 - re h.1) (y := im p.1 - im h.1) (by grind) (by grind) (by grind) (by grind) k w
/-- nothing is carried to one spot -/
theorem crb_one {prs : List Pr} (e : o.2 = h.2) (m : Bool) : crb prs h o m = [] := by
  unfold crb
  rw [if_pos]
  refine ext (crC_t ph po hn) ok_0 ?_ ?_
  · show re (times (minus o.2 h.2) (inv (face (minus o.1 h.1) m))) = _
    rw [re_times (minus_ok po.b ph.b) (inv_ok (st_nz ph po hn)), re_minus po.b ph.b, im_minus po.b ph.b, e, re_0]; grind
  · show im (times (minus o.2 h.2) (inv (face (minus o.1 h.1) m))) = _
    rw [im_times (minus_ok po.b ph.b) (inv_ok (st_nz ph po hn)), re_minus po.b ph.b, im_minus po.b ph.b, e, im_0]; grind
/-- one of them alone where all is in one line, both where not, is not so -/
theorem crs_flat {prs : List Pr} (hh : h ∈ prs) (ho : o ∈ prs) (ok : ∀ p ∈ prs, PrOk p) (fl : ∀ p ∈ prs, flatP h o p) : (crs prs h o).length ≠ 1 := by
  unfold crs
  rw [List.length_append]
  have l1 := crb_len (m := false) ph po hn (prs := prs)
  have l2 := crb_len (m := true) ph po hn (prs := prs)
  have b1 := fun c hc => flat_both ph po hn hh ho ok fl false (c := c) hc
  have b2 := fun c hc => flat_both ph po hn hh ho ok fl true (c := c) hc
  cases e1 : crb prs h o false with
  | nil =>
    cases e2 : crb prs h o true with
    | nil => simp
    | cons c r => exact absurd e1 (b2 c (by rw [e2]; exact List.mem_cons_self ..))
  | cons c r =>
    cases e2 : crb prs h o true with
    | nil => exact absurd e2 (b1 c (by rw [e1]; exact List.mem_cons_self ..))
    | cons d t =>
      simp only [List.length_cons]
      omega
theorem crs_two {prs : List Pr} (hh : h ∈ prs) (ho : o ∈ prs) (ok : ∀ p ∈ prs, PrOk p) (nf : ¬ ∀ p ∈ prs, flatP h o p) : (crs prs h o).length ≠ 2 := by
  unfold crs
  rw [List.length_append]
  have l1 := crb_len (m := false) ph po hn (prs := prs)
  have l2 := crb_len (m := true) ph po hn (prs := prs)
  cases e1 : crb prs h o false with
  | nil => rw [List.length_nil]; omega
  | cons c r =>
    cases e2 : crb prs h o true with
    | nil => rw [e1] at l1; rw [List.length_nil]; omega
    | cons d t => exact absurd (not_both ph po hn hh ho ok (c := c) (e := d) (by rw [e1]; exact List.mem_cons_self ..) (by rw [e2]; exact List.mem_cons_self ..)) nf
theorem crs_mem {prs : List Pr} (hh : h ∈ prs) (ho : o ∈ prs) {c : Cp} : c ∈ crs prs h o ↔ (CpOk c ∧ ∀ p ∈ prs, ap c p.1 = p.2) := by
  unfold crs
  rw [List.mem_append, crb_mem ph po hn hh ho, crb_mem ph po hn hh ho]
  constructor
  · rintro (⟨a, _, b⟩ | ⟨a, _, b⟩) <;> exact ⟨a, b⟩
  · rintro ⟨a, b⟩
    cases e : c.m with
    | false => exact .inl ⟨a, rfl, b⟩
    | true => exact .inr ⟨a, rfl, b⟩
theorem crs_flags {prs : List Pr} (hh : h ∈ prs) (ho : o ∈ prs) : (crs prs h o).map (·.m) ∈ [[], [false], [true], [false, true]] := by
  unfold crs
  have l1 := crb_len (m := false) ph po hn (prs := prs)
  have l2 := crb_len (m := true) ph po hn (prs := prs)
  have f1 := fun c (hc : c ∈ crb prs h o false) => ((crb_mem ph po hn hh ho).mp hc).2.1
  have f2 := fun c (hc : c ∈ crb prs h o true) => ((crb_mem ph po hn hh ho).mp hc).2.1
  match e1 : crb prs h o false, e2 : crb prs h o true with
  | [], [] => decide
  | [c], [] => rw [List.map_append]; simp only [List.map_cons, List.map_nil]; rw [f1 c (by rw [e1]; exact List.mem_cons_self ..)]; decide
  | [], [d] => rw [List.map_append]; simp only [List.map_cons, List.map_nil]; rw [f2 d (by rw [e2]; exact List.mem_cons_self ..)]; decide
  | [c], [d] => rw [List.map_append]; simp only [List.map_cons, List.map_nil]; rw [f1 c (by rw [e1]; exact List.mem_cons_self ..), f2 d (by rw [e2]; exact List.mem_cons_self ..)]; decide
  | _ :: _ :: _, _ => rw [e1] at l1; simp at l1
  | _, _ :: _ :: _ => rw [e2] at l2; simp at l2
end
end Mth
namespace Mth
/-! ### where an arm can be held -/
def unm (t : T3) (m : Bool) (s g : T3) : T3 := minus g (times t (face s m))
def prow (t : T3) (m : Bool) (p : Pr) : List T3 := eqs (unm t m (1, 0, 1) (1, 0, 1)) (unm t m (0, 1, 1) (0, 1, 1)) (unm t m p.1 p.2)
def prows (t : T3) (m : Bool) (ps : List Pr) : List T3 := ps.flatMap (prow t m)
def pol (t : T3) (m : Bool) (ps : List Pr) : KS := sol (prows t m ps)
def abt (p t : T3) (m : Bool) : Cp := ⟨t, minus p (times t (face p m)), m⟩
theorem abt_ok {p t : T3} (m : Bool) (hp : Ok p) (ht : Ok t) (nt : Nz t) : CpOk (abt p t m) := ⟨ht, nt, minus_ok hp (times_ok ht (face_ok hp m))⟩
theorem unm_ok {t s g : T3} (m : Bool) (ht : Ok t) (hs : Ok s) (hg : Ok g) : Ok (unm t m s g) := minus_ok hg (times_ok ht (face_ok hs m))
theorem unm_re {t s g : T3} (m : Bool) (ht : Ok t) (hs : Ok s) (hg : Ok g) : re (unm t m s g) = re g - (re t * re s - im t * ((if m = true then -1 else 1) * im s)) := by
  unfold unm
  rw [re_minus hg (times_ok ht (face_ok hs m)), re_times ht (face_ok hs m), re_face, im_face]
theorem unm_im {t s g : T3} (m : Bool) (ht : Ok t) (hs : Ok s) (hg : Ok g) : im (unm t m s g) = im g - (re t * ((if m = true then -1 else 1) * im s) + im t * re s) := by
  unfold unm
  rw [im_minus hg (times_ok ht (face_ok hs m)), im_times ht (face_ok hs m), re_face, im_face]
theorem prow_iff {t p : T3} {m : Bool} {q : Pr} (ht : Ok t) (nt : Nz t) (hp : Ok p) (hq : PrOk q) : (∀ r ∈ prow t m q, on r p) ↔ ap (abt p t m) q.1 = q.2 := by
  have ok := abt_ok m hp ht nt
  unfold prow
  rw [eqs_iff (unm_ok m ht ok_1 ok_1) (unm_ok m ht ok_i ok_i) (unm_ok m ht hq.a hq.b) hp, unm_re m ht ok_1 ok_1, unm_re m ht ok_i ok_i, unm_re m ht hq.a hq.b, unm_im m ht ok_1 ok_1, unm_im m ht ok_i ok_i, unm_im m ht hq.a hq.b, re_1, im_1, re_i, im_i]
  have k : ap (abt p t m) q.1 = q.2 ↔ (re (ap (abt p t m) q.1) = re q.2 ∧ im (ap (abt p t m) q.1) = im q.2) :=
    ⟨fun e => by rw [e]; exact ⟨rfl, rfl⟩, fun ⟨e1, e2⟩ => ext (ap_ok ok hq.a) hq.b e1 e2⟩
  rw [k]
  unfold ap
  rw [re_car ok.t ok.s hq.a, im_car ok.t ok.s hq.a]
  unfold abt
  dsimp only
  rw [re_minus hp (times_ok ht (face_ok hp m)), re_times ht (face_ok hp m), re_face, im_face, im_minus hp (times_ok ht (face_ok hp m)), im_times ht (face_ok hp m), re_face, im_face]
  generalize (if m = true then (-1 : Rat) else 1) = sa
  refine ⟨fun ⟨e1, e2⟩ => ⟨?_, ?_⟩, fun ⟨e1, e2⟩ => ⟨?_, ?_⟩⟩ <;> grind
theorem pol_mem {t p : T3} {m : Bool} {ps : List Pr} (ht : Ok t) (nt : Nz t) (hp : Ok p) (hq : ∀ q ∈ ps, PrOk q) : Mem (pol t m ps) p ↔ ∀ q ∈ ps, ap (abt p t m) q.1 = q.2 := by
  unfold pol prows
  rw [sol_mem _ hp]
  refine ⟨fun h q hm => (prow_iff ht nt hp (hq q hm)).mp fun r hr => h r (List.mem_flatMap.mpr ⟨q, hm, hr⟩), fun h r hr => ?_⟩
  obtain ⟨q, hm, hr'⟩ := List.mem_flatMap.mp hr
  exact (prow_iff ht nt hp (hq q hm)).mpr (h q hm) r hr'
theorem pol_ok (t : T3) (m : Bool) (ps : List Pr) : KOk (pol t m ps) := sol_ok _
theorem pol_congr {t : T3} {m : Bool} {ps qs : List Pr} (ht : Ok t) (nt : Nz t) (hp : ∀ q ∈ ps, PrOk q) (h : ∀ q, q ∈ qs ↔ q ∈ ps) : pol t m qs = pol t m ps :=
  ks_ext (pol_ok ..) (pol_ok ..) fun z hz => by
    rw [pol_mem ht nt hz (fun q hq => hp q ((h q).mp hq)), pol_mem ht nt hz hp]
    exact ⟨fun k q hq => k q ((h q).mpr hq), fun k q hq => k q ((h q).mp hq)⟩
theorem unm_B {t s g : T3} (m : Bool) {n k : Nat} (ht : Ok t) (hs : Ok s) (hg : Ok g) (bt : B 3 t) (bs : B n s) (bg : B k g) : B (k + (3 + n + 1) + 1) (unm t m s g) := minus_B hg (times_ok ht (face_ok hs m)) bg (times_B ht (face_ok hs m) bt (face_B bs m))
theorem prows_B {t : T3} {m : Bool} {ps : List Pr} (ht : Ok t) (bt : B 3 t) (h : ∀ q ∈ ps, PrOk q ∧ B 20 q.1 ∧ B 20 q.2) : ∀ r ∈ prows t m ps, B 135 r := fun r hr => by
  obtain ⟨q, hq, hr'⟩ := List.mem_flatMap.mp hr
  obtain ⟨oq, b1, b2⟩ := h q hq
  exact eqs_B (n := 45) ((unm_B m ht ok_1 ok_1 bt (n := 1) (k := 1) (by decide) (by decide)).mono (by decide)) ((unm_B m ht ok_i ok_i bt (n := 1) (k := 1) (by decide) (by decide)).mono (by decide)) (unm_B m ht oq.a oq.b bt b1 b2) r hr'
theorem pol_KB {t : T3} {m : Bool} {ps : List Pr} (ht : Ok t) (bt : B 3 t) (h : ∀ q ∈ ps, PrOk q ∧ B 20 q.1 ∧ B 20 q.2) : KB 271 135 (pol t m ps) := sol_KB (prows_B ht bt h)
theorem prow_len (t : T3) (m : Bool) (p : Pr) : (prow t m p).length = 2 := rfl
theorem prows_len (t : T3) (m : Bool) (ps : List Pr) : (prows t m ps).length = 2 * ps.length := by
  unfold prows
  induction ps with
  | nil => rfl
  | cons p r ih => rw [List.flatMap_cons, List.length_append, ih, prow_len, List.length_cons]; omega
theorem prows_more (t : T3) (m : Bool) {ps : List Pr} {i : Nat} {p : Pr} (h : ps[i]? = some p) : prows t m (ps.take (i + 1)) = prows t m (ps.take i) ++ prow t m p := by
  unfold prows
  rw [List.take_succ, h, List.flatMap_append]
  simp
end Mth
namespace Mth
/-! ### copies seen from elsewhere -/
theorem ap_cj {o c : Cp} (ho : CpOk o) (hc : CpOk c) {z : T3} (hz : Ok z) : ap (cj o c) (ap o z) = ap o (ap c z) := by
  unfold cj
  rw [jn_ap (jn_ok (bk_ok ho) hc) ho (ap_ok ho hz), jn_ap (bk_ok ho) hc (ap_ok ho hz), bk_ap ho hz]
theorem ap_inj {o : Cp} (ho : CpOk o) {y z : T3} (hy : Ok y) (hz : Ok z) (e : ap o y = ap o z) : y = z := by
  rw [← bk_ap ho hy, ← bk_ap ho hz, e]
theorem meet_cj {o c d : Cp} (ho : CpOk o) (hc : CpOk c) (hd : CpOk d) {z : T3} (hz : Ok z) : Mem (meet (cj o c) (cj o d)) (ap o z) ↔ Mem (meet c d) z := by
  rw [meet_mem (cj_ok ho hc) (cj_ok ho hd) (ap_ok ho hz), meet_mem hc hd hz, ap_cj ho hc hz, ap_cj ho hd hz]
  exact ⟨fun e => ap_inj ho (ap_ok hc hz) (ap_ok hd hz) e, fun e => by rw [e]⟩
theorem kept_cj {o c : Cp} (ho : CpOk o) (hc : CpOk c) {z : T3} (hz : Ok z) : Mem (meet (cj o c) still) (ap o z) ↔ Mem (meet c still) z := by
  have := meet_cj ho hc still_ok hz
  rw [cj_still ho] at this
  exact this
/-- what is told of spots, and of the same spots elsewhere -/
structure Moved (o : Cp) (k k' : KS) : Prop where
  al : k = .all → k' = .all
  no : k = .none → k' = .none
  sp : ∀ s, k = .spot s → k' = .spot (ap o s)
  ln : ∀ l, k = .line l → ∃ l', k' = .line l' ∧ ∀ z, Ok z → on l z → on l' (ap o z)
theorem moved {o : Cp} (ho : CpOk o) {k k' : KS} (hk : KOk k) (hk' : KOk k') (h : ∀ z, Ok z → (Mem k' (ap o z) ↔ Mem k z)) : Moved o k k' := by
  have h' : ∀ w, Ok w → (Mem k' w ↔ Mem k (ap (bk o) w)) := fun w hw => by
    have := h (ap (bk o) w) (ap_ok (bk_ok ho) hw)
    rw [ap_bk ho hw] at this
    exact this
  refine ⟨fun e => ?_, fun e => ?_, fun s e => ?_, fun l e => ?_⟩
  · subst e
    exact ks_ext hk' hk fun w hw => by rw [h' w hw]; exact ⟨fun _ => trivial, fun _ => trivial⟩
  · subst e
    exact ks_ext hk' hk fun w hw => by rw [h' w hw]; exact ⟨fun x => x, fun x => x⟩
  · subst e
    have os : Ok s := hk
    refine ks_ext hk' (show KOk (.spot (ap o s)) from ap_ok ho os) fun w hw => ?_
    rw [h' w hw]
    show ap (bk o) w = s ↔ w = ap o s
    exact ⟨fun e => by rw [← e, ap_bk ho hw], fun e => by rw [e, bk_ap ho os]⟩
  · subst e
    cases k' with
    | line l' => exact ⟨l', rfl, fun z hz hl => (h z hz).mpr hl⟩
    | all =>
      exfalso
      have : KS.line l = .all := ks_ext hk trivial fun z hz => by rw [← h z hz]; exact ⟨fun _ => trivial, fun _ => trivial⟩
      cases this
    | none =>
      exfalso
      have : KS.line l = .none := ks_ext hk trivial fun z hz => by rw [← h z hz]; exact ⟨fun x => x, fun x => x⟩
      cases this
    | spot s' =>
      exfalso
      have os : Ok s' := hk'
      have : KS.line l = .spot (ap (bk o) s') := ks_ext hk (show KOk (.spot (ap (bk o) s')) from ap_ok (bk_ok ho) os) fun z hz => by
        rw [← h z hz]
        show ap o z = s' ↔ z = ap (bk o) s'
        exact ⟨fun e => by rw [← e, bk_ap ho hz], fun e => by rw [e, ap_bk ho os]⟩
      cases this
theorem nn_jn {a b : Cp} (ha : CpOk a) (hb : CpOk b) : nn (jn a b).t = nn a.t * nn b.t := by
  have e := congrArg re (gr_jn ha hb)
  rw [re_gr3 (jn_ok ha hb).t, re_times (gr3_ok ha.t) (gr3_ok hb.t), re_gr3 ha.t, re_gr3 hb.t, im_gr3 ha.t, im_gr3 hb.t] at e
  grind
theorem nn_still : nn still.t = 1 := by
  unfold nn still
  dsimp only
  rw [re_1, im_1]
  grind
theorem gr_cj {o c : Cp} (ho : CpOk o) (hc : CpOk c) : gr (cj o c).t = gr c.t := by
  refine gr_congr (cj_ok ho hc).t hc.t ?_
  unfold cj
  have e : nn (bk o).t * nn o.t = 1 := by rw [← nn_jn (bk_ok ho) ho, bk_jn ho, nn_still]
  rw [nn_jn (jn_ok (bk_ok ho) hc) ho, nn_jn (bk_ok ho) hc]
  grind
theorem cj_m (o c : Cp) : (cj o c).m = c.m := by
  show ((o.m != c.m) != o.m) = c.m
  cases o.m <;> cases c.m <;> rfl
theorem bk_m (c : Cp) : (bk c).m = c.m := rfl
theorem one_map {α : Type} {f : α → α} {l l' : List α} (h : l.length ≤ 1) (h' : l'.length ≤ 1) (a : ∀ x ∈ l, f x ∈ l') (b : ∀ y ∈ l', ∃ x, x ∈ l) : l.map f = l' := by
  match l, l', h, h', a, b with
  | [], [], _, _, _, _ => rfl
  | [x], [y], _, _, a, _ => 
    have := a x (List.mem_singleton.mpr rfl)
    show [f x] = [y]
    rw [List.mem_singleton.mp this]
  | [], y :: _, _, _, _, b => obtain ⟨x, hx⟩ := b y (List.mem_cons_self ..); cases hx
  | x :: _, [], _, _, a, _ => have := a x (List.mem_cons_self ..); cases this
/-- pairs, carried elsewhere -/
def prm (e : Cp) (p : Pr) : Pr := (ap e p.1, ap e p.2)
def prw (p : Pr) : Pr := (p.2, p.1)
theorem prm_ok {e : Cp} (he : CpOk e) {p : Pr} (h : PrOk p) : PrOk (prm e p) := ⟨ap_ok he h.a, ap_ok he h.b⟩
theorem prw_ok {p : Pr} (h : PrOk p) : PrOk (prw p) := ⟨h.b, h.a⟩
section
variable {prs : List Pr} {h o : Pr} (ph : PrOk h) (po : PrOk o) (hn : o.1 ≠ h.1) (hh : h ∈ prs) (ho : o ∈ prs) (ok : ∀ p ∈ prs, PrOk p)
include ph po hn hh ho ok
theorem crs_cj {e : Cp} (he : CpOk e) : (crs prs h o).map (cj e) = crs (prs.map (prm e)) (prm e h) (prm e o) := by
  have hn' : (prm e o).1 ≠ (prm e h).1 := fun z => hn (ap_inj he po.a ph.a z)
  have one : ∀ m, (crb prs h o m).map (cj e) = crb (prs.map (prm e)) (prm e h) (prm e o) m := fun m => by
    refine one_map (crb_len ph po hn) (crb_len (prm_ok he ph) (prm_ok he po) hn') (fun c hc => ?_) (fun c hc => ?_)
    · rw [crb_mem ph po hn hh ho] at hc
      rw [crb_mem (prm_ok he ph) (prm_ok he po) hn' (List.mem_map.mpr ⟨h, hh, rfl⟩) (List.mem_map.mpr ⟨o, ho, rfl⟩)]
      refine ⟨cj_ok he hc.1, by rw [cj_m]; exact hc.2.1, fun p hp => ?_⟩
      obtain ⟨q, hq, rfl⟩ := List.mem_map.mp hp
      show ap (cj e c) (ap e q.1) = ap e q.2
      rw [ap_cj he hc.1 (ok q hq).a, hc.2.2 q hq]
    · rw [crb_mem (prm_ok he ph) (prm_ok he po) hn' (List.mem_map.mpr ⟨h, hh, rfl⟩) (List.mem_map.mpr ⟨o, ho, rfl⟩)] at hc
      refine ⟨cj (bk e) c, ?_⟩
      rw [crb_mem ph po hn hh ho]
      refine ⟨cj_ok (bk_ok he) hc.1, by rw [cj_m]; exact hc.2.1, fun p hp => ?_⟩
      have k := hc.2.2 _ (List.mem_map.mpr ⟨p, hp, rfl⟩)
      have k : ap c (ap e p.1) = ap e p.2 := k
      have op := ok p hp
      have := ap_cj (bk_ok he) hc.1 (ap_ok he op.a)
      rw [bk_ap he op.a, k, bk_ap he op.b] at this
      exact this
  unfold crs
  rw [List.map_append, one, one]
theorem crs_bk (hn2 : o.2 ≠ h.2) : (crs prs h o).map bk = crs (prs.map prw) (prw h) (prw o) := by
  have one : ∀ m, (crb prs h o m).map bk = crb (prs.map prw) (prw h) (prw o) m := fun m => by
    refine one_map (crb_len ph po hn) (crb_len (prw_ok ph) (prw_ok po) hn2) (fun c hc => ?_) (fun c hc => ?_)
    · rw [crb_mem ph po hn hh ho] at hc
      rw [crb_mem (prw_ok ph) (prw_ok po) hn2 (List.mem_map.mpr ⟨h, hh, rfl⟩) (List.mem_map.mpr ⟨o, ho, rfl⟩)]
      refine ⟨bk_ok hc.1, hc.2.1, fun p hp => ?_⟩
      obtain ⟨q, hq, rfl⟩ := List.mem_map.mp hp
      have r := bk_ap hc.1 (ok q hq).a
      rw [hc.2.2 q hq] at r
      exact r
    · rw [crb_mem (prw_ok ph) (prw_ok po) hn2 (List.mem_map.mpr ⟨h, hh, rfl⟩) (List.mem_map.mpr ⟨o, ho, rfl⟩)] at hc
      refine ⟨bk c, ?_⟩
      rw [crb_mem ph po hn hh ho]
      refine ⟨bk_ok hc.1, hc.2.1, fun p hp => ?_⟩
      have k := hc.2.2 (prw p) (List.mem_map.mpr ⟨p, hp, rfl⟩)
      change ap c p.2 = p.1 at k
      have r := bk_ap hc.1 (ok p hp).b
      rw [k] at r
      exact r
  unfold crs
  rw [List.map_append, one, one]
end
theorem oth_map {prs : List Pr} {h o : Pr} {os : List Pr} {f : Pr → Pr} (i : ∀ p ∈ prs, ((f p).1 = (f h).1 ↔ p.1 = h.1)) (e : oth prs h = o :: os) : oth (prs.map f) (f h) = f o :: os.map f := by
  have : oth (prs.map f) (f h) = (oth prs h).map f := by
    unfold oth
    rw [List.filter_map]
    congr 1
    refine List.filter_congr fun p hp => ?_
    show (!decide ((f p).1 = (f h).1)) = !decide (p.1 = h.1)
    rw [decide_eq_decide.mpr (i p hp)]
  rw [this, e]
  rfl
end Mth
/-! the order of fractions by the floor of p * S / q, and what the least and the greatest are -/
namespace Mth
def fkey (S : Int) (f : Int × Int) : Int := (f.1 * S).fdiv f.2
theorem fkey_le {m : Int} {f g : Int × Int} (f0 : 0 < f.2) (g0 : 0 < g.2) (fm : f.2 ≤ m) (gm : g.2 ≤ m) (h : fkey (m * m) f ≤ fkey (m * m) g) : f.1 * g.2 ≤ g.1 * f.2 := by
  obtain ⟨a, b⟩ := f
  obtain ⟨c, d⟩ := g
  simp only [fkey] at *
  rw [Int.fdiv_eq_ediv_of_nonneg _ (by omega), Int.fdiv_eq_ediv_of_nonneg _ (by omega)] at h
  apply Int.not_lt.mp
  intro hlt
  have h1 : (c * (m * m)) / d * d ≤ c * (m * m) := Int.ediv_mul_le _ (by omega)
  generalize c * (m * m) / d = k at *
  have h2 : (k + 1) ≤ a * (m * m) / b := by
    rw [Int.le_ediv_iff_mul_le f0]
    have bd : b * d ≤ m * m := by
      have := Int.mul_le_mul fm gm (by omega) (by omega)
      exact this
    have e1 : k * d * b ≤ c * (m * m) * b := Int.mul_le_mul_of_nonneg_right h1 (by omega)
    have e2 : (c * b + 1) * (m * m) ≤ a * d * (m * m) := Int.mul_le_mul_of_nonneg_right (by omega) (by
      have : 0 ≤ b * d := Int.mul_nonneg (by omega) (by omega)
      omega)
    have e3 : (k + 1) * b * d ≤ a * (m * m) * d := by grind
    exact Int.le_of_mul_le_mul_right e3 g0
  omega
/-- sorted with what belongs to it -/
theorem sortP {α β : Type} {R : α → β → Prop} (key : β → Int) (zs : List (α × β)) (hR : ∀ z ∈ zs, R z.1 z.2) :
    let ys := zs.mergeSort (fun a b => decide (key a.2 ≤ key b.2))
    (∀ z ∈ ys, R z.1 z.2) ∧ (ys.map (·.2)).Perm (zs.map (·.2)) ∧ (ys.map (·.2)).Pairwise (fun a b => key a ≤ key b) := by
  intro ys
  have hp : ys.Perm zs := List.mergeSort_perm _ _
  refine ⟨fun z hz => hR z (hp.mem_iff.mp hz), hp.map _, ?_⟩
  rw [List.pairwise_map]
  have := List.pairwise_mergeSort (le := fun (a b : α × β) => decide (key a.2 ≤ key b.2)) (fun a b c h1 h2 => by simp only [decide_eq_true_eq] at *; omega) (fun a b => by simp only [Bool.or_eq_true, decide_eq_true_eq]; omega) zs
  exact this.imp fun h => of_decide_eq_true h
/-- the first and the last of an ordered list of fractions -/
def leF (f g : Int × Int) : Prop := f.1 * g.2 ≤ g.1 * f.2
theorem leF_trans {f g h : Int × Int} (f0 : 0 < f.2) (g0 : 0 < g.2) (h0 : 0 < h.2) (h1 : leF f g) (h2 : leF g h) : leF f h := by
  obtain ⟨a, b⟩ := f
  obtain ⟨c, d⟩ := g
  obtain ⟨e, k⟩ := h
  simp only [leF] at *
  have e1 : a * d * k ≤ c * b * k := Int.mul_le_mul_of_nonneg_right h1 (by omega)
  have e2 : c * k * b ≤ e * d * b := Int.mul_le_mul_of_nonneg_right h2 (by omega)
  have e3 : a * k * d ≤ e * b * d := by grind
  exact Int.le_of_mul_le_mul_right e3 g0
/-- the least of a list: it stands in it, and none is below it -/
def Least (f : Int × Int) (fs : List (Int × Int)) : Prop := f ∈ fs ∧ ∀ g ∈ fs, leF f g
def Most (f : Int × Int) (fs : List (Int × Int)) : Prop := f ∈ fs ∧ ∀ g ∈ fs, leF g f
theorem least_first {f : Int × Int} {gs : List (Int × Int)} (h : (f :: gs).Pairwise leF) : Least f (f :: gs) := by
  refine ⟨.head _, fun g hg => ?_⟩
  rcases List.mem_cons.mp hg with rfl | hg
  · exact Int.le_refl _
  · exact (List.pairwise_cons.mp h).1 g hg
theorem most_last {f : Int × Int} {gs : List (Int × Int)} (h : (gs ++ [f]).Pairwise leF) : Most f (gs ++ [f]) := by
  refine ⟨by simp, fun g hg => ?_⟩
  rcases List.mem_append.mp hg with hg | hg
  · exact (List.pairwise_append.mp h).2.2 g hg f (by simp)
  · rw [List.mem_singleton.mp hg]
    exact Int.le_refl _
theorem Least.perm {f : Int × Int} {fs gs : List (Int × Int)} (h : Least f fs) (p : fs.Perm gs) : Least f gs := ⟨p.mem_iff.mp h.1, fun g hg => h.2 g (p.mem_iff.mpr hg)⟩
theorem Most.perm {f : Int × Int} {fs gs : List (Int × Int)} (h : Most f fs) (p : fs.Perm gs) : Most f gs := ⟨p.mem_iff.mp h.1, fun g hg => h.2 g (p.mem_iff.mpr hg)⟩
end Mth
/-! the least and the greatest of fractions: which they are, and what a quarter turn does -/
namespace Mth
theorem leF_val {f g : Int × Int} (f0 : 0 < f.2) (g0 : 0 < g.2) : leF f g ↔ val f ≤ val g := by
  have h := lessF_iff g0 f0
  unfold lessF at h
  rw [decide_eq_decide] at h
  unfold leF
  rw [← Int.not_lt, h, Rat.not_lt]
def IsFr (f : Int × Int) : Prop := ∃ p q, q ≠ 0 ∧ f = fr p q
theorem IsFr.pos {f : Int × Int} (h : IsFr f) : 0 < f.2 := by
  obtain ⟨p, q, hq, rfl⟩ := h
  exact fr_pos hq
theorem fr_congr {p q p' q' : Int} (hq : q ≠ 0) (hq' : q' ≠ 0) (h : (p : Rat) / (q : Rat) = (p' : Rat) / (q' : Rat)) : fr p q = fr p' q' := by
  have e : low p 0 q = low p' 0 q' := ext (low_ok hq) (low_ok hq') (by rw [low_re hq, low_re hq', h]) (by rw [low_im hq, low_im hq']; grind)
  unfold fr
  rw [e]
theorem fr_anti {f g : Int × Int} (hf : IsFr f) (hg : IsFr g) (h1 : leF f g) (h2 : leF g f) : f = g := by
  have e : val f = val g := Rat.le_antisymm ((leF_val hf.pos hg.pos).mp h1) ((leF_val hg.pos hf.pos).mp h2)
  obtain ⟨p, q, hq, rfl⟩ := hf
  obtain ⟨p', q', hq', rfl⟩ := hg
  rw [fr_val hq, fr_val hq'] at e
  exact fr_congr hq hq' e
theorem fr_neg {p q : Int} (hq : q ≠ 0) : fr (-p) q = (-(fr p q).1, (fr p q).2) := by
  have e : low (-p) 0 q = neg (low p 0 q) := ext (low_ok hq) (neg_ok (low_ok hq)) (by rw [re_neg, low_re hq, low_re hq, Rat.intCast_neg]; grind) (by rw [im_neg, low_im hq, low_im hq]; grind)
  unfold fr
  rw [e]
  rfl
theorem least_uniq {f g : Int × Int} {fs : List (Int × Int)} (h : ∀ x ∈ fs, IsFr x) (a : Least f fs) (b : Least g fs) : f = g := fr_anti (h f a.1) (h g b.1) (a.2 g b.1) (b.2 f a.1)
theorem most_uniq {f g : Int × Int} {fs : List (Int × Int)} (h : ∀ x ∈ fs, IsFr x) (a : Most f fs) (b : Most g fs) : f = g := fr_anti (h f a.1) (h g b.1) (b.2 f a.1) (a.2 g b.1)
theorem fr_leF {f g : Int × Int} (f0 : 0 < f.2) (g0 : 0 < g.2) (h : leF f g) : leF (fr f.1 f.2) (fr g.1 g.2) := by
  have n1 : f.2 ≠ 0 := by omega
  have n2 : g.2 ≠ 0 := by omega
  rw [leF_val (fr_pos n1) (fr_pos n2), fr_val n1, fr_val n2]
  exact (leF_val f0 g0).mp h
theorem Least.fr {f : Int × Int} {fs : List (Int × Int)} (p : ∀ g ∈ fs, 0 < g.2) (h : Least f fs) : Least (fr f.1 f.2) (fs.map fun g => Mth.fr g.1 g.2) := by
  refine ⟨List.mem_map.mpr ⟨f, h.1, rfl⟩, fun g hg => ?_⟩
  obtain ⟨x, hx, rfl⟩ := List.mem_map.mp hg
  exact fr_leF (p f h.1) (p x hx) (h.2 x hx)
theorem Most.fr {f : Int × Int} {fs : List (Int × Int)} (p : ∀ g ∈ fs, 0 < g.2) (h : Most f fs) : Most (fr f.1 f.2) (fs.map fun g => Mth.fr g.1 g.2) := by
  refine ⟨List.mem_map.mpr ⟨f, h.1, rfl⟩, fun g hg => ?_⟩
  obtain ⟨x, hx, rfl⟩ := List.mem_map.mp hg
  exact fr_leF (p x hx) (p f h.1) (h.2 x hx)
def ng (f : Int × Int) : Int × Int := (-f.1, f.2)
theorem ng_leF {f g : Int × Int} (h : leF f g) : leF (ng g) (ng f) := by
  unfold leF ng at *
  dsimp only at *
  rw [Int.neg_mul, Int.neg_mul]
  omega
theorem Most.ng {f : Int × Int} {fs : List (Int × Int)} (h : Most f fs) : Least (ng f) (fs.map Mth.ng) := by
  refine ⟨List.mem_map.mpr ⟨f, h.1, rfl⟩, fun g hg => ?_⟩
  obtain ⟨x, hx, rfl⟩ := List.mem_map.mp hg
  exact ng_leF (h.2 x hx)
theorem Least.ng {f : Int × Int} {fs : List (Int × Int)} (h : Least f fs) : Most (ng f) (fs.map Mth.ng) := by
  refine ⟨List.mem_map.mpr ⟨f, h.1, rfl⟩, fun g hg => ?_⟩
  obtain ⟨x, hx, rfl⟩ := List.mem_map.mp hg
  exact ng_leF (h.2 x hx)
/-- a quarter turn -/
def qt : Cp := ⟨(0, 1, 1), (0, 0, 1), false⟩
theorem qt_ok : CpOk qt := ⟨⟨by decide, by decide⟩, by unfold Nz qt; decide, ⟨by decide, by decide⟩⟩
theorem g3_comm {x y d : Int} : g3 (-y) x d = g3 x y d := by
  unfold g3
  rw [Int.neg_gcd, Int.gcd_comm y x]
theorem ap_qt {z : T3} (h : Ok z) : ap qt z = (-z.2.1, z.1, z.2.2) := by
  obtain ⟨x, y, d⟩ := z
  refine ext (ap_ok qt_ok h) ⟨h.1, (g3_comm).trans h.2⟩ ?_ ?_
  · unfold ap
    rw [re_car qt_ok.t qt_ok.s h]
    simp only [qt, re, im, Rat.intCast_neg]
    grind
  · unfold ap
    rw [im_car qt_ok.t qt_ok.s h]
    simp only [qt, re, im]
    grind
end Mth
namespace Mth
/-! ### what an arm reaches -/
theorem nn_sym {a b : T3} (ha : Ok a) (hb : Ok b) : nn (minus a b) = nn (minus b a) := by
  unfold nn
  rw [re_minus ha hb, im_minus ha hb, re_minus hb ha, im_minus hb ha]
  grind
theorem gr_sym {a b : T3} (ha : Ok a) (hb : Ok b) : gr (minus a b) = gr (minus b a) := gr_congr (minus_ok ha hb) (minus_ok hb ha) (nn_sym ha hb)
def ftF (v lo hi : Int × Int) : Bool := decide (lo.1 * v.2 ≤ v.1 * lo.2) && decide (v.1 * hi.2 ≤ hi.1 * v.2)
theorem ft_in (v lo hi : Int × Int) : ftF v lo hi = inF v lo hi := by
  unfold ftF inF lessF
  rw [← decide_not, ← decide_not]
  congr 1 <;> rw [decide_eq_decide, Int.not_lt]
theorem plus_minus {p q : T3} (hp : Ok p) (hq : Ok q) : minus (plus p q) p = q := by
  refine ext (minus_ok (plus_ok hp hq) hp) hq ?_ ?_
  · rw [re_minus (plus_ok hp hq) hp, re_plus hp hq]; grind
  · rw [im_minus (plus_ok hp hq) hp, im_plus hp hq]; grind
theorem rch_1000 {p t : T3} {m : Bool} (hp : Ok p) : rch ⟨p, t, 0, 1000, m⟩ (plus p (600, 800, 1)) = true := by
  unfold rch
  rw [plus_minus hp (show Ok (600, 800, 1) from ⟨by decide, by decide⟩)]
  show inF (gr (600, 800, 1)) (0 * 0, 1) (1000 * 1000, 1) = true
  decide
end Mth
/-! how near a straight part comes to a spot -/
namespace Mth
def dt (w t : T3) : Int := w.1 * t.1 + w.2.1 * t.2.1
def ln (w : T3) : Int := w.1 * w.1 + w.2.1 * w.2.1
def crs2 (w t : T3) : Int := w.1 * t.2.1 - w.2.1 * t.1
/-- the square of the distance from the line of a part, where its foot is between the ends -/
def bes (w t : T3) : Option (Int × Int) := if 0 < dt w t * w.2.2 ∧ dt w t * w.2.2 < t.2.2 * ln w then some (fr (crs2 w t * crs2 w t) (t.2.2 * t.2.2 * ln w)) else none
def dR (w t : T3) : Rat := re w * re t + im w * im t
def cR (w t : T3) : Rat := re w * im t - im w * re t
theorem cpos {t : T3} (h : Ok t) : (0 : Rat) < (t.2.2 : Rat) := cast_pos h.1
theorem dt_R {w t : T3} (hw : Ok w) (ht : Ok t) : ((dt w t : Int) : Rat) = dR w t * ((w.2.2 : Rat) * (t.2.2 : Rat)) := by
  have a := cast_ne hw.ne
  have b := cast_ne ht.ne
  unfold dt dR re im
  rw [Rat.intCast_add, Rat.intCast_mul, Rat.intCast_mul]
  grind
theorem cr_R {w t : T3} (hw : Ok w) (ht : Ok t) : ((crs2 w t : Int) : Rat) = cR w t * ((w.2.2 : Rat) * (t.2.2 : Rat)) := by
  have a := cast_ne hw.ne
  have b := cast_ne ht.ne
  unfold crs2 cR re im
  rw [Rat.intCast_sub, Rat.intCast_mul, Rat.intCast_mul]
  grind
theorem ln_R {w : T3} (hw : Ok w) : ((ln w : Int) : Rat) = nn w * ((w.2.2 : Rat) * (w.2.2 : Rat)) := by
  have a := cast_ne hw.ne
  unfold ln nn re im
  rw [Rat.intCast_add, Rat.intCast_mul, Rat.intCast_mul]
  grind
theorem mul_pos3 {a b : Rat} (ha : 0 < a) (hb : 0 < b) : 0 < a * b := Rat.mul_pos ha hb
theorem lt_scale {x y k : Rat} (hk : 0 < k) : x < y ↔ x * k < y * k := (Rat.mul_lt_mul_right hk).symm
theorem bes_cond {w t : T3} (hw : Ok w) (ht : Ok t) : (0 < dt w t * w.2.2 ∧ dt w t * w.2.2 < t.2.2 * ln w) ↔ (0 < dR w t ∧ dR w t < nn w) := by
  have d0 := cpos hw
  have e0 := cpos ht
  have k : 0 < (w.2.2 : Rat) * (w.2.2 : Rat) * (t.2.2 : Rat) := mul_pos3 (mul_pos3 d0 d0) e0
  have c1 : (0 < dt w t * w.2.2) ↔ 0 < dR w t := by
    rw [← Rat.intCast_lt_intCast, Rat.intCast_mul, dt_R hw ht, lt_scale (x := 0) k]
    rw [show ((0 : Int) : Rat) = 0 from rfl, Rat.zero_mul, show dR w t * ((w.2.2 : Rat) * (t.2.2 : Rat)) * (w.2.2 : Rat) = dR w t * ((w.2.2 : Rat) * (w.2.2 : Rat) * (t.2.2 : Rat)) by grind]
  have c2 : (dt w t * w.2.2 < t.2.2 * ln w) ↔ dR w t < nn w := by
    rw [← Rat.intCast_lt_intCast, Rat.intCast_mul, Rat.intCast_mul, dt_R hw ht, ln_R hw, lt_scale (x := dR w t) k]
    rw [show dR w t * ((w.2.2 : Rat) * (t.2.2 : Rat)) * (w.2.2 : Rat) = dR w t * ((w.2.2 : Rat) * (w.2.2 : Rat) * (t.2.2 : Rat)) by grind, show (t.2.2 : Rat) * (nn w * ((w.2.2 : Rat) * (w.2.2 : Rat))) = nn w * ((w.2.2 : Rat) * (w.2.2 : Rat) * (t.2.2 : Rat)) by grind]
  rw [c1, c2]
theorem ln_ne {w t : T3} (hw : Ok w) (h : 0 < dR w t ∧ dR w t < nn w) : ln w ≠ 0 := by
  intro z
  have e := ln_R hw
  rw [z] at e
  have n0 : 0 < nn w := by grind
  have d0 := cpos hw
  have := mul_pos3 n0 (mul_pos3 d0 d0)
  rw [← e] at this
  exact absurd this (by decide)
theorem bes_val {w t : T3} (hw : Ok w) (ht : Ok t) (h : 0 < dR w t ∧ dR w t < nn w) : val (fr (crs2 w t * crs2 w t) (t.2.2 * t.2.2 * ln w)) = cR w t * cR w t / nn w := by
  have l0 := ln_ne hw h
  have n0 : nn w ≠ 0 := by grind
  have a := cast_ne hw.ne
  have b := cast_ne ht.ne
  rw [fr_val (mul_ne (mul_ne ht.ne ht.ne) l0), Rat.intCast_mul, Rat.intCast_mul, Rat.intCast_mul, cr_R hw ht, ln_R hw]
  grind
/-- |t|² |w|² = (t·w)² + (t×w)² -/
theorem lagr (w t : T3) : nn t * nn w = dR w t * dR w t + cR w t * cR w t := by
  unfold nn dR cR
  grind
/-- the law's nearest distance -/
def mnF (e0 e1 : Int × Int) : Int × Int := if lessF e1 e0 = true then e1 else e0
def alg (z u v : T3) : T3 := times (minus z u) (over (minus v u))
def lnr (z u v : T3) : Int × Int := if (alg z u v).1 ≤ 0 ∨ lessF ((alg z u v).1, (alg z u v).2.2) (gr (minus v u)) = false then mnF (gr (minus z u)) (gr (minus z v)) else fr ((alg z u v).2.1 * (alg z u v).2.1 * (gr (minus v u)).2) ((alg z u v).2.2 * (alg z u v).2.2 * (gr (minus v u)).1)
theorem re_cast {t : T3} (h : Ok t) : ((t.1 : Int) : Rat) = re t * (t.2.2 : Rat) := by
  have a := cast_ne h.ne
  unfold re
  grind
theorem im_cast {t : T3} (h : Ok t) : ((t.2.1 : Int) : Rat) = im t * (t.2.2 : Rat) := by
  have a := cast_ne h.ne
  unfold im
  grind
theorem val_re {t : T3} : val (t.1, t.2.2) = re t := rfl
theorem re_pos {t : T3} (h : Ok t) : t.1 ≤ 0 ↔ ¬ 0 < re t := by
  rw [← Int.not_lt, not_congr]
  rw [← Rat.intCast_lt_intCast, re_cast h, lt_scale (x := 0) (cpos h), Rat.zero_mul]
  rfl
theorem lnr_bes {z u v : T3} (hz : Ok z) (hu : Ok u) (hv : Ok v) : lnr z u v = (bes (minus v u) (minus z u)).getD (mnF (gr (minus z u)) (gr (minus z v))) := by
  have hw := minus_ok hv hu
  have ht := minus_ok hz hu
  have ha : Ok (alg z u v) := times_ok ht (over_ok hw)
  have er : re (alg z u v) = dR (minus v u) (minus z u) := by unfold alg dR; rw [re_times ht (over_ok hw), re_over, im_over]; grind
  have ei : im (alg z u v) = cR (minus v u) (minus z u) := by unfold alg cR; rw [im_times ht (over_ok hw), re_over, im_over]; grind
  have gp : 0 < (gr (minus v u)).2 := gr_p2 hw
  have c1 : ((alg z u v).1 ≤ 0 ∨ lessF ((alg z u v).1, (alg z u v).2.2) (gr (minus v u)) = false) ↔ ¬ (0 < dR (minus v u) (minus z u) ∧ dR (minus v u) (minus z u) < nn (minus v u)) := by
    rw [re_pos ha, lessF_iff (a := ((alg z u v).1, (alg z u v).2.2)) (b := gr (minus v u)) ha.1 gp, val_re, gr_val hw, er, decide_eq_false_iff_not]
    constructor
    · rintro (h | h) ⟨a, b⟩
      · exact h a
      · exact h b
    · intro h
      by_cases a : 0 < dR (minus v u) (minus z u)
      · exact .inr fun b => h ⟨a, b⟩
      · exact .inl a
  unfold lnr bes
  by_cases h : 0 < dR (minus v u) (minus z u) ∧ dR (minus v u) (minus z u) < nn (minus v u)
  · rw [if_neg (fun z => c1.mp z h), if_pos ((bes_cond hw ht).mpr h)]
    show _ = fr _ _
    have n0 : nn (minus v u) ≠ 0 := by grind
    have gv := gr_val hw
    have g1 : (gr (minus v u)).1 ≠ 0 := fun z => by
      unfold val at gv
      rw [z] at gv
      have e0 : ((0 : Int) : Rat) / ((gr (minus v u)).2 : Rat) = 0 := by rw [show ((0 : Int) : Rat) = 0 from rfl]; grind
      rw [e0] at gv
      exact n0 gv.symm
    have q1 : (alg z u v).2.2 * (alg z u v).2.2 * (gr (minus v u)).1 ≠ 0 := mul_ne (mul_ne ha.ne ha.ne) g1
    have q2 : (minus z u).2.2 * (minus z u).2.2 * ln (minus v u) ≠ 0 := mul_ne (mul_ne ht.ne ht.ne) (ln_ne hw h)
    refine fr_congr q1 q2 ?_
    rw [← fr_val q1, ← fr_val q2, bes_val hw ht h, fr_val q1]
    simp only [Rat.intCast_mul]
    rw [im_cast ha, ei]
    have a1 := cast_ne ha.ne
    have a2 := cast_ne g1
    have a3 := cast_ne (show (gr (minus v u)).2 ≠ 0 by omega)
    unfold val at gv
    rw [← gv]
    rw [← gv] at n0
    grind
  · rw [if_pos (c1.mpr h), if_neg (fun z => h ((bes_cond hw ht).mp z))]
    rfl
theorem inF_val {d lo hi : Int × Int} (d0 : 0 < d.2) (l0 : 0 < lo.2) (h0 : 0 < hi.2) : inF d lo hi = decide (val lo ≤ val d ∧ val d ≤ val hi) := by
  unfold inF
  rw [lessF_iff d0 l0, lessF_iff h0 d0, ← decide_not, ← decide_not, ← Bool.decide_and, decide_eq_decide, Rat.not_lt, Rat.not_lt]
theorem foot_le {w t : T3} (h : 0 < dR w t ∧ dR w t < nn w) : cR w t * cR w t / nn w ≤ nn t ∧ cR w t * cR w t / nn w ≤ nn t - 2 * dR w t + nn w := by
  have l := lagr w t
  have n0 : 0 < nn w := by grind
  have n1 : nn w ≠ 0 := by grind
  obtain ⟨h1, h2⟩ := h
  have h3 : 0 < nn w - dR w t := by grind
  have p1 := mul_pos3 h1 h1
  have p2 := mul_pos3 h3 h3
  have e : cR w t * cR w t / nn w * nn w = cR w t * cR w t := by grind
  generalize cR w t * cR w t / nn w = b at *
  generalize cR w t * cR w t = c at *
  constructor
  · refine Rat.not_lt.mp fun z => ?_
    have := (lt_scale n0).mp z
    grind
  · refine Rat.not_lt.mp fun z => ?_
    have := (lt_scale n0).mp z
    grind
theorem nn_end {p u v : T3} (hp : Ok p) (hu : Ok u) (hv : Ok v) : nn (minus p v) = nn (minus p u) - 2 * dR (minus v u) (minus p u) + nn (minus v u) := by
  unfold nn dR
  rw [re_minus hp hv, im_minus hp hv, re_minus hp hu, im_minus hp hu, re_minus hv hu, im_minus hv hu]
  grind
/-- all spots of a part are within a ring just if the ends are, and the nearest one -/
theorem can_eq {p u v : T3} {lo hi l m : Int × Int} (hp : Ok p) (hu : Ok u) (hv : Ok v) (l0 : 0 < lo.2) (h0 : 0 < hi.2) (hl : Least l [gr (minus p u), gr (minus p v)]) (hm : Most m [gr (minus p u), gr (minus p v)]) :
    (inF ((bes (minus v u) (minus p u)).getD l) lo hi && inF m lo hi) = (inF (gr (minus p u)) lo hi && inF (gr (minus p v)) lo hi && !lessF (lnr p u v) lo) := by
  have hw := minus_ok hv hu
  have ht := minus_ok hp hu
  have hs := minus_ok hp hv
  have g1 := gr_p2 ht
  have g2 := gr_p2 hs
  have mem : ∀ x, x ∈ [gr (minus p u), gr (minus p v)] → 0 < x.2 ∧ (val x = nn (minus p u) ∨ val x = nn (minus p v)) := fun x hx => by
    simp only [List.mem_cons, List.mem_nil_iff, or_false] at hx
    rcases hx with rfl | rfl
    · exact ⟨g1, .inl (gr_val ht)⟩
    · exact ⟨g2, .inr (gr_val hs)⟩
  obtain ⟨pl, vl⟩ := mem l hl.1
  obtain ⟨pm, vm⟩ := mem m hm.1
  have la := (leF_val pl g1).mp (hl.2 _ (.head _))
  have lb := (leF_val pl g2).mp (hl.2 _ (.tail _ (.head _)))
  have ma := (leF_val g1 pm).mp (hm.2 _ (.head _))
  have mb := (leF_val g2 pm).mp (hm.2 _ (.tail _ (.head _)))
  rw [gr_val ht] at la ma
  rw [gr_val hs] at lb mb
  rw [lnr_bes hp hu hv, inF_val pm l0 h0, inF_val g1 l0 h0, inF_val g2 l0 h0, gr_val ht, gr_val hs]
  unfold bes
  by_cases h : 0 < dR (minus v u) (minus p u) ∧ dR (minus v u) (minus p u) < nn (minus v u)
  · rw [if_pos ((bes_cond hw ht).mpr h)]
    have q2 : (minus p u).2.2 * (minus p u).2.2 * ln (minus v u) ≠ 0 := mul_ne (mul_ne ht.ne ht.ne) (ln_ne hw h)
    show (inF (fr _ _) lo hi && _) = (_ && !lessF (fr _ _) lo)
    rw [inF_val (fr_pos q2) l0 h0, lessF_iff (fr_pos q2) l0, bes_val hw ht h, ← decide_not, ← Bool.decide_and, ← Bool.decide_and, ← Bool.decide_and, decide_eq_decide, Rat.not_lt]
    obtain ⟨f1, f2⟩ := foot_le h
    rw [← nn_end hp hu hv] at f2
    generalize cR (minus v u) (minus p u) * cR (minus v u) (minus p u) / nn (minus v u) = b at *
    grind
  · rw [if_neg (fun z => h ((bes_cond hw ht).mp z))]
    show (inF l lo hi && _) = (_ && !lessF (mnF _ _) lo)
    have vmn : val (mnF (gr (minus p u)) (gr (minus p v))) = val l ∧ 0 < (mnF (gr (minus p u)) (gr (minus p v))).2 := by
      unfold mnF
      by_cases c : lessF (gr (minus p v)) (gr (minus p u)) = true
      · rw [if_pos c]
        rw [lessF_iff g2 g1, decide_eq_true_eq, gr_val ht, gr_val hs] at c
        exact ⟨by rw [gr_val hs]; grind, g2⟩
      · rw [if_neg c]
        rw [lessF_iff g2 g1, decide_eq_true_eq, gr_val ht, gr_val hs] at c
        exact ⟨by rw [gr_val ht]; grind, g1⟩
    rw [inF_val pl l0 h0, lessF_iff vmn.2 l0, vmn.1, ← decide_not, ← Bool.decide_and, ← Bool.decide_and, ← Bool.decide_and, decide_eq_decide, Rat.not_lt]
    grind
end Mth
/-! the least and the greatest of distances along parts -/
namespace Mth
def mxF (e0 e1 : Int × Int) : Int × Int := if lessF e0 e1 = true then e1 else e0
def fxr (z u v : T3) : Int × Int := mxF (gr (minus z u)) (gr (minus z v))
theorem less_le {f g : Int × Int} : lessF f g = false ↔ leF g f := by
  unfold lessF leF
  rw [decide_eq_false_iff_not, Int.not_lt]
theorem less_lt {f g : Int × Int} (h : lessF f g = true) : leF f g := by
  unfold lessF at h
  unfold leF
  have := of_decide_eq_true h
  omega
theorem leF_refl (f : Int × Int) : leF f f := Int.le_refl _
theorem mnF_least (e0 e1 : Int × Int) : Least (mnF e0 e1) [e0, e1] := by
  unfold mnF
  cases c : lessF e1 e0 with
  | true =>
    refine ⟨.tail _ (.head _), fun g hg => ?_⟩
    simp only [List.mem_cons, List.mem_nil_iff, or_false] at hg
    rcases hg with rfl | rfl
    · exact less_lt c
    · exact leF_refl _
  | false =>
    refine ⟨.head _, fun g hg => ?_⟩
    simp only [List.mem_cons, List.mem_nil_iff, or_false] at hg
    rcases hg with rfl | rfl
    · exact leF_refl _
    · exact less_le.mp c
theorem mxF_most (e0 e1 : Int × Int) : Most (mxF e0 e1) [e0, e1] := by
  unfold mxF
  cases c : lessF e0 e1 with
  | true =>
    refine ⟨.tail _ (.head _), fun g hg => ?_⟩
    simp only [List.mem_cons, List.mem_nil_iff, or_false] at hg
    rcases hg with rfl | rfl
    · exact less_lt c
    · exact leF_refl _
  | false =>
    refine ⟨.head _, fun g hg => ?_⟩
    simp only [List.mem_cons, List.mem_nil_iff, or_false] at hg
    rcases hg with rfl | rfl
    · exact leF_refl _
    · exact less_le.mp c
theorem gr_isfr {t : T3} (h : Ok t) : IsFr (gr t) := ⟨_, _, mul_ne h.ne h.ne, rfl⟩
theorem two_isfr {z u v : T3} (hz : Ok z) (hu : Ok u) (hv : Ok v) : ∀ x ∈ [gr (minus z u), gr (minus z v)], IsFr x := fun x hx => by
  simp only [List.mem_cons, List.mem_nil_iff, or_false] at hx
  rcases hx with rfl | rfl
  · exact gr_isfr (minus_ok hz hu)
  · exact gr_isfr (minus_ok hz hv)
theorem near_eq {z u v : T3} {l : Int × Int} (hz : Ok z) (hu : Ok u) (hv : Ok v) (hl : Least l [gr (minus z u), gr (minus z v)]) : (bes (minus v u) (minus z u)).getD l = lnr z u v := by
  rw [lnr_bes hz hu hv, least_uniq (two_isfr hz hu hv) hl (mnF_least _ _)]
theorem far_eq {z u v : T3} {m : Int × Int} (hz : Ok z) (hu : Ok u) (hv : Ok v) (hm : Most m [gr (minus z u), gr (minus z v)]) : m = fxr z u v := most_uniq (two_isfr hz hu hv) hm (mxF_most _ _)
theorem lnr_isfr {z u v : T3} (hz : Ok z) (hu : Ok u) (hv : Ok v) : IsFr (lnr z u v) := by
  rw [lnr_bes hz hu hv]
  unfold bes
  have hw := minus_ok hv hu
  have ht := minus_ok hz hu
  split
  · rename_i c
    exact ⟨_, _, mul_ne (mul_ne ht.ne ht.ne) (ln_ne hw ((bes_cond hw ht).mp c)), rfl⟩
  · exact two_isfr hz hu hv _ (mnF_least _ _).1
theorem fxr_isfr {z u v : T3} (hz : Ok z) (hu : Ok u) (hv : Ok v) : IsFr (fxr z u v) := two_isfr hz hu hv _ (mxF_most _ _).1
theorem lnr_same {z u : T3} (hz : Ok z) (hu : Ok u) : lnr z u u = gr (minus z u) := by
  rw [lnr_bes hz hu hu]
  have hw := minus_ok hu hu
  have ht := minus_ok hz hu
  unfold bes
  have e1 : re (minus u u) = 0 := by rw [re_minus hu hu]; grind
  have e2 : im (minus u u) = 0 := by rw [im_minus hu hu]; grind
  rw [if_neg (fun c => by
    have := ((bes_cond hw ht).mp c).1
    unfold dR at this
    rw [e1, e2] at this
    grind)]
  show mnF _ _ = _
  unfold mnF
  split <;> rfl
/-- the law's least and greatest, one after another -/
def lowS (o : Option (Int × Int)) (x : Int × Int) : Int × Int := match o with
  | none => x
  | some l => if lessF x l = true then x else l
def highS (o : Option (Int × Int)) (x : Int × Int) : Int × Int := match o with
  | none => x
  | some l => if lessF l x = true then x else l
def LowI (o : Option (Int × Int)) (xs : List (Int × Int)) : Prop := (xs = [] ∧ o = none) ∨ ∃ f, o = some f ∧ Least f xs
def HighI (o : Option (Int × Int)) (xs : List (Int × Int)) : Prop := (xs = [] ∧ o = none) ∨ ∃ f, o = some f ∧ Most f xs
theorem low_step {o : Option (Int × Int)} {xs : List (Int × Int)} {x : Int × Int} (px : 0 < x.2) (p : ∀ y ∈ xs, 0 < y.2) (h : LowI o xs) : LowI (some (lowS o x)) (xs ++ [x]) := by
  rcases h with ⟨rfl, rfl⟩ | ⟨f, rfl, h1, h2⟩
  · refine .inr ⟨x, rfl, .head _, fun g hg => ?_⟩
    rw [List.mem_singleton.mp hg]
    exact leF_refl _
  · refine .inr ⟨_, rfl, ?_⟩
    unfold lowS
    dsimp only
    have pf := p f h1
    cases c : lessF x f with
    | true =>
      refine ⟨by simp, fun g hg => ?_⟩
      rcases List.mem_append.mp hg with hg | hg
      · exact leF_trans px pf (p g hg) (less_lt c) (h2 g hg)
      · rw [List.mem_singleton.mp hg]
        exact leF_refl _
    | false =>
      refine ⟨by simp [h1], fun g hg => ?_⟩
      rcases List.mem_append.mp hg with hg | hg
      · exact h2 g hg
      · rw [List.mem_singleton.mp hg]
        exact less_le.mp c
theorem high_step {o : Option (Int × Int)} {xs : List (Int × Int)} {x : Int × Int} (px : 0 < x.2) (p : ∀ y ∈ xs, 0 < y.2) (h : HighI o xs) : HighI (some (highS o x)) (xs ++ [x]) := by
  rcases h with ⟨rfl, rfl⟩ | ⟨f, rfl, h1, h2⟩
  · refine .inr ⟨x, rfl, .head _, fun g hg => ?_⟩
    rw [List.mem_singleton.mp hg]
    exact leF_refl _
  · refine .inr ⟨_, rfl, ?_⟩
    unfold highS
    dsimp only
    have pf := p f h1
    cases c : lessF f x with
    | true =>
      refine ⟨by simp, fun g hg => ?_⟩
      rcases List.mem_append.mp hg with hg | hg
      · exact leF_trans (p g hg) pf px (h2 g hg) (less_lt c)
      · rw [List.mem_singleton.mp hg]
        exact leF_refl _
    | false =>
      refine ⟨by simp [h1], fun g hg => ?_⟩
      rcases List.mem_append.mp hg with hg | hg
      · exact h2 g hg
      · rw [List.mem_singleton.mp hg]
        exact less_le.mp c
theorem most_flat {α : Type} {a b : α → Int × Int} {qs : List α} {g : Int × Int} (p : ∀ q ∈ qs, 0 < (a q).2 ∧ 0 < (b q).2) (h : Most g (qs.map fun q => mxF (a q) (b q))) : Most g (qs.flatMap fun q => [a q, b q]) := by
  obtain ⟨h1, h2⟩ := h
  obtain ⟨q, hq, rfl⟩ := List.mem_map.mp h1
  have mem : ∀ q, mxF (a q) (b q) ∈ [a q, b q] := fun q => (mxF_most _ _).1
  have pos : ∀ q ∈ qs, 0 < (mxF (a q) (b q)).2 := fun q hq => by
    have := mem q
    simp only [List.mem_cons, List.mem_nil_iff, or_false] at this
    rcases this with e | e
    · rw [e]; exact (p q hq).1
    · rw [e]; exact (p q hq).2
  refine ⟨List.mem_flatMap.mpr ⟨q, hq, mem q⟩, fun x hx => ?_⟩
  obtain ⟨y, hy, hxy⟩ := List.mem_flatMap.mp hx
  have px : 0 < x.2 := by
    simp only [List.mem_cons, List.mem_nil_iff, or_false] at hxy
    rcases hxy with rfl | rfl
    · exact (p y hy).1
    · exact (p y hy).2
  exact leF_trans px (pos y hy) (pos q hq) ((mxF_most _ _).2 x hxy) (h2 _ (List.mem_map.mpr ⟨y, hy, rfl⟩))
end Mth
namespace My
open PySem L2 Mth
/-! ### a def of the module and its promise -/
structure D (P : Program) (w : World) (K : PySem.W.Frag) (mg : Str → Option Value) (base : Heap) (x : Str) (k : Nat) (sp : Sp) : Prop where
  ex : ∃ f, FnR P w K mg base CX0 k f sp ∧ PySem.W.keepIn K (.ref f) = true ∧ mg x = some (.ref f)
theorem rOf {P : Program} {w : World} {K : PySem.W.Frag} {mg : Str → Option Value} {base : Heap} {CX : CXT} {k : Nat} {f : Addr} {fd : FuncData} {ps : List Str} {sp : Sp} (F : FnOk P w K mg base CX k f fd ps sp) (b : Binds K fd ps []) : FnR P w K mg base CX k f sp := by
  intro A outer s H us vs Q E hr e0 r h
  have KX : K.In s.heap := e0.mod.kin.keeps fun b o e => (e0.bs b o e).1
  have hl : us.length = ps.length := by rw [← r.length]; exact F.len _ _ _ _ h
  have z := b s us KX (by rw [List.append_nil]; exact hl)
  rw [List.append_nil] at z
  exact F.run A outer s H ⟨us, []⟩ us vs Q E hr e0 z r h
def tCl (sp : Sp) (t : TA) : TE := fun σ H Q => t σ H fun vs H1 => sp vs H1 Q E0
section
variable {X : Cx} {k : Nat} {f : Addr} {sp : Sp} {x : Str} {e : Expr} {es : List Expr} {t : TA} {p pos : Pos}
theorem pcR (F : FnR X.prog X.w X.K X.mg X.base CX0 k f sp) (hr : Room k X.A) (hk : PySem.W.keepIn X.K (.ref f) = true) (hm : X.mg x = some (.ref f)) (ha : PA X (e :: es) t) (hg : Gl X x := by rfl) (hd : (x == ("__debug__" : Str)) = false := by decide)
    (he : starEach (e :: es) X.env = (false, eval e X.env) :: starEach es X.env := by rfl) (hpl : (backTo pos (starEach es X.env)).any (·.1) = false := by rfl) :
    PE X (.Call (.Name x p) (e :: es) [] pos) (tCl sp t) := by
  refine ⟨fun pins s σ H Q I h => ?_⟩
  refine wpAny_Call_Name_kw (ld_glob I hg hm ?_ hd)
  refine PySem.W.callWith_K (h₀ := X.base) I.ok.mod.kin hk (thn (ha.run pos pins s σ H _ I h) fun us s1 ⟨vs, H1, I1, r, q⟩ => ⟨I1.kIn, ?_⟩) he hpl
  exact wpAny_call (run_fnR F hr pass0 I1 r q)
/-- f(e, ..) by the promise of f -/
theorem pc (d : D X.prog X.w X.K X.mg X.base x k sp) (hr : Room k X.A) (ha : PA X (e :: es) t) (hg : Gl X x := by rfl) (hd : (x == ("__debug__" : Str)) = false := by decide)
    (he : starEach (e :: es) X.env = (false, eval e X.env) :: starEach es X.env := by rfl) (hpl : (backTo pos (starEach es X.env)).any (·.1) = false := by rfl) :
    PE X (.Call (.Name x p) (e :: es) [] pos) (tCl sp t) := by
  obtain ⟨f, F, hk, hm⟩ := d.ex
  exact pcR F hr hk hm ha hg hd he hpl
end
section
variable {X : Cx} {k : Nat} {sp : Sp} {x : Str} {p pos : Pos}
/-- f() by the promise of f -/
theorem pc0 (d : D X.prog X.w X.K X.mg X.base x k sp) (hr : Room k X.A) (hg : Gl X x := by rfl) (hd : (x == ("__debug__" : Str)) = false := by decide) : PE X (.Call (.Name x p) [] [] pos) (tCl sp tNil) := by
  obtain ⟨f, F, hk, hm⟩ := d.ex
  refine ⟨fun pins s σ H Q I h => ?_⟩
  refine wpAny_Call_Name_kw (ld_glob I hg hm ?_ hd)
  exact PySem.W.callWith_K0 I.kIn hk (wpAny_call (run_fnR (us := []) (vs := []) F hr pass0 I .nil h))
end
/-! ### operators of own classes -/
def rOwn2 (C : Addr) (sp : Sp) : R2 := fun x y H Q => ∃ a b dx fs dy gs, x = .ref a ∧ y = .ref b ∧ H a = some (.ins C dx fs) ∧ H b = some (.ins C dy gs) ∧ sp [x, y] H Q E0
def rOwn1 (C : Addr) (sp : Sp) : V → Hp → VK → Prop := fun x H Q => ∃ a dx fs, x = .ref a ∧ H a = some (.ins C dx fs) ∧ sp [x] H Q E0
section
variable {X : Cx} {k : Nat} {f C : Addr} {sp : Sp}
theorem back_of {pins : List (Addr × Obj)} {σ : L2.St} {Q : VK} {v : Value} {s' : Shared} (h : EP X pins σ Q v s') : PySem.W.CmpBack (EP X pins σ Q) v s' := by
  have h0 := h
  obtain ⟨z, H', I', rz, q⟩ := h
  cases v <;> first | exact h0 | (exfalso; cases z <;> first | (obtain ⟨t, e⟩ := rz; cases e) | cases rz)
theorem op_own {op : Operator} (F : FnR X.prog X.w X.K X.mg X.base CX0 k f sp) (hr : Room k X.A) (hc : PySem.W.selfFirst X.K C = true)
    (hs : PySem.W.findIn X.K (.ref C) (PySem.dunder op.info.2) = some (some (.ref f))) (hf : PySem.W.isFn X.K (.ref f) = true) : OpR X (binaryOp op) (rOwn2 C sp) := by
  intro pins s σ H x y v u Q I rx ry hq
  obtain ⟨a, b, dx, fs, dy, gs, rfl, rfl, ha, hb', q⟩ := hq
  cases rx
  cases ry
  obtain ⟨mA, J, _⟩ := ins_get I.hok ha
  obtain ⟨mB, J', _⟩ := ins_get I.hok hb'
  obtain ⟨od, J, _⟩ := J.look
  obtain ⟨od', J', _⟩ := J'.look
  obtain ⟨m, hF⟩ := I.fr
  refine PySem.W.binop_K hF I.ok.mod.kin J J'.type hc hs hf ?_
  exact wpAny_mono (wpAny_call (run_fnR (us := [.ref a, .ref b]) (vs := [V.ref a, V.ref b]) F hr pass0 I (.cons rfl (.cons rfl .nil)) q)) (fun v s' h => back_of h) fun _ _ z => z
theorem un_own (F : FnR X.prog X.w X.K X.mg X.base CX0 k f sp) (hr : Room k X.A)
    (hs : PySem.W.findIn X.K (.ref C) "__invert__" = some (some (.ref f))) (hf : PySem.W.isFn X.K (.ref f) = true) : UnR X (unaryOp .Invert) (rOwn1 C sp) := by
  intro pins s σ H x v Q I rx hq
  obtain ⟨a, dx, fs, rfl, ha, q⟩ := hq
  cases rx
  obtain ⟨mA, J, _⟩ := ins_get I.hok ha
  obtain ⟨od, J, _⟩ := J.look
  obtain ⟨m, hF⟩ := I.fr
  refine PySem.W.ksp_inv hF I.ok.mod.kin J hs hf ?_
  exact wpAny_call (run_fnR (us := [.ref a]) (vs := [V.ref a]) F hr pass0 I (.cons rfl .nil) q)
theorem eq_own (F : FnR X.prog X.w X.K X.mg X.base CX0 k f sp) (hr : Room k X.A)
    (hs : PySem.W.findIn X.K (.ref C) "__eq__" = some (some (.ref f))) (hf : PySem.W.isFn X.K (.ref f) = true) : OpR X (compareOp .Eq) (rOwn2 C sp) := by
  intro pins s σ H x y v u Q I rx ry hq
  obtain ⟨a, b, dx, fs, dy, gs, rfl, rfl, ha, hb', q⟩ := hq
  cases rx
  cases ry
  obtain ⟨mA, J, _⟩ := ins_get I.hok ha
  obtain ⟨mB, J', _⟩ := ins_get I.hok hb'
  obtain ⟨od, J, _⟩ := J.look
  obtain ⟨od', J', _⟩ := J'.look
  obtain ⟨m, hF⟩ := I.fr
  show wpAny (model X.prog X.w) X.A (richCompare .Eq (.ref a) (.ref b)) (EP X pins σ Q) X.xe s
  refine PySem.W.cmp_K (op := .Eq) (tb := .ref C) hr.units0 hF I.ok.mod.kin J J'.type (by simp [PySem.W.notFirst]) hs hf ?_
  exact wpAny_mono (wpAny_call (run_fnR (us := [.ref a, .ref b]) (vs := [V.ref a, V.ref b]) F hr pass0 I (.cons rfl (.cons rfl .nil)) q)) (fun v s' h => back_of h) fun _ _ z => z
end
/-! ### // by a number of any sign -/
def CDivX (_ j : Int) : Prop := j ≠ 0 ∧ j.natAbs.log2 < 9000
theorem op_fdivX {X : Cx} : OpR X (binaryOp .FloorDiv) (rI CDivX fun i j => .int (i.fdiv j)) := opI fun i j _ _ _ _ _ hc q =>
  PyProof.Rows.floordiv_int hc.1 q (.inl (PyProof.noPylong_of_log2 hc.2))
theorem divX {i j : Int} {b : Nat} (h : j ≠ 0) (hb : j.natAbs < 2 ^ b) (h0 : 0 < b) (h9 : b ≤ 9000) : CDivX i j := ⟨h, Nat.lt_of_lt_of_le (PySem.Flt.log2_lt_of h0 hb) h9⟩
/-! ### tuples of three ints -/
def v3 (s : T3) : List V := [.int s.1, .int s.2.1, .int s.2.2]
def IsT (K : PySem.W.Frag) (H : Hp) (v : V) (s : T3) : Prop := ∃ p, v = .ref p ∧ SqT K H p (v3 s)
theorem same_T {K : PySem.W.Frag} {H H' : Hp} {a : Addr} {xs : List V} (e : Same H H') (h : SqT K H a xs) : SqT K H' a xs := SqT.ext h e
theorem IsT.same {K : PySem.W.Frag} {H H' : Hp} {v : V} {s : T3} (h : IsT K H v s) (e : Same H H') : IsT K H' v s := by
  obtain ⟨p, rfl, q⟩ := h
  exact ⟨p, rfl, same_T e q⟩
theorem same_new {H : Hp} {p : Addr} (h : H p = none) (o : HO) : Same H (upd H p o) := fun b u q => by rw [upd_ne (ne_of_none q h)]; exact q
theorem IsT.new {K : PySem.W.Frag} {H : Hp} {p : Addr} {a b c : Int} : IsT K (upd H p (.tup [.int a, .int b, .int c])) (.ref p) (a, b, c) := ⟨p, rfl, .inl (.inl upd_same)⟩
theorem yes_of {σ : St} {H : Hp} {A B : Hp → Prop} (h : A H) : tYes σ H (fun b H3 => if b = true then A H3 else B H3) := by
  show if true = true then A H else B H
  rw [if_pos rfl]
  exact h
/-! ### displays of tuples of three written ints -/
def tT3 (K : PySem.W.Frag) (t : T3) : TE := fun _ H Q => ∀ H' p, Same H H' → SqT K H' p (v3 t) → Q (.ref p) H'
def tTups (K : PySem.W.Frag) (ts : List T3) : TA := fun _ H Q => ∀ H' (ps : List Addr), Same H H' → Paired (fun p t => SqT K H' p (v3 t)) ps ts → Q (ps.map V.ref) H'
theorem paT0 {X : Cx} : PA X [] (tTups X.K []) := ⟨fun pos pins s σ H Q I h => (pa_nil (X := X)).run pos pins s σ H Q I (h H [] (Same.refl _) .nil)⟩
theorem paT {X : Cx} {e : Expr} {es : List Expr} {te : TE} {t : T3} {ts : List T3} (he : PE X e te) (hi : ∀ σ H Q, tT3 X.K t σ H Q → te σ H Q) (hr : PA X es (tTups X.K ts))
    (hs : starEach (e :: es) X.env = (false, eval e X.env) :: starEach es X.env := by rfl) : PA X (e :: es) (tTups X.K (t :: ts)) :=
  ⟨fun pos pins s σ H Q I h => (pa_cons he hr hs).run pos pins s σ H Q I (hi σ H _ fun H1 p s1 h1 => fun H2 ps s2 h2 => h H2 (p :: ps) (s1.trans s2) (.cons (same_T s2 h1) h2))⟩
/-! ### all is kept but one list -/
def Keep (d : Addr) (H H' : Hp) : Prop := ∀ b o, b ≠ d → H b = some o → H' b = some o
theorem Keep.of {d : Addr} {H H' : Hp} (s : Same H H') : Keep d H H' := fun b o _ e => s b o e
theorem Keep.trans {d : Addr} {H H1 H2 : Hp} (a : Keep d H H1) (b : Keep d H1 H2) : Keep d H H2 := fun c o n e => b c o n (a c o n e)
theorem keep_upd {d : Addr} {H : Hp} {o : HO} : Keep d H (upd H d o) := fun b u n e => by rw [upd_ne n]; exact e
theorem keep_T {K : PySem.W.Frag} {H H' : Hp} {d p : Addr} {xs ys : List V} (h : SqT K H p xs) (hd : H d = some (.lst ys)) (k : Keep d H H') : SqT K H' p xs := by
  rcases h with (h | ⟨o, h⟩) | h
  · exact .inl (.inl (k _ _ (ne_of h hd (by intro z; cases z)) h))
  · exact .inl (.inr ⟨o, k _ _ (ne_of h hd (by intro z; cases z)) h⟩)
  · exact .inr h
theorem IsT.keep {K : PySem.W.Frag} {H H' : Hp} {v : V} {s : T3} {d : Addr} {ys : List V} (h : IsT K H v s) (hd : H d = some (.lst ys)) (k : Keep d H H') : IsT K H' v s := by
  obtain ⟨p, rfl, q⟩ := h
  exact ⟨p, rfl, keep_T q hd k⟩
/-! ### two ways that meet -/
theorem seq_join {t u : TS} {D : Ends} {σ : St} {H : Hp} (W : St → Hp → Prop) (k : ∀ σ' H', W σ' H' → u D σ' H') (h : ∀ D' : Ends, D'.rt = D.rt → (∀ σ' H', W σ' H' → D'.nx σ' H') → t D' σ H) : tSeq t u D σ H := h { D with nx := u D } rfl k
theorem exp_join {t : TT} {ta tb : TE} {σ : St} {H : Hp} {Q : VK} (W : V → Hp → Prop) (k : ∀ v H', W v H' → Q v H') (h : ∀ Q' : VK, (∀ v H', W v H' → Q' v H') → tIf t ta tb σ H Q') : tIf t ta tb σ H Q := h Q k
theorem small {n : Nat} (h : n ≤ 1000) : n ≤ sizeLine := Nat.le_of_lt (small1000 h)
end My
namespace My
open PySem L2 Mth LamX
/-! ### list.count of flat items -/
section
variable {X : Cx}
def rCount (K : PySem.W.Frag) : V → List V → Hp → VK → Prop := fun x xs H Q => ∃ (a : Addr) (ys : List V) (y : V), x = V.ref a ∧ xs = [y] ∧ SqL K H a ys ∧ flatV y = true ∧ ys.all flatV = true ∧ Q (.int ((ys.countP fun z => eqV z y) : Nat)) H
theorem count_eqU {y : V} : ∀ {ys : List V} {us : List Value}, Vals ys us → ys.all flatV = true → us.countP (eqU y) = ys.countP fun z => eqV z y
  | _, _, .nil, _ => rfl
  | z :: ys, u :: us, .cons r rs, f => by
    rw [List.all_cons, Bool.and_eq_true] at f
    rw [List.countP_cons, List.countP_cons, count_eqU rs f.2, eqU_of r f.1]
theorem mt_count : MtR X "list.count" (rCount X.K) := by
  intro pins s σ H x xs v us Q I rx rxs h
  obtain ⟨a, ys, y, rfl, rfl, hs, fy, fys, q⟩ := h
  cases rx
  cases rxs with
  | cons ry rt =>
    rename_i uy ut
    cases rt
    obtain ⟨its, rv, ⟨⟨cls, dd, data, sl⟩, n, ho, hc, hdn, hd⟩, hlen⟩ := I.list hs
    simp only at hc hd
    subst hc hd
    refine call_meets PySem.F.slot_list_count ⟨_, ho, rfl⟩ PySem.F.entry_list_count (PySem.F.args_list_count_2 _ _)
      (SeqAt.list_countAt a its.toArray n dd sl uy (eqU y)) ⟨ho, fun u' hu' => mem_eqAt ry fy rv fys u' (by simpa using hu'), ?_⟩
    have ec : its.toArray.toList.countP (eqU y) = ys.countP fun z => eqV z y := count_eqU rv fys
    refine ⟨.int ((ys.countP fun z => eqV z y) : Nat), H, I.tok _, ⟨s.toks, ?_⟩, q⟩
    show Value.int ((its.toArray.toList.countP (eqU y) : Nat) : Int) s.toks = _
    rw [ec]
end
/-! ### what is never asked -/
def tNev : TE := fun _ _ _ => False
theorem pe_nev {X : Cx} {e : Expr} : PE X e tNev := ⟨fun _ _ _ _ _ _ h => h.elim⟩
/-! ### the kinds of a caught error -/
def tIs (a : Addr) (i : Nat) (bs : List Bool) : TA := fun σ H Q => σ[i]? = some (some (.ref a)) ∧ Q (bs.map V.bl) H
section
variable {X : Cx} {a D : Addr} {oe : Obj} {pn : List (Addr × Obj)} {i : Nat}
theorem paIs0 : PA (X.suite a ((a, oe) :: pn)) [] (tIs a i []) := ⟨fun pos pins s σ H Q I h => (pa_nil (X := X.suite a ((a, oe) :: pn))).run pos pins s σ H Q I h.2⟩
theorem paIs {x n : Str} {p p1 p2 pos : Pos} {C : Addr} {b : Bool} {bs : List Bool} {es : List Expr} (EC : ExcC X.K D) (hz : Zc (.ref D) none oe) (hf : ∃ vs, oe.data = .fields vs) (hk : PySem.W.kitOne X.K (.ref D) (.ref C) = some b)
    (hm : X.mg x = some (.ref C)) (bi : X.mg "isinstance" = none) (hg : Gl X x) (hgi : Gl X "isinstance") (hd : (x == ("__debug__" : Str)) = false) (hN : X.N[i]? = some n) (hv : Vis X.env.scope n) (hnd : (n == ("__debug__" : Str)) = false) (hnc : (n == ("__classdict__" : Str)) = false)
    (hr : PA (X.suite a ((a, oe) :: pn)) es (tIs a i bs))
    (hs : starEach ((.Call (.Name "isinstance" p) [.Name n p1, .Name x p2] [] pos) :: es) X.env = (false, eval (.Call (.Name "isinstance" p) [.Name n p1, .Name x p2] [] pos) X.env) :: starEach es X.env := by rfl)
    (he : starEach (.Name n p1 :: [.Name x p2]) X.env = (false, eval (.Name n p1) X.env) :: starEach [.Name x p2] X.env := by rfl) :
    PA (X.suite a ((a, oe) :: pn)) ((.Call (.Name "isinstance" p) [.Name n p1, .Name x p2] [] pos) :: es) (tIs a i (b :: bs)) := by
  have h1 : PE (X.suite a ((a, oe) :: pn)) (.Call (.Name "isinstance" p) [.Name n p1, .Name x p2] [] pos) (tCB (rIsE X.K D a) (tCons (tVar i) (tCons (tC (.ref C)) tNil))) :=
    pe_callB (call_isE EC hz hf) hgi bi (by decide +kernel) (pa_cons (pe_var hN hv hnd hnc) (pa_cons (pe_glob (v := .ref C) hg hm rfl hd) pa_nil rfl) he) (by decide) (by decide) rfl rfl
  refine ⟨fun pos' pins s σ H Q I h => (pa_cons h1 hr hs).run pos' pins s σ H Q I ?_⟩
  exact ⟨_, h.1, .ref C, .ref C, b, rfl, fun u r => r, hk, h.1, h.2⟩
end
end My
namespace My
open PySem L2 Mth PyProof.Rows
/-! ### a op b op c op d as a test -/
def tChain3 (r r' r'' : R2) (ta tb tc td : TE) : TE := fun σ H Q => ta σ H fun x H1 => tb σ H1 fun y H2 => r x y H2 fun z H3 => ∃ k, z = .bl k ∧
  (if k = true then tc σ H3 fun w' H4 => r' y w' H4 fun z' H5 => ∃ k', z' = .bl k' ∧ (if k' = true then td σ H5 fun u' H6 => r'' w' u' H6 Q else Q (.bl false) H5) else Q (.bl false) H3)
theorem pt_chain3 {X : Cx} {a b c d : Expr} {ta tb tc td : TE} {pos : Pos} {op op' op'' : CmpOp} {r r' r'' : R2} (ho : OpR X (compareOp op) r) (ho' : OpR X (compareOp op') r') (ho'' : OpR X (compareOp op'') r'') (ha : PE X a ta) (hb : PE X b tb) (hc : PE X c tc) (hd : PE X d td)
    (hm : lastMarks [op, op', op''] [b, c, d] = false := by with_unfolding_all rfl) : PT X (.Compare a [op, op', op''] [b, c, d] pos) (tTest (tChain3 r r' r'' ta tb tc td)) := by
  refine ⟨fun pins s σ H Q I h => ?_⟩
  refine isTrue_chain (thn (ha.run pins s σ H _ I h) fun v s1 ⟨x, H1, I1, r1, q1⟩ => test_link (thn (hb.run pins s1 σ H1 _ I1 q1) fun u s2 ⟨y, H2, I2, r2, q2⟩ =>
    thn (ho pins s2 σ H2 x y v u _ I2 r1 r2 q2) fun e s3 ⟨z, H3, I3, r3, k, ek, q3⟩ => ?_)) hm
  subst ek
  cases r3
  refine wpAny_truthy_bool ?_
  cases k with
  | false =>
    obtain ⟨k', e', q'⟩ := q3
    cases e'
    exact ite_ff ⟨H3, I3, q'⟩
  | true =>
    refine ite_tt (test_link (thn (hc.run pins s3 σ H3 _ I3 q3) fun w' s4 ⟨z', H4, I4, r4, q4⟩ => thn (ho' pins s4 σ H4 y z' u w' _ I4 r2 r4 q4) fun d' s5 ⟨z2, H5, I5, r5, k2, e2, q5⟩ => ?_))
    subst e2
    cases r5
    refine wpAny_truthy_bool ?_
    cases k2 with
    | false =>
      obtain ⟨k', e', q'⟩ := q5
      cases e'
      exact ite_ff ⟨H5, I5, q'⟩
    | true =>
      refine ite_tt (test_last (thn (hd.run pins s5 σ H5 _ I5 q5) fun w2 s6 ⟨z3, H6, I6, r6, q6⟩ => thn (ho'' pins s6 σ H6 z' z3 w' w2 _ I6 r4 r6 q6) fun d3 s7 ⟨z4, H7, I7, r7, k3, e3, q7⟩ => ?_))
      subst e3
      cases r7
      exact wpAny_truthy_bool ⟨H7, I7, q7⟩
/-! ### instances made with no argument, with a starred one -/
section
variable {X : Cx} {k : Nat} {f C : Addr} {sp : Sp} {x : Str} {p pos sp_ : Pos} {e : Expr} {te : TE}
theorem pe_makeR0 (M : Mk X.K C f) (F : FnR X.prog X.w X.K X.mg X.base CX0 k f sp) (hr : Room (k + 1) X.A) (hg : Gl X x) (hm : X.mg x = some (.ref C)) (hdb : (x == ("__debug__" : Str)) = false := by decide) : PE X (.Call (.Name x p) [] [] pos) (StX.tMakeR C sp E0 tNil) := by
  refine ⟨fun pins s σ H Q I h => ?_⟩
  refine wpAny_Call_Name_kw (ld_glob I hg hm ?_ hdb)
  exact PySem.W.callWith_K0 I.kIn M.kp (StX.run_makeR (us := []) M F hr pass0 I .nil h)
def tMakeS (K : PySem.W.Frag) (C : Addr) (sp : Sp) (te : TE) : TE := fun σ H Q => te σ H fun y H1 => ∃ a xs, y = V.ref a ∧ (SqT K H1 a xs ∨ SqL K H1 a xs) ∧ ∀ x dx, H1 x = Option.none → H1 dx = Option.none → dx ≠ x →
  sp (V.ref x :: xs) (upd (upd H1 dx (.own x)) x (.ins C dx [])) (fun v H2 => v = .non ∧ Q (.ref x) H2) E0
theorem pe_makeS (M : Mk X.K C f) (F : FnR X.prog X.w X.K X.mg X.base CX0 k f sp) (hr : Room (k + 1) X.A) (hg : Gl X x) (hm : X.mg x = some (.ref C)) (he : PE X e te) (hdb : (x == ("__debug__" : Str)) = false := by decide)
    (hst : starEach [.Starred e sp_] X.env = [(true, eval e X.env)] := by rfl) : PE X (.Call (.Name x p) [.Starred e sp_] [] pos) (tMakeS X.K C sp te) := by
  refine ⟨fun pins s σ H Q I h => ?_⟩
  refine wpAny_Call_Name_kw (ld_glob I hg hm ?_ hdb)
  refine PySem.W.callWith_S (h₀ := X.base) I.ok.mod.kin M.kp (thn (he.run pins s σ H _ I h) fun v s1 ⟨y, H1, I1, ry, a, xs, ey, hxs, q⟩ => ?_) hst
  subst ey
  obtain rfl : v = Value.ref a := ry
  exact StX.star_any I1 hxs fun us s2 I2 rv => ⟨I2.kIn, StX.run_makeR M F hr pass0 I2 rv q⟩
end
/-! ### properties that tell a field -/
structure MPf (P : Program) (w : World) (K : PySem.W.Frag) (mg : Str → Option Value) (base : Heap) (C : Addr) (x f : Str) : Prop where
  cl : Cls K C
  ex : ∃ g fd p, FnOk P w K mg base CX0 1 g fd ["self"] (getSp C f) ∧ Binds K fd ["self"] [] ∧ PropOf K C x p g
theorem pe_pf {X : Cx} {C : Addr} {x f : Str} {e : Expr} {te : TE} {pos : Pos} (M : MPf X.prog X.w X.K X.mg X.base C x f) (hr : Room 2 X.A) (he : PE X e te) (hab : attributeBase e x X.env (eval e X.env) = eval e X.env := by rfl) : PE X (.Attribute e x pos) (tProp C (getSp C f) [] E0 te) := by
  obtain ⟨g, fd, p, F, b, hp⟩ := M.ex
  exact pe_prop he M.cl hp F hr b .nil pass0 hab
theorem pf_of {C p dx : Addr} {H : Hp} {Q : VK} {fs : List (Str × V)} {f : Str} {z : V} (h : H p = some (.ins C dx fs)) (l : fs.lookup f = some z) (q : Q z H) : ∃ a dx fs, V.ref p = .ref a ∧ H a = some (.ins C dx fs) ∧ getSp C f (.ref a :: []) H Q E0 :=
  ⟨p, dx, fs, rfl, h, p, dx, fs, z, rfl, h, l, q⟩
/-! ### fields -/
theorem putF_len (x : Str) (v : V) : ∀ fs : List (Str × V), (putF x v fs).length ≤ fs.length + 1
  | [] => Nat.le_refl _
  | (y, u) :: fs => by
    unfold putF
    split
    · simp
    · have := putF_len x v fs
      simp only [List.length_cons]
      omega
/-- all is kept but an instance that is being made -/
theorem keepI_T {K : PySem.W.Frag} {H H' : Hp} {d p C dx : Addr} {fs : List (Str × V)} {xs : List V} (h : SqT K H p xs) (hd : H d = some (.ins C dx fs)) (k : Keep d H H') : SqT K H' p xs := by
  rcases h with (h | ⟨o, h⟩) | h
  · exact .inl (.inl (k _ _ (ne_of h hd (by intro z; cases z)) h))
  · exact .inl (.inr ⟨o, k _ _ (ne_of h hd (by intro z; cases z)) h⟩)
  · exact .inr h
/-! ### a def with a star parameter behind its others -/
theorem fun_star {P : Program} {w : World} {K : PySem.W.Frag} {mg : Str → Option Value} {base : Heap} {x qual : Str} {st : Stmt} {f : Addr} {fd : FuncData} {N ps : List Str} {pv : Str} {k : Nat} {sp : Sp} (F : Fun K x qual st f fd) (S : FnScope N (ps ++ [pv]) (defScope st))
    (hb : ∀ (kV doc pm : Value) (an : Option Addr) (cdv ct : Value) (us rest : List Value), us.length = ps.length → bindArgs (PySem.W.fnOf x qual (defArgs st) (defBody st) (defScope st) .none kV doc pm an cdv ct) ⟨us ++ rest, []⟩ = (newTuple rest >>= fun t => pure (ps.zip us ++ [(pv, t)])))
    (hbody : ∀ (cdv : Value) (A : Around) (outer : List Env) (s : Shared) (H : Hp) (vs : List V) (Q : VK) (E : XK), Room k (A.deeper (envOfC qual (defScope st) s.heap.objs.size f cdv)) → sp vs H Q E →
      ∃ t, PSs (cxOf CX0 P w K mg base N qual (defScope st) f cdv A outer s H E).nox (defBody st) t ∧ t { nx := fun _ H' => Q .non H', rt := Q } (start N vs) H) :
    FnR P w K mg base CX0 (k + 1) f (fun vs H Q E => ∃ ws rest, vs = ws ++ rest ∧ ws.length = ps.length ∧ rest.length ≤ sizeLine ∧ ∀ p, H p = Option.none → sp (ws ++ [V.ref p]) (upd H p (.tup rest)) Q E) := by
  obtain ⟨oc, od, kV, doc, pm, an, cdv, ct, osl, rfl, lk, hcd⟩ := F.ex
  refine StX.fn_star lk hcd S StX.cxUp_none (hb kV doc pm an cdv ct) fun A outer s H vs Q E hr hsp => ?_
  obtain ⟨t, h, q⟩ := hbody cdv A outer s H vs Q E hr hsp
  exact ⟨t, h.nox, q⟩
end My
namespace My
open PySem PySem.Spec PyProof.Rows L2 TS
/-! ### sorted(a set of tuples of ints of any sign): how many there are -/
/-- ints of any sign, ranked -/
def rkS (B : Int) (ns : List Int) : Int := code (2 * B) (ns.map (· + B))
def SdS (B : Int) (ns : List Int) : Prop := ∀ m ∈ ns, -B ≤ m ∧ m < B
theorem SdS.up {B : Int} {ns : List Int} (h : SdS B ns) : Bd (2 * B) (ns.map (· + B)) := fun m hm => by
  obtain ⟨k, hk, rfl⟩ := List.mem_map.mp hm
  have := h k hk
  constructor <;> omega
theorem SdS.tl {B k : Int} {ns : List Int} (h : SdS B (k :: ns)) : SdS B ns := fun m hm => h m (List.mem_cons_of_mem _ hm)
theorem rkS_lt {B k l : Int} {ns ms : List Int} (e : ns.length = ms.length) (h1 : SdS B ns) (h2 : SdS B ms) (h : k < l) : rkS B (k :: ns) < rkS B (l :: ms) :=
  code_lt (by rw [List.length_map, List.length_map]; exact e) h1.up h2.up (show k + B < l + B by omega)
theorem rkS_eq {B k : Int} {ns ms : List Int} (e : ns.length = ms.length) : rkS B (k :: ns) < rkS B (k :: ms) ↔ rkS B ns < rkS B ms := code_same (by rw [List.length_map, List.length_map]; exact e)
section
variable {prog : Program} {w : World} {A : Around} {E : Value → Shared → Prop} {s : Shared}
theorem lexS {Q : Bool → Shared → Prop} {B : Int} {c : Bool} {us : List Value} {ns : List Int} (hu : IntsAre us ns) : ∀ {ws : List Value} {ms : List Int} (j : Nat), IntsAre ws ms → ns.length = ms.length → SdS B ns → SdS B ms → Q (decide (rkS B ns < rkS B ms)) s → PySem.W.KatLex prog w A c false Q (us.zip ws) j s := by
  induction hu with
  | nil =>
    intro ws ms j hw hl _ _ q
    cases hw with
    | nil =>
      rw [decide_eq_false (Int.lt_irrefl _)] at q
      exact PySem.W.kat_nil q
    | cons _ _ _ => cases hl
  | @cons k tk us ns hu ih =>
    intro ws ms j hw hl b1 b2 q
    cases hw with
    | nil => cases hl
    | @cons l tl ws ms hw =>
      have el : ns.length = ms.length := Nat.succ.inj hl
      show PySem.W.KatLex prog w A c false Q ((.int k tk, .int l tl) :: us.zip ws) j s
      refine PySem.W.kat_cons (wpAny_eqBool_int ?_)
      by_cases same : k = l
      · subst same
        rw [decide_eq_decide.mpr (rkS_eq el)] at q
        rw [beq_self_eq_true]
        exact PySem.W.kat_yes (ih (j + 1) hw el b1.tl b2.tl q)
      · have er : decide (rkS B (k :: ns) < rkS B (l :: ms)) = decide (k < l) := decide_eq_decide.mpr ⟨fun y => by
            rcases Int.lt_or_gt_of_ne same with z | z
            · exact z
            · have := rkS_lt el.symm b2.tl b1.tl z
              omega, rkS_lt el b1.tl b2.tl⟩
        rw [er] at q
        rw [beq_eq_false_iff_ne.mpr same]
        exact PySem.W.kat_no (oneLt_ints _ q)
/-- tuples of d ints each -/
def TupsS (h : Heap) (d : Nat) (B : Int) (us : List Value) : Prop := ∀ u ∈ us, ∃ ns, TupInts h u ns ∧ ns.length = d + 1 ∧ SdS B ns
theorem headsS {h : Heap} {d : Nat} {B : Int} : ∀ us : List Value, TupsS h d B us → ∃ fs, PySem.W.KatTups h us fs ∧ fs.length = us.length ∧ ∀ y ∈ fs, ∃ k t, y = Value.int k t
  | [], _ => ⟨[], .nil, rfl, fun y hy => nomatch hy⟩
  | u :: us, T => by
    obtain ⟨fs, k1, k2, k3⟩ := headsS us fun z hz => T z (List.mem_cons_of_mem _ hz)
    obtain ⟨ns, ⟨a, arr, rfl, ⟨ob, g1, g2, m, g3⟩, ia⟩, ln, _⟩ := T u List.mem_cons_self
    cases ea : arr.toList with
    | nil =>
      rw [ea] at ia
      have := ia.length
      rw [ln] at this
      cases this
    | cons z zs =>
      obtain ⟨k, t, ez⟩ := ia.all z (by rw [ea]; exact List.mem_cons_self)
      have e0 : arr[0]? = some z := by
        rw [← Array.getElem?_toList, ea]; rfl
      refine ⟨z :: fs, .cons g1 g2 g3 e0 k1, congrArg Nat.succ k2, fun y hy => ?_⟩
      cases hy with
      | head => exact ⟨k, t, ez⟩
      | tail _ hy => exact k3 y hy
theorem TupsS.up {h h' : Heap} {d : Nat} {B : Int} {us : List Value} (T : TupsS h d B us) (k : ∀ b o, h.get? b = some o → o.cls = .type "tuple" → h'.get? b = some o) : TupsS h' d B us := fun u hu => by
  obtain ⟨ns, t, r⟩ := T u hu
  exact ⟨ns, t.keeps k, r⟩
theorem kindS {d : Nat} {B : Int} {us : List Value} {Q : SortKind → Shared → Prop} (two : 2 ≤ us.length) (T : TupsS s.heap d B us) (q : ∀ κ, Cmp prog w A s κ (pairsOf us) (fun u => rkS B (intsOf s.heap u)) → Q κ s) : wpAny (model prog w) A (keyKind' us.toArray) Q E s := by
  obtain ⟨fs, k1, k2, k3⟩ := headsS us T
  refine PySem.W.kat_kind (T := Value.type "int") k1 (by omega) (fun y hy => ?_) rfl (q _ fun x y hx hy Q2 E2 q2 => ?_)
  · obtain ⟨k, t, rfl⟩ := k3 y hy
    exact .of_pure rfl
  rw [pairsOf_toList] at hx hy
  obtain ⟨ns, tx, lx, bx⟩ := T _ (mem_zip_self hx).2
  obtain ⟨ms, ty, ly, by_⟩ := T _ (mem_zip_self hy).2
  have q2 : Q2 (decide (rkS B (intsOf s.heap x.1) < rkS B (intsOf s.heap y.1))) s := q2
  rw [tx.ints, ty.ints] at q2
  obtain ⟨a1, r1, f1, ⟨o1, u1, u2, m1, u3⟩, j1⟩ := tx
  obtain ⟨a2, r2, f2, ⟨o2, v1, v2, m2, v3⟩, j2⟩ := ty
  have sz : decide (r1.size < r2.size) = false := decide_eq_false (by have n1 := j1.length; have n2 := j2.length; rw [Array.length_toList] at n1 n2; omega)
  rw [f1, f2]
  refine PySem.W.kat_lt u1 u3 v1 v3 ?_
  rw [sz]
  exact lexS j1 0 j2 (by omega) bx by_ q2
theorem sortS {l : Addr} {us : List Value} {n d : Nat} {B : Int} {Q : Value → Shared → Prop} (ho : s.heap.get? l = some (seqObj "list" us.toArray n)) (few : us.length < 64) (T : TupsS s.heap d B us)
    (q : ∀ out : Array Value, out.toList.Perm us → Q .none { s with heap := sortedHeap s.heap l us out }) : wpAny (model prog w) A (call (.builtin "list.sort") [.ref l]) Q E s := by
  have nl : ∀ b o, s.heap.get? b = some o → o.cls = .type "tuple" → b ≠ l := fun b o e hc z => by
    rw [z, ho] at e
    rw [← Option.some.inj e] at hc
    have hc : Value.type "list" = Value.type "tuple" := hc
    injection hc with hc
    exact absurd hc (by decide)
  refine wpAny_call_entry slot_list_sort ⟨_, ho, rfl⟩ entry_list_sort (SK.plain_sort (r := fun u => rkS B (intsOf (midHeap s.heap l us) u)) ho few (fun two Q2 q2 => ?_) fun ps out e1 e2 _ => ⟨_, rfl, q out ?_⟩) (args_list_sort _)
  · exact kindS (s := { s with heap := midHeap s.heap l us }) two (T.up fun b o e hc => midHeap_old (nl b o e hc) e) q2
  · rw [e1]
    have := e2.map Prod.snd
    rwa [List.map_snd_zip (Nat.le_refl _)] at this
end
theorem u65 {k : Nat} {A : Around} (r : Room k A) : A.units + 65 < cLine := by have := r.un; omega
/-! ### shapes of data -/
theorem canAll : ∀ {xs : List PyData}, (∀ x ∈ xs, x.canLay0 = true) → PyData.canLayAll0 xs = true
  | [], _ => rfl
  | x :: xs, h => by
    unfold PyData.canLayAll0
    rw [h x List.mem_cons_self, canAll fun y hy => h y (List.mem_cons_of_mem _ hy)]
    rfl
theorem depAll {n : Nat} : ∀ {xs : List PyData}, (∀ x ∈ xs, x.depth ≤ n) → PyData.depthAll xs ≤ n
  | [], _ => Nat.zero_le _
  | x :: xs, h => by
    unfold PyData.depthAll
    have h1 := h x List.mem_cons_self
    have h2 := depAll fun y hy => h y (List.mem_cons_of_mem _ hy)
    omega
theorem shapedL {xs : List PyData} (h : ∀ x ∈ xs, x.canLay0 = true ∧ x.depth ≤ 60) : SeqAt.shaped (.list xs) = true := by
  show (PyData.canLayAll0 xs && decide (PyData.depthAll xs + 1 ≤ 64)) = true
  rw [canAll fun x hx => (h x hx).1, decide_eq_true (by have := depAll (n := 60) fun x hx => (h x hx).2; omega)]
  rfl
theorem eqvL : ∀ (xs : List PyData), PyData.eqv (.list xs) (.list []) = xs.isEmpty
  | [] => rfl
  | _ :: _ => rfl
theorem paired_perm {α β : Type} {R : α → β → Prop} {us ws : List α} (p : ws.Perm us) : ∀ {ps : List β}, Paired R us ps → ∃ qs : List β, qs.Perm ps ∧ Paired R ws qs := by
  induction p with
  | nil => intro ps h; cases h; exact ⟨[], .nil, .nil⟩
  | cons x _ ih =>
    intro ps h
    cases h with
    | cons r t =>
      obtain ⟨qs, a, b⟩ := ih t
      exact ⟨_ :: qs, a.cons _, .cons r b⟩
  | swap x y l =>
    intro ps h
    cases h with
    | cons r t =>
      cases t with
      | cons r2 t2 => exact ⟨_ :: _ :: _, .swap _ _ _, .cons r2 (.cons r t2)⟩
  | trans _ _ ih1 ih2 =>
    intro ps h
    obtain ⟨qs, a, b⟩ := ih2 h
    obtain ⟨rs, c, d⟩ := ih1 b
    exact ⟨rs, c.trans a, d⟩
section
variable {X : Cx}
def rSortedN (K : PySem.W.Frag) (P : Program) (w : World) : List V → Hp → VK → Prop := fun vs H Q => ∃ (a : Addr) (L : List (Addr × List Int)) (d : Nat) (B : Int), vs = [V.ref a] ∧ H a = some (SetTO P w a L) ∧ (∀ p ∈ L, SqT K H p.1 (p.2.map V.int) ∧ p.2.length = d + 1 ∧ SdS B p.2) ∧
  ((L.map (·.2)).Nodup → L.length < 64 → ∀ zs p, zs.length = L.length → H p = none → Q (.ref p) (upd H p (.lst zs)))
theorem cr_sortedN (hc : X.calm = true) : CallR X (.builtin "sorted") (rSortedN X.K X.prog X.w) := by
  intro pins s σ H vs us Q I r h
  obtain ⟨a, L, d, B, rfl, ha, hL, q⟩ := h
  obtain ⟨es, ep, t, R⟩ := ((I.hok a _ ha).1 : SetT0 X.prog X.w s.heap a L).full fun p hp => I.isT (hL p hp).1
  have few := R.few
  rw [Vals.ref1 r]
  refine Calls.call_function_entry kind_sorted plain_sorted entry_sorted (args_sorted1 _) ?_
  unfold Builtin.«sorted»
  refine wpAny_bind (m := checkCount "sorted" 1 1 _) (wpAny_pure ?_)
  obtain ⟨ob, g1, g2, g3⟩ := R.ob
  have hes : es.toList.map (·.2) = L.map fun q => Value.ref q.1 := by
    rw [R.rows, rowsOf, List.map_map]; rfl
  refine wpAny_bind (collect_set (A := X.A.in1) (I.ok.hd hc) ⟨ob, g1, g2.1, g3⟩ R.fits (by rw [R.size]; exact Nat.lt_of_lt_of_le few (by decide)) R.tab.ris R.led fun s1 out k1 k2 k3 k4 pm => ?_)
  rw [hes] at pm
  have lo : out.length = L.length := by rw [pm.length_eq, List.length_map]
  refine wpAny_bind (wpAny_newList ?_ (by rw [sizeLine_eq]; omega))
  have hl : (s1.heap.push (seqObj "list" out.toArray 0)).get? s1.heap.objs.size = some (seqObj "list" out.toArray 0) := Heap.get?_push_size _ rfl
  have up : ∀ b o, s.heap.get? b = some o → (s1.heap.push (seqObj "list" out.toArray 0)).get? b = some o := fun b o e => Heap.get?_push_of_some _ (k1 b o e)
  refine wpAny_bind (wpAny_holding (sortS (s := { s1 with heap := s1.heap.push (seqObj "list" out.toArray 0) }) (d := d) (B := B) hl (by omega) (fun u hu => ?_) fun arr pa => ?_))
  · obtain ⟨p, hp, rfl⟩ := List.mem_map.mp (pm.mem_iff.mp hu)
    exact ⟨p.2, tupInts_of (P := X.prog) (w := X.w) (isT_keep (R.tup p hp) up), (hL p hp).2⟩
  obtain ⟨c, hc'⟩ := sortedHeap_at (vs := out) (out := arr) hl
  have la : arr.toList.length = L.length := by rw [pa.length_eq, lo]
  have refs : ∀ u ∈ arr.toList, ∃ b, u = Value.ref b := fun u hu => by
    obtain ⟨p, _, rfl⟩ := List.mem_map.mp (pm.mem_iff.mp (pa.mem_iff.mp hu))
    exact ⟨_, rfl⟩
  have hn : H s1.heap.objs.size = none := I.hok.fresh k2
  have kall : ∀ b o, s.heap.get? b = some o → (sortedHeap (s1.heap.push (seqObj "list" out.toArray 0)) s1.heap.objs.size out arr).get? b = some o := fun b o e => by
    have lt := Heap.lt_size (k1 b o e)
    rw [sortedHeap_old (Nat.ne_of_lt lt) (by rw [size_push']; exact Nat.lt_succ_of_lt lt)]
    exact up b o e
  have hzl : (arr.toList.map backV).length ≤ sizeLine := by rw [List.length_map, sizeLine_eq]; omega
  have J : Inv X pins σ (upd H s1.heap.objs.size (.lst (arr.toList.map backV))) { s with heap := sortedHeap (s1.heap.push (seqObj "list" out.toArray 0)) s1.heap.objs.size out arr, gens := s1.gens, drawn := s1.drawn, toks := s1.toks } :=
    I.call (ch := []) (Un.laid kall k2 hn) (I.hok.laid kall k2 ⟨hzl, arr.toList, c, vals_back refs, hc'⟩) (by rw [k3]; exact I.bare) (fun _ z => nomatch z)
  have es1 : ({ s1 with heap := sortedHeap (s1.heap.push (seqObj "list" out.toArray 0)) s1.heap.objs.size out arr } : Shared) = { s with heap := sortedHeap (s1.heap.push (seqObj "list" out.toArray 0)) s1.heap.objs.size out arr, gens := s1.gens, drawn := s1.drawn, toks := s1.toks } := by
    cases s1
    cases s
    cases k4
    rfl
  refine wpAny_pure ⟨_, rfl, ?_⟩
  show EP X pins σ Q (.ref s1.heap.objs.size) ({ s1 with heap := sortedHeap (s1.heap.push (seqObj "list" out.toArray 0)) s1.heap.objs.size out arr } : Shared)
  rw [es1]
  exact ⟨.ref s1.heap.objs.size, _, J, rfl, q R.nd few _ _ (by rw [List.length_map]; exact la) hn⟩
end
end My
namespace My
open PySem PySem.Spec PyProof.Rows L2 RZ
/-! ### list(zip(a, b)) of two tuples -/
section
variable {prog : Program} {w : World} {A : Around} {E : Value → Shared → Prop} {s : Shared}
theorem zipT_item_held {z TI TO T i1 i2 l1 l2 : Addr} {f : Bool} {oT : Obj} {k1 k2 : Nat} {xs ys : Array Value} {x y : Value} {Q : Value → Shared → Prop} (D : ZipApart z TI TO i1 i2 l1 l2)
    (hz : IsZipHeld s.heap z TI TO T f) (hT : s.heap.get? T = some oT) (hTI : IsPair s.heap TI (.ref i1) (.ref i2))
    (h1 : s.heap.IsTupleIter i1 l1 k1) (h2 : s.heap.IsTupleIter i2 l2 k2) (hl1 : s.heap.IsTuple l1 xs) (hl2 : s.heap.IsTuple l2 ys) (hx : xs[k1]? = some x) (hy : ys[k2]? = some y)
    (hQ : ∀ h', IsZipHeld h' z TI TO T true → h'.IsTupleIter i1 l1 (k1 + 1) → h'.IsTupleIter i2 l2 (k2 + 1) → IsPair h' s.heap.objs.size x y → h'.objs.size = s.heap.objs.size + 1 →
      (∀ c o, c ≠ z → c ≠ i1 → c ≠ i2 → s.heap.get? c = some o → h'.get? c = some o) → Q (.ref s.heap.objs.size) { s with heap := h' }) :
    wpAny (model prog w) A (Builtin.«zip.__next__» ⟨[.ref z], []⟩) (fun fin s' => ∃ v, fin = .done (.ret v) ∧ Q v s') E s := by
  show wpAny _ _ (field (.ref z) 2 >>= _) _ _ _
  refine wpAny_bind (wpAny_field hz rfl (x := .bool false) rfl ?_)
  show wpAny _ _ (field (.ref z) 3 >>= _) _ _ _
  refine wpAny_bind (wpAny_field hz rfl (x := .ref TI) rfl ?_)
  refine wpAny_bind (wpAny_seqItems hTI rfl ?_)
  show wpAny _ _ (Builtin.SmallTypes.ownedTupleIsFree (.ref z) >>= _) _ _ _
  refine wpAny_bind (wpAny_tupleHeld_zip hz hT fun h₁ hz₁ hs₁ => ?_)
  simp only [Bool.false_eq_true, if_false]
  refine wpAny_bind ?_
  rw [← Array.forIn_toList]
  simp only [List.forIn_cons, List.forIn_nil]
  refine wpAny_bind (wpAny_bind (wpAny_holding ?_))
  show wpAny _ _ (Builtin.SmallTypes.nextOf (.ref i1) >>= _) _ _ _
  refine wpAny_bind (nextOf_tuple_item (s := { s with heap := h₁ }) (h1.extBut hs₁.extBut D.i1z) (hl1.extBut hs₁.extBut D.l1z) hx fun h₂ h1₂ hs₂ => wpAny_pure ?_)
  refine wpAny_pure ?_
  refine wpAny_bind (wpAny_bind (wpAny_holding ?_))
  show wpAny _ _ (Builtin.SmallTypes.nextOf (.ref i2) >>= _) _ _ _
  refine wpAny_bind (nextOf_tuple_item (s := { s with heap := h₂ }) ((h2.extBut hs₁.extBut D.i2z).extBut hs₂.extBut D.i12.symm) ((hl2.extBut hs₁.extBut D.l2z).extBut hs₂.extBut D.l2i1) hy fun h₃ h2₃ hs₃ => wpAny_pure ?_)
  refine wpAny_pure (wpAny_pure ?_)
  show wpAny _ _ (newTuple [x, y] >>= _) _ _ _
  refine wpAny_bind (wpAny_newTuple ?_)
  have hsz : h₃.objs.size = s.heap.objs.size := by rw [hs₃.1, hs₂.1, hs₁.1]
  have hz₃ : IsZipHeld h₃ z TI TO T true := hs₃.extBut _ _ D.i2z.symm (hs₂.extBut _ _ D.i1z.symm hz₁)
  have hk : ∀ c o, c ≠ z → c ≠ i1 → c ≠ i2 → s.heap.get? c = some o → h₃.get? c = some o := fun c o c1 c2 c3 e => hs₃.extBut _ _ c3 (hs₂.extBut _ _ c2 (hs₁.extBut _ _ c1 e))
  have h1₃ : h₃.IsTupleIter i1 l1 (k1 + 1) := h1₂.extBut hs₃.extBut D.i12
  refine wpAny_pure ⟨_, rfl, ?_⟩
  show Q (.ref h₃.objs.size) _
  have hp : IsPair (h₃.push { cls := .type "tuple", data := .seq #[x, y] }) h₃.objs.size x y := Heap.get?_push_size _ rfl
  have hz4 : (h₃.push { cls := .type "tuple", data := .seq #[x, y] }).objs.size = h₃.objs.size + 1 := Heap.size_push ..
  rw [hsz] at hp hz4 ⊢
  exact hQ _ (Heap.get?_push_of_some _ hz₃) (h1₃.at fun o e => Heap.get?_push_of_some _ e) (h2₃.at fun o e => Heap.get?_push_of_some _ e) hp hz4 fun c o c1 c2 c3 e => Heap.get?_push_of_some _ (hk c o c1 c2 c3 e)
theorem zipT_end_held {z TI TO T i1 i2 l1 l2 : Addr} {f : Bool} {oT : Obj} {k1 k2 : Nat} {xs ys : Array Value} {Q : PySem.Fin → Shared → Prop} (hh : A.handled = none) (D : ZipApart z TI TO i1 i2 l1 l2)
    (hz : IsZipHeld s.heap z TI TO T f) (hT : s.heap.get? T = some oT) (hTI : IsPair s.heap TI (.ref i1) (.ref i2))
    (h1 : s.heap.IsTupleIter i1 l1 k1) (h2 : s.heap.IsTupleIter i2 l2 k2) (hl1 : s.heap.IsTuple l1 xs) (hl2 : s.heap.IsTuple l2 ys) (hend : xs[k1]? = none ∨ ys[k2]? = none)
    (hE : ∀ h' e, (∀ c o, c ≠ z → c ≠ i1 → c ≠ i2 → s.heap.get? c = some o → h'.get? c = some o) → (∃ o, h'.get? e = some o ∧ o.cls = .type "StopIteration") → E (.ref e) { s with heap := h' }) :
    wpAny (model prog w) A (Builtin.«zip.__next__» ⟨[.ref z], []⟩) Q E s := by
  show wpAny _ _ (field (.ref z) 2 >>= _) _ _ _
  refine wpAny_bind (wpAny_field hz rfl (x := .bool false) rfl ?_)
  show wpAny _ _ (field (.ref z) 3 >>= _) _ _ _
  refine wpAny_bind (wpAny_field hz rfl (x := .ref TI) rfl ?_)
  refine wpAny_bind (wpAny_seqItems hTI rfl ?_)
  show wpAny _ _ (Builtin.SmallTypes.ownedTupleIsFree (.ref z) >>= _) _ _ _
  refine wpAny_bind (wpAny_tupleHeld_zip hz hT fun h₁ hz₁ hs₁ => ?_)
  simp only [Bool.false_eq_true, if_false]
  refine wpAny_bind ?_
  rw [← Array.forIn_toList]
  simp only [List.forIn_cons, List.forIn_nil]
  refine wpAny_bind (wpAny_bind (wpAny_holding ?_))
  show wpAny _ _ (Builtin.SmallTypes.nextOf (.ref i1) >>= _) _ _ _
  cases hx : xs[k1]? with
  | none =>
    refine wpAny_bind (nextOf_tuple_end (s := { s with heap := h₁ }) hh (h1.extBut hs₁.extBut D.i1z) (hl1.extBut hs₁.extBut D.l1z) hx fun h₂ e hs₂ he => ?_)
    exact hE h₂ e (fun c o c1 c2 _ x => hs₂ _ _ c2 (hs₁.extBut _ _ c1 x)) he
  | some x =>
    have hy : ys[k2]? = none := by rcases hend with h | h; rw [hx] at h; cases h; exact h
    refine wpAny_bind (nextOf_tuple_item (s := { s with heap := h₁ }) (h1.extBut hs₁.extBut D.i1z) (hl1.extBut hs₁.extBut D.l1z) hx fun h₂ h1₂ hs₂ => wpAny_pure ?_)
    refine wpAny_pure ?_
    refine wpAny_bind (wpAny_bind (wpAny_holding ?_))
    show wpAny _ _ (Builtin.SmallTypes.nextOf (.ref i2) >>= _) _ _ _
    refine wpAny_bind (nextOf_tuple_end (s := { s with heap := h₂ }) hh ((h2.extBut hs₁.extBut D.i2z).extBut hs₂.extBut D.i12.symm) ((hl2.extBut hs₁.extBut D.l2z).extBut hs₂.extBut D.l2i1) hy fun h₃ e hs₃ he => ?_)
    exact hE h₃ e (fun c o c1 c2 c3 x => hs₃ _ _ c3 (hs₂.extBut _ _ c2 (hs₁.extBut _ _ c1 x))) he
theorem nextT_item_held {z TI TO T i1 i2 l1 l2 : Addr} {f : Bool} {oT : Obj} {k1 k2 : Nat} {xs ys : Array Value} {x y : Value} {Q : Option Value → Shared → Prop} (D : ZipApart z TI TO i1 i2 l1 l2)
    (hz : IsZipHeld s.heap z TI TO T f) (hT : s.heap.get? T = some oT) (hTI : IsPair s.heap TI (.ref i1) (.ref i2))
    (h1 : s.heap.IsTupleIter i1 l1 k1) (h2 : s.heap.IsTupleIter i2 l2 k2) (hl1 : s.heap.IsTuple l1 xs) (hl2 : s.heap.IsTuple l2 ys) (hx : xs[k1]? = some x) (hy : ys[k2]? = some y)
    (hQ : ∀ h', IsZipHeld h' z TI TO T true → h'.IsTupleIter i1 l1 (k1 + 1) → h'.IsTupleIter i2 l2 (k2 + 1) → IsPair h' s.heap.objs.size x y → h'.objs.size = s.heap.objs.size + 1 →
      (∀ c o, c ≠ z → c ≠ i1 → c ≠ i2 → s.heap.get? c = some o → h'.get? c = some o) → Q (some (.ref s.heap.objs.size)) { s with heap := h' }) :
    wpAny (model prog w) A (pyNext (.ref z)) Q E s := by
  have hTy : s.TypeIs (.ref z) "zip" := ⟨_, hz, rfl⟩
  unfold pyNext
  exact wpAny_bind (wpAny_attempt (wpAny_callSpecial?_slot (name := Str.ofString "__next__") hTy F.slot_zip_next
    (wpAny_call_entry F.slot_zip_next hTy F.entry_zip_next
      (zipT_item_held D hz hT hTI h1 h2 hl1 hl2 hx hy fun h' a1 a3 a4 a5 a6 a7 => wpAny_pure (hQ h' a1 a3 a4 a5 a6 a7)) (F.args_zip_next_1 _))))
theorem nextT_end_held {z TI TO T i1 i2 l1 l2 : Addr} {f : Bool} {oT : Obj} {k1 k2 : Nat} {xs ys : Array Value} {Q : Option Value → Shared → Prop} (hh : A.handled = none) (D : ZipApart z TI TO i1 i2 l1 l2)
    (hz : IsZipHeld s.heap z TI TO T f) (hT : s.heap.get? T = some oT) (hTI : IsPair s.heap TI (.ref i1) (.ref i2))
    (h1 : s.heap.IsTupleIter i1 l1 k1) (h2 : s.heap.IsTupleIter i2 l2 k2) (hl1 : s.heap.IsTuple l1 xs) (hl2 : s.heap.IsTuple l2 ys) (hend : xs[k1]? = none ∨ ys[k2]? = none)
    (hQ : ∀ h', (∀ c o, c ≠ z → c ≠ i1 → c ≠ i2 → s.heap.get? c = some o → h'.get? c = some o) → Q none { s with heap := h' }) : wpAny (model prog w) A (pyNext (.ref z)) Q E s := by
  have hTy : s.TypeIs (.ref z) "zip" := ⟨_, hz, rfl⟩
  unfold pyNext
  refine wpAny_bind (wpAny_attempt (wpAny_callSpecial?_slot (name := Str.ofString "__next__") hTy F.slot_zip_next
    (wpAny_call_entry F.slot_zip_next hTy F.entry_zip_next (zipT_end_held hh D hz hT hTI h1 h2 hl1 hl2 hend fun h' e hk he => ?_) (F.args_zip_next_1 _))))
  obtain ⟨o, ho, hc⟩ := he
  refine wpAny_bind (wpAny_isInstance (T := "StopIteration") (b := true) ⟨o, ho, hc⟩ isSubtype_stop ?_)
  exact wpAny_pure (hQ _ hk)
/-- the zip behind i turns, its first pair (at base) still held -/
structure ZSt (z TI TO i1 i2 l1 l2 base : Addr) (xs ys : Array Value) (i : Nat) (h : Heap) : Prop where
  ti : IsPair h TI (.ref i1) (.ref i2)
  a1 : h.IsTupleIter i1 l1 i
  a2 : h.IsTupleIter i2 l2 i
  t1 : h.IsTuple l1 xs
  t2 : h.IsTuple l2 ys
  zz : (i = 0 ∧ IsZip h z TI TO .none ∧ ∃ a b, IsPair h TO a b) ∨ (0 < i ∧ ∃ f, IsZipHeld h z TI TO base f)
theorem zip_no_len : typeLookup (.type "zip") "__len__" = pure none := by rw [typeLookup_type, builtinLookup_eq_fast]; kernel_rfl
theorem zip_no_hint : typeLookup (.type "zip") "__length_hint__" = pure none := by rw [typeLookup_type, builtinLookup_eq_fast]; kernel_rfl

abbrev rfs (base n : Nat) : Array Value := ((List.range n).map fun j => Value.ref (base + j)).toArray
theorem rfs_push (base i : Nat) : (rfs base i).push (.ref (base + i)) = rfs base (i + 1) := by
  show (((List.range i).map fun j => Value.ref (base + j)).toArray).push _ = ((List.range (i + 1)).map fun j => Value.ref (base + j)).toArray
  rw [List.range_succ, List.map_append, List.push_toArray]
  rfl
theorem rfs_size (base i : Nat) : (rfs base i).size = i := by
  show (((List.range i).map fun j => Value.ref (base + j)).toArray).size = i
  rw [List.size_toArray, List.length_map, List.length_range]
theorem zloop {z TI TO i1 i2 l1 l2 base S : Addr} {xs ys : Array Value} {n : Nat} {R : Result → Shared → Prop} (hh : A.handled = none) (D : ZipApart z TI TO i1 i2 l1 l2) (hn : n ≤ sizeLine) (hx : n ≤ xs.size) (hy : n ≤ ys.size) (he : xs.size ≤ n ∨ ys.size ≤ n)
    (Sz : S ≠ z) (STO : S ≠ TO) (STI : S ≠ TI) (Si1 : S ≠ i1) (Si2 : S ≠ i2) (Sl1 : S ≠ l1) (Sl2 : S ≠ l2) (bS : S < base) (bz : z < base) (bTO : TO < base) (bi1 : i1 < base) (bi2 : i2 < base) (res : Value) :
    ∀ (k i : Nat) (s : Shared) (c : Nat), n - i = k → i ≤ n → s.heap.objs.size = base + i → ZSt z TI TO i1 i2 l1 l2 base xs ys i s.heap → s.heap.get? S = some { cls := .type "list", dict := none, data := .seq (rfs base i) c, slots := #[] } →
    (∀ j x y, j < i → xs[j]? = some x → ys[j]? = some y → IsPair s.heap (base + j) x y) →
    (∀ h' c', (∀ b o, b ≠ z → b ≠ TO → b ≠ i1 → b ≠ i2 → b ≠ S → s.heap.get? b = some o → h'.get? b = some o) → h'.get? S = some { cls := .type "list", dict := none, data := .seq (rfs base n) c', slots := #[] } →
      (∀ j x y, j < n → xs[j]? = some x → ys[j]? = some y → IsPair h' (base + j) x y) → R (.ok (.ret res)) { s with heap := h' }) →
    codeAny (model prog w) A (.builtin "list.extend.loop" ⟨[.ref S, .ref z, res], []⟩) R s := by
  have hh1 : A.in1.handled = none := hh
  have nz : ∀ j, base + j ≠ z := fun j => Nat.ne_of_gt (Nat.lt_of_lt_of_le bz (Nat.le_add_right _ _))
  have nTO : ∀ j, base + j ≠ TO := fun j => Nat.ne_of_gt (Nat.lt_of_lt_of_le bTO (Nat.le_add_right _ _))
  have ni1 : ∀ j, base + j ≠ i1 := fun j => Nat.ne_of_gt (Nat.lt_of_lt_of_le bi1 (Nat.le_add_right _ _))
  have ni2 : ∀ j, base + j ≠ i2 := fun j => Nat.ne_of_gt (Nat.lt_of_lt_of_le bi2 (Nat.le_add_right _ _))
  have nS : ∀ j, base + j ≠ S := fun j => Nat.ne_of_gt (Nat.lt_of_lt_of_le bS (Nat.le_add_right _ _))
  intro k
  induction k with
  | zero =>
    intro i s c hk hi hsz st hS hp hR
    have hin : i = n := by omega
    subst hin
    refine codeAny_builtin F.entry_extend_loop ?_
    rw [Around.under_plainId F.plain_extend_loop _]
    show wpAny _ A.in1 (pyNext (.ref z) >>= _) _ _ s
    have hend : xs[i]? = none ∨ ys[i]? = none := by
      rcases he with h | h
      · exact .inl (by simp; omega)
      · exact .inr (by simp; omega)
    refine wpAny_bind ?_
    have fin : ∀ h', (∀ b o, b ≠ z → b ≠ TO → b ≠ i1 → b ≠ i2 → s.heap.get? b = some o → h'.get? b = some o) → R (.ok (.ret res)) { s with heap := h' } := fun h' hk' =>
      hR h' c (fun b o c1 c2 c3 c4 _ e => hk' b o c1 c2 c3 c4 e) (hk' S _ Sz STO Si1 Si2 hS) fun j x y hj ex ey => hk' _ _ (nz j) (nTO j) (ni1 j) (ni2 j) (hp j x y hj ex ey)
    rcases st.zz with ⟨_, hz, a, b, hTO⟩ | ⟨hp0, f, hz⟩
    · exact pyNext_zipT_end hh1 D hz st.ti hTO st.a1 st.a2 st.t1 st.t2 hend fun h' hk' => wpAny_pure (fin h' hk')
    · have x0 : ∃ x, xs[0]? = some x := ⟨xs[0]'(by omega), by simp⟩
      have y0 : ∃ y, ys[0]? = some y := ⟨ys[0]'(by omega), by simp⟩
      obtain ⟨x, ex⟩ := x0
      obtain ⟨y, ey⟩ := y0
      exact nextT_end_held hh1 D hz (hp 0 x y hp0 ex ey) st.ti st.a1 st.a2 st.t1 st.t2 hend fun h' hk' => wpAny_pure (fin h' fun b o c1 _ c3 c4 e => hk' b o c1 c3 c4 e)
  | succ k ih =>
    intro i s c hk hi hsz st hS hp hR
    have hlt : i < n := by omega
    obtain ⟨x, ex⟩ : ∃ x, xs[i]? = some x := ⟨xs[i]'(by omega), by simp⟩
    obtain ⟨y, ey⟩ : ∃ y, ys[i]? = some y := ⟨ys[i]'(by omega), by simp⟩
    refine codeAny_builtin F.entry_extend_loop ?_
    rw [Around.under_plainId F.plain_extend_loop _]
    show wpAny _ A.in1 (pyNext (.ref z) >>= _) _ _ s
    refine wpAny_bind ?_
    have go : ∀ h', (∃ f, IsZipHeld h' z TI TO base f) → h'.IsTupleIter i1 l1 (i + 1) → h'.IsTupleIter i2 l2 (i + 1) → IsPair h' s.heap.objs.size x y → h'.objs.size = s.heap.objs.size + 1 →
        (∀ c o, c ≠ z → c ≠ TO → c ≠ i1 → c ≠ i2 → s.heap.get? c = some o → h'.get? c = some o) →
        wpAny (model prog w) A.in1 (updateSeq S (·.push (.ref s.heap.objs.size)) >>= fun _ => again (.builtin "list.extend.loop" ⟨[.ref S, .ref z, res], []⟩))
          (fun fin s' => match fin with | .done f => R (.ok f) s' | .again c' => c'.quiet = true ∧ codeAny (model prog w) A c' R s') (fun e s' => R (.error e) s') { s with heap := h' } := by
      rintro h' ⟨f, hz'⟩ b1 b2 hT hs' hk'
      have hS' := hk' S _ Sz STO Si1 Si2 hS
      refine wpAny_bind ?_
      have sb : Heap.SameBut S h' (h'.update S (Obj.mapSeq (·.push (.ref s.heap.objs.size)))) := Heap.SameBut.update ..
      have up : ∀ b o, b ≠ S → h'.get? b = some o → (h'.update S (Obj.mapSeq (·.push (.ref s.heap.objs.size)))).get? b = some o := fun b o hb e => sb.extBut _ _ hb e
      obtain ⟨c2, qS⟩ : ∃ c2, (h'.update S (Obj.mapSeq (·.push (Value.ref s.heap.objs.size)))).get? S = some { cls := .type "list", dict := none, data := .seq (rfs base (i + 1)) c2, slots := #[] } := by
        have q := Heap.get?_update_self (Obj.mapSeq (·.push (Value.ref s.heap.objs.size))) hS' rfl
        have e1 : (rfs base i).push (Value.ref s.heap.objs.size) = rfs base (i + 1) := by rw [hsz]; exact rfs_push base i
        rw [← e1]
        exact ⟨_, q⟩
      refine wpAny_updateSeq hS' rfl (wpAny_pure ⟨plainId_quiet F.plain_extend_loop _, ih (i + 1) _ c2 (by omega) hlt ?_ ?_ qS ?_ ?_⟩) (by rw [rfs_size]; omega) (by show ((rfs base i).push _).size ≤ sizeLine + 1; rw [Array.size_push, rfs_size]; omega)
      · show (h'.update S _).objs.size = _
        rw [Heap.size_update, hs', hsz]
        rfl
      · refine ⟨up _ _ STI.symm (hk' _ _ D.TIz D.TITO D.TIi1 D.TIi2 st.ti), b1.at fun o e => up _ _ Si1.symm e, b2.at fun o e => up _ _ Si2.symm e, ?_, ?_, .inr ⟨by omega, f, up _ _ Sz.symm hz'⟩⟩
        · obtain ⟨o, ho, r⟩ := st.t1
          exact ⟨o, up _ _ Sl1.symm (hk' _ _ D.l1z D.l1TO D.l1i1 D.l1i2 ho), r⟩
        · obtain ⟨o, ho, r⟩ := st.t2
          exact ⟨o, up _ _ Sl2.symm (hk' _ _ D.l2z D.l2TO D.l2i1 D.l2i2 ho), r⟩
      · intro j x' y' hj ex' ey'
        by_cases hji : j = i
        · subst hji
          rw [ex] at ex'
          rw [ey] at ey'
          cases ex'
          cases ey'
          rw [hsz] at hT
          exact up _ _ (nS j) hT
        · exact up _ _ (nS j) (hk' _ _ (nz j) (nTO j) (ni1 j) (ni2 j) (hp j x' y' (by omega) ex' ey'))
      · intro h'' c' hk'' hS'' hp''
        exact hR h'' c' (fun b o c1 c2 c3 c4 c5 e => hk'' b o c1 c2 c3 c4 c5 (up _ _ c5 (hk' b o c1 c2 c3 c4 e))) hS'' hp''
    rcases st.zz with ⟨hi0, hz, a, b, hTO⟩ | ⟨hp0, f, hz⟩
    · refine pyNext_zipT_item D hz st.ti hTO st.a1 st.a2 st.t1 st.t2 ex ey fun h' z' TO' h1' h2' hT hs' hk' => go h' ⟨false, ?_⟩ h1' h2' hT hs' hk'
      have e0 : s.heap.objs.size = base := by rw [hsz, hi0]; rfl
      rw [e0] at z'
      exact z'
    · have x0 : ∃ x, xs[0]? = some x := ⟨xs[0]'(by omega), by simp⟩
      have y0 : ∃ y, ys[0]? = some y := ⟨ys[0]'(by omega), by simp⟩
      obtain ⟨x', ex'⟩ := x0
      obtain ⟨y', ey'⟩ := y0
      exact nextT_item_held D hz (hp 0 x' y' hp0 ex' ey') st.ti st.a1 st.a2 st.t1 st.t2 ex ey fun h' z' h1' h2' hT hs' hk' => go h' ⟨true, z'⟩ h1' h2' hT hs' fun c o c1 _ c3 c4 e => hk' c o c1 c3 c4 e

theorem call_list_zipT {z TI TO i1 i2 l1 l2 : Addr} {xs ys : Array Value} {n : Nat} {Q : Value → Shared → Prop} (hh : A.handled = none) (D : ZipApart z TI TO i1 i2 l1 l2) (hn : n ≤ sizeLine) (hx : n ≤ xs.size) (hy : n ≤ ys.size) (he : xs.size ≤ n ∨ ys.size ≤ n)
    (hz : IsZip s.heap z TI TO .none) (hTI : IsPair s.heap TI (.ref i1) (.ref i2)) {a b : Value} (hTO : IsPair s.heap TO a b) (h1 : s.heap.IsTupleIter i1 l1 0) (h2 : s.heap.IsTupleIter i2 l2 0) (hl1 : s.heap.IsTuple l1 xs) (hl2 : s.heap.IsTuple l2 ys)
    (hQ : ∀ h' c', (∀ b o, b ≠ z → b ≠ TO → b ≠ i1 → b ≠ i2 → s.heap.get? b = some o → h'.get? b = some o) → h'.get? s.heap.objs.size = some { cls := .type "list", dict := none, data := .seq (rfs (s.heap.objs.size + 1) n) c', slots := #[] } →
      (∀ j x y, j < n → xs[j]? = some x → ys[j]? = some y → IsPair h' (s.heap.objs.size + 1 + j) x y) → Q (.ref s.heap.objs.size) { s with heap := h' }) :
    wpAny (model prog w) A (call (.type "list") [.ref z]) Q E s := by
  have zl : z < s.heap.objs.size := Heap.lt_size hz
  have TIl : TI < s.heap.objs.size := Heap.lt_size hTI
  have TOl : TO < s.heap.objs.size := Heap.lt_size hTO
  have i1l : i1 < s.heap.objs.size := by obtain ⟨_, e, _⟩ := h1; exact Heap.lt_size e
  have i2l : i2 < s.heap.objs.size := by obtain ⟨_, e, _⟩ := h2; exact Heap.lt_size e
  have l1l : l1 < s.heap.objs.size := by obtain ⟨_, e, _⟩ := hl1; exact Heap.lt_size e
  have l2l : l2 < s.heap.objs.size := by obtain ⟨_, e, _⟩ := hl2; exact Heap.lt_size e
  have hSz : s.heap.objs.size ≠ z := Nat.ne_of_gt zl
  refine callType_codes (Q₁ := fun obj s₁ => obj = .ref s.heap.objs.size ∧ s₁ = { s with heap := s.heap.push { cls := .type "list", data := .seq #[] } }) F.called_list (F.typeCall_list_1 _) F.entry_list_init
    (code_list_new _ ⟨rfl, rfl⟩) fun obj s₁ h₁ => ?_
  obtain ⟨rfl, rfl⟩ := h₁
  have hS : (s.heap.push { cls := .type "list", data := .seq #[] }).get? s.heap.objs.size = some { cls := .type "list", data := .seq #[] } := Heap.get?_push_size _ rfl
  refine ⟨⟨_, hS, rfl⟩, F.args_list_init_2 _ _, ?_⟩
  show wpAny _ A.in1.in1 (do let old ← Builtin.List.listItems (.ref s.heap.objs.size); Builtin.List.listUpdate (.ref s.heap.objs.size) (fun _ => #[]); letGo old.toList.reverse; Builtin.List.listExtendWith (.ref s.heap.objs.size) (.ref z) .none) _ _ _
  refine wpAny_bind ?_
  unfold Builtin.List.listItems
  refine wpAny_bind (wpAny_seqItems hS rfl (wpAny_pure ?_))
  show wpAny _ A.in1.in1 (updateSeq s.heap.objs.size (fun _ => #[]) >>= fun _ => letGo (#[] : Array Value).toList.reverse >>= fun _ => Builtin.List.listExtendWith (.ref s.heap.objs.size) (.ref z) .none) _ _ _
  refine wpAny_bind (wpAny_updateSeq hS rfl ?_)
  have hS2 := Heap.get?_update_self (Obj.mapSeq (fun _ => (#[] : Array Value))) hS rfl
  refine wpAny_bind (wpAny_letGo ?_)
  unfold Builtin.List.listExtendWith
  have up : ∀ (h : Heap) (f : Obj → Obj), (∀ b o, s.heap.get? b = some o → h.get? b = some o) → ∀ b o, s.heap.get? b = some o → (h.update s.heap.objs.size f).get? b = some o := fun h f q b o e =>
    (Heap.get?_update_other _ _ (Ne.symm (Nat.ne_of_lt (Heap.lt_size e)))).trans (q b o e)
  have k1 : ∀ b o, s.heap.get? b = some o → (s.heap.push { cls := .type "list", data := .seq #[] }).get? b = some o := fun b o e => Heap.get?_push_of_some _ e
  have k2 := up _ (Obj.mapSeq (fun _ => (#[] : Array Value))) k1
  refine wpAny_bind (wpAny_typeOf (T := "zip") ⟨_, k2 _ _ hz, rfl⟩ ?_)
  have h1' : Builtin.List.listSameRef (.ref s.heap.objs.size) (.ref z) = false := by simp [Builtin.List.listSameRef, hSz]
  have h2' : (Value.type "zip" == Value.type "list") = false := by decide
  have h3' : (Value.type "zip" == Value.type "tuple") = false := by decide
  simp only [h1', h2', h3', Bool.or_false, Bool.false_eq_true, if_false]
  refine wpAny_bind (wpAny_pyIter_zip (k2 _ _ hz) ?_)
  refine wpAny_bind (wpAny_holding ?_)
  unfold Builtin.List.listLengthHint
  refine wpAny_bind (wpAny_specialOf (T := "zip") ⟨_, k2 _ _ hz, rfl⟩ zip_no_len ?_)
  show wpAny _ A.in1.in1 (specialOf (Value.ref z) (Str.ofString "__length_hint__") >>= _) _ _ _
  refine wpAny_bind (wpAny_specialOf (T := "zip") ⟨_, k2 _ _ hz, rfl⟩ zip_no_hint ?_)
  refine wpAny_pure ?_
  show wpAny _ A.in1.in1 (rule "list.extend.makes-room" >>= fun _ => Builtin.List.listTouch (.ref s.heap.objs.size) >>= fun _ =>
    again (.builtin "list.extend.loop" ⟨[.ref s.heap.objs.size, .ref z, .none], []⟩)) _ _ _
  refine wpAny_bind (wpAny_rule ?_)
  refine wpAny_bind ?_
  show wpAny _ A.in1.in1 (updateSeq s.heap.objs.size (·.push .none) >>= fun _ => updateSeq s.heap.objs.size (·.pop)) _ _ _
  refine wpAny_bind (wpAny_updateSeq hS2 rfl ?_)
  have hS3 := Heap.get?_update_self (Obj.mapSeq (·.push Value.none)) hS2 rfl
  refine wpAny_updateSeq (hz := by seq_fits) hS3 rfl ?_
  have hS4 := Heap.get?_update_self (Obj.mapSeq (·.pop)) hS3 rfl
  have k4 := up _ (Obj.mapSeq (·.pop)) (up _ (Obj.mapSeq (·.push Value.none)) k2)
  refine wpAny_pure ⟨plainId_quiet F.plain_extend_loop _, ?_⟩
  refine zloop (A := A.in1) (base := s.heap.objs.size + 1) hh D hn hx hy he hSz (Nat.ne_of_gt TOl) (Nat.ne_of_gt TIl) (Nat.ne_of_gt i1l) (Nat.ne_of_gt i2l) (Nat.ne_of_gt l1l) (Nat.ne_of_gt l2l) (Nat.lt_succ_self _) (Nat.lt_succ_of_lt zl) (Nat.lt_succ_of_lt TOl) (Nat.lt_succ_of_lt i1l) (Nat.lt_succ_of_lt i2l) .none n 0 _ _ rfl (Nat.zero_le _) ?_ ?_ hS4 (fun j x y hj => absurd hj (Nat.not_lt_zero _)) fun h' c' hk' hS' hp' => ?_
  · show (((((s.heap.push _).update _ _).update _ _).update _ _)).objs.size = _
    rw [Heap.size_update, Heap.size_update, Heap.size_update, Heap.size_push]
  · exact ⟨k4 _ _ hTI, h1.at fun o e => k4 _ _ e, h2.at fun o e => k4 _ _ e, let ⟨o, ho, r⟩ := hl1; ⟨o, k4 _ _ ho, r⟩, let ⟨o, ho, r⟩ := hl2; ⟨o, k4 _ _ ho, r⟩, .inl ⟨rfl, k4 _ _ hz, a, b, k4 _ _ hTO⟩⟩
  · exact ⟨rfl, hQ h' c' (fun b o c1 c2 c3 c4 e => hk' b o c1 c2 c3 c4 (Nat.ne_of_lt (Heap.lt_size e)) (k4 _ _ e)) hS' hp'⟩
end
/-! #### over the layer -/
section
variable {X : Cx} {pins : List (Addr × Obj)} {σ : L2.St} {H : Hp} {s : Shared}
def layZ (H : Hp) (S base n : Addr) (o : HO) (f : Nat → HO) : Hp := fun b => if b = S then some o else if base ≤ b ∧ b < base + n then some (f (b - base)) else H b
theorem layZ_S {S base n : Addr} {o : HO} {f : Nat → HO} : layZ H S base n o f S = some o := if_pos rfl
theorem layZ_T {S base n j : Addr} {o : HO} {f : Nat → HO} (hS : S < base) (hj : j < n) : layZ H S base n o f (base + j) = some (f j) := by
  unfold layZ
  rw [if_neg (Nat.ne_of_gt (Nat.lt_of_lt_of_le hS (Nat.le_add_right _ _))), if_pos ⟨Nat.le_add_right _ _, Nat.add_lt_add_left hj _⟩, Nat.add_sub_cancel_left]
theorem layZ_old {S base n b : Addr} {o : HO} {f : Nat → HO} (h1 : b < S) (h2 : b < base) : layZ H S base n o f b = H b := by
  unfold layZ
  rw [if_neg (Nat.ne_of_lt h1), if_neg (fun z => absurd h2 (Nat.not_lt.mpr z.1))]
theorem inv_layZ {h' : Heap} {t' : Nat} {S base n : Addr} {o : HO} {f : Nat → HO} (I : Inv X pins σ H s) (k : ∀ b u, s.heap.get? b = some u → h'.get? b = some u) (hS : s.heap.objs.size ≤ S) (hB : S < base)
    (oS : ObjOk X.prog X.w (layZ H S base n o f) h' S o) (oT : ∀ j, j < n → ObjOk X.prog X.w (layZ H S base n o f) h' (base + j) (f j)) : Inv X pins σ (layZ H S base n o f) { s with heap := h', toks := t' } := by
  have old : ∀ b u, H b = some u → layZ H S base n o f b = some u := fun b u e => by
    have hl : b < s.heap.objs.size := (I.hok b u e).lt
    rw [layZ_old (Nat.lt_of_lt_of_le hl hS) (Nat.lt_trans (Nat.lt_of_lt_of_le hl hS) hB)]
    exact e
  refine I.un ⟨fun b u e _ _ _ => k b u e, fun b u e _ _ _ => ⟨u.slots, k b u e⟩, fun b u e n _ => ?_, fun b u e _ => ⟨u, k b u e⟩, fun b xs e => old _ _ e, fun b u v e => old _ _ e, fun b ps e => ⟨#[], by rw [old _ _ e]; simp⟩⟩ fun b u e => ?_
  · have hl : b < s.heap.objs.size := Heap.lt_size e
    rw [layZ_old (Nat.lt_of_lt_of_le hl hS) (Nat.lt_trans (Nat.lt_of_lt_of_le hl hS) hB)]
    exact n
  · by_cases hb : b = S
    · subst hb
      rw [layZ_S] at e
      cases e
      exact oS
    · by_cases hr : base ≤ b ∧ b < base + n
      · have e' : layZ H S base n o f b = some (f (b - base)) := by unfold layZ; rw [if_neg hb, if_pos hr]
        rw [e'] at e
        cases e
        have hj := oT (b - base) (by have := hr.1; have := hr.2; exact Nat.sub_lt_left_of_lt_add hr.1 hr.2)
        rw [Nat.add_sub_cancel' hr.1] at hj
        exact hj
      · have e' : layZ H S base n o f b = H b := by unfold layZ; rw [if_neg hb, if_neg hr]
        rw [e'] at e
        exact (I.hok b u e).stay (fun c v _ q => k c v q) (fun c q => old _ _ q) fun c xs q => old _ _ q
/-- list(zip(x, y)): a new list of new pairs -/
def tLZ (K : PySem.W.Frag) (ta : TA) : TE := fun σ H Q => ta σ H fun vs H1 => ∃ a b xs ys, vs = [.ref a, .ref b] ∧ SqT K H1 a xs ∧ SqT K H1 b ys ∧
  ∀ H2 L ps, Same H1 H2 → H1 L = none → H2 L = some (.lst ps) → ps.length = min xs.length ys.length → (∀ (j : Nat) x y, xs[j]? = some x → ys[j]? = some y → ∃ T, ps[j]? = some (.ref T) ∧ H1 T = none ∧ H2 T = some (.tup [x, y])) → Q (.ref L) H2
theorem pe_listZip {e e2 : Expr} {ta : TA} {p p2 pos pos2 : Pos} (hc : X.calm = true) (hg : Gl X "list") (hm : X.mg "list" = none) (hg2 : Gl X "zip") (hm2 : X.mg "zip" = none) (ha : PA X [e, e2] ta)
    (na : starEach [.Call (.Name "zip" p2) [e, e2] [] pos2] X.env = (false, eval (.Call (.Name "zip" p2) [e, e2] [] pos2) X.env) :: starEach [] X.env := by rfl)
    (hs : starEach [e, e2] X.env = (false, eval e X.env) :: starEach [e2] X.env := by rfl) (hpl : (backTo pos2 (starEach [e2] X.env)).any (·.1) = false := by rfl) :
    PE X (.Call (.Name "list" p) [.Call (.Name "zip" p2) [e, e2] [] pos2] [] pos) (tLZ X.K ta) := by
  refine ⟨fun pins s σ H Q I h => ?_⟩
  have hz : wpAny (model X.prog X.w) X.A (eval (.Call (.Name "zip" p2) [e, e2] [] pos2) X.env) (fun v s2 => wpAny (model X.prog X.w) X.A (call (.type "list") [v]) (EP X pins σ Q) X.xe s2) X.xe s := by
    refine Call_ (ld_blt I hg2 hm2 PyProof.Rows.boot_zip (PyProof.Rows.callWith_type1 (thn (ha.run pos2 pins s σ H _ I h) fun us s1 ⟨vs, H1, I1, r1, q1⟩ => ?_) hs hpl))
    obtain ⟨a, b, xs, ys, ex, hqx, hqy, q⟩ := q1
    subst ex
    cases r1 with
    | cons r rr =>
      cases rr with
      | cons r' rr =>
        cases rr
        cases r
        cases r'
        obtain ⟨its, rv, p1, z1⟩ := I1.tuple hqx
        obtain ⟨its2, rv2, p2', z2⟩ := I1.tuple hqy
        have al : a < s1.heap.objs.size := p1.lt
        have bl : b < s1.heap.objs.size := p2'.lt
        refine call_zipT p1 p2' fun h' hz hTI hTO h1 h2 hsz hk => ?_
        have ls := rv.length
        have ls2 := rv2.length
        have ap : ZipApart (s1.heap.objs.size + 4) (s1.heap.objs.size + 2) (s1.heap.objs.size + 3) s1.heap.objs.size (s1.heap.objs.size + 1) a b := by
          have nn : ∀ {c : Addr}, c < s1.heap.objs.size → ∀ i, c ≠ s1.heap.objs.size + i := fun {c} hc i => Nat.ne_of_lt (Nat.lt_of_lt_of_le hc (Nat.le_add_right _ _))
          have nm : ∀ {i j : Nat}, i ≠ j → s1.heap.objs.size + i ≠ s1.heap.objs.size + j := fun {i j} hij z => hij (Nat.add_left_cancel z)
          exact ⟨nm (by decide), nm (by decide), nm (i := 0) (by decide), nm (by decide), nm (by decide), nm (j := 0) (by decide), nm (by decide), nm (j := 0) (by decide), nm (by decide), nm (i := 0) (by decide), nn al _, nn al _, nn al 0, nn al _, nn bl _, nn bl _, nn bl 0, nn bl _⟩
        have t1 : h'.IsTuple a its.toArray := let ⟨o, ho, r⟩ := p1; ⟨o, hk _ _ ho, r⟩
        have t2 : h'.IsTuple b its2.toArray := let ⟨o, ho, r⟩ := p2'; ⟨o, hk _ _ ho, r⟩
        refine call_list_zipT (n := min xs.length ys.length) (I1.ok.hd hc) ap (by omega) (by rw [List.size_toArray]; omega) (by rw [List.size_toArray]; omega) (by rw [List.size_toArray, List.size_toArray]; omega) hz hTI hTO h1 h2 t1 t2 fun h'' c' hk2 hS hp => ?_
        have hsz' : h'.objs.size = s1.heap.objs.size + 5 := hsz
        have gt : ∀ {c : Addr} {u : Obj}, s1.heap.get? c = some u → ∀ i, c ≠ s1.heap.objs.size + i := fun {c u} e i => Nat.ne_of_lt (Nat.lt_of_lt_of_le (Heap.lt_size e) (Nat.le_add_right _ _))
        have kk : ∀ c u, s1.heap.get? c = some u → h''.get? c = some u := fun c u e => hk2 c u (gt e 4) (gt e 3) (gt e 0) (gt e 1) (hk c u e)
        have nS : s1.heap.objs.size ≤ h'.objs.size := by rw [hsz']; exact Nat.le_add_right _ _
        have hS1 : H1 h'.objs.size = none := I1.hok.fresh nS
        have hT1 : ∀ j, H1 (h'.objs.size + 1 + j) = none := fun j => I1.hok.fresh (Nat.le_trans nS (by rw [Nat.add_assoc]; exact Nat.le_add_right _ _))
        let f : Nat → HO := fun j => .tup [xs.getD j .non, ys.getD j .non]
        let ps : List V := (List.range (min xs.length ys.length)).map fun j => V.ref (h'.objs.size + 1 + j)
        have hlen : ps.length = min xs.length ys.length := by show ((List.range _).map _).length = _; rw [List.length_map, List.length_range]
        have I2 : Inv X pins σ (layZ H1 h'.objs.size (h'.objs.size + 1) (min xs.length ys.length) (.lst ps) f) { s1 with heap := h'', toks := s1.toks } := by
          refine inv_layZ I1 kk nS (Nat.lt_succ_self _) ⟨by rw [hlen]; omega, (List.range (min xs.length ys.length)).map fun j => Value.ref (h'.objs.size + 1 + j), c', ?_, hS⟩ fun j hj => ?_
          · have key : ∀ l : List Nat, Vals (l.map fun j => V.ref (h'.objs.size + 1 + j)) (l.map fun j => Value.ref (h'.objs.size + 1 + j)) := fun l => by
              induction l with
              | nil => exact .nil
              | cons a l ih => exact .cons rfl ih
            exact key _
          · obtain ⟨x, ex⟩ : ∃ x, xs[j]? = some x := ⟨xs[j]'(Nat.lt_of_lt_of_le hj (Nat.min_le_left _ _)), by simp⟩
            obtain ⟨y, ey⟩ : ∃ y, ys[j]? = some y := ⟨ys[j]'(Nat.lt_of_lt_of_le hj (Nat.min_le_right _ _)), by simp⟩
            obtain ⟨u, hu, ru⟩ := rv.get ex
            obtain ⟨u2, hu2, ru2⟩ := rv2.get ey
            have hT := hp j u u2 hj (by simpa using hu) (by simpa using hu2)
            have ef : f j = .tup [x, y] := by show HO.tup [xs.getD j .non, ys.getD j .non] = _; rw [List.getD_eq_getElem?_getD, List.getD_eq_getElem?_getD, ex, ey]; rfl
            rw [ef]
            exact ⟨by show 2 ≤ sizeLine; decide, [u, u2], .cons ru (.cons ru2 .nil), ⟨_, hT, rfl, _, rfl⟩⟩
        have old : Same H1 (layZ H1 h'.objs.size (h'.objs.size + 1) (min xs.length ys.length) (.lst ps) f) := fun c o e => by
          have hl : c < s1.heap.objs.size := (I1.hok c o e).lt
          rw [layZ_old (Nat.lt_of_lt_of_le hl nS) (Nat.lt_succ_of_lt (Nat.lt_of_lt_of_le hl nS))]
          exact e
        refine ⟨.ref h'.objs.size, _, I2, rfl, q _ _ ps old hS1 layZ_S hlen fun j x y ex ey => ⟨h'.objs.size + 1 + j, ?_, hT1 j, ?_⟩⟩
        · have hj : j < min xs.length ys.length := by
            have := (List.getElem?_eq_some_iff.mp ex).1
            have := (List.getElem?_eq_some_iff.mp ey).1
            omega
          show ((List.range _).map _)[j]? = _
          rw [List.getElem?_map, List.getElem?_range hj]
          rfl
        · have hj : j < min xs.length ys.length := by
            have := (List.getElem?_eq_some_iff.mp ex).1
            have := (List.getElem?_eq_some_iff.mp ey).1
            omega
          rw [layZ_T (Nat.lt_succ_self _) hj]
          show some (HO.tup [xs.getD j .non, ys.getD j .non]) = _
          rw [List.getD_eq_getElem?_getD, List.getD_eq_getElem?_getD, ex, ey]
          rfl
  exact Call_ (ld_blt I hg hm boot_list (PyProof.Rows.callWith_type1 (args_cons (thn hz fun v s2 hv => args_nil hv) na) na))
end
end My
/-! isinstance of a caught error of an own class that has a dict of its own -/
namespace My
open PySem PySem.Spec PySem.W PySem.Calls PyProof.Rows
section
variable {prog : Program} {w : World} {A : Around} {E : Value → Shared → Prop} {s : Shared} {K : PySem.W.Frag} {x D : Addr} {ox : Obj} {od : Option Obj}
theorem findObj_dataO {C : Addr} {name : Str} {a g : Value} (hc : (clsIn K C).isSome = true) (ha : findIn K (.ref C) name = some (some a)) (hg : specialIn K a "__get__" = some (some g)) (ht : takesIn K a = some true) : findObj K C od name = some (.bind g a) := by
  obtain ⟨cd, hc⟩ := Option.isSome_iff_exists.mp hc
  unfold findObj
  rw [hc, Option.bind_some, ha, Option.bind_some]
  simp [hg, ht]
theorem kin_classO {Q : Option Value → Shared → Prop} (C : L2.ExcC K D) (X : K.In s.heap) (I : PySem.W.InstAt s.heap x ox D od) (h : Q (some (.ref D)) { s with toks := s.toks + 1 }) : wpAny (model prog w) A (getAttr? (.ref x) "__class__") Q E s := by
  have hf : findObj K D od "__class__" = some (.bind (.builtin "getset_descriptor.__get__") (.builtin "object.__class__")) := findObj_dataO (by obtain ⟨cd, hc, _⟩ := any_some C.hd; rw [hc]; rfl) C.ha C.hn C.ht
  obtain ⟨hp, g, d, t, os⟩ := s
  have tyL := I.type (M := model prog w)
  have gaL := looks_findIn (M := model prog w) X C.hg
  have gtL := looks_findIn (M := model prog w) X C.hk
  have fdL := looks_find (M := model prog w) X I hf
  have sub : Looks (model prog w) hp (isInstance (.ref x) (.type "BaseException")) true := tyL.andThen (looks_subIn X C.hs)
  have ne : (Value.builtin "BaseException.__getattribute__" == Value.builtin "object.__getattribute__") = false := by decide +kernel
  have ne1 : (onTheHeap (Value.ref D) && Value.builtin "BaseException.__getattribute__" == Value.builtin "object.__getattribute__") = false := by rw [ne]; rfl
  unfold getAttr? getAttrBy? getAttrBy
  refine wpAny_bind (wpAny_mkText (wpAny_bind (wpAny_attempt (wpAny_holding (wpAny_bind (tyL.at (wpAny_bind (gaL.at ?_))))))))
  show wpAny _ _ (if (onTheHeap (Value.ref D) && Value.builtin "BaseException.__getattribute__" == Value.builtin "object.__getattribute__") = true then _ else _) _ _ _
  rw [ne1, if_neg Bool.false_ne_true]
  unfold getAttrByItsOwn hookBefore
  refine wpAny_bind ?_
  rw [if_pos (show onTheHeap (Value.ref D) = true from rfl)]
  refine gtL.at (wpAny_bind (wpAny_attempt (wpAny_holding ?_)))
  unfold callGetattribute
  rw [show (false && onTheHeap (Value.builtin "BaseException.__getattribute__")) = false from rfl, if_neg Bool.false_ne_true]
  unfold boundAndCalled
  rw [PySem.F.excAttr_ValueError.ga.bind (.ref x)]
  refine wpAny_bind (wpAny_pure ?_)
  show wpAny _ _ (call (.builtin "BaseException.__getattribute__") [.ref x, .str "__class__" t]) _ _ _
  refine wpAny_call (codeAny_call_builtin PySem.F.excAttr_ValueError.ga.plain PySem.F.entry_bexc_ga ?_)
  refine @check_slot (model prog w) _ _ ⟨hp, g, d, t + 1, os⟩ "BaseException.__getattribute__" "BaseException" "__getattribute__" (.ref x) [.str "__class__" t] [] _ (by decide +kernel) (by decide +kernel) sub (PySem.F.args_bexc_ga (.ref x) (.str "__class__" t)) ?_
  unfold Builtin.«object.__getattribute__»
  refine wpAny_bind (wpAny_of_eq (a := ((Value.ref x : Value), [Value.str "__class__" t])) (by first | rfl | (simp only [slotArgs]; rfl)) ?_)
  refine wpAny_bind (wpAny_pure (wpAny_bind (tyL.at (wpAny_bind (fdL.at ?_)))))
  show wpAny _ _ (holding [Value.builtin "object.__class__"] (call (.builtin "getset_descriptor.__get__") [.builtin "object.__class__", .ref x, .ref D]) >>= ret) _ _ _
  refine wpAny_bind (wpAny_holding (wpAny_call (class_get (s := ⟨hp, g, d, t + 1, os⟩) (ox := ox) (od := od) X I C.hm ?_)))
  refine wpAny_pure ?_
  show wpAny _ _ (handedOut (.ref D)) _ _ _
  rw [handedOut_of (v := .ref D) rfl]
  first
    | exact wpAny_pure (wpAny_pure h)
    | exact wpAny_pure h
    | exact wpAny_pure (wpAny_bind (wpAny_pure (wpAny_pure h)))
theorem kitx_O (C : L2.ExcC K D) : KitX K (.ref x) (.ref D) (fun h => PySem.W.InstAt h x ox D od) where
  ty := fun _ _ _ I => I.type
  it := fun _ _ X _ => by
    obtain ⟨cdD, hcD, _⟩ := any_some C.hd
    unfold clsIn at hcD
    split at hcD
    · rename_i c' d' cd' sl' ho
      intro A' Q' E' s' k q
      unfold isType loadHead
      exact wpAny_bind (wpAny_loadPart (k _ _ (X _ _ ho)) (wpAny_pure q))
    · cases hcD
  ne := fun h tp dd its n sl X htp => by
    obtain ⟨cdD, hcD, _⟩ := any_some C.hd
    refine Bool.eq_false_iff.mpr fun q => ?_
    have e : D = tp := Value.ref.inj (beq_iff_eq.mp q)
    subst e
    unfold clsIn at hcD
    split at hcD
    · rename_i c' d' cd' sl' ho
      have z := (X _ _ ho).symm.trans htp
      cases z
    · cases hcD
  ca := fun X I k => kin_classO C X I k
end
open L2
/-- isinstance(e, c), e the exception that the suite holds, its dict at dd -/
def rIsV (K : PySem.W.Frag) (D a dd : Addr) : List V → Hp → VK → Prop := fun xs H Q => ∃ (c : V) (cv : Value) (b : Bool) (fs : List (Str × V)), xs = [.ref a, c] ∧ H dd = some (.xd fs) ∧ (∀ u, RelV c u → u = cv) ∧ PySem.W.kitOne K (.ref D) cv = some b ∧ Q (.bl b) H
theorem call_isV {X : Cx} {a D dd : Addr} {oe : Obj} {pn : List (Addr × Obj)} (C : ExcC X.K D) (hz : Zc (.ref D) (some dd) oe) (hf : ∃ vs, oe.data = .fields vs) : CallR (X.suite a ((a, oe) :: pn)) (.builtin "isinstance") (rIsV X.K D a dd) := by
  intro pins s σ H xs us Q I r h
  obtain ⟨c, cv, b, fs, rfl, hd, hcv, e, q⟩ := h
  cases r with
  | cons rx rr =>
    cases rr with
    | cons rt rr =>
      cases rr
      cases rx
      have ec := hcv _ rt
      subst ec
      obtain ⟨hget, _⟩ := I.pin (a, oe) (List.mem_append.mpr (.inl List.mem_cons_self))
      obtain ⟨vs, hv⟩ := hf
      have hx : ObjOk X.prog X.w H s.heap dd (.xd fs) := I.hok dd _ hd
      obtain ⟨mA, ⟨od, es, ep, ho, _⟩, _⟩ := hx
      have J : PySem.W.InstAt s.heap a oe D (some od) := by
        obtain ⟨oc, od', oda, osl⟩ := oe
        obtain ⟨h1, h2⟩ := hz
        dsimp only at h1 h2 hv
        subst h1 h2 hv
        exact ⟨hget, rfl, rfl, ho⟩
      exact PySem.W.kia_one (kitx_O C) I.kIn J e (fun z => nomatch z) fun tk => ⟨.bl b, H, I.kept (t' := tk) fun _ _ z => z, rfl, q⟩
def tIsV (a dd : Addr) (i : Nat) (bs : List Bool) : TA := fun σ H Q => σ[i]? = some (some (.ref a)) ∧ (∃ fs, H dd = some (.xd fs)) ∧ Q (bs.map V.bl) H
section
variable {X : Cx} {a D dd : Addr} {oe : Obj} {pn : List (Addr × Obj)} {i : Nat}
theorem paIsV0 : PA (X.suite a ((a, oe) :: pn)) [] (tIsV a dd i []) := ⟨fun pos pins s σ H Q I h => (pa_nil (X := X.suite a ((a, oe) :: pn))).run pos pins s σ H Q I h.2.2⟩
theorem paIsV {x n : Str} {p p1 p2 pos : Pos} {C : Addr} {b : Bool} {bs : List Bool} {es : List Expr} (EC : ExcC X.K D) (hz : Zc (.ref D) (some dd) oe) (hf : ∃ vs, oe.data = .fields vs) (hk : PySem.W.kitOne X.K (.ref D) (.ref C) = some b)
    (hm : X.mg x = some (.ref C)) (bi : X.mg "isinstance" = none) (hg : Gl X x) (hgi : Gl X "isinstance") (hd : (x == ("__debug__" : Str)) = false) (hN : X.N[i]? = some n) (hv : Vis X.env.scope n) (hnd : (n == ("__debug__" : Str)) = false) (hnc : (n == ("__classdict__" : Str)) = false)
    (hr : PA (X.suite a ((a, oe) :: pn)) es (tIsV a dd i bs))
    (hs : starEach ((.Call (.Name "isinstance" p) [.Name n p1, .Name x p2] [] pos) :: es) X.env = (false, eval (.Call (.Name "isinstance" p) [.Name n p1, .Name x p2] [] pos) X.env) :: starEach es X.env := by rfl)
    (he : starEach (.Name n p1 :: [.Name x p2]) X.env = (false, eval (.Name n p1) X.env) :: starEach [.Name x p2] X.env := by rfl) :
    PA (X.suite a ((a, oe) :: pn)) ((.Call (.Name "isinstance" p) [.Name n p1, .Name x p2] [] pos) :: es) (tIsV a dd i (b :: bs)) := by
  have h1 : PE (X.suite a ((a, oe) :: pn)) (.Call (.Name "isinstance" p) [.Name n p1, .Name x p2] [] pos) (tCB (rIsV X.K D a dd) (tCons (tVar i) (tCons (tC (.ref C)) tNil))) :=
    pe_callB (call_isV EC hz hf) hgi bi (by decide +kernel) (pa_cons (pe_var hN hv hnd hnc) (pa_cons (pe_glob (v := .ref C) hg hm rfl hd) pa_nil rfl) he) (by decide) (by decide) rfl rfl
  refine ⟨fun pos' pins s σ H Q I h => (pa_cons h1 hr hs).run pos' pins s σ H Q I ?_⟩
  obtain ⟨h2, ⟨fs, hx⟩, h3⟩ := h
  exact ⟨_, h2, .ref C, .ref C, b, fs, rfl, hx, fun u r => r, hk, h2, ⟨fs, hx⟩, h3⟩
end
end My
/-! t[::-1] of a tuple -/
namespace My
open PySem PySem.Spec PyProof.Rows L2
theorem adjust_rev (n : Nat) : Builtin.Slice.sliceAdjust none none (-1) (n : Int) = ((n : Int) - 1, -1) := by
  unfold Builtin.Slice.sliceAdjust
  simp
theorem places_rev (n : Nat) : Builtin.Slice.slicePlaces ((n : Int) - 1) (-1) (-1) = n := by
  unfold Builtin.Slice.slicePlaces
  simp
  try omega
theorem fm_congr {α β : Type} {f g : α → Option β} : ∀ {l : List α}, (∀ x ∈ l, f x = g x) → l.filterMap f = l.filterMap g
  | [], _ => rfl
  | a :: l, h => by
    rw [List.filterMap_cons, List.filterMap_cons, h a (List.mem_cons_self ..), fm_congr fun x hx => h x (List.mem_cons_of_mem _ hx)]
theorem pick_rev (xs : Array Value) : ((List.range xs.size).filterMap fun (m : Nat) => xs[(((xs.size : Int) - 1) + (m : Int) * (-1)).toNat]?).toArray = xs.toList.reverse.toArray := by
  have e : (List.range xs.size).filterMap (fun (m : Nat) => xs[(((xs.size : Int) - 1) + (m : Int) * (-1)).toNat]?) = ((List.range xs.size).map fun k => xs.size - 1 - k).filterMap (xs[·]?) := by
    rw [List.filterMap_map]
    refine fm_congr fun k hk => ?_
    have := List.mem_range.mp hk
    have ei : (((xs.size : Int) - 1) + (k : Int) * (-1)).toNat = xs.size - 1 - k := by omega
    rw [ei]
    rfl
  rw [e, PySem.W.krv_range, List.filterMap_reverse, PySem.W.krv_all]
section
variable {prog : Program} {w : World} {A : Around} {E : Value → Shared → Prop} {s : Shared}
theorem sliceApplied_rev {sl : Addr} {vk : Value} {n : Nat} {Q : Int × Int × Nat → Shared → Prop} (hs : s.heap.IsSliceOf sl .none .none vk) (pk : IsPart vk (some (-1)))
    (h : Q ((n : Int) - 1, -1, n) s) : wpAny (model prog w) A (Builtin.Slice.sliceApplied (.ref sl) (pure (n : Int))) Q E s := by
  obtain ⟨os, hos, hcs, hds⟩ := id hs
  unfold Builtin.Slice.sliceApplied Builtin.Slice.sliceFields
  refine wpAny_bind (wpAny_bind (wpAny_field hos hds (x := .none) rfl (wpAny_bind (wpAny_field hos hds (x := .none) rfl (wpAny_bind (wpAny_field hos hds (x := vk) rfl (wpAny_pure ?_)))))))
  refine wpAny_bind (HT.slicePart_ pk ?_)
  show wpAny _ _ (if ((-1 : Int) == 0) = true then _ else _) _ _ s
  rw [if_neg (by decide)]
  refine wpAny_bind (HT.slicePart_ .none (wpAny_bind (HT.slicePart_ .none (wpAny_bind (wpAny_pure ?_)))))
  show wpAny _ _ (match Builtin.Slice.sliceAdjust none none (-1) (n : Int) with | (lo, hi) => pure (lo, (-1 : Int), Builtin.Slice.slicePlaces lo hi (-1))) _ _ s
  rw [adjust_rev n]
  show wpAny _ _ (pure ((n : Int) - 1, (-1 : Int), Builtin.Slice.slicePlaces ((n : Int) - 1) (-1) (-1))) _ _ s
  rw [places_rev]
  exact wpAny_pure h
theorem getItem_tuple_rev {t sl : Addr} {items : Array Value} {vk : Value} {Q : Value → Shared → Prop} (ht : IsTup s.heap t items) (hs : s.heap.IsSliceOf sl .none .none vk) (pk : IsPart vk (some (-1)))
    (h : Q (.ref s.heap.objs.size) { s with heap := s.heap.push { cls := .type "tuple", data := .seq items.toList.reverse.toArray } }) (hsz : items.size ≤ sizeLine) : wpAny (model prog w) A (getItem (.ref t) (.ref sl)) Q E s := by
  have hfit : sizeOk (.seq items.toList.reverse.toArray) := by
    show items.toList.reverse.toArray.size ≤ sizeLine
    rw [List.size_toArray, List.length_reverse, Array.length_toList]
    exact hsz
  obtain ⟨os, hos, hcs, hds⟩ := id hs
  have hTs : s.TypeIs (.ref sl) "slice" := ⟨os, hos, hcs⟩
  unfold getItem
  try with_reducible refine wpAny_holding ?_
  first | refine wpAny_bind (wpAny_pure ?_) | skip
  refine wpAny_bind (wpAny_sequenceKey ht.typeIs (by decide) ?_)
  refine wpAny_bind (wpAny_callSpecial?_slot (name := Str.ofString "__getitem__") ht.typeIs PyProof.Rows.slot_tuple_getitem
    (wpAny_call_entry PyProof.Rows.slot_tuple_getitem ht.typeIs PyProof.Rows.entry_tuple_getitem ?_ (PyProof.Rows.args_tuple_getitem _ _)))
  show wpAny _ _ (Builtin.Tuple.tupleItemsOf (.ref t) >>= _) _ _ s
  refine wpAny_bind (PyProof.Rows.tupleItemsOf_ ht ?_)
  refine wpAny_bind (wpAny_typeOf hTs ?_)
  rw [if_pos (by decide)]
  refine wpAny_bind (sliceApplied_rev hs pk ?_)
  show wpAny _ _ (if (((items.size : Int) - 1) == 0 && (-1 : Int) == 1 && items.size == items.size) = true then _ else _) _ _ s
  rw [if_neg (by simp), pick_rev]
  first
    | exact wpAny_bind (m := Builtin.Tuple.tupleExact _) (wpAny_newObj_type (wpAny_pure ⟨_, rfl, wpAny_pure h⟩) hfit)
    | exact wpAny_bind (m := Builtin.Tuple.tupleExact _) (wpAny_newObj_type (wpAny_bind (wpAny_pure (wpAny_pure ⟨_, rfl, wpAny_pure h⟩))) hfit)
    | exact wpAny_bind (wpAny_bind (m := Builtin.Tuple.tupleExact _) (wpAny_newObj_type (wpAny_pure (wpAny_pure ⟨_, rfl, wpAny_pure h⟩)) hfit))
    | exact wpAny_bind (wpAny_bind (m := Builtin.Tuple.tupleExact _) (wpAny_newObj_type (wpAny_pure ⟨_, rfl, wpAny_pure h⟩) hfit))
end
section
variable {X : Cx} {e k : Expr} {te tk : TE} {p2 pos : Pos}
/-- t[::-1] -/
def tRevT (K : PySem.W.Frag) (te : TE) (tk : TO) : TE := fun σ H Q => te σ H fun x H1 => tk σ H1 fun u H2 => ∃ a xs, x = .ref a ∧ u = some (-1) ∧ SqT K H2 a xs ∧ ∀ p, H2 p = none → Q (.ref p) (upd H2 p (.tup xs.reverse))
theorem pe_revT {to : TO} (he : PE X e te) (hk : PO X (some k) to) : PE X (.Subscript e (.Slice none none (some k) p2) pos) (tRevT X.K te to) := by
  refine ⟨fun pins s σ H Q I h => ?_⟩
  refine Subscript_ (thn (he.run pins s σ H _ I h) fun v s1 ⟨x, H1, I1, r1, q1⟩ => ?_)
  refine wpAny_Slice ?_
  rw [evalPart_none]
  refine wpAny_pure (wpAny_pure ?_)
  refine thn (hk.run pins s1 σ H1 _ I1 q1) fun vk s3 ⟨u, H3, I3, pk, a, xs, ex, eu, hx, q⟩ => ?_
  subst ex
  subst eu
  cases r1
  have I4 : Inv X pins σ H3 { s3 with heap := s3.heap.push { cls := .type "slice", data := .fields #[.none, .none, vk] } } := I3.kept (t' := s3.toks) fun b ob q => Heap.get?_push_of_some _ q
  obtain ⟨its, r, ht, hz⟩ := I4.tuple hx
  show wpAny (model X.prog X.w) X.A (subscriptTail e (.Slice none none (some k) p2) (.ref a) (.ref s3.heap.objs.size)) (EP X pins σ Q) X.xe { s3 with heap := s3.heap.push { cls := .type "slice", data := .fields #[.none, .none, vk] } }
  refine tail_any (ops := [.ref a, .ref s3.heap.objs.size]) ht.typeIs PyProof.Rows.slot_tuple_getitem.lookup ?_ (by with_unfolding_all rfl)
  refine getItem_tuple_rev ht (Heap.IsSliceOf.new ..) pk ?_ (by rw [List.size_toArray, ← r.length]; exact hz)
  refine ⟨.ref _, _, I4.laid (t' := s3.toks) (o := .tup xs.reverse) (fun b ob q => Heap.get?_push_of_some _ q) (Nat.le_refl _) ?_, rfl, q _ (I4.hok.fresh (Nat.le_refl _))⟩
  have rr : ∀ {xs : List V} {us : List Value}, Vals xs us → Vals xs.reverse us.reverse := fun {xs us} r => by
    induction r with
    | nil => exact .nil
    | cons a t ih => rw [List.reverse_cons, List.reverse_cons]; exact ih.append (.cons a .nil)
  exact ⟨by rw [List.length_reverse]; exact hz, its.reverse, rr r, IsTup.new _ _⟩
end
end My
/-! rules under a comprehension's letters -/
namespace My
open PySem L2
theorem pe_conv {X : Cx} {e : Expr} {t t' : TE} (h : PE X e t) (q : t = t') : PE X e t' := q ▸ h
end My
/-! x not in l, items by their own == -/
namespace My
open PySem PySem.Spec L2 PyProof.Rows PySem.MeetsSeq
section
variable {X : Cx} {k : Nat} {f C : Addr} {sp : Sp}
theorem eqB_own {A : Around} {pins : List (Addr × Obj)} {σ : L2.St} {H : Hp} {s : Shared} {a b dx dy : Addr} {fs gs : List (Str × V)} {e : Bool} (F : FnR X.prog X.w X.K X.mg X.base CX0 k f sp) (sb : Sub X k A)
    (hs : PySem.W.findIn X.K (.ref C) "__eq__" = some (some (.ref f))) (hf : PySem.W.isFn X.K (.ref f) = true) (I : Inv X pins σ H s) (ha : H a = some (.ins C dx fs)) (hb : H b = some (.ins C dy gs)) (self : a = b → e = true)
    (h : sp [.ref a, .ref b] H (fun v H' => v = .bl e ∧ H' = H) E0) : wpAny (model X.prog X.w) A (eqBool (.ref a) (.ref b)) (fun r s' => r = e ∧ Inv X pins σ H s') X.xe s := by
  by_cases hab : a = b
  · subst hab
    exact SeqAt.EqAt.same (A := A) (s := s) (.ref a) X.prog X.w X.xe _ ⟨(self rfl).symm, I⟩
  obtain ⟨mA, J, _⟩ := ins_get I.hok ha
  obtain ⟨mB, J', _⟩ := ins_get I.hok hb
  obtain ⟨od, J, _⟩ := J.look
  obtain ⟨od', J', _⟩ := J'.look
  obtain ⟨m, hF⟩ := I.fr
  refine GQ.eqBool_refG hab ?_
  refine PySem.W.cmp_K (op := .Eq) (tb := .ref C) sb.room.units0 hF I.ok.mod.kin J J'.type (by simp [PySem.W.notFirst]) hs hf ?_
  have e0 : Env0 X.prog X.w X.K X.mg X.base A X.stack s H := by
    have e := I.env0
    exact ⟨by rw [sb.fr]; exact e.frames, e.mod, e.bs, e.bsz, e.funs, e.frf, e.hok, e.bare⟩
  refine wpAny_call (codeAny_mono (F A X.stack s H [.ref a, .ref b] [.ref a, .ref b] _ E0 sb.room e0 (.cons rfl (.cons rfl .nil)) h) fun r s' hq => ?_)
  cases r with
  | error e => exact (show False from hq).elim
  | ok fl =>
    cases fl with
    | ret w =>
      obtain ⟨z, H', I', rz, ez, eH⟩ := I.after hq
      subst ez eH
      cases rz
      exact ⟨e, rfl, rfl, I'⟩
    | next => exact False.elim hq
    | brk => exact False.elim hq
    | cont => exact False.elim hq
open PySem.SeqAt in
theorem has_loopO {A : Around} {pins : List (Addr × Obj)} {σ : L2.St} {H : Hp} {R : Result → Shared → Prop} {l a : Addr} {xs : List V} {es : List Bool} (hl : H l = some (.lst xs)) (hle : es.length = xs.length)
    (turn : ∀ (i : Nat) (x : V), xs[i]? = some x → ∃ (b : Addr) (e : Bool), x = .ref b ∧ es[i]? = some e ∧ ∀ s, Inv X pins σ H s → wpAny (model X.prog X.w) A.in1 (eqBool (.ref b) (.ref a)) (fun r s' => r = e ∧ Inv X pins σ H s') (fun e s' => R (.error e) s') s) (n : Nat) :
    ∀ (i : Nat), xs.length - i = n → i ≤ xs.length → (∀ s, Inv X pins σ H s → R (.ok (.ret (.bool ((es.drop i).any id)))) s) → ∀ s, Inv X pins σ H s →
      wpAny (model X.prog X.w) A.in1 (Builtin.«list.__contains__.loop» ⟨[.ref l, .ref a, rawInt i], []⟩) (GQ.FinOf X.prog X.w A R) (fun e s' => R (.error e) s') s := by
  induction n with
  | zero =>
    intro i hk hi hR s I
    obtain ⟨hz, its, ep, rv, hob⟩ := I.hok l _ hl
    have hR := hR s I
    have hsz : its.toArray.size = xs.length := by rw [List.size_toArray, rv.length]
    rw [List.drop_eq_nil_of_le (by omega)] at hR
    obtain ⟨hp, g, d, tk, os⟩ := s
    wp_walk using wpAny_loadPart' hob
    have hi1 : its.toArray[((i : Nat) : Int).toNat]? = none := by simp; rw [← rv.length]; omega
    rw [hi1]
    wp_walk
    exact hR
  | succ n ih =>
    intro i hk hi hR s I
    obtain ⟨hz, its, ep, rv, hob⟩ := I.hok l _ hl
    have hlt : i < xs.length := by omega
    obtain ⟨b, e, eb, ee, ht⟩ := turn i xs[i] (List.getElem?_eq_getElem hlt)
    have ht := ht s I
    have hsz : i < its.length := by rw [← rv.length]; exact hlt
    have hv : its[i]? = some (.ref b) := by
      obtain ⟨u, hu, ru⟩ := rv.get (List.getElem?_eq_getElem hlt)
      rw [eb] at ru
      cases ru
      exact hu
    have hd : es.drop i = e :: es.drop (i + 1) := by
      obtain ⟨h1, h2⟩ := List.getElem?_eq_some_iff.mp ee
      rw [List.drop_eq_getElem_cons h1, h2]
    obtain ⟨hp, g, d, tk, os⟩ := s
    wp_walk using wpAny_loadPart' hob
    have hi1 : its.toArray[((i : Nat) : Int).toNat]? = some (.ref b) := by simpa using hv
    have hc : ((i : Int) + 1) = ((i + 1 : Nat) : Int) := by omega
    rw [hi1]
    refine wpAny_bind (wpAny_mono ht (fun r s2 h2 => ?_) fun _ _ x => x)
    obtain ⟨hr, I2⟩ := h2
    rw [← hr] at hd
    cases he : r with
    | true =>
      have := hR s2 I2
      rw [hd, List.any_cons, he] at this
      obtain ⟨hp2, g2, d2, tk2, os2⟩ := s2
      wp_walk
      exact this
    | false =>
      have hrec := ih (i + 1) (by omega) (by omega) (fun s' I' => by have := hR s' I'; rw [hd, List.any_cons, he] at this; simpa using this) s2 I2
      obtain ⟨hp2, g2, d2, tk2, os2⟩ := s2
      wp_walk
      rw [hc]
      exact ⟨plainId_quiet plain_contains_loop _, codeAny_builtin entry_contains_loop (by
        rw [Around.under_plainId plain_contains_loop _]
        exact hrec)⟩
def rNotInO (C : Addr) (sp : Sp) : R2 := fun x y H Q => ∃ l xs a dx fs, ∃ es : List Bool, y = .ref l ∧ x = .ref a ∧ H l = some (.lst xs) ∧ H a = some (.ins C dx fs) ∧ es.length = xs.length ∧ (∀ (i : Nat) (z : V), xs[i]? = some z → ∃ (b dy : Addr) (gs : List (Str × V)) (e : Bool), z = .ref b ∧ es[i]? = some e ∧ H b = some (.ins C dy gs) ∧ (b = a → e = true) ∧ sp [.ref b, .ref a] H (fun v H' => v = .bl e ∧ H' = H) E0) ∧ Q (.bl (!es.any id)) H
theorem op_notInO (F0 : FnR X.prog X.w X.K X.mg X.base CX0 k f sp) (hr : Room (k + 1) X.A)
    (hs : PySem.W.findIn X.K (.ref C) "__eq__" = some (some (.ref f))) (hf : PySem.W.isFn X.K (.ref f) = true) : OpR X (compareOp .NotIn) (rNotInO C sp) := by
  intro pins s σ H x y v u Q I rx ry hq
  obtain ⟨l, xs, a, dx, fs, es, rfl, rfl, hl, ha, hle, turn, q⟩ := hq
  cases rx
  cases ry
  obtain ⟨hz, its, ep, rv, hob⟩ := I.hok l _ hl
  have key : ∀ (Qv : Value → Shared → Prop), (∀ s', Inv X pins σ H s' → Qv (.bool (es.any id)) s') → wpAny (model X.prog X.w) X.A (call (.builtin "list.__contains__") [.ref l, .ref a]) Qv X.xe s := by
    intro Qv hQ
    refine GQ.call_here F.slot_list_contains ⟨_, hob, rfl⟩ F.entry_list_contains (F.args_list_contains_2 _ _) ?_
    have hrec := has_loopO (A := X.A) (R := wants Qv X.xe) (es := es) (a := a) hl hle (fun i z hz => by
      obtain ⟨b, dy, gs, e, rfl, ee, hb, self, h⟩ := turn i z hz
      exact ⟨b, e, rfl, ee, fun s' I' => eqB_own F0 (Sub.in1 (n := k) ⟨hr, rfl⟩) hs hf I' hb ha self h⟩) _ 0 rfl (Nat.zero_le _) (fun s' I' => hQ s' I') s I
    obtain ⟨hp, g, d, tk, os⟩ := s
    wp_walk using wpAny_loadPart' hob
    exact ⟨plainId_quiet plain_contains_loop _, codeAny_builtin entry_contains_loop (by
      rw [Around.under_plainId plain_contains_loop _]
      exact hrec)⟩
  show wpAny _ X.A (do return Value.bool (!(← contains (.ref l) (.ref a)))) _ X.xe s
  exact wpAny_bind (wpAny_contains_slot ⟨_, hob, rfl⟩ F.slot_list_contains (key _ fun s' I' => wpAny_truthy_bool (wpAny_pure ⟨.bl _, H, I', rfl, q⟩)))
end
end My
/-! sorted(xs, key=lambda a: ..) -/
namespace My
open PySem PySem.Spec L2 LamX PyProof.Rows PySem.W PySem.Calls
/-- one parameter, no other name of its own: captured ones and globals -/
structure LamS1 (sc scope : Scope) (a : Str) : Prop where
  kind : scope.kind = .function
  co : scope.isCoroutine = false
  gen : scope.isGenerator = false
  par : scope.names.lookup a = some .local
  own : ∀ y ∈ scope.names, y.2 ≠ .cell ∧ (y.2 = .local → y.1 = a)
  free : ∀ y ∈ scope.names, y.2 = .free → sc.names.lookup y.1 = some .cell ∨ sc.names.lookup y.1 = some .free
def lamS1B (sc scope : Scope) (a : Str) : Bool :=
  decide (scope.kind = .function) && !scope.isCoroutine && !scope.isGenerator && decide (scope.names.lookup a = some .local) && scope.names.all fun y => !decide (y.2 = .cell) && (!decide (y.2 = .local) || decide (y.1 = a)) && (!decide (y.2 = .free) || decide (sc.names.lookup y.1 = some .cell) || decide (sc.names.lookup y.1 = some .free))
theorem lamS1_by {sc scope : Scope} {a : Str} (h : lamS1B sc scope a = true) : LamS1 sc scope a := by
  unfold lamS1B at h
  simp only [Bool.and_eq_true, Bool.or_eq_true, Bool.not_eq_true', decide_eq_true_eq, decide_eq_false_iff_not, List.all_eq_true] at h
  obtain ⟨⟨⟨⟨h1, h2⟩, h3⟩, h5⟩, h4⟩ := h
  refine ⟨h1, h2, h3, h5, fun y hy => ⟨(h4 y hy).1.1, fun e => ?_⟩, fun y hy e => ?_⟩
  · rcases (h4 y hy).1.2 with z | z
    · exact absurd e z
    · exact z
  · rcases (h4 y hy).2 with (z | z) | z
    · exact absurd e z
    · exact .inl z
    · exact .inr z
theorem LamS1.has {X : Cx} {scope : Scope} {a : Str} (L : LamS1 X.env.scope scope a) (ok : X.Ok) : ∀ y ∈ scope.names, y.2 = .free → ∃ c, X.env.cells.lookup y.1 = some c := fun y hy e => by
  rcases L.free y hy e with k | k
  · exact ok.has _ (.inl k)
  · exact ok.has _ (.inr k)
/-- the context of the lambda's body, entered at s from the frames outer -/
def lamCx1 (X : Cx) (A : Around) (outer : List Env) (s : Shared) (H : Hp) (E : XK) (scope : Scope) (f c' : Addr) (a : Str) : Cx where
  prog := X.prog
  w := X.w
  K := X.K
  mg := X.mg
  base := X.base
  A := A.deeper (lamEnv X scope s.heap.objs.size f c')
  N := X.N ++ [a]
  s_0 := s
  H_0 := H
  env := lamEnv X scope s.heap.objs.size f c'
  outer := outer
  stack := lamEnv X scope s.heap.objs.size f c' :: outer
  ex := []
  fn := fun _ => false
  calm := true
  pn := []
  xe := fun e s' => wpAny (model X.prog X.w) (A.deeper (lamEnv X scope s.heap.objs.size f c')) (leaving (lamEnv X scope s.heap.objs.size f c') e) (fun _ s'' => L2.CX X.prog X.w outer H s E e s'') (fun e' s'' => L2.CX X.prog X.w outer H s E e' s'') s'
section
variable {X : Cx} {pins : List (Addr × Obj)} {σ : L2.St} {H : Hp} {s : Shared}
theorem lam_start1 {A : Around} {outer : List Env} {E : XK} {scope : Scope} {f c' : Addr} {a : Str} {x : V} {v : Value} {h₁ : Heap} {tk : Nat} (I : Inv X pins σ H s) (L : LamS1 X.env.scope scope a) (hna : a ∉ X.N) (e0 : Env0 X.prog X.w X.K X.mg X.base A outer s H) (hd : A.handled = none) (rx : RelV x v)
    (hns : h₁.Ns s.heap.objs.size fun y => ([(a, v)] : List (Str × Value)).reverse.lookup y) (kp : ∀ b o, s.heap.get? b = some o → h₁.get? b = some o) :
    Inv (lamCx1 X A outer s H E scope f c' a) [] (σ ++ [some x]) H { s with heap := h₁, toks := tk } := by
  have hfree := L.has I.ok
  have cm : ∀ {y c}, (cloFrom X.env.cells scope.names []).lookup y = some c → X.env.cells.lookup y = some c := fun {y c} e => by
    rcases cloFrom_mem (PySem.mem_of_lookup e) with hm | ⟨h1, h2⟩
    · cases hm
    · obtain ⟨c1, hc⟩ := hfree _ h1 rfl
      have hc : X.env.cells.lookup y = some c1 := hc
      have e2 : c = c1 := by
        rw [h2, hc] <;> rfl
      rw [e2]
      exact hc
  have look : ∀ {y}, scope.names.lookup y = some .free → ∃ c, (cloFrom X.env.cells scope.names []).lookup y = some c := fun {y} hl => by
    have hy : (y, NameKind.free) ∈ scope.names := PySem.mem_of_lookup hl
    exact mem_lookup (cloFrom_has (cells := X.env.cells) (acc := []) hy)
  have cellK : ∀ {c : Addr} {v : Option Value}, s.heap.IsCell c v → h₁.IsCell c v := fun {c v} ⟨o, ho, hd⟩ => ⟨_, kp _ _ ho, hd⟩
  have noA : ∀ b : Addr, b ∉ (lamCx1 X A outer s H E scope f c' a).ex := fun b z => absurd (show b ∈ ([] : List Addr) from z) (by simp)
  refine ⟨⟨e0.mod, L.kind, rfl, rfl, Nat.le_refl _, fun y z c e1 e2 => I.ok.inj y z c (cm e1) (cm e2), fun y hy => ?_, fun y c z _ => ?_, fun _ => hd, Around.frames_deeper e0.frames, .inr ⟨rfl, rfl⟩, fun b z => absurd z (noA b), e0.bs, e0.bsz, fun b _ _ => noA b,
      fun b z => absurd z (noA b), e0.funs, e0.frf⟩,
    rfl, e0.bare, Un.kept kp, ⟨_, hns, fun i y v' e1 e2 e3 => ?_⟩, fun y c e => ?_, e0.hok.fresh (Nat.le_refl _), fun y c e => I.freeC y c (cm e), fun q hq => absurd (show q ∈ ([] : List (Addr × Obj)) ++ [] from hq) (by simp), e0.hok.kept kp, ?_⟩
  · have hy : scope.names.lookup y = some .cell ∨ scope.names.lookup y = some .free := hy
    rcases hy with hy | hy
    · exact absurd rfl (L.own _ (PySem.mem_of_lookup hy)).1
    · exact look hy
  · have z : false = true := z
    cases z
  · have e1 : (X.N ++ [a])[i]? = some y := e1
    have e3 : Vis scope y := e3
    by_cases hi : i < X.N.length
    · rw [List.getElem?_append_left hi] at e1
      rw [List.getElem?_append_left (by rw [I.len]; exact hi)] at e2
      have ny : y ≠ a := fun z => hna (by rw [← z]; exact List.mem_of_getElem? e1)
      rcases e3 with k | k | k
      · exact absurd ((L.own _ (PySem.mem_of_lookup k)).2 rfl) ny
      · exact absurd rfl (L.own _ (PySem.mem_of_lookup k)).1
      · obtain ⟨m, hn, hl⟩ := I.loc
        have hvis : Vis X.env.scope y := (L.free _ (PySem.mem_of_lookup k) rfl).elim (fun k => .inr (.inl k)) (fun k => .inr (.inr k))
        obtain ⟨w', r, q⟩ := hl i y v' e1 e2 hvis
        obtain ⟨c2, h2⟩ := look k
        refine ⟨w', r, .inr ⟨.inr k, c2, h2, ?_⟩⟩
        have c1 := cm h2
        rcases q with ⟨k', _⟩ | ⟨_, c3, e', z⟩
        · have k' : X.env.scope.names.lookup y = some .local := k'
          rcases L.free _ (PySem.mem_of_lookup k) rfl with k2 | k2 <;> rw [show X.env.scope.names.lookup y = _ from k2] at k' <;> cases k'
        · rw [c1] at e'
          cases e'
          exact cellK z
    · rw [List.getElem?_append_right (by omega)] at e1
      rw [List.getElem?_append_right (by rw [I.len]; omega)] at e2
      have hz : i - X.N.length = 0 := by
        have := (List.getElem?_eq_some_iff.mp e1).1
        rw [List.length_singleton] at this
        omega
      rw [hz] at e1
      rw [I.len, hz] at e2
      have ey : y = a := (Option.some.inj e1).symm
      have ev : v' = x := (Option.some.inj (Option.some.inj e2)).symm
      subst ey ev
      refine ⟨v, rx, .inl ⟨L.par, ?_⟩⟩
      simp [List.lookup]
  · obtain ⟨w', z⟩ := I.cell y c (cm e)
    exact ⟨w', cellK z⟩
  · show (σ ++ [some x]).length = (X.N ++ [a]).length
    rw [List.length_append, List.length_append, I.len]
    rfl
/-- the lambda is called -/
theorem lam_call1 {A : Around} {params : Arguments} {body : Expr} {scope : Scope} {f c' : Addr} {a : Str} {k : Nat} {x : V} {v pm ctv : Value} {tb : TE} {Q : VK} {E : Value → Shared → Prop} (I : Inv X pins σ H s) (L : LamS1 X.env.scope scope a) (hna : a ∉ X.N) (sb : Sub X (k + 1) A)
    (hf : s.heap.get? f = some (PySem.W.kla_obj "<lambda>" (X.env.qual ++ "<lambda>") params body scope (cloFrom X.env.cells scope.names []) pm c' ctv)) (hfn : H f = none) (hfr : f ∉ frs X.stack) (hc : H c' = some (CodeO c' (X.env.qual ++ "<lambda>")))
    (hbind : ∀ v, bindArgs (PySem.W.kla_fn "<lambda>" (X.env.qual ++ "<lambda>") params body scope (cloFrom X.env.cells scope.names []) pm (.ref c') ctv) ⟨[v], []⟩ = pure [(a, v)])
    (hbody : ∀ (A : Around) (outer : List Env) (s : Shared) (H : Hp), Room k (A.deeper (lamEnv X scope s.heap.objs.size f c')) → PE (lamCx1 X A outer s H C8.E0 scope f c' a) body tb) (rx : RelV x v) (ht : tb (σ ++ [some x]) H Q) :
    wpAny (model X.prog X.w) A (call (.ref f) [v]) (fun r s' => ∃ z H', Inv X pins σ H' s' ∧ RelV z r ∧ Q z H' ∧ H' f = none ∧ s'.heap.get? f = some (PySem.W.kla_obj "<lambda>" (X.env.qual ++ "<lambda>") params body scope (cloFrom X.env.cells scope.names []) pm c' ctv)) E s := by
  obtain ⟨⟨oc, vs, t, hoc, hdc, hvc⟩, _, _⟩ := I.hok c' _ hc
  have e0 : Env0 X.prog X.w X.K X.mg X.base A X.stack s H := by
    have e := I.env0
    exact ⟨by rw [sb.fr]; exact e.frames, e.mod, e.bs, e.bsz, e.funs, e.frf, e.hok, e.bare⟩
  have rc : codeAny (model X.prog X.w) A (.call (.ref f) ⟨[v], []⟩) (CR (L2.CX X.prog X.w) X.stack X.prog X.w H s Q C8.E0) s := by
    refine PySem.W.kla_callFunE sb.room.depth hf rfl L.co L.gen rfl ⟨c', oc, vs, t, rfl, hoc, hdc, hvc⟩ ?_
    rw [hbind v]
    refine wpAny_pure (wpAny_newFunctionEnv (fun y hy => (L.own y hy).1) (fun y hy => by
      rw [List.mem_singleton.mp hy]; exact L.par) (fun h₁ hns hsb => ⟨I.nolimit.fresh _ hsb, ?_⟩) L.kind)
    show codeAny _ _ (.expr body (lamEnv X scope s.heap.objs.size f c')) _ _
    have kp : ∀ b o, s.heap.get? b = some o → h₁.get? b = some o := fun b o e => hsb.extBut b o (Nat.ne_of_lt (Heap.lt_size e)) (Heap.get?_push_of_some _ e)
    have J : Inv (lamCx1 X A X.stack s H C8.E0 scope f c' a) [] (σ ++ [some x]) H { s with heap := h₁, toks := s.toks + ([(a, v)] : List (Str × Value)).length } :=
      lam_start1 I L hna e0 sb.room.hd rx hns kp
    refine PySem.W.kla_codeExpr (wpAny_mono ((hbody _ _ s H (sb.room.deeper _)).run [] _ _ H Q J ht) (fun v s' hq => ?_) fun e s' hq => hq)
    obtain ⟨w', H', J', rv, q⟩ := hq
    exact ⟨w', H', J'.os, J'.bare, J'.base, J'.hok, rv, q⟩
  refine wpAny_call (codeAny_mono rc fun r s' hq => ?_)
  cases r with
  | error e =>
    exfalso
    obtain ⟨_, _, _, _, _, _, _, _, _, _, _, _, _, _, _, _, z⟩ := hq
  | ok fl =>
    cases fl with
    | ret u =>
      have un : ∃ z H', s'.os = s.os ∧ AllBare s'.gens ∧ Un (frs X.stack) [] H H' s.heap s'.heap ∧ HOk X.prog X.w H' s'.heap ∧ RelV z u ∧ Q z H' := hq
      obtain ⟨z, H', os, bare, un, hok, rz, q⟩ := un
      exact ⟨z, H', I.call' (ch := []) os un hok bare (fun b z => absurd z (by simp)), rz, q, un.free f _ hf hfn (by simp), un.keep f _ hf hfn hfr (by simp)⟩
    | next => exact False.elim hq
    | brk => exact False.elim hq
    | cont => exact False.elim hq
/-- one object, known to the letter -/
def ExactO (ob : Obj) (a : Addr) : HO := .ext fun h => h.get? a = some ob
theorem exact_ok {P : Program} {w : World} {H : Hp} {h : Heap} {a : Addr} {ob : Obj} (e : h.get? a = some ob) : ObjOk P w H h a (ExactO ob a) := ⟨e, ⟨ob, e⟩, fun g1 g2 z k => k ob z⟩
/-! keys without lists -/
mutual
def nlB : PyData → Bool
  | .list _ => false
  | .tuple xs => nlAll xs
  | _ => true
def nlAll : List PyData → Bool
  | [] => true
  | x :: xs => nlB x && nlAll xs
end
mutual
theorem Dp.keepN {K : PySem.W.Frag} {H H' : Hp} {d : Addr} {ys : List V} (hd : H d = some (.lst ys)) (k : Keep d H H') : ∀ {v : V} {p : PyData}, nlB p = true → Dp K H v p → Dp K H' v p
  | _, _, _, .non => .non
  | _, _, _, .bl b => .bl b
  | _, _, _, .int i => .int i
  | _, _, _, .str x => .str x
  | _, _, n, .lst _ _ => by cases n
  | _, _, n, .tup h t => .tup (keep_T h hd k) (DpAll.keepN hd k n t)
theorem DpAll.keepN {K : PySem.W.Frag} {H H' : Hp} {d : Addr} {ys : List V} (hd : H d = some (.lst ys)) (k : Keep d H H') : ∀ {vs : List V} {ps : List PyData}, nlAll ps = true → DpAll K H vs ps → DpAll K H' vs ps
  | _, _, _, .nil => .nil
  | _, _, n, .cons h t => by
    have n := (Bool.and_eq_true _ _).mp n
    exact .cons (Dp.keepN hd k n.1 h) (DpAll.keepN hd k n.2 t)
end
mutual
theorem dp_same {K : PySem.W.Frag} {H H' : Hp} (s : Same H H') : ∀ {v : V} {p : PyData}, Dp K H v p → Dp K H' v p
  | _, _, .non => .non
  | _, _, .bl b => .bl b
  | _, _, .int i => .int i
  | _, _, .str x => .str x
  | _, _, .lst h t => .lst (s.seq h) (dps_same s t)
  | _, _, .tup h t => .tup (same_T s h) (dps_same s t)
theorem dps_same {K : PySem.W.Frag} {H H' : Hp} (s : Same H H') : ∀ {vs : List V} {ps : List PyData}, DpAll K H vs ps → DpAll K H' vs ps
  | _, _, .nil => .nil
  | _, _, .cons h t => .cons (dp_same s h) (dps_same s t)
end
theorem nl_take : ∀ {ps : List PyData}, nlAll ps = true → ∀ i, nlAll (ps.take i) = true
  | [], _, i => by rw [List.take_nil]; rfl
  | x :: xs, n, 0 => rfl
  | x :: xs, n, i + 1 => by
    have n := (Bool.and_eq_true _ _).mp n
    show (nlB x && nlAll (xs.take i)) = true
    rw [n.1, nl_take n.2 i]
    rfl
theorem nl_at : ∀ {ps : List PyData}, nlAll ps = true → ∀ {i : Nat} {p : PyData}, ps[i]? = some p → nlB p = true
  | x :: xs, n, 0, p, h => by cases h; exact ((Bool.and_eq_true _ _).mp n).1
  | x :: xs, n, i + 1, p, h => nl_at ((Bool.and_eq_true _ _).mp n).2 (i := i) (by simpa using h)
theorem dp_snoc {K : PySem.W.Frag} {H : Hp} {v : V} {p : PyData} (h : Dp K H v p) : ∀ {vs : List V} {ps : List PyData}, DpAll K H vs ps → DpAll K H (vs ++ [v]) (ps ++ [p])
  | _, _, .nil => .cons h .nil
  | _, _, .cons g t => .cons g (dp_snoc h t)
theorem vals_snoc {v : V} {u : Value} (h : RelV v u) : ∀ {vs : List V} {us : List Value}, Vals vs us → Vals (vs ++ [v]) (us ++ [u])
  | _, _, .nil => .cons h .nil
  | _, _, .cons g t => .cons g (vals_snoc h t)
/-- the keys are let go, the items stand in the list -/
def Ended (a kS : Addr) (out : List Value) (P : PySem.Fin → Shared → Prop) (s : Shared) : Prop := ∀ tk, P (.done (.ret .none)) { s with heap := (s.heap.update kS (Obj.mapSeq fun _ => (#[] : Array Value))).update a (Obj.mapSeq fun _ => out.toArray), toks := tk }
theorem endI {A : Around} {E : Value → Shared → Prop} {P : PySem.Fin → Shared → Prop} {a kS : Addr} {e1 n : Nat} {st : SortSt} {ka : Array Value} {out : List Value} (hk : s.heap.get? kS = some (seqObj "list" ka n)) (ha : s.heap.get? a = some (seqObj "list" #[] e1)) (ne : kS ≠ a)
    (z1 : ka.size ≤ sizeLine) (z2 : out.length ≤ sizeLine) (nf : failedOf st = none) (eo : (arrOf st).map (·.2) = out.toArray) (fin : Ended a kS out P s) :
    wpAny (model X.prog X.w) A (ksk_tail a false e1 (.ref kS) st) P E s := by
  have g1 := get?_update_seq hk fun _ => (#[] : Array Value)
  have a1 : (s.heap.update kS (Obj.mapSeq fun _ => (#[] : Array Value))).get? a = some (seqObj "list" #[] e1) := by rw [Heap.get?_update_ne _ _ _ _ ne.symm]; exact ha
  unfold ksk_tail
  dsimp only
  rw [eo, nf]
  refine wpAny_bind (listUpdate_at hk rfl ?_ z1 (Nat.zero_le _))
  refine wpAny_bind (wpAny_letGo (wpAny_bind (seqEpoch_at a1 rfl ?_)))
  refine wpAny_bind (listUpdate_at a1 rfl ?_ (Nat.zero_le _) (by rw [if_neg (by decide)]; show out.toArray.size ≤ _; rw [List.size_toArray]; omega))
  simp only [bne_self_eq_false, Bool.false_eq_true, if_false]
  exact wpAny_pure (fin _)
theorem mergeI {A : Around} {E : Value → Shared → Prop} {P : PySem.Fin → Shared → Prop} {a kS : Addr} {e1 n : Nat} {ka : Array Value} {its : List Value} {κ : PyProof.Rows.KeyKind} (hk : s.heap.get? kS = some (seqObj "list" ka n)) (ha : s.heap.get? a = some (seqObj "list" #[] e1)) (ne : kS ≠ a)
    (S : SortsAt X.prog X.w A s κ ka.toList) (hz : ka.size = its.length) (z : its.length ≤ sizeLine) (fin : Ended a kS (sortVals κ false ka.toList its) P s) :
    wpAny (model X.prog X.w) A (ksk_end a false its.toArray e1 (.ref kS) ka) P E s := by
  obtain ⟨kd, lt, kn⟩ := S.kind
  have KO : PyProof.Rows.KeysOf κ (ka.zip its.toArray) := keysOf_zip S.keys
  have lo : (sortVals κ false ka.toList its).length = its.length := sortVals_length false (by rw [Array.length_toList]; exact hz)
  have zz : (ka.zip its.toArray).size = its.length := by rw [Array.size_zip, hz, List.size_toArray, Nat.min_self]
  have outs : ∀ st' : SortSt, (arrOf st').Perm (ka.zip its.toArray) → SortedToK κ (arrOf st') (ka.zip its.toArray).size → Stable κ (arrOf st') (ka.zip its.toArray) → (arrOf st').map (·.2) = (sortVals κ false ka.toList its).toArray := fun st' p1 p2 p3 => by
    have r := sort_out (rev := false) (keys := ka) (items := its.toArray) (xs := arrOf st') (κ := κ) KO p1 p2 p3
    have r := congrArg List.toArray r
    rw [Array.toArray_toList] at r
    exact r
  unfold ksk_end
  dsimp only
  rw [if_neg (show ¬ (false = true) by decide)]
  by_cases few : its.toArray.size < 2
  · rw [if_pos few, if_pos few]
    refine wpAny_bind (wpAny_pure ?_)
    rw [StateT.run_pure]
    refine wpAny_bind (wpAny_pure ?_)
    refine endI (X := X) (st := SortSt.mk' general' (ka.zip its.toArray) #[] 7 none) hk ha ne (by omega) (by omega) rfl (outs _ (Array.Perm.refl _) (fun i j hij hj => ?_) (Stable.refl _)) fin
    rw [zz] at hj
    rw [List.size_toArray] at few
    obtain rfl : i = j := by omega
    exact KeyOrd.kle_refl _
  · rw [if_neg few, if_neg few]
    rw [List.size_toArray] at few
    refine wpAny_bind (kn (by rw [Array.length_toList]; omega) _ ?_)
    refine wpAny_bind (wpAny_mono (H.wpS_sortRunsSt (κ := κ) (kd := kd) (a₀ := ka.zip its.toArray) (st := SortSt.mk' kd (ka.zip its.toArray) #[] 7 none) (Q := fun _ st' => failedOf st' = none ∧ (arrOf st').map (·.2) = (sortVals κ false ka.toList its).toArray) lt KO ⟨Array.Perm.refl _, rfl, rfl⟩ rfl (Stable.refl _) (by omega) fun st' p1 p2 p3 p4 => ⟨p2, outs st' p1 p3 p4⟩) ?_ fun _ _ e => e)
    rintro ⟨⟨⟩, st'⟩ s' ⟨rfl, f1, f2⟩
    exact endI (X := X) hk ha ne (by omega) (by omega) f1 f2 fin
/-- what stands while the keys are made -/
structure Keying (X : Cx) (pins : List (Addr × Obj)) (σ : L2.St) (H : Hp) (a kS f : Addr) (ob fo : Obj) (ds : List PyData) (i : Nat) (s : Shared) : Prop where
  ex : ∃ Hi ks, Inv X pins σ Hi s ∧ Same H Hi ∧ Hi kS = some (.lst ks) ∧ Hi a = some (ExactO ob a) ∧ Hi f = none ∧ s.heap.get? f = some fo ∧ DpAll X.K Hi ks (ds.take i)
theorem dpl {K : PySem.W.Frag} {H : Hp} : ∀ {vs : List V} {ps : List PyData}, DpAll K H vs ps → vs.length = ps.length
  | _, _, .nil => rfl
  | _, _, .cons _ t => congrArg Nat.succ (dpl t)
theorem each_reads {us : List Value} {ds : List PyData} (I : Inv X pins σ H s) : ∀ {vs : List V} {us : List Value} {ds : List PyData}, Vals vs us → DpAll X.K H vs ds → EachIs (fun v d => ∃ as, Reads s.heap v d as) us ds
  | _, _, _, .nil, .nil => .nil
  | _, _, _, .cons r t, .cons h g => .cons (Dp.reads I _ _ _ h r) (each_reads (us := us) (ds := ds) I t g)
theorem restI {A : Around} {E : Value → Shared → Prop} {P : PySem.Fin → Shared → Prop} {params : Arguments} {body : Expr} {scope : Scope} {f c' a kS : Addr} {nm : Str} {k e1 : Nat} {pm ctv : Value} {tb : TE} {xs : List V} {its : List Value} {ds : List PyData}
    (L : LamS1 X.env.scope scope nm) (hna : nm ∉ X.N) (sb : Sub X (k + 1) A) (hfr : f ∉ frs X.stack)
    (hbind : ∀ v, bindArgs (PySem.W.kla_fn "<lambda>" (X.env.qual ++ "<lambda>") params body scope (cloFrom X.env.cells scope.names []) pm (.ref c') ctv) ⟨[v], []⟩ = pure [(nm, v)])
    (hbody : ∀ (A : Around) (outer : List Env) (s : Shared) (H : Hp), Room k (A.deeper (lamEnv X scope s.heap.objs.size f c')) → PE (lamCx1 X A outer s H C8.E0 scope f c' nm) body tb)
    (K0 : Keying X pins σ H a kS f (seqObj "list" #[] e1) (PySem.W.kla_obj "<lambda>" (X.env.qual ++ "<lambda>") params body scope (cloFrom X.env.cells scope.names []) pm c' ctv) ds 0 s) (hka : kS ≠ a) (hkn : H kS = none) (hc : H c' = some (CodeO c' (X.env.qual ++ "<lambda>")))
    (rv : Vals xs its) (hz : xs.length ≤ sizeLine) (hld : ds.length = xs.length) (al : AllAlike ds) (so : Sortable ds) (nl : nlAll ds = true) (dep : ∀ d ∈ ds, A.units + d.depth < cLine)
    (turn : ∀ (i : Nat) (x : V) (d : PyData), xs[i]? = some x → ds[i]? = some d → ∀ H3, Same H H3 → tb (σ ++ [some x]) H3 (fun v H4 => Same H3 H4 ∧ Dp X.K H4 v d))
    (fin : ∀ (s' : Shared) (Hi : Hp) (ks : List V) (out : List Value), Inv X pins σ Hi s' → Same H Hi → Hi kS = some (.lst ks) → Hi a = some (ExactO (seqObj "list" #[] e1) a) → KeyedOut false ds its out → Ended a kS out P s') :
    wpAny (model X.prog X.w) A (ksk_rest a (.ref f) false its.toArray e1 (.ref kS)) P E s := by
  have hl := rv.length
  unfold ksk_rest
  refine wpAny_bind (wpAny_rule ?_)
  rw [List.forIn_toArray]
  refine wpAny_bind (ksk_fold (fun i s' => Keying X pins σ H a kS f (seqObj "list" #[] e1) (PySem.W.kla_obj "<lambda>" (X.env.qual ++ "<lambda>") params body scope (cloFrom X.env.cells scope.names []) pm c' ctv) ds i s') its 0 s K0 ?_ ?_)
  · rintro j u s' hu ⟨Hi, ks, I, sm, hk, ha, hf0, hf1, dk⟩
    rw [Nat.zero_add] at dk ⊢
    have jl : j < its.length := (List.getElem?_eq_some_iff.mp hu).1
    have hx : xs[j]? = some (xs[j]'(by omega)) := List.getElem?_eq_getElem _
    obtain ⟨u', hu', ru⟩ := rv.get hx
    rw [hu] at hu'
    cases hu'
    have hd : ds[j]? = some (ds[j]'(by omega)) := List.getElem?_eq_getElem _
    generalize xs[j]'(by omega) = x at *
    generalize ds[j]'(by omega) = d at *
    refine wpAny_bind (wpAny_attempt (wpAny_mono (lam_call1 (tb := tb) I L hna sb hf1 hf0 hfr (sm _ _ hc) hbind hbody ru (turn j x d hx hd Hi sm)) (fun v s2 h2 => ?_) fun _ _ z => z))
    obtain ⟨z, H4, I4, rz, ⟨s4, dz⟩, f4, g4⟩ := h2
    dsimp only
    have hk4 := s4 _ _ hk
    obtain ⟨hkz, ki, kn, krv, kob⟩ := I4.hok kS _ hk4
    have lks := dpl dk
    rw [List.length_take] at lks
    have lki := krv.length
    refine wpAny_bind (listUpdate_at kob rfl ?_ (by rw [List.size_toArray]; omega) (by rw [Array.size_push, List.size_toArray]; omega))
    have gk := get?_update_seq kob (·.push v)
    have nfk : f ≠ kS := fun e => by rw [e, hk4] at f4; cases f4
    have hv : ki.toArray.push v = (ki ++ [v]).toArray := by simp
    rw [hv] at gk
    have I5 := I4.write (x := kS) (e := kS) (o := .lst (ks ++ [z])) (t' := s2.toks) (h' := s2.heap.update kS (Obj.mapSeq (·.push v))) (by rw [hk4]; trivial) (.inl rfl) (fun b o nb e => by rw [Heap.get?_update_ne _ _ _ _ nb]; exact e) ⟨_, gk⟩ ⟨by rw [List.length_append, List.length_singleton]; omega, _, _, vals_snoc rz krv, gk⟩
    have kk := keep_upd (d := kS) (H := H4) (o := .lst (ks ++ [z]))
    refine wpAny_pure ⟨rfl, ⟨_, ks ++ [z], I5, ?_, upd_same, kk _ _ hka.symm (s4 _ _ ha), by rw [upd_ne nfk]; exact f4, by rw [Heap.get?_update_ne _ _ _ _ nfk]; exact g4, ?_⟩⟩
    · intro b o e
      rw [upd_ne (ne_of_none e hkn)]
      exact s4 _ _ (sm _ _ e)
    · have et : ds.take (j + 1) = ds.take j ++ [d] := by rw [List.take_succ, hd]; rfl
      rw [et]
      exact dp_snoc (Dp.keepN hk4 kk (nl_at nl hd) dz) (DpAll.keepN hk4 kk (nl_take nl j) (dps_same s4 dk))
  · rintro s' ⟨Hi, ks, I, sm, hk, ha, hf0, hf1, dk⟩
    rw [Nat.zero_add, List.take_of_length_le (by omega)] at dk
    obtain ⟨hkz, ki, kn, krv, kob⟩ := I.hok kS _ hk
    have lks := dpl dk
    have lki := krv.length
    have ga : s'.heap.get? a = some (seqObj "list" #[] e1) := (I.hok a _ ha).1
    have er := each_reads (us := []) (ds := []) I krv dk
    refine wpAny_bind (listItems_at kob rfl ?_)
    refine mergeI (X := X) (κ := dataKind s'.heap ds) kob ga hka (SortsAt.data (s := s') (by show EachIs _ ki ds; exact er) al so dep) (by rw [List.size_toArray]; omega) (by omega) (fin s' Hi ks _ I sm hk ha ⟨s'.heap, ki, al, rfl, er⟩)
theorem each_zip : ∀ {xs : List V} {us : List Value} {ds : List PyData}, Vals xs us → ds.length = xs.length → EachIs (fun v (b : V × PyData) => RelV b.1 v) us (xs.zip ds)
  | _, _, [], .nil, _ => .nil
  | _, _, d :: ds, .cons r t, h => .cons r (each_zip t (Nat.succ.inj h))
theorem vals_of_each : ∀ {us : List Value} {bs : List (V × PyData)}, EachIs (fun v (b : V × PyData) => RelV b.1 v) us bs → Vals (bs.map (·.1)) us
  | _, _, .nil => .nil
  | _, _, .cons r t => .cons r (vals_of_each t)
/-- sorted(l, key=f), f a lambda of this frame -/
theorem sortedI {params : Arguments} {body : Expr} {scope : Scope} {f c' l : Addr} {nm : Str} {k : Nat} {pm ctv : Value} {tb : TE} {xs : List V} {ds : List PyData} {Q : VK}
    (I : Inv X pins σ H s) (L : LamS1 X.env.scope scope nm) (hna : nm ∉ X.N) (hr : Room (k + 3) X.A) (hfr : f ∉ frs X.stack)
    (hbind : ∀ v, bindArgs (PySem.W.kla_fn "<lambda>" (X.env.qual ++ "<lambda>") params body scope (cloFrom X.env.cells scope.names []) pm (.ref c') ctv) ⟨[v], []⟩ = pure [(nm, v)])
    (hbody : ∀ (A : Around) (outer : List Env) (s : Shared) (H : Hp), Room k (A.deeper (lamEnv X scope s.heap.objs.size f c')) → PE (lamCx1 X A outer s H C8.E0 scope f c' nm) body tb)
    (hf : s.heap.get? f = some (PySem.W.kla_obj "<lambda>" (X.env.qual ++ "<lambda>") params body scope (cloFrom X.env.cells scope.names []) pm c' ctv)) (hfn : H f = none) (hc : H c' = some (CodeO c' (X.env.qual ++ "<lambda>")))
    (hl : SqL X.K H l xs) (hld : ds.length = xs.length) (al : AllAlike ds) (so : Sortable ds) (nl : nlAll ds = true) (dep : ∀ d ∈ ds, d.depth ≤ 60) (hu : X.A.units + 65 < cLine)
    (turn : ∀ (i : Nat) (x : V) (d : PyData), xs[i]? = some x → ds[i]? = some d → ∀ H3, Same H H3 → tb (σ ++ [some x]) H3 (fun v H4 => Same H3 H4 ∧ Dp X.K H4 v d))
    (q : ∀ H5 p, Same H H5 → H p = none → H5 p = some (.lst (((xs.zip ds).mergeSort (dataLe false (·.2))).map (·.1))) → Q (.ref p) H5) :
    wpAny (model X.prog X.w) X.A (call (.builtin "sorted") [.ref l] [(Str.ofString "key", .ref f)]) (EP X pins σ Q) X.xe s := by
  obtain ⟨its, rv, pl, hz⟩ := I.list hl
  have li := rv.length
  refine sorted_of_sort pl.isList (by omega) (ksk_s1 _ _) (fun _ => ksk_l1 _ _) fun E' => ?_
  rw [ksk_t1]
  have c0 := copyHeap_at s.heap its
  have g1 := get?_update_seq c0 fun _ => (#[] : Array Value)
  unfold ksk_tree
  refine wpAny_bind (listItems_at c0 rfl ?_)
  refine wpAny_bind (listUpdate_at c0 rfl ?_ (by rw [List.size_toArray]; omega) (Nat.zero_le _))
  refine wpAny_bind (seqEpoch_at g1 rfl ?_)
  refine wpAny_bind (wpAny_newTuple ?_ (by show its.length ≤ _; omega))
  refine wpAny_bind (wpAny_newList ?_ (Nat.zero_le _))
  refine wpAny_holding ?_
  have za : (copyHeap s.heap its).objs.size = s.heap.objs.size + 2 := by unfold copyHeap; rw [size_push', Heap.size_update, size_push']
  have old : ∀ b o, s.heap.get? b = some o → ((copyHeap s.heap its).update (s.heap.objs.size + 1) (Obj.mapSeq fun _ => (#[] : Array Value))).get? b = some o := fun b o e => by
    rw [Heap.get?_update_ne _ _ _ _ (Nat.ne_of_lt (Nat.lt_succ_of_lt (Heap.lt_size e)))]
    exact copyHeap_old e
  generalize hcase : (if ((#[] : Array Value).size == its.toArray.size) = true then 0 else 0 + 1) = e1 at *
  have za1 : ((copyHeap s.heap its).update (s.heap.objs.size + 1) (Obj.mapSeq fun _ => (#[] : Array Value))).objs.size = s.heap.objs.size + 2 := by rw [Heap.size_update, za]
  generalize (copyHeap s.heap its).update (s.heap.objs.size + 1) (Obj.mapSeq fun _ => (#[] : Array Value)) = h1 at *
  have za2 : (h1.push (seqObj "tuple" its.toArray 0)).objs.size = s.heap.objs.size + 3 := by rw [size_push', za1]
  have g2 := Heap.get?_push_of_some (seqObj "tuple" its.toArray 0) g1
  have I1 := I.laid (a := s.heap.objs.size + 1) (o := ExactO (seqObj "list" #[] e1) (s.heap.objs.size + 1)) (t' := s.toks) (h' := h1.push (seqObj "tuple" its.toArray 0)) (fun b o e => Heap.get?_push_of_some _ (old b o e)) (Nat.le_succ _) (exact_ok g2)
  generalize hh2 : h1.push (seqObj "tuple" its.toArray 0) = h2 at *
  have I2 := I1.laid (a := h2.objs.size) (o := .lst []) (t' := s.toks) (h' := h2.push (seqObj "list" #[] 0)) (fun b o e => Heap.get?_push_of_some _ e) (Nat.le_refl _) ⟨Nat.zero_le _, [], 0, .nil, Heap.get?_push_size _ rfl⟩
  have na : H (s.heap.objs.size + 1) = none := I.hok.fresh (Nat.le_succ _)
  have nk : H h2.objs.size = none := I.hok.fresh (by omega)
  have nka : h2.objs.size ≠ s.heap.objs.size + 1 := by omega
  have lf := Heap.lt_size hf
  have nfk : f ≠ h2.objs.size := Nat.ne_of_lt (Nat.lt_of_lt_of_le lf (by omega))
  have nfa : f ≠ s.heap.objs.size + 1 := Nat.ne_of_lt (Nat.lt_succ_of_lt lf)
  have sm : Same H (upd (upd H (s.heap.objs.size + 1) (ExactO (seqObj "list" #[] e1) (s.heap.objs.size + 1))) h2.objs.size (.lst [])) := (same_new na _).trans (same_new (by rw [upd_ne nka]; exact nk) _)
  have kept : ∀ b o, s.heap.get? b = some o → (h2.push (seqObj "list" #[] 0)).get? b = some o := fun b o e => Heap.get?_push_of_some _ (by rw [← hh2]; exact Heap.get?_push_of_some _ (old b o e))
  refine restI (X := X) (pins := pins) (σ := σ) (H := H) (its := its) (kS := h2.objs.size) L hna (Sub.in1 (Sub.in1 (n := k + 2) ⟨hr, rfl⟩)) hfr hbind hbody ⟨_, [], I2, sm, upd_same, by rw [upd_ne nka.symm]; exact upd_same, by rw [upd_ne nfk, upd_ne nfa]; exact hfn, kept _ _ hf, .nil⟩ nka nk hc rv hz hld al so nl (fun d hd => by have := dep d hd; show X.A.units + 1 + 1 + d.depth < cLine; omega) turn ?_
  intro s' Hi ks out J smi hk ha ko tk
  refine ⟨rfl, ?_⟩
  obtain ⟨_, ki, kn, krv, kob⟩ := J.hok _ _ hk
  have ga0 : s'.heap.get? (s.heap.objs.size + 1) = some (seqObj "list" #[] e1) := (J.hok _ _ ha).1
  generalize h2.objs.size = kS at *
  generalize s.heap.objs.size + 1 = a at *
  have gk := get?_update_seq kob fun _ => (#[] : Array Value)
  have ga1 : (s'.heap.update kS (Obj.mapSeq fun _ => (#[] : Array Value))).get? a = some (seqObj "list" #[] e1) := by rw [Heap.get?_update_ne _ _ _ _ nka.symm]; exact ga0
  have ga2 := get?_update_seq ga1 fun _ => out.toArray
  have J1 := J.write (x := kS) (e := kS) (o := .lst []) (t' := s'.toks) (h' := s'.heap.update kS (Obj.mapSeq fun _ => (#[] : Array Value))) (by rw [hk]; trivial) (.inl rfl) (fun b o nb e => by rw [Heap.get?_update_ne _ _ _ _ nb]; exact e) ⟨_, gk⟩ ⟨Nat.zero_le _, [], _, .nil, gk⟩
  have e2 : (xs.zip ds).map (·.2) = ds := List.map_snd_zip (by omega)
  have ez : EachIs (fun v (b : V × PyData) => RelV b.1 v) its (xs.zip ds) := each_zip rv hld
  have eo := keyedOut_each (β := V × PyData) (bs := xs.zip ds) (R := fun v b => RelV b.1 v) (·.2) (by rw [e2]; exact ko) ez
  have vo := vals_of_each eo
  have lo : (((xs.zip ds).mergeSort (dataLe false (·.2))).map (·.1)).length = xs.length := by rw [List.length_map, List.length_mergeSort, List.length_zip]; omega
  generalize ((xs.zip ds).mergeSort (dataLe false (·.2))).map (·.1) = ys at *
  have J2 := J1.write (x := a) (e := a) (o := .lst ys) (t' := tk) (h' := (s'.heap.update kS (Obj.mapSeq fun _ => (#[] : Array Value))).update a (Obj.mapSeq fun _ => out.toArray)) (by rw [upd_ne nka.symm, ha]; trivial) (.inl rfl) (fun b o nb e => by rw [Heap.get?_update_ne _ _ _ _ nb]; exact e) ⟨_, ga2⟩ ⟨by omega, out, _, vo, ga2⟩
  refine ⟨.ref a, _, J2, rfl, q _ _ (fun b o e => ?_) na upd_same⟩
  rw [upd_ne (ne_of_none e na), upd_ne (ne_of_none e nk)]
  exact smi _ _ e
/-- what is wanted behind the making of the lambda -/
def SortL (K : PySem.W.Frag) (tb : TE) (l : Addr) (σ : L2.St) (H : Hp) (Q : VK) : Prop := ∃ (xs : List V) (ds : List PyData), SqL K H l xs ∧ ds.length = xs.length ∧ AllAlike ds ∧ Sortable ds ∧ nlAll ds = true ∧ (∀ d ∈ ds, d.depth ≤ 60) ∧
  (∀ (i : Nat) (x : V) (d : PyData), xs[i]? = some x → ds[i]? = some d → ∀ H3, Same H H3 → tb (σ ++ [some x]) H3 (fun v H4 => Same H3 H4 ∧ Dp K H4 v d)) ∧
  ∀ H5 p, Same H H5 → H p = none → H5 p = some (.lst (((xs.zip ds).mergeSort (dataLe false (·.2))).map (·.1))) → Q (.ref p) H5
def tSortL (K : PySem.W.Frag) (T : List (Addr × Str)) (te tb : TE) : TE := fun σ H Q => te σ H fun y H1 => ∃ l, y = .ref l ∧ Tabs T H1 ∧ ∀ H2, ExtN H1 H2 → Tabs T H2 → SortL K tb l σ H2 Q
/-- sorted(e, key=lambda a: body) -/
theorem pe_sortL {T : List (Addr × Str)} {c P : Addr} {k : Nat} {params : Arguments} {e body : Expr} {scope : Scope} {te tb : TE} {nm : Str} {p lpos kpos pos : Pos} (hg : Gl X "sorted") (hm : X.mg "sorted" = none) (he : PE X e te)
    (TB : TabB X.base X.mg c P) (hcode : X.env.code = .ref c) (hmT : (P, X.env.qual ++ "<lambda>") ∈ T) (hu : ∀ p ∈ T, p.1 = P → p.2 = X.env.qual ++ "<lambda>") (hr : Room (k + 3) X.A) (hua : X.A.units + 65 < cLine) (L : LamS1 X.env.scope scope nm) (hna : nm ∉ X.N) (hdef : defaultsOf params X.env = ([], []))
    (hbind : ∀ (q : Str) (cl : List (Str × Addr)) (pm cv ctv : Value) (v : Value), bindArgs (PySem.W.kla_fn "<lambda>" q params body scope cl pm cv ctv) ⟨[v], []⟩ = pure [(nm, v)])
    (hbody : ∀ (A : Around) (outer : List Env) (s : Shared) (H : Hp) (f c' : Addr), Room k (A.deeper (lamEnv X scope s.heap.objs.size f c')) → PE (lamCx1 X A outer s H C8.E0 scope f c' nm) body tb)
    (hse : starEach [e] X.env = (false, eval e X.env) :: starEach [] X.env := by rfl) (hst : backTo pos (starEach [e] X.env) = (false, eval e X.env) :: backTo pos (starEach [] X.env) := by rfl) (hpl : (backTo pos (starEach [e] X.env)).any (·.1) = false := by rfl) :
    PE X (.Call (.Name "sorted" p) [e] [⟨some "key", .Lambda params body scope lpos, kpos⟩] pos) (tSortL X.K T te tb) := by
  refine ⟨fun pins s σ H Q I h => ?_⟩
  refine wpAny_Call_Name_kw (ld_blt (u := .builtin "sorted") I hg hm (by decide +kernel) ?_ (by decide) (by decide))
  have ha : PA X [e] (tCons te tNil) := pa_cons he pa_nil hse
  refine PyProof.Rows.callWith_kw (thn (ha.run pos pins s σ H (fun vs H1 => match vs with | [y] => ∃ l, y = V.ref l ∧ Tabs T H1 ∧ ∀ H2, ExtN H1 H2 → Tabs T H2 → SortL X.K tb l σ H2 Q | _ => False) I h) fun us s1 ⟨vs, H1, I1, r1, q1⟩ => ?_) hst hpl (by rfl) (by rfl)
  obtain ⟨l, rfl, hT, q1⟩ : ∃ l, vs = [V.ref l] ∧ Tabs T H1 ∧ ∀ H2, ExtN H1 H2 → Tabs T H2 → SortL X.K tb l σ H2 Q := by
    match vs, q1 with
    | [y], ⟨l, ey, z⟩ => exact ⟨l, by rw [ey], z⟩
  obtain rfl := Vals.ref1 r1
  show wpAny _ _ (evalAll ((do let v ← eval (.Lambda params body scope lpos) X.env; standAt pos; pure v) :: [])) _ _ s1
  refine wpAny_evalAll_cons (wpAny_bind (lam_make2 I1 TB hcode hmT hu hT hdef (L.has I1.ok) fun f c' pm ctv H2 s2 I2 eN T2 hf hfn hfr hco => wpAny_bind (wpAny_standAt (wpAny_pure (wpAny_evalAll_nil ?_)))))
  obtain ⟨xs, ds, hl, hld, al, so, nl, dep, turn, q⟩ := q1 H2 eN T2
  show wpAny _ _ (call (.builtin "sorted") [.ref l] [(Str.ofString "key", .ref f)]) _ _ s2
  exact sortedI I2 L hna hr hfr (fun v => hbind _ _ _ _ _ v) (fun A outer s H hr' => hbody A outer s H f c' hr') hf hfn hco hl hld al so nl dep hua turn q
end
end My
/-! for i, x in enumerate(t), t a tuple -/
namespace My
open PySem PySem.Spec L2 PyProof.Rows
open AutoSeq1 (wpAny_loadPart')
theorem new_enumT (t : Addr) (its : Array Value) (m : Nat) (dd : Option Addr) (ss : Array (Option Value)) :
    Meets (Builtin.«enumerate.__new__» ⟨[.type "enumerate", .ref t], []⟩) (fun _ R s => s.heap.get? t = some { cls := .type "tuple", dict := dd, data := .seq its m, slots := ss } ∧
      R (.ok (.ret (.ref (s.heap.push { cls := .type "tuple_iterator", data := .fields #[.ref t, .int 0 0] }).objs.size)))
        { s with heap := (s.heap.push { cls := .type "tuple_iterator", data := .fields #[.ref t, .int 0 0] }).push { cls := .type "enumerate", data := .fields #[.none, .bool false, .ref s.heap.objs.size, rawInt 0, .none, .none] } }) :=
  .of_wp fun P0 w0 A0 R s h => by
    obtain ⟨hp, g, d, tk, os⟩ := s
    obtain ⟨ht, h⟩ := h
    have f1 := sub_enumerate
    have f2 : Heap.IsTuple (Shared.heap ⟨hp, g, d, tk, os⟩) t its := ⟨_, ht, rfl, m, rfl⟩
    wp_walk using wpAny_loadPart' ht
    refine wpAny_stack_any fun st => wpAny_pure ?_
    split
    · rename_i cc _ _ _ _ _
      cases (cc == Value.type "enumerate") <;> (wp_walk using wpAny_loadPart' ht, wpAny_pyIter_tuple f2; exact ⟨_, rfl, h⟩)
    · wp_walk using wpAny_loadPart' ht, wpAny_pyIter_tuple f2
      exact ⟨_, rfl, h⟩
section
variable {P0 : Program} {w0 : World} {A : Around} {E : Value → Shared → Prop} {s : Shared}
theorem call_enumT {t : Addr} {its : Array Value} {Q : Value → Shared → Prop} (hT : s.heap.IsTuple t its)
    (h : ∀ g, IsEnum g (s.heap.objs.size + 1) s.heap.objs.size 0 .none → g.IsTupleIter s.heap.objs.size t 0 → (∀ b o, s.heap.get? b = some o → g.get? b = some o) → Q (.ref (s.heap.objs.size + 1)) { s with heap := g }) :
    wpAny (model P0 w0) A (call (.type "enumerate") [.ref t]) Q E s := by
  obtain ⟨⟨cc, dd, dt, ss⟩, hl, e1, m, e2⟩ := hT
  obtain rfl : cc = .type "tuple" := e1
  obtain rfl : dt = .seq its m := e2
  refine callType_new F.called_enumerate (by decide) (F.typeCall_enumerate_1 _) (F.newCall_enumerate_1 _) (fun obj => F.args_object_init_2 obj _) F.entry_enumerate_new (new_enumT t its m dd ss) ⟨hl, ?_⟩
  have z1 : (s.heap.push { cls := .type "tuple_iterator", data := .fields #[.ref t, .int 0 0] }).objs.size = s.heap.objs.size + 1 := Heap.size_push ..
  show _ ∧ _
  rw [z1]
  have en : IsEnum ((s.heap.push { cls := .type "tuple_iterator", data := .fields #[.ref t, .int 0 0] }).push { cls := .type "enumerate", data := .fields #[.none, .bool false, .ref s.heap.objs.size, rawInt 0, .none, .none] }) (s.heap.objs.size + 1) s.heap.objs.size 0 .none := by
    have z2 := Heap.get?_push_size (s.heap.push { cls := .type "tuple_iterator", data := .fields #[.ref t, .int 0 0] }) (o := { cls := .type "enumerate", data := .fields #[.none, .bool false, .ref s.heap.objs.size, rawInt 0, .none, .none] }) rfl
    rw [z1] at z2
    exact z2
  exact ⟨⟨_, en, rfl⟩, h _ en ⟨_, Heap.get?_push_of_some _ (Heap.get?_push_size _ rfl), rfl, rfl⟩ fun b o y => Heap.get?_push_of_some _ (Heap.get?_push_of_some _ y)⟩
end
/-- each item of the tuple at a in a new pair -/
def IteT (K : PySem.W.Frag) (a : Addr) : It :=
  ⟨fun i H => ∃ (xs : List V) (x : V), SqT K H a xs ∧ xs[i]? = some x, fun i H v H' => ∃ T x, v = .ref T ∧ H T = none ∧ H' = upd H T (.tup [.int (i : Nat), x]) ∧ ∀ xs, SqT K H a xs → xs[i]? = some x, fun i H => ∃ xs : List V, SqT K H a xs ∧ xs.length = i⟩
theorem turn_enumT {P : Program} {w : World} {K : PySem.W.Frag} {elts : List Expr} {kk : Nat} {tpos : Pos} (a e it : Addr) :
    Turn P w K (.Tuple elts kk tpos) (IteT K a) [e, it] e (fun i h => (∃ old, IsEnum h e it ((i : Nat) : Int) old) ∧ h.IsTupleIter it a i ∧ e ≠ it ∧ e ≠ a ∧ a ≠ it) where
  mem := by simp
  obj := fun i h ⟨⟨old, he⟩, ⟨o, ho, hc, hd⟩, _⟩ b hb => by
    rcases (show b = e ∨ b = it by simpa using hb) with rfl | rfl
    · exact ⟨_, he, fun v q => nomatch q⟩
    · exact ⟨o, ho, fun v q => by rw [hd] at q; cases q⟩
  keep := fun i h h' ⟨⟨old, he⟩, hi, r⟩ k => ⟨⟨old, k e (by simp) _ he⟩, hi.at fun o q => k it (by simp) o q, r⟩
  item := by
    intro X e1 e2 e3 hc i pins s σ H E I hf st hg
    subst e1 e2 e3
    obtain ⟨⟨old, he⟩, hit, n1, n2, n3⟩ := st
    obtain ⟨xs, x, hq, hx⟩ := hg
    obtain ⟨its, rv, p, hz⟩ := I.tuple hq
    obtain ⟨u, hu, ru⟩ := rv.get hx
    have le : e < s.heap.objs.size := Heap.lt_size he
    have li : it < s.heap.objs.size := by obtain ⟨_, q, _⟩ := hit; exact Heap.lt_size q
    have lt : i < its.toArray.size := by rw [List.size_toArray]; exact (List.getElem?_eq_some_iff.mp hu).1
    refine wpAny_pyNext_enum_itemD (Draws.tuple (A := X.A.in1) (I.ok.hd hc) it a n3 its.toArray) he ⟨hit, p⟩ lt n1 (by simp [n1, n2]) fun v h' tk pv ho st' hT hsz hk => ?_
    have ev : v = u := by
      have pv : its.toArray[i]? = some v := pv
      have pv : its[i]? = some v := by simpa using pv
      rw [hu] at pv
      exact (Option.some.inj pv).symm
    subst ev
    refine ⟨_, rfl, wpAny_letOwnedTupleGo_enum (s := { s with heap := h', toks := tk + 1 }) ho fun h2 he2 sb => ?_⟩
    have hT2 : h2.get? s.heap.objs.size = some { cls := .type "tuple", data := .seq #[.int i tk, v] } := (sb.2 _ (Nat.ne_of_gt le)).trans hT
    have I1 := I.turnedNew (t' := tk + 1) (h' := h2) (ch := [e, it]) (T := s.heap.objs.size) (ob := .tup [.int (i : Nat), x]) (fun b ob hb q => (sb.2 b (fun z => hb (by simp [z]))).trans (hk b ob (fun z => hb (by simp [z])) (fun z => hb (by simp [z])) q)) hf (Nat.le_refl _)
      ⟨by show 2 ≤ sizeLine; decide, [.int i tk, v], .cons ⟨_, rfl⟩ (.cons ru .nil), ⟨_, hT2, rfl, _, rfl⟩⟩
    refine ⟨.ref s.heap.objs.size, _, I1, rfl, ⟨_, x, rfl, I.hok.fresh (Nat.le_refl _), rfl, fun ys hy => by rw [I.tuple_inj hy hq]; exact hx⟩, ⟨⟨v, ?_⟩, st'.1.at fun o q => (sb.2 it n1.symm).trans q, n1, n2, n3⟩, fun b hb => ?_⟩
    · rw [show ((i + 1 : Nat) : Int) = (i : Int) + 1 by omega]; exact he2
    · have lb : b < s.heap.objs.size := by rcases (show b = e ∨ b = it by simpa using hb) with rfl | rfl <;> assumption
      rw [upd_ne (Nat.ne_of_lt lb)]
      exact (hf b hb).1
  done := by
    intro X e1 e2 e3 hc i pins s σ H E I hf st hg
    subst e1 e2 e3
    obtain ⟨⟨old, he⟩, hit, n1, n2, n3⟩ := st
    obtain ⟨xs, hq, hx⟩ := hg
    obtain ⟨its, rv, p, hz⟩ := I.tuple hq
    obtain ⟨f0, f1, f2, f3, f4, f5⟩ := hf it (by simp)
    have hl : i = its.toArray.size := by rw [List.size_toArray, ← rv.length]; exact hx.symm
    rw [hl] at hit
    exact wpAny_pyNext_enum_endD (Draws.tuple (A := X.A.in1) (I.ok.hd hc) it a n3 its.toArray) he ⟨hit, p⟩ fun h' eb => ⟨rfl, I.turned (t' := s.toks) (fun b o hb q => eb b o hb q) f0 f1 f3 f4 f5⟩
  self := fun A i s Q E ⟨⟨_, he⟩, _⟩ h => wpAny_pyIter_enum he h
def iEnumT (K : PySem.W.Frag) (ta : TA) : TI := fun σ H R => ta σ H fun vs H1 => ∃ a xs, vs = [.ref a] ∧ SqT K H1 a xs ∧ R (IteT K a) H1
theorem pi_enumT {X : Cx} {e : Expr} {ta : TA} {p pos tpos : Pos} {elts : List Expr} {kk : Nat} (hg : Gl X "enumerate") (hm : X.mg "enumerate" = none) (ha : PA X [e] ta) (hs : starEach [e] X.env = [(false, eval e X.env)] := by rfl) :
    PI X (.Tuple elts kk tpos) (.Call (.Name "enumerate" p) [e] [] pos) (iEnumT X.K ta) := by
  refine ⟨fun pins s σ H R I h => ?_⟩
  refine Call_ (ld_blt I hg hm boot_enumerate (PyProof.Rows.callWith_type1 (thn (ha.run pos pins s σ H _ I h) fun us s1 ⟨vs, H1, I1, r1, a, xs, ev, hq, q⟩ => ?_) hs rfl))
  subst ev
  rw [Vals.ref1 r1]
  obtain ⟨its, rv, pt, hz⟩ := I1.tuple hq
  have la : a < s1.heap.objs.size := pt.lt
  refine call_enumT pt fun g en it hk => wpAny_pyIter_enum en ?_
  have I2 : Inv X pins σ H1 { s1 with heap := g } := I1.kept (t' := s1.toks) hk
  refine ⟨s1.heap.objs.size + 1, [s1.heap.objs.size + 1, s1.heap.objs.size], _, _, H1, rfl, I2, turn_enumT a (s1.heap.objs.size + 1) s1.heap.objs.size, ⟨⟨.none, en⟩, it, Nat.succ_ne_self _, Nat.ne_of_gt (Nat.lt_succ_of_lt la), Nat.ne_of_lt la⟩, fun b hb => ?_, q⟩
  have lb : s1.heap.objs.size ≤ b := by
    rcases (show b = s1.heap.objs.size + 1 ∨ b = s1.heap.objs.size by simpa using hb) with z | z
    · rw [z]; exact Nat.le_succ _
    · rw [z]; exact Nat.le_refl _
  exact I1.fpOk lb (I1.hok.fresh lb)
/-- the loop: a new pair each turn -/
theorem for_enumT {K : PySem.W.Frag} {a : Addr} {xs : List V} {g : TG} {tb : TS} {D : Ends} {σ : L2.St} {H : Hp} (Pv : Nat → L2.St → Hp → Prop) (h0 : Pv 0 σ H) (hT : ∀ i σ H, i ≤ xs.length → Pv i σ H → SqT K H a xs)
    (hs : ∀ i x σ H T, xs[i]? = some x → Pv i σ H → H T = none → g (.ref T) σ (upd H T (.tup [.int (i : Nat), x])) fun σ2 H2 => tb { D with nx := Pv (i + 1), ct := Pv (i + 1), bk := D.nx } σ2 H2) (hd : ∀ σ H, Pv xs.length σ H → D.nx σ H) :
    ∃ W : Nat → Nat → L2.St → Hp → Prop, (∃ m, W 0 m σ H) ∧ ∀ i m σ H, W i m σ H →
      ((IteT K a).stop i H ∧ D.nx σ H) ∨ ((IteT K a).go i H ∧ ∃ N : L2.St → Hp → Prop, (∀ σ' H', N σ' H' → ∃ m', m' < m ∧ W (i + 1) m' σ' H') ∧ ∀ x H', (IteT K a).yld i H x H' → g x σ H' fun σ2 H2 => tb { D with nx := N, ct := N, bk := D.nx } σ2 H2) := by
  refine ⟨fun i m σ H => m = xs.length - i ∧ i ≤ xs.length ∧ Pv i σ H, ⟨_, rfl, Nat.zero_le _, h0⟩, ?_⟩
  rintro i m σ H ⟨rfl, hi, p⟩
  have t := hT i σ H hi p
  by_cases lt : i < xs.length
  · refine .inr ⟨⟨xs, xs[i], t, List.getElem?_eq_getElem lt⟩, Pv (i + 1), fun σ' H' p' => ⟨_, by omega, rfl, lt, p'⟩, ?_⟩
    rintro v H' ⟨T, x, rfl, n, rfl, hx⟩
    exact hs i x σ H T (hx xs t) p n
  · obtain rfl : i = xs.length := by omega
    exact .inl ⟨⟨xs, t, rfl⟩, hd σ H p⟩
end My
/-! max(xs, default=k) of a list of ints that is not empty -/
namespace My
open PySem PySem.Spec L2 PyProof.Rows
open Sem (wp)
theorem fn_kw {P0 : Program} {w0 : World} {B : Around} {Ex : Value → Shared → Prop} {z : Shared} {nm : String} {bi : Builtin} {av : List Value} {kv : List (Str × Value)} {Post : Value → Shared → Prop} (h1 : builtinKind nm = none) (h2 : plainId nm = true)
    (h3 : entryFor table nm = some bi) (h4 : argsOk nm ⟨av, kv⟩)
    (h5 : wpAny (model P0 w0) B.in1 (bi ⟨av, kv⟩) (fun fin z' => match fin with
      | .done f => (match (Except.ok f : Result) with | .ok (.ret v) => Post v z' | .ok _ => False | .error e => Ex e z')
      | .again c => c.quiet = true ∧ codeAny (model P0 w0) B c (fun r z' => match r with | .ok (.ret v) => Post v z' | .ok _ => False | .error e => Ex e z') z') Ex z) :
    wpAny (model P0 w0) B (call (.builtin nm) av kv) Post Ex z := by
  refine wpAny_call (codeAny_call_builtin h2 h3 ?_)
  simp only [checkBuiltinCall, h1]
  cases hg : Manifest.signature? nm with
  | none => exact wpAny_pure h5
  | some sg =>
    simp only [argsOk, hg] at h4
    have h6 : Bind.checkArgs nm sg ⟨av, kv⟩ = pure () := h4
    simp only [h6]
    exact wpAny_pure h5
section
variable {P0 : Program} {w0 : World} {B : Around} {Res : Result → Shared → Prop} {it : Addr} {fpr wri : List Addr} {m : Nat} {Pi : Nat → Value → Prop} {Sti : Nat → Heap → Prop} {kv : List (Str × Value)}
theorem mxd_name : (toString "max" ++ toString ".loop" : String) = "max.loop" := by decide
theorem mxd_loop (Wk : Walks P0 w0 B.in1 it fpr wri m Pi Sti) (gt : Nat → Nat → Bool) (cmp : CmpOf P0 w0 B.in1 .Gt Pi gt) (b : Addr) (bf : b ∉ fpr) :
    ∀ (r i : Nat) (z : Shared) (top : Value) (cap : Nat), m - (i + 1) = r → i + 1 ≤ m → Sti (i + 1) z.heap → Pi (argBest gt i) top →
    z.heap.get? b = some { cls := .type "list", dict := none, data := .seq #[top, top] cap, slots := #[] } →
    (∀ v hp tk, Pi (argBest gt (m - 1)) v → (∀ a o, a ∉ wri → a ≠ b → z.heap.get? a = some o → hp.get? a = some o) → Res (.ok (.ret v)) { z with heap := hp, toks := tk }) →
    codeAny (model P0 w0) B (.builtin "max.loop" ⟨[.ref it, .none, .ref b], kv⟩) Res z := by
  have bw : b ∉ wri := fun h => bf (Wk.sub _ h)
  intro r
  induction r with
  | zero =>
    intro i z top cap er ei st pt hb hR
    have em : i + 1 = m := by omega
    refine codeAny_builtin F.entry_max_loop ?_
    rw [Around.under_plainId F.plain_max_loop _]
    show wpAny _ B.in1 (seqItems? (.ref b) >>= _) _ _ z
    refine wpAny_bind (wpAny_seqItems hb rfl ?_)
    show wpAny _ B.in1 (tryCatch (pyNext (.ref it)) _ >>= _) _ _ z
    refine wpAny_bind (wpAny_tryCatch (Wk.done z _ _ (em ▸ st) fun hp tk hk => ?_))
    have hb' := hk b _ bw hb
    show wpAny _ B.in1 (updateSeq b (fun _ => #[]) >>= _) _ _ _
    refine wpAny_bind (wpAny_updateSeq hb' rfl (wpAny_bind (wpAny_letGo (wpAny_pure ?_))))
    exact hR top _ tk (em ▸ pt) fun a o aw ab e => (Heap.get?_update_other _ _ (Ne.symm ab)).trans (hk a o aw e)
  | succ r ih =>
    intro i z top cap er ei st pt hb hR
    have lt : i + 1 < m := by omega
    refine codeAny_builtin F.entry_max_loop ?_
    rw [Around.under_plainId F.plain_max_loop _]
    show wpAny _ B.in1 (seqItems? (.ref b) >>= _) _ _ z
    refine wpAny_bind (wpAny_seqItems hb rfl ?_)
    show wpAny _ B.in1 (tryCatch (pyNext (.ref it)) _ >>= _) _ _ z
    refine wpAny_bind (wpAny_tryCatch (Wk.item (i + 1) z _ _ lt st fun v hp tk pv st' hk => ?_))
    have hb' := hk b _ bw hb
    show wpAny _ B.in1 (tryCatch (holding [v, v] (richCompare .Gt v top >>= _)) _ >>= _) _ _ _
    refine wpAny_bind (wpAny_tryCatch (wpAny_holding (wpAny_bind (cmp (i + 1) (argBest gt i) v top _ _ _ pv pt ?_))))
    refine wpAny_bind (wpAny_holding (wpAny_truthy_bool (wpAny_bind (wpAny_letGo (wpAny_pure ?_)))))
    cases eb : gt (i + 1) (argBest gt i) with
    | true =>
      simp only [if_true]
      refine wpAny_bind (wpAny_updateSeq hb' rfl (wpAny_bind (wpAny_letGo ?_)))
      rw [mxd_name]
      refine wpAny_pure ⟨plainId_quiet F.plain_max_loop _, ih (i + 1) _ v _ (by omega) lt (Wk.frame _ _ _ st' fun a af o e => (Heap.get?_update_other _ _ (fun h : b = a => bf (by rw [h]; exact af))).trans e)
        (by simp only [argBest, eb, if_true]; exact pv) (Heap.get?_update_self _ hb' rfl) fun v2 hp2 tk2 p2 hk2 => hR v2 hp2 tk2 p2 fun a o aw ab e => hk2 a o aw ab ((Heap.get?_update_other _ _ (Ne.symm ab)).trans (hk a o aw e))⟩
    | false =>
      simp only [Bool.false_eq_true, if_false]
      refine wpAny_bind (wpAny_letGo ?_)
      rw [mxd_name]
      exact wpAny_pure ⟨plainId_quiet F.plain_max_loop _, ih (i + 1) _ top cap (by omega) lt st' (by simp only [argBest, eb, Bool.false_eq_true, if_false]; exact pt) hb' fun v2 hp2 tk2 p2 hk2 => hR v2 hp2 tk2 p2 fun a o aw ab e => hk2 a o aw ab (hk a o aw e)⟩
theorem mxd_first (Wk : Walks P0 w0 B.in1 it fpr wri m Pi Sti) (gt : Nat → Nat → Bool) (cmp : CmpOf P0 w0 B.in1 .Gt Pi gt) (b : Addr) (bf : b ∉ fpr) (pos : 0 < m) {z : Shared} {cap : Nat} (st : Sti 0 z.heap)
    (hb : z.heap.get? b = some { cls := .type "list", dict := none, data := .seq #[] cap, slots := #[] })
    (hR : ∀ v hp tk, Pi (argBest gt (m - 1)) v → (∀ a o, a ∉ wri → a ≠ b → z.heap.get? a = some o → hp.get? a = some o) → Res (.ok (.ret v)) { z with heap := hp, toks := tk }) :
    codeAny (model P0 w0) B (.builtin "max.loop" ⟨[.ref it, .none, .ref b], kv⟩) Res z := by
  have bw : b ∉ wri := fun h => bf (Wk.sub _ h)
  refine codeAny_builtin F.entry_max_loop ?_
  rw [Around.under_plainId F.plain_max_loop _]
  show wpAny _ B.in1 (seqItems? (.ref b) >>= _) _ _ z
  refine wpAny_bind (wpAny_seqItems hb rfl ?_)
  show wpAny _ B.in1 (tryCatch (pyNext (.ref it)) _ >>= _) _ _ z
  refine wpAny_bind (wpAny_tryCatch (Wk.item 0 z _ _ pos st fun v hp tk pv st' hk => ?_))
  have hb' := hk b _ bw hb
  show wpAny _ B.in1 (updateSeq b (fun _ => #[v, v]) >>= _) _ _ _
  refine wpAny_bind (wpAny_updateSeq hb' rfl ?_)
  rw [mxd_name]
  exact wpAny_pure ⟨plainId_quiet F.plain_max_loop _, mxd_loop Wk gt cmp b bf _ 0 _ v _ rfl pos (Wk.frame _ _ _ st' fun a af o e => (Heap.get?_update_other _ _ (fun h : b = a => bf (by rw [h]; exact af))).trans e) pv (Heap.get?_update_self _ hb' rfl)
    fun v2 hp2 tk2 p2 hk2 => hR v2 hp2 tk2 p2 fun a o aw ab e => hk2 a o aw ab ((Heap.get?_update_other _ _ (Ne.symm ab)).trans (hk a o aw e))⟩
end
section
variable {P0 : Program} {w0 : World} {B : Around} {Ex : Value → Shared → Prop} {z : Shared}
theorem mxd_args (a d : Value) : argsOk "max" ⟨[a], [(Str.ofString "default", d)]⟩ := by unfold argsOk; kernel_rfl
theorem mxd_bind (d : Value) : Builtin.Builtins.bindParams "max" ["key", "default"] 0 ⟨[], [(Str.ofString "default", d)]⟩ = pure [none, some d] := by kernel_rfl
theorem mxd_ints {l : Addr} {xs : Array (Int × Tok)} {d : Value} {Post : Value → Shared → Prop} (hh : B.handled = none) (hl : z.heap.IsList l (intItems xs)) (hne : 0 < xs.size)
    (h : ∀ v hp tk, (intItems xs)[argBest (fun i j => decide (numAt xs i > numAt xs j)) (xs.size - 1)]? = some v → (∀ a o, z.heap.get? a = some o → hp.get? a = some o) → Post v { z with heap := hp, toks := tk }) :
    wpAny (model P0 w0) B (call (.builtin "max") [.ref l] [(Str.ofString "default", d)]) Post Ex z := by
  refine fn_kw F.kind_max F.plain_max F.entry_max (mxd_args _ _) ?_
  show wpAny _ B.in1 (Builtin.Builtins.bindParams "max" ["key", "default"] 0 ⟨[], [(Str.ofString "default", d)]⟩ >>= _) _ _ z
  refine wpAny_bind (wpAny_of_eq (mxd_bind d) (wpAny_bind (wpAny_pure (wpAny_bind (iter_intList hl fun z2 e st hfp hlI => ?_)))))
  subst e
  refine wpAny_bind (wpAny_newObj_type ?_)
  rw [mxd_name]
  refine wpAny_pure ⟨plainId_quiet F.plain_max_loop _, mxd_first (Walks.list (A := B.in1) hh _ l hlI (intItems xs)) _ (CmpOf.ints_gt (numAt xs) (fun _ _ => intItems_at)) _ (fun hm => Nat.lt_irrefl _ (hfp _ hm)) (by simpa [intItems] using hne)
    ((Walks.list (prog := P0) (w := w0) (A := B.in1) hh _ l hlI (intItems xs)).frame _ _ _ st fun a _ o e => Heap.get?_push_of_some _ e) (Heap.get?_push_size _ rfl) fun v hp tk pv hk => ?_⟩
  exact h v hp tk (by simpa [intItems] using pv) (old_kept fun a o aw e => hk a o aw (Nat.ne_of_lt (Heap.lt_size e)) (Heap.get?_push_of_some _ e))
theorem mxd_raw {l : Addr} {its : List Value} {ns : List Int} {d : Value} {Post : Value → Shared → Prop} (hh : B.handled = none) (hl : z.heap.IsList l its.toArray) (hi : IntsAre its ns) (hne : 0 < ns.length)
    (h : ∀ hp tk M t, (∀ a o, z.heap.get? a = some o → hp.get? a = some o) → M ∈ ns → (∀ a, a ∈ ns → a ≤ M) → Post (.int M t) { z with heap := hp, toks := tk }) : wpAny (model P0 w0) B (call (.builtin "max") [.ref l] [(Str.ofString "default", d)]) Post Ex z := by
  obtain ⟨ys, e⟩ := hi.allInts.items
  have en : numsOf (intItems ys).toList = ns := by rw [← e]; exact hi.numsOf
  rw [nums_intItems] at en
  subst en
  rw [e] at hl
  have sz : 0 < ys.size := by simpa using hne
  refine mxd_ints hh hl sz fun v hp tk hv hk => ?_
  obtain ⟨t, rfl⟩ := intItems_at hv
  obtain ⟨g1, g2⟩ := argBest_gt (numAt ys) (ys.size - 1)
  refine h hp tk _ t hk (by rw [numAt_eq]; exact PySem.getD_mem (by rw [List.length_map, Array.length_toList]; omega)) fun a ha => ?_
  obtain ⟨j, hj, rfl⟩ := mem_getD ha
  rw [List.length_map, Array.length_toList] at hj
  rw [← numAt_eq]
  exact g2 j (by omega)
end
section
variable {X : Cx}
def tMaxD (K : PySem.W.Frag) (te tk : TE) : TE := fun σ H Q => te σ H fun y H1 => tk σ H1 fun _ H2 => rMax K [y] H2 Q
/-- max(e, default=k) -/
theorem pe_maxD {e ek : Expr} {te tk : TE} {p kpos pos : Pos} (hc : X.calm = true) (hg : Gl X "max") (hm : X.mg "max" = none) (he : PE X e te) (hek : PE X ek tk)
    (hse : starEach [e] X.env = (false, eval e X.env) :: starEach [] X.env := by rfl) (hst : backTo pos (starEach [e] X.env) = (false, eval e X.env) :: backTo pos (starEach [] X.env) := by rfl) (hpl : (backTo pos (starEach [e] X.env)).any (·.1) = false := by rfl) :
    PE X (.Call (.Name "max" p) [e] [⟨some "default", ek, kpos⟩] pos) (tMaxD X.K te tk) := by
  refine ⟨fun pins s σ H Q I h => ?_⟩
  refine wpAny_Call_Name_kw (ld_blt (u := .builtin "max") I hg hm (by decide +kernel) ?_ (by decide) (by decide))
  have ha : PA X [e] (tCons te tNil) := pa_cons he pa_nil hse
  refine PyProof.Rows.callWith_kw (thn (ha.run pos pins s σ H (fun vs H1 => match vs with | [y] => tk σ H1 fun _ H2 => rMax X.K [y] H2 Q | _ => False) I h) fun us s1 ⟨vs, H1, I1, r1, q1⟩ => ?_) hst hpl (by rfl) (by rfl)
  obtain ⟨y, rfl, q1⟩ : ∃ y, vs = [y] ∧ tk σ H1 fun _ H2 => rMax X.K [y] H2 Q := by
    match vs, q1 with
    | [y], z => exact ⟨y, rfl, z⟩
  show wpAny _ _ (evalAll ((do let v ← eval ek X.env; standAt pos; pure v) :: [])) _ _ s1
  refine wpAny_evalAll_cons (wpAny_bind (thn (hek.run _ s1 σ H1 _ I1 q1) fun u s2 ⟨d, H2, I2, rd, a, ns, ey, hs, hne, q⟩ => wpAny_bind (wpAny_standAt (wpAny_pure (wpAny_evalAll_nil ?_)))))
  cases ey
  obtain rfl := Vals.ref1 r1
  obtain ⟨its, rv, hl, _⟩ := I2.list hs
  show wpAny _ _ (call (.builtin "max") [.ref a] [(Str.ofString "default", u)]) _ _ s2
  exact mxd_raw (I2.ok.hd hc) hl.isList rv.ints hne fun h' tk m t' hk h1 h2 => ⟨.int _, H2, I2.kept hk, ⟨_, rfl⟩, q m h1 h2⟩
end
/-! [x for one in t for x in one], all of them tuples -/
theorem pairedAt {α β : Type} {R : α → β → Prop} : ∀ {ps : List α} {ts : List β}, Paired R ps ts → ∀ {i : Nat} {p : α}, ps[i]? = some p → ∃ t, ts[i]? = some t ∧ R p t
  | _, _, .nil, i, p, h => by simp at h
  | _, _, .cons r t, 0, p, h => by
    cases h
    exact ⟨_, rfl, r⟩
  | _, _, .cons r t, i + 1, p, h => pairedAt t h
theorem flat_of {K : PySem.W.Frag} {a : Addr} {xs : List V} {yss : List (List V)} {σ : L2.St} {H1 : Hp} {D : Addr} {p q : Nat} {vs vs1 : List Nat} {Qd : Hp → Prop} (hD : H1 D = none) (hT : SqT K H1 a xs) (hP : Paired (fun x ys => ∃ b, x = V.ref b ∧ SqT K H1 b ys) xs yss)
    (hl : yss.flatten.length ≤ sizeLine) (w1 : ∀ x, wipe ((wipe σ vs).set p (some x)) vs = wipe σ vs) (l1 : ∀ x : V, ((wipe σ vs).set p (some x))[p]? = some (some x))
    (w2 : ∀ x y, wipe ((wipe ((wipe σ vs).set p (some x)) vs1).set q (some y)) vs1 = wipe ((wipe σ vs).set p (some x)) vs1) (l2 : ∀ x y : V, ((wipe ((wipe σ vs).set p (some x)) vs1).set q (some y))[q]? = some (some y))
    (hQ : ∀ H', Same H1 H' → H' D = some (.lst yss.flatten) → Qd H') :
    ∃ W : Nat → Nat → Hp → Prop, (∃ m, W 0 m (upd H1 D (.lst []))) ∧ ∀ i m H, W i m H →
      ((Itt K a).stop i H ∧ Qd H) ∨ ((Itt K a).go i H ∧ ∃ Nx : Hp → Prop, (∀ H', Nx H' → ∃ m', m' < m ∧ W (i + 1) m' H') ∧ ∀ x H', (Itt K a).yld i H x H' → gName p x (wipe σ vs) H' fun σ2 H2 => wipe σ2 vs = wipe σ vs ∧ tYes σ2 H2 fun b H3 =>
        if b = true then iTup K (tVar p) σ2 H3 fun J1 H4 => ∃ W1 : Nat → Nat → Hp → Prop, (∃ m, W1 0 m H4) ∧ ∀ j k H, W1 j k H →
          (J1.stop j H ∧ Nx H) ∨ (J1.go j H ∧ ∃ Nx1 : Hp → Prop, (∀ H', Nx1 H' → ∃ k', k' < k ∧ W1 (j + 1) k' H') ∧ ∀ x H', J1.yld j H x H' → gName q x (wipe σ2 vs1) H' fun σ3 H5 => wipe σ3 vs1 = wipe σ2 vs1 ∧ tYes σ3 H5 fun b H6 =>
            if b = true then tVar q σ3 H6 fun y H7 => ∃ acc, H7 D = some (.lst acc) ∧ acc.length < sizeLine ∧ Nx1 (upd H7 D (.lst (acc ++ [y]))) else Nx1 H6)
        else Nx H3) := by
  have hlen := Paired.length hP
  refine ⟨fun i m H => m = xs.length - i ∧ i ≤ xs.length ∧ Same H1 H ∧ H D = some (.lst (yss.take i).flatten), ⟨xs.length, by simp, Nat.zero_le _, same_new hD _, by rw [upd_same]; rfl⟩, ?_⟩
  rintro i m H ⟨rfl, hi, s1, hb⟩
  by_cases hlt : i < xs.length
  · refine .inr ⟨⟨xs, xs[i], same_T s1 hT, by simp [hlt]⟩, fun H => Same H1 H ∧ H D = some (.lst (yss.take (i + 1)).flatten), fun H' p' => ⟨xs.length - (i + 1), by omega, rfl, hlt, p'⟩, fun x H' y => ?_⟩
    obtain ⟨rfl, y⟩ := y
    obtain ⟨ys, ey, b, rfl, hB⟩ := pairedAt hP (y xs (same_T s1 hT))
    have et : yss.take (i + 1) = yss.take i ++ [ys] := by rw [List.take_succ, ey]; rfl
    have le : (yss.take (i + 1)).flatten.length ≤ yss.flatten.length := by
      conv => rhs; rw [← List.take_append_drop (i + 1) yss, List.flatten_append, List.length_append]
      omega
    rw [et, List.flatten_append, List.length_append] at le
    have le : (yss.take i).flatten.length + ys.length ≤ yss.flatten.length := by simpa using le
    refine ⟨w1 _, yes_of ⟨_, l1 _, b, rfl, ⟨_, same_T s1 hB⟩, fun j k H => k = ys.length - j ∧ j ≤ ys.length ∧ Same H1 H ∧ H D = some (.lst ((yss.take i).flatten ++ ys.take j)), ⟨ys.length, by simp, Nat.zero_le _, s1, by rw [hb]; simp⟩, ?_⟩⟩
    rintro j k H2 ⟨rfl, hj, s2, hb2⟩
    by_cases hjt : j < ys.length
    · refine .inr ⟨⟨ys, ys[j], same_T s2 hB, by simp [hjt]⟩, fun H => Same H1 H ∧ H D = some (.lst ((yss.take i).flatten ++ ys.take (j + 1))), fun H' p' => ⟨ys.length - (j + 1), by omega, rfl, hjt, p'⟩, fun z H' y2 => ?_⟩
      obtain ⟨rfl, y2⟩ := y2
      have ez := y2 ys (same_T s2 hB)
      refine ⟨w2 _ _, yes_of ⟨_, l2 _ _, _, hb2, ?_, fun c o e => ?_, ?_⟩⟩
      · rw [List.length_append, List.length_take]
        omega
      · rw [upd_ne (ne_of_none e hD)]
        exact s2 _ _ e
      · rw [upd_same, List.take_succ, ez, List.append_assoc]
        rfl
    · have e : j = ys.length := by omega
      subst e
      refine .inl ⟨⟨ys, same_T s2 hB, Nat.le_refl _⟩, s2, ?_⟩
      rw [hb2, et, List.take_length]
      simp
  · have e : i = xs.length := by omega
    subst e
    refine .inl ⟨⟨xs, same_T s1 hT, Nat.le_refl _⟩, hQ H s1 ?_⟩
    rw [hb, hlen, List.take_length]
end My
/-! the end of a law where some defs hold lambdas: their tables are empty when the law is called -/
namespace My
open PySem PySem.Spec PyProof.Rows L2 LamX
def Blank (K : PySem.W.Frag) (mg : Str → Option Value) (nms : List Str) (hp : Heap) : Prop := ∀ nm ∈ nms, ∀ g : Addr, mg nm = some (.ref g) → OwnTab K g hp
theorem walk_blank {lw : PySem.W.OpenLaw} {most lev : Nat} {pr : Program} {lo : List Str} {XQ : (Str → Option Value) → Heap → Prop} {YQ : World → Heap → Prop} {dr : DefRec} {KK : Params → PySem.W.Frag} {CQ : World → CXT} {par : Str} (nms : List Str)
    (e1 : lw.most = some most) (e2 : most ≤ sizeLine) (e3 : dr.params.defaults = []) (e4 : Room lev callerA) (e5 : (nms.all fun nm => (recsOf pr).any fun r => r.name == nm) = true) (e6 : ∀ (w0 : World) (hp : Heap), YQ w0 hp → (KK w0.params).In hp)
    (e7 : ∀ (w0 : World) (mg : Str → Option Value) (fa : Addr) (hp : Heap), YQ w0 hp → (KK w0.params).In hp → hp.Ns mainGlobals mg → mg dr.name = some (.ref fa) → Blank (KK w0.params) mg nms hp → LawAtS lw w0 (KK w0.params) (CQ w0) lev most par mg fa hp)
    (e8 : ∀ (w0 : World) (H : Hp) (z : Shared) (x : Value) (z' : Shared), CQ w0 [] H z (fun _ _ _ => False) x z' → False) :
    PySem.W.WalkO pr lo XQ YQ lw.row.toRowW dr [] (fun f vs => PySem.call f vs) := by
  refine Att.attach_callB e1 e3 fun w0 z0 z1 mg mb fa o pm cd doc a vs ns G Y _ _ _ hmg hob hin hle hbi hgo => ?_
  have KI := e6 w0 _ Y
  have bl : Blank (KK w0.params) mg nms z1.heap := fun nm hnm g hg c Pt o1 fd1 e dd vs1 sl a1 a2 a3 a4 a5 => by
    have hq : ((recsOf pr).any fun r => r.name == nm) = true := List.all_eq_true.mp e5 nm hnm
    obtain ⟨dq, hd1, hd2⟩ := List.any_eq_true.mp hq
    have hd3 : dq.name = nm := beq_iff_eq.mp hd2
    obtain ⟨a', o', fd', c', P', b1, b2, b3, b4, b5, b6⟩ := G.T.tab dq hd1
    rw [hd3, hg] at b1
    cases b1
    have g1 := KI _ _ a1
    rw [g1] at b2
    cases b2
    rw [a2] at b3
    cases b3
    rw [a3] at b4
    cases b4
    obtain ⟨⟨oc, vc, k1, _, k3, k4⟩, k5⟩ := b6
    have g2 := KI _ _ a4
    rw [g2] at k1
    cases k1
    cases k3
    rw [a5] at k4
    cases k4
    exact k5
  obtain ⟨fd, cs, sp, x1, x2, x3, x4, x5, x6⟩ := e7 w0 mg fa _ Y KI G.T.g hmg bl
  exact law_callTs KI G.T.g G.T.b G.T.builtins G.T.nolimit hgo x1 x2 x3 G.T.bmain hob hin (Nat.le_trans hle e2) e4 x6 x4 (fun H hH hS => x5 H a ns hle hbi hH hS) fun H x z' => e8 w0 H z1 x z'
end My
/-! len(x) and x[i] by own defs -/
namespace My
open PySem PySem.Spec L2 PyProof.Rows
section
variable {X : Cx} {k : Nat} {f C : Addr} {sp : Sp}
theorem runIn1 {pins : List (Addr × Obj)} {σ : L2.St} {H : Hp} {s : Shared} {Q : VK} {us : List Value} {vs : List V} (F : FnR X.prog X.w X.K X.mg X.base CX0 k f sp) (hr : Room (k + 1) X.A) (I : Inv X pins σ H s) (r : Vals vs us) (h : sp vs H Q E0) {Ex : Value → Shared → Prop} :
    wpAny (model X.prog X.w) X.A.in1 (call (.ref f) us) (EP X pins σ Q) Ex s := by
  refine wpAny_call (codeAny_mono (F X.A.in1 X.stack s H us vs Q E0 hr.in1 I.env0.in1 r h) fun rr s' hq => ?_)
  cases rr with
  | error e => exact False.elim hq
  | ok fl =>
    cases fl with
    | ret u => exact I.after hq
    | next => exact False.elim hq
    | brk => exact False.elim hq
    | cont => exact False.elim hq
def rLenO (C : Addr) (sp : Sp) : List V → Hp → VK → Prop := fun vs H Q => ∃ a dx fs, vs = [.ref a] ∧ H a = some (.ins C dx fs) ∧ sp [.ref a] H (fun v H' => ∃ n : Int, v = .int n ∧ 0 ≤ n ∧ n < 1000000 ∧ Q (.int n) H') E0
theorem cr_lenO (F : FnR X.prog X.w X.K X.mg X.base CX0 k f sp) (hr : Room (k + 1) X.A) (hs : PySem.W.findIn X.K (.ref C) "__len__" = some (some (.ref f))) (hf : PySem.W.isFn X.K (.ref f) = true) : CallR X (.builtin "len") (rLenO C sp) := by
  intro pins s σ H vs us Q I r h
  obtain ⟨a, dx, fs, rfl, ha, q⟩ := h
  rw [Vals.ref1 r]
  obtain ⟨mA, J, _⟩ := ins_get I.hok ha
  obtain ⟨od, J, _⟩ := J.look
  obtain ⟨m, hF⟩ := I.fr
  refine PySem.W.len_K hF I.ok.mod.kin J hs hf ?_
  refine wpAny_mono (runIn1 (vs := [V.ref a]) F hr I (.cons rfl .nil) q) (fun v s' ⟨z, H', I', rz, n, ez, n0, n1, q'⟩ => ?_) fun _ _ z => z
  subst ez
  obtain ⟨t, rfl⟩ := rz
  exact ⟨⟨n0, by omega⟩, .int n, H', I'.tok _, ⟨_, rfl⟩, q'⟩
def rIxO (C : Addr) (sp : Sp) : R2 := fun x y H Q => ∃ a dx fs i, x = .ref a ∧ y = .int i ∧ H a = some (.ins C dx fs) ∧ sp [.ref a, .int i] H Q E0
/-- x[i], x an object with its own __getitem__ -/
theorem pe_ixO {a b : Expr} {ta tb : TE} {pos : Pos} (F : FnR X.prog X.w X.K X.mg X.base CX0 k f sp) (hr : Room (k + 1) X.A) (hs : PySem.W.findIn X.K (.ref C) "__getitem__" = some (some (.ref f))) (hf : PySem.W.isFn X.K (.ref f) = true) (hfn : PySem.W.fnIn X.K f = true) (ha : PE X a ta) (hb : PE X b tb)
    (hsl : ∀ o i, subscripted b true o i = runValue (.builtin "lifetime.subscript" ⟨[o, i], []⟩) := by intro _ _; rfl) : PE X (.Subscript a b pos) (tOp (rIxO C sp) ta tb) := by
  refine ⟨fun pins s σ H Q I h => Subscript_ (binT ha hb I h fun v u s2 x y H2 I2 rx ry q => ?_)⟩
  obtain ⟨a, dx, fs, i, rfl, rfl, ha, q⟩ := q
  cases rx
  obtain ⟨t, rfl⟩ := ry
  obtain ⟨mA, J, _⟩ := ins_get I2.hok ha
  obtain ⟨od, J, _⟩ := J.look
  obtain ⟨m, hF⟩ := I2.fr
  exact PySem.W.sub_K hF I2.ok.mod.kin J hs hfn hf (runIn1 (vs := [V.ref a, V.int i]) F hr I2 (.cons rfl (.cons ⟨t, rfl⟩ .nil)) q) (hsl _ _)
end
end My
/-! lambdas that stand in a list and are called elsewhere -/
namespace My
open PySem PySem.Spec L2 LamX PyProof.Rows PySem.W PySem.Calls
/-- a lambda as it is written: no parameter, or one (dn) with the default 0 -/
structure Lm where
  params : Arguments
  body : Expr
  scope : Scope
  dn : Option Str
def LamO (q : Str) (m : Lm) (clo : List (Str × Addr)) (dV : Value) (f c' : Addr) : HO :=
  .ext fun h => ∃ doc pm ctv : Value, h.get? f = some (kdv_obj "<lambda>" q m.params (.expr m.body) m.scope clo dV doc pm c' ctv)
def Dfl (H : Hp) (m : Lm) (dV : Value) : Prop := (m.dn = none ∧ dV = .none) ∨ ∃ (a : Str) (t : Addr), m.dn = some a ∧ dV = .ref t ∧ H t = some (.tup [.int 0])
/-- v is the lambda m of the frame with these cells -/
def LamAt (q : Str) (cells : List (Str × Addr)) (m : Lm) (H : Hp) (v : V) : Prop :=
  ∃ (f c' : Addr) (dV : Value), v = .ref f ∧ H f = some (LamO q m (cloFrom cells m.scope.names []) dV f c') ∧ H c' = some (CodeO c' q) ∧ Dfl H m dV
theorem lamO_ne {q : Str} {m : Lm} {clo : List (Str × Addr)} {dV : Value} {f c' : Addr} (ps : Array Value) : LamO q m clo dV f c' ≠ .tbl ps := fun z => by
  unfold LamO at z
  cases z
theorem LamAt.extN {q : Str} {cells : List (Str × Addr)} {m : Lm} {H H' : Hp} {v : V} (h : LamAt q cells m H v) (e : ExtN H H') : LamAt q cells m H' v := by
  obtain ⟨f, c', dV, rfl, h1, h2, h3⟩ := h
  refine ⟨f, c', dV, rfl, e _ _ h1 (fun ps => lamO_ne ps), e _ _ h2 (fun ps => codeO_ne ps), ?_⟩
  rcases h3 with h3 | ⟨a, t, e1, e2, e3⟩
  · exact .inl h3
  · exact .inr ⟨a, t, e1, e2, e _ _ e3 (fun ps z => by cases z)⟩
theorem LamAt.same {q : Str} {cells : List (Str × Addr)} {m : Lm} {H H' : Hp} {v : V} (h : LamAt q cells m H v) (e : Same H H') : LamAt q cells m H' v := h.extN (ExtN.of e)
theorem LamAt.keep {q : Str} {cells : List (Str × Addr)} {m : Lm} {H H' : Hp} {v : V} {d : Addr} {ys : List V} (h : LamAt q cells m H v) (hd : H d = some (.lst ys)) (k : Keep d H H') : LamAt q cells m H' v := by
  obtain ⟨f, c', dV, rfl, h1, h2, h3⟩ := h
  refine ⟨f, c', dV, rfl, k _ _ (ne_of h1 hd (by intro z; unfold LamO at z; cases z)) h1, k _ _ (ne_of h2 hd (by intro z; unfold CodeO at z; cases z)) h2, ?_⟩
  rcases h3 with h3 | ⟨a, t, e1, e2, e3⟩
  · exact .inl h3
  · exact .inr ⟨a, t, e1, e2, k _ _ (ne_of e3 hd (by intro z; cases z)) e3⟩
theorem lamO_ok {P : Program} {w : World} {H : Hp} {h : Heap} {q : Str} {m : Lm} {clo : List (Str × Addr)} {dV doc pm ctv : Value} {f c' : Addr} (e : h.get? f = some (kdv_obj "<lambda>" q m.params (.expr m.body) m.scope clo dV doc pm c' ctv)) :
    ObjOk P w H h f (LamO q m clo dV f c') := ⟨⟨doc, pm, ctv, e⟩, ⟨_, e⟩, fun g1 g2 z k => by
  obtain ⟨d1, d2, d3, z⟩ := z
  exact ⟨d1, d2, d3, k _ z⟩⟩
section
variable {X : Cx} {pins : List (Addr × Obj)} {σ : L2.St} {H : Hp} {s : Shared}
/-- the tail of a lambda's making: it is tracked from now on -/
theorem lam_tail {T : List (Addr × Str)} {c P : Addr} {m : Lm} {pos : Pos} {E : Value → Shared → Prop} {Q : Value → Shared → Prop} {dV : Value} {fl : Nat} (I : Inv X pins σ H s) (TB : TabB X.base X.mg c P) (hcode : X.env.code = .ref c)
    (hm : (P, X.env.qual ++ "<lambda>") ∈ T) (hu : ∀ p ∈ T, p.1 = P → p.2 = X.env.qual ++ "<lambda>") (hT : Tabs T H) (hfree : ∀ y ∈ m.scope.names, y.2 = .free → ∃ c, X.env.cells.lookup y.1 = some c) (hdv : Dfl H m dV)
    (h : ∀ (f : Addr) (H1 : Hp) (s' : Shared), Inv X pins σ H1 s' → ExtN H H1 → Tabs T H1 → H f = none → LamAt (X.env.qual ++ "<lambda>") X.env.cells m H1 (.ref f) → Q (.ref f) s') :
    wpAny (model X.prog X.w) X.A (makeTail "<lambda>" (X.env.qual ++ "<lambda>") m.params (.expr m.body) m.scope X.env dV .none none pos fl) Q E s := by
  obtain ⟨ps, hP, ht, ha⟩ := hT _ hm
  have bP : s.heap.BuiltinsAt X.mg P := TB.bm.keeps I.bk
  have hP' : s.heap.get? P = some { cls := .none, data := .fields ps } := I.hok P _ hP
  have dx : ∀ {H1 : Hp}, ExtN H H1 → Dfl H1 m dV := fun {H1} e => by
    rcases hdv with z | ⟨a, t, e1, e2, e3⟩
    · exact .inl z
    · exact .inr ⟨a, t, e1, e2, e _ _ e3 (fun ps z => by cases z)⟩
  cases hc : codeAmong pos ps.toList with
  | none =>
    refine kdv_makeTail (mg := X.mg) (c := c) (P := P) (ps := ps) (closure_ok hfree) I.ok.glob (I.mod.glob.keeps I.bk) hcode (TB.code.keeps I.bk) hP' ht hc TB.gP bP fun c' ctv doc h' tk hx hge hlt hrec htb => ?_
    obtain ⟨c2, oc, vs, t, e2, hoc, hd, hv⟩ := hrec
    cases e2
    have hsz : s.heap.objs.size ≤ h'.objs.size := Nat.le_trans hge (Nat.le_of_lt hlt)
    have nC : H c' = none := I.hok.fresh hge
    have I1 := inv_table (t' := tk) (more := #[rawInt pos.line, rawInt pos.col, .ref c']) (h' := h') (q := X.env.qual ++ "<lambda>") I hP (fun b o hb e => hx b o hb e) htb hge ⟨oc, vs, t, hoc, hd, hv⟩
    have hE : ExtN H (upd (upd H P (.tbl (ps ++ #[rawInt pos.line, rawInt pos.col, .ref c']))) c' (CodeO c' (X.env.qual ++ "<lambda>"))) := fun b o e n => by
      rw [upd_ne (ne_of_none e nC), upd_ne (fun z => n ps (Option.some.inj (e.symm.trans (by rw [z]; exact hP))))]
      exact e
    have eL : (ps ++ #[rawInt pos.line, rawInt pos.col, .ref c']).toList = ps.toList ++ [rawInt pos.line, rawInt pos.col, .ref c'] := by simp
    have nF : H h'.objs.size = none := I.hok.fresh hsz
    have n1 : h'.objs.size ≠ c' := Nat.ne_of_gt hlt
    have n2 : h'.objs.size ≠ P := Nat.ne_of_gt (Nat.lt_of_lt_of_le (Heap.lt_size hP') hsz)
    have tb : Tabs T (upd (upd H P (.tbl (ps ++ #[rawInt pos.line, rawInt pos.col, .ref c']))) c' (CodeO c' (X.env.qual ++ "<lambda>"))) := fun p hp => by
      by_cases hb : p.1 = P
      · rw [hu p hp hb, hb]
        refine ⟨_, by rw [upd_ne (ne_of_none hP nC), upd_same], by rw [eL]; exact PySem.TriplesOk_snoc _ _ _ _ ht, fun p' cv hcv => ?_⟩
        rw [eL] at hcv
        rcases among_app _ ht hcv with z | z
        · obtain ⟨c0, e1, e2⟩ := ha p' cv z
          exact ⟨c0, e1, hE _ _ e2 codeO_ne⟩
        · exact ⟨c', z, upd_same⟩
      · obtain ⟨ps', a1, a2, a3⟩ := hT p hp
        refine ⟨ps', by rw [upd_ne (ne_of_none a1 nC), upd_ne hb]; exact a1, a2, fun p' cv hcv => ?_⟩
        obtain ⟨c0, e1, e2⟩ := a3 p' cv hcv
        exact ⟨c0, e1, hE _ _ e2 codeO_ne⟩
    have hco : upd (upd H P (.tbl (ps ++ #[rawInt pos.line, rawInt pos.col, .ref c']))) c' (CodeO c' (X.env.qual ++ "<lambda>")) c' = some (CodeO c' (X.env.qual ++ "<lambda>")) := upd_same
    have nF1 : upd (upd H P (.tbl (ps ++ #[rawInt pos.line, rawInt pos.col, .ref c']))) c' (CodeO c' (X.env.qual ++ "<lambda>")) h'.objs.size = none := by rw [upd_ne n1, upd_ne n2]; exact nF
    generalize upd (upd H P (.tbl (ps ++ #[rawInt pos.line, rawInt pos.col, .ref c']))) c' (CodeO c' (X.env.qual ++ "<lambda>")) = H1 at *
    have I2 := I1.laid (a := h'.objs.size) (o := LamO (X.env.qual ++ "<lambda>") m (cloFrom X.env.cells m.scope.names []) dV h'.objs.size c') (t' := tk) (h' := h'.push (kdv_obj "<lambda>" (X.env.qual ++ "<lambda>") m.params (.expr m.body) m.scope (cloFrom X.env.cells m.scope.names []) dV doc ((X.mg "__name__").getD .none) c' ctv))
      (fun b o e => Heap.get?_push_of_some _ e) (Nat.le_refl _) (lamO_ok (Heap.get?_push_size _ rfl))
    have sm := same_new nF1 (LamO (X.env.qual ++ "<lambda>") m (cloFrom X.env.cells m.scope.names []) dV h'.objs.size c')
    exact h _ _ _ I2 (hE.trans (ExtN.of sm)) (tb.ext sm) nF ⟨_, c', dV, rfl, upd_same, sm _ _ hco, dx (hE.trans (ExtN.of sm))⟩
  | some cv =>
    obtain ⟨c', e, hco⟩ := ha pos cv hc
    subst e
    refine kdv_makeTailHit (mg := X.mg) (c := c) (P := P) (ps := ps) (closure_ok hfree) I.ok.glob (I.mod.glob.keeps I.bk) hcode (TB.code.keeps I.bk) hP' ht hc bP fun ctv doc h' tk hx hsz => ?_
    have nF : H h'.objs.size = none := I.hok.fresh hsz
    have I2 := I.laid (a := h'.objs.size) (o := LamO (X.env.qual ++ "<lambda>") m (cloFrom X.env.cells m.scope.names []) dV h'.objs.size c') (t' := tk) (h' := h'.push (kdv_obj "<lambda>" (X.env.qual ++ "<lambda>") m.params (.expr m.body) m.scope (cloFrom X.env.cells m.scope.names []) dV doc ((X.mg "__name__").getD .none) c' ctv))
      (fun b o e => Heap.get?_push_of_some _ (hx b o e)) hsz (lamO_ok (Heap.get?_push_size _ rfl))
    have sm := same_new nF (LamO (X.env.qual ++ "<lambda>") m (cloFrom X.env.cells m.scope.names []) dV h'.objs.size c')
    exact h _ _ _ I2 (ExtN.of sm) (hT.ext sm) nF ⟨_, c', dV, rfl, upd_same, sm _ _ hco, dx (ExtN.of sm)⟩
end
/-- the lambda's names: captured ones and globals; its own parameter is none of the frame's names -/
structure LamSD (sc scope : Scope) (N : List Str) (dn : Option Str) : Prop where
  kind : scope.kind = .function
  co : scope.isCoroutine = false
  gen : scope.isGenerator = false
  own : ∀ y ∈ scope.names, y.2 ≠ .cell ∧ (y.2 = .local → y.1 ∉ N)
  free : ∀ y ∈ scope.names, y.2 = .free → sc.names.lookup y.1 = some .cell ∨ sc.names.lookup y.1 = some .free
  par : ∀ a, dn = some a → scope.names.lookup a = some .local
def lamSDB (sc scope : Scope) (N : List Str) (dn : Option Str) : Bool :=
  decide (scope.kind = .function) && !scope.isCoroutine && !scope.isGenerator && (scope.names.all fun y => !decide (y.2 = .cell) && (!decide (y.2 = .local) || decide (y.1 ∉ N)) && (!decide (y.2 = .free) || decide (sc.names.lookup y.1 = some .cell) || decide (sc.names.lookup y.1 = some .free))) &&
    (match dn with | none => true | some a => decide (scope.names.lookup a = some .local))
theorem lamSD_by {sc scope : Scope} {N : List Str} {dn : Option Str} (h : lamSDB sc scope N dn = true) : LamSD sc scope N dn := by
  unfold lamSDB at h
  simp only [Bool.and_eq_true, Bool.or_eq_true, Bool.not_eq_true', decide_eq_true_eq, decide_eq_false_iff_not, List.all_eq_true] at h
  obtain ⟨⟨⟨⟨h1, h2⟩, h3⟩, h4⟩, h5⟩ := h
  refine ⟨h1, h2, h3, fun y hy => ⟨(h4 y hy).1.1, fun e => ?_⟩, fun y hy e => ?_, fun a e => ?_⟩
  · rcases (h4 y hy).1.2 with z | z
    · exact absurd e z
    · exact z
  · rcases (h4 y hy).2 with (z | z) | z
    · exact absurd e z
    · exact .inl z
    · exact .inr z
  · rw [e] at h5
    exact of_decide_eq_true h5
theorem LamSD.has {X : Cx} {scope : Scope} {N : List Str} {dn : Option Str} (L : LamSD X.env.scope scope N dn) (ok : X.Ok) : ∀ y ∈ scope.names, y.2 = .free → ∃ c, X.env.cells.lookup y.1 = some c := fun y hy e => by
  rcases L.free y hy e with k | k
  · exact ok.has _ (.inl k)
  · exact ok.has _ (.inr k)
structure LmOk (X : Cx) (m : Lm) : Prop where
  S : LamSD X.env.scope m.scope X.N m.dn
  b0 : m.dn = none → ∀ (q : Str) (cl : List (Str × Addr)) (doc pm cv ctv : Value), bindArgs (kdv_fn "<lambda>" q m.params (.expr m.body) m.scope cl .none doc pm cv ctv) ⟨[], []⟩ = pure []
  b1 : ∀ a, m.dn = some a → ∀ (q : Str) (cl : List (Str × Addr)) (t : Addr) (doc pm cv ctv v : Value), ∃ k, bindArgs (kdv_fn "<lambda>" q m.params (.expr m.body) m.scope cl (.ref t) doc pm cv ctv) ⟨[], []⟩ = seqItems? (.ref t) >>= k ∧ k (some #[v]) = pure [(a, v)]
/-- v is a lambda of the frame X, t its reading -/
def LamT (X : Cx) (k : Nat) (t : XK → TE) (H : Hp) (v : V) : Prop :=
  ∃ m : Lm, LmOk X m ∧ (∀ (A : Around) (outer : List Env) (s : Shared) (H : Hp) (E : XK) (f c' : Addr), Room k (A.deeper (lamEnv X m.scope s.heap.objs.size f c')) → PE (lamCx X A outer s H E m.scope f c') m.body (t E)) ∧ LamAt (X.env.qual ++ "<lambda>") X.env.cells m H v
theorem LamT.extN {X : Cx} {k : Nat} {t : XK → TE} {H H' : Hp} {v : V} (h : LamT X k t H v) (e : ExtN H H') : LamT X k t H' v := by
  obtain ⟨m, a, b, c⟩ := h
  exact ⟨m, a, b, c.extN e⟩
theorem LamT.same {X : Cx} {k : Nat} {t : XK → TE} {H H' : Hp} {v : V} (h : LamT X k t H v) (e : Same H H') : LamT X k t H' v := h.extN (ExtN.of e)
theorem LamT.keep {X : Cx} {k : Nat} {t : XK → TE} {H H' : Hp} {v : V} {d : Addr} {ys : List V} (h : LamT X k t H v) (hd : H d = some (.lst ys)) (e : Keep d H H') : LamT X k t H' v := by
  obtain ⟨m, a, b, c⟩ := h
  exact ⟨m, a, b, c.keep hd e⟩
def tLamV (X : Cx) (T : List (Addr × Str)) (k : Nat) (t : XK → TE) : TE := fun _ H Q => Tabs T H ∧ ∀ H1 f, ExtN H H1 → Tabs T H1 → H f = none → LamT X k t H1 (.ref f) → Q (.ref f) H1
section
variable {X : Cx}
/-- lambda: body, as a value -/
theorem pe_lamV0 {k : Nat} {t : XK → TE} {T : List (Addr × Str)} {c P : Addr} {params : Arguments} {body : Expr} {scope : Scope} {pos : Pos} (TB : TabB X.base X.mg c P) (hcode : X.env.code = .ref c) (hmT : (P, X.env.qual ++ "<lambda>") ∈ T) (hu : ∀ p ∈ T, p.1 = P → p.2 = X.env.qual ++ "<lambda>")
    (L : LmOk X ⟨params, body, scope, none⟩) (hdef : defaultsOf params X.env = ([], []))
    (hbody : ∀ (A : Around) (outer : List Env) (s : Shared) (H : Hp) (E : XK) (f c' : Addr), Room k (A.deeper (lamEnv X scope s.heap.objs.size f c')) → PE (lamCx X A outer s H E scope f c') body (t E))
    : PE X (.Lambda params body scope pos) (tLamV X T k t) := by
  refine ⟨fun pins s σ H Q I h => ?_⟩
  obtain ⟨hT, h⟩ := h
  refine PySem.W.kla_eval hdef ?_
  rw [makeFunction_eq]
  simp only [List.zip_nil_right, List.filterMap_nil, List.isEmpty_nil, if_true, pure_bind]
  exact lam_tail (m := ⟨params, body, scope, none⟩) I TB hcode hmT hu hT (L.S.has I.ok) (.inl ⟨rfl, rfl⟩) fun f H1 s' I1 eN T1 hf la => ⟨.ref f, H1, I1, rfl, h H1 f eN T1 hf ⟨_, L, hbody, la⟩⟩
/-- lambda a=0: body, as a value -/
theorem pe_lamV1 {k : Nat} {t : XK → TE} {T : List (Addr × Str)} {c P : Addr} {params : Arguments} {body : Expr} {scope : Scope} {pos pc : Pos} {a : Str} {j : Nat} (TB : TabB X.base X.mg c P) (hcode : X.env.code = .ref c) (hmT : (P, X.env.qual ++ "<lambda>") ∈ T) (hu : ∀ p ∈ T, p.1 = P → p.2 = X.env.qual ++ "<lambda>")
    (L : LmOk X ⟨params, body, scope, some a⟩) (hdef : params.defaults = [.Constant (.int 0) j pc]) (hk0 : params.kw_defaults = [])
    (hbody : ∀ (A : Around) (outer : List Env) (s : Shared) (H : Hp) (E : XK) (f c' : Addr), Room k (A.deeper (lamEnv X scope s.heap.objs.size f c')) → PE (lamCx X A outer s H E scope f c') body (t E))
    : PE X (.Lambda params body scope pos) (tLamV X T k t) := by
  refine ⟨fun pins s σ H Q I h => ?_⟩
  obtain ⟨hT, h⟩ := h
  refine kdv_lam (by rw [hdef]; rfl) hk0 ?_
  rw [hdef]
  refine kdv_all1 (thn ((pe_int (X := X) (i := 0) (j := j) (pos := pc)).run pins s σ H (fun v H' => v = .int 0 ∧ H' = H) I ⟨rfl, rfl⟩) fun u s1 hz => kdv_all0 ?_)
  obtain ⟨v, H1, I1, r1, rfl, rfl⟩ := hz
  rw [makeFunction_eq]
  simp only [List.zip_nil_right, List.filterMap_nil, List.isEmpty_nil, if_true, pure_bind, List.isEmpty_cons, Bool.false_eq_true, if_false]
  refine wpAny_bind (wpAny_newTextTuple ?_)
  have nt : H1 s1.heap.objs.size = none := I1.hok.fresh (Nat.le_refl _)
  have I2 := I1.laid (a := s1.heap.objs.size) (o := .tup [.int 0]) (t' := s1.toks) (h' := s1.heap.push { cls := .type "tuple", data := .seq [u].toArray }) (fun b o e => Heap.get?_push_of_some _ e) (Nat.le_refl _)
    ⟨(by show 1 ≤ sizeLine; decide), [u], .cons r1 .nil, _, Heap.get?_push_size _ rfl, rfl, _, rfl⟩
  have sm := same_new nt (.tup [.int 0])
  exact lam_tail (m := ⟨params, body, scope, some a⟩) I2 TB hcode hmT hu (hT.ext sm) (L.S.has I.ok) (.inr ⟨a, _, rfl, rfl, upd_same⟩) fun f H2 s' I3 eN T1 hf la => ⟨.ref f, H2, I3, rfl, h H2 f ((ExtN.of sm).trans eN) T1 (by
    by_cases e : f = s1.heap.objs.size
    · rw [e]; exact nt
    · rw [upd_ne e] at hf; exact hf) ⟨_, L, hbody, la⟩⟩
end
/-! ### a frame's cells as a part of the base -/
structure LamB (X : Cx) (σ : L2.St) (b : Heap) : Prop where
  ok : X.Ok
  sub : ∀ a o, X.base.get? a = some o → b.get? a = some o
  size : X.base.objs.size ≤ b.objs.size
  cell : ∀ x c, X.env.cells.lookup x = some c → ∃ v, b.IsCell c v
  val : ∀ (i : Nat) (x : Str) (v : V) (c : Addr), X.N[i]? = some x → σ[i]? = some (some v) → (X.env.scope.names.lookup x = some .cell ∨ X.env.scope.names.lookup x = some .free) → X.env.cells.lookup x = some c → ∃ u, RelV v u ∧ b.IsCell c (some u)
  len : σ.length = X.N.length
def bigB (X : Cx) (H : Hp) (h : Heap) : Heap := hideAll h (trk h H ++ frs X.stack)
theorem funs_re {h b b' : Heap} : ∀ {l : List Env}, h.FunFrames b l → (∀ a ∈ frs l, b'.get? a = none) → h.FunFrames b' l
  | [], _, _ => trivial
  | env :: r, ⟨hk, ⟨L, o, hf, hn, ho, hd⟩, hr⟩, q => by
    have mem : ∀ a ∈ frs r, a ∈ frs (env :: r) := fun a ha => by unfold frs; rw [List.filterMap_cons, hf]; exact List.mem_cons_of_mem _ ha
    exact ⟨hk, ⟨L, o, hf, q L (by unfold frs; rw [List.filterMap_cons, hf]; exact List.mem_cons_self), ho, hd⟩, funs_re hr fun a ha => q a (mem a ha)⟩
section
variable {X : Cx} {pins : List (Addr × Obj)} {σ : L2.St} {H : Hp} {s : Shared}
theorem big_get {h : Heap} {a : Addr} {o : Obj} (e : h.get? a = some o) (n : H a = none) (nf : a ∉ frs X.stack) : (bigB X H h).get? a = some o :=
  hideAll_get _ e fun hm => by
    rcases List.mem_append.mp hm with z | z
    · have q : (H a).isSome = true := (List.mem_filter.mp z).2
      rw [n] at q
      cases q
    · exact nf z
theorem of_big {h : Heap} {a : Addr} {o : Obj} (e : (bigB X H h).get? a = some o) : h.get? a = some o ∧ H a = none := by
  have e' : h.get? a = some o := of_hideAll _ e
  refine ⟨e', ?_⟩
  cases q : H a with
  | none => rfl
  | some x =>
    have hm : a ∈ trk h H ++ frs X.stack := List.mem_append.mpr (.inl (List.mem_filter.mpr ⟨List.mem_range.mpr (Heap.lt_size e'), by simp [q]⟩))
    have z : (bigB X H h).get? a = none := hideAll_none _ hm
    rw [z] at e
    cases e
theorem big_sub (I : Inv X pins σ H s) : ∀ a o, X.base.get? a = some o → (bigB X H s.heap).get? a = some o := fun a o e => by
  obtain ⟨h1, h2⟩ := I.bs a o e
  refine big_get h1 h2 fun z => ?_
  rcases List.mem_cons.mp (I.stkSub a z) with z | z
  · have l1 := Heap.lt_size e
    have l2 := Nat.le_trans I.ok.bsz I.ok.above
    rw [z] at l1
    exact Nat.lt_irrefl _ (Nat.lt_of_lt_of_le l1 l2)
  · exact I.ok.nofr e z
theorem big_mod (I : Inv X pins σ H s) : Mod X.K X.mg (bigB X H s.heap) := by
  have k := big_sub I
  obtain ⟨mb, h1, h2⟩ := I.mod.blt
  exact ⟨I.mod.kin.keeps k, I.mod.glob.keeps k, ⟨mb, h1.keeps k, h2⟩, I.mod.nolimit.keeps k⟩
theorem big_env0 (I : Inv X pins σ H s) : Env0 X.prog X.w X.K X.mg (bigB X H s.heap) X.A X.stack s H :=
  ⟨I.ok.frames, big_mod I, fun a o e => of_big e, by unfold bigB; rw [hideAll_size]; exact Nat.le_refl _, funs_re I.stack fun a ha => hideAll_none _ (List.mem_append.mpr (.inr ha)), I.stkFree, I.hok, I.bare⟩
theorem lamB_of (I : Inv X pins σ H s) (hfn : ∀ x, X.fn x = true) : LamB X σ (bigB X H s.heap) := by
  have nf : ∀ x c, X.env.cells.lookup x = some c → c ∉ frs X.stack := fun x c e z => by
    rcases List.mem_cons.mp (I.stkSub c z) with z | z
    · exact I.cne x c e z
    · obtain ⟨_, o, ho, _⟩ := I.ok.funs.mem z
      have l1 := Heap.lt_size ho
      have l2 := I.ok.cab x c (hfn x) e
      exact Nat.lt_irrefl _ (Nat.lt_of_lt_of_le l1 l2)
  have up : ∀ x c v, X.env.cells.lookup x = some c → s.heap.IsCell c v → (bigB X H s.heap).IsCell c v := fun x c v e ⟨o, ho, hd⟩ => ⟨o, big_get ho (I.freeC x c e) (nf x c e), hd⟩
  refine ⟨I.ok, big_sub I, ?_, fun x c e => ?_, fun i x v c e1 e2 e3 e4 => ?_, I.len⟩
  · unfold bigB
    rw [hideAll_size]
    exact Nat.le_trans I.ok.bsz I.sz
  · obtain ⟨v, z⟩ := I.cell x c e
    exact ⟨v, up x c v e z⟩
  · obtain ⟨m, _, hl⟩ := I.loc
    obtain ⟨u, r, q⟩ := hl i x v e1 e2 (.inr e3)
    refine ⟨u, r, ?_⟩
    rcases q with ⟨k, _⟩ | ⟨_, c2, k2, z⟩
    · have k : X.env.scope.names.lookup x = some .local := k
      rcases e3 with e3 | e3 <;> rw [e3] at k <;> cases k
    · rw [e4] at k2
      cases k2
      exact up x c _ e4 z
theorem lam_startB {A : Around} {outer : List Env} {E : XK} {scope : Scope} {dn : Option Str} {f c' : Addr} {b h₁ : Heap} {tk : Nat} {HZ : Hp} {s1 : Shared} {bs : List (Str × Value)} (B : LamB X σ b) (L : LamSD X.env.scope scope X.N dn) (e0 : Env0 X.prog X.w X.K X.mg b A outer s1 HZ) (hd : A.handled = none)
    (hns : h₁.Ns s1.heap.objs.size fun y => bs.reverse.lookup y) (kp : ∀ b o, s1.heap.get? b = some o → h₁.get? b = some o) :
    Inv (lamCx X A outer s1 HZ E scope f c') [] σ HZ { s1 with heap := h₁, toks := tk } := by
  have hfree := L.has B.ok
  have cm : ∀ {y c}, (cloFrom X.env.cells scope.names []).lookup y = some c → X.env.cells.lookup y = some c := fun {y c} e => by
    rcases cloFrom_mem (PySem.mem_of_lookup e) with hm | ⟨h1, h2⟩
    · cases hm
    · obtain ⟨c1, hc⟩ := hfree _ h1 rfl
      have hc : X.env.cells.lookup y = some c1 := hc
      have e2 : c = c1 := by
        rw [h2, hc] <;> rfl
      rw [e2]
      exact hc
  have look : ∀ {y}, scope.names.lookup y = some .free → ∃ c, (cloFrom X.env.cells scope.names []).lookup y = some c := fun {y} hl => mem_lookup (cloFrom_has (cells := X.env.cells) (acc := []) (PySem.mem_of_lookup hl))
  have cellK : ∀ {c : Addr} {v : Option Value}, b.IsCell c v → h₁.IsCell c v := fun {c v} ⟨o, ho, hd⟩ => ⟨o, kp _ _ (e0.bs c o ho).1, hd⟩
  have noA : ∀ b : Addr, b ∉ (lamCx X A outer s1 HZ E scope f c').ex := fun b z => absurd (show b ∈ ([] : List Addr) from z) (by simp)
  have fb : ∀ a, b.get? a = none → X.base.get? a = none := fun a n => by
    cases e : X.base.get? a with
    | none => rfl
    | some o => rw [B.sub a o e] at n; cases n
  refine ⟨⟨B.ok.mod, L.kind, rfl, rfl, Nat.le_refl _, fun y z c e1 e2 => B.ok.inj y z c (cm e1) (cm e2), fun y hy => ?_, fun y c z _ => ?_, fun _ => hd, Around.frames_deeper e0.frames, .inr ⟨rfl, rfl⟩, fun b z => absurd z (noA b), fun a o e => e0.bs a o (B.sub a o e), Nat.le_trans B.size e0.bsz, fun b _ _ => noA b,
      fun b z => absurd z (noA b), funs_re e0.funs fun a ha => fb a (e0.funs.mem ha).1, e0.frf⟩,
    rfl, e0.bare, Un.kept kp, ⟨_, hns, fun i y v e1 e2 e3 => ?_⟩, fun y c e => ?_, e0.hok.fresh (Nat.le_refl _), fun y c e => ?_, fun q hq => absurd (show q ∈ ([] : List (Addr × Obj)) ++ [] from hq) (by simp), e0.hok.kept kp, B.len⟩
  · have hy : scope.names.lookup y = some .cell ∨ scope.names.lookup y = some .free := hy
    rcases hy with hy | hy
    · exact absurd rfl (L.own _ (PySem.mem_of_lookup hy)).1
    · exact look hy
  · have z : false = true := z
    cases z
  · have e1 : X.N[i]? = some y := e1
    have e3 : Vis scope y := e3
    rcases e3 with k | k | k
    · exact absurd (List.mem_of_getElem? e1) ((L.own _ (PySem.mem_of_lookup k)).2 rfl)
    · exact absurd rfl (L.own _ (PySem.mem_of_lookup k)).1
    · obtain ⟨c2, h2⟩ := look k
      obtain ⟨u, r, z⟩ := B.val i y v c2 e1 e2 (L.free _ (PySem.mem_of_lookup k) rfl) (cm h2)
      exact ⟨u, r, .inr ⟨.inr k, c2, h2, cellK z⟩⟩
  · obtain ⟨v, z⟩ := B.cell y c (cm e)
    exact ⟨v, cellK z⟩
  · obtain ⟨v, o, ho, _⟩ := B.cell y c (cm e)
    exact (e0.bs c o ho).2
/-- x(), in a def that got the lambda m; b: a base with the cells of m's frame -/
theorem pe_actB {CXg : CXT} {Eg : XK} {Ng : List Str} {qg : Str} {sg : Scope} {g : Addr} {cdg : Value} {m : Lm} {k i : Nat} {a : Str} {pn : List (Addr × Obj)} {xe : Value → Shared → Prop} {W : WX} {E : XK} {tb : TE} {p1 p2 : Pos} {b : Heap} {AZ : Around} {outZ : List Env} {s0 : Shared} {H0 : Hp}
    (B : LamB X σ b) (L : LmOk X m) (tk : Takes ((cxOf CXg X.prog X.w X.K X.mg b Ng qg sg g cdg AZ outZ s0 H0 Eg).tr pn xe) W) (hW : ∀ cls d σ' H', E cls d H' → W cls d σ' H') (hr : Room (k + 1) (AZ.deeper (envOfC qg sg s0.heap.objs.size g cdg)))
    (hbody : ∀ (A : Around) (outer : List Env) (s : Shared) (H : Hp) (f c' : Addr), Room k (A.deeper (lamEnv X m.scope s.heap.objs.size f c')) → PE (lamCx X A outer s H E m.scope f c') m.body tb)
    (hN : Ng[i]? = some a) (hv : Vis sg a) (hd : (a == ("__debug__" : Str)) = false := by decide) (hcd : (a == ("__classdict__" : Str)) = false := by decide) :
    PE ((cxOf CXg X.prog X.w X.K X.mg b Ng qg sg g cdg AZ outZ s0 H0 Eg).tr pn xe) (.Call (.Name a p1) [] [] p2)
      (fun σZ HZ Q => ∃ v, σZ[i]? = some (some v) ∧ LamAt (X.env.qual ++ "<lambda>") X.env.cells m HZ v ∧ tb σ HZ Q) := by
  refine ⟨fun pinsZ sZ σZ HZ Q IZ h => ?_⟩
  obtain ⟨v, hs, ⟨f, c', dV, rfl, hf, hc, hdv⟩, ht⟩ := h
  refine wpAny_Call_Name_kw (thn ((pe_var (pos := p1) (i := i) hN hv hd hcd).run pinsZ sZ σZ HZ (fun v H1 => v = .ref f ∧ H1 = HZ) IZ ⟨.ref f, hs, rfl, rfl⟩) fun u s1 ⟨v, H1, I1, r1, q1⟩ => ?_)
  obtain ⟨ev, eH⟩ := q1
  subst ev
  rw [eH] at I1
  obtain rfl : u = Value.ref f := r1
  obtain ⟨⟨doc, pm, ctv, of1⟩, _, _⟩ := I1.hok f _ hf
  refine PySem.W.callWith_F0 ⟨_, _, _, _, of1⟩ ?_
  obtain ⟨⟨oc, vs, t, hoc, hdc, hvc⟩, _, _⟩ := I1.hok c' _ hc
  have bd : ∃ bs : List (Str × Value), BindsTo s1 (kdv_fn "<lambda>" (X.env.qual ++ "<lambda>") m.params (.expr m.body) m.scope (cloFrom X.env.cells m.scope.names []) dV doc pm (.ref c') ctv) ⟨[], []⟩ bs ∧ ∀ y ∈ bs, m.scope.names.lookup y.1 = some .local := by
    rcases hdv with ⟨e1, rfl⟩ | ⟨a', tt, e1, rfl, e3⟩
    · exact ⟨[], .of_eq (L.b0 e1 _ _ _ _ _ _), fun y hy => by cases hy⟩
    · obtain ⟨_, its, rv, o, ho, _, n, hn⟩ := I1.hok tt _ e3
      obtain ⟨v0, rfl⟩ : ∃ v0, its = [v0] := by
        cases rv with
        | cons _ r => cases r; exact ⟨_, rfl⟩
      obtain ⟨kk, h1, h2⟩ := L.b1 a' e1 (X.env.qual ++ "<lambda>") (cloFrom X.env.cells m.scope.names []) tt doc pm (.ref c') ctv v0
      exact ⟨[(a', v0)], BindsTo.of_defaults (T := tt) rfl ho hn h1 h2, fun y hy => by rw [List.mem_singleton.mp hy]; exact L.S.par a' e1⟩
  obtain ⟨bs, hb, hl⟩ := bd
  have rc : codeAny (model X.prog X.w) (AZ.deeper (envOfC qg sg s0.heap.objs.size g cdg)) (.call (.ref f) ⟨[], []⟩) (CR (L2.CX X.prog X.w) (envOfC qg sg s0.heap.objs.size g cdg :: outZ) X.prog X.w HZ s1 Q E) s1 := by
    refine PySem.W.kla_callFunE hr.depth of1 rfl L.S.co L.S.gen rfl ⟨c', oc, vs, t, rfl, hoc, hdc, hvc⟩ (hb _ _ _ _ ?_)
    refine wpAny_newFunctionEnv (fun y hy => (L.S.own y hy).1) hl (fun h₁ hns hsb => ⟨I1.nolimit.fresh _ hsb, ?_⟩) L.S.kind
    show codeAny _ _ (.expr m.body (lamEnv X m.scope s1.heap.objs.size f c')) _ _
    have kp : ∀ b o, s1.heap.get? b = some o → h₁.get? b = some o := fun b o e => hsb.extBut b o (Nat.ne_of_lt (Heap.lt_size e)) (Heap.get?_push_of_some _ e)
    have J : Inv (lamCx X (AZ.deeper (envOfC qg sg s0.heap.objs.size g cdg)) (envOfC qg sg s0.heap.objs.size g cdg :: outZ) s1 HZ E m.scope f c') [] σ HZ { s1 with heap := h₁, toks := s1.toks + bs.length } :=
      lam_startB B L.S I1.env0 hr.hd hns kp
    refine PySem.W.kla_codeExpr (wpAny_mono ((hbody _ _ s1 HZ f c' (hr.deeper _)).run [] _ _ HZ Q J ht) (fun v s' hq => ?_) fun e s' hq => hq)
    obtain ⟨w', H', J', rv, q⟩ := hq
    exact ⟨w', H', J'.os, J'.bare, J'.base, J'.hok, rv, q⟩
  have hx : Passes (L2.CX X.prog X.w) ((cxOf CXg X.prog X.w X.K X.mg b Ng qg sg g cdg AZ outZ s0 H0 Eg).tr pn xe) E := passes_call tk hW
  refine wpAny_call (codeAny_mono rc fun r s' hq => ?_)
  cases r with
  | error e => exact hx pinsZ σZ HZ s1 e s' I1 hq
  | ok fl =>
    cases fl with
    | ret u => exact I1.after hq
    | next => exact False.elim hq
    | brk => exact False.elim hq
    | cont => exact False.elim hq
/-- the def that calls what it got, over a base with the cells -/
def sp_errB (X : Cx) (k : Nat) (σ : L2.St) (TT : (XK → Hp → VK → Prop) → Hp → VK → Prop) : Sp := fun vs H Q _ => ∃ v t, vs = [v] ∧ LamT X k t H v ∧ TT (fun E H' Q' => (∀ m, LamAt (X.env.qual ++ "<lambda>") X.env.cells m H v → LamAt (X.env.qual ++ "<lambda>") X.env.cells m H' v) ∧ t E σ H' Q') H Q
theorem errB {TT : (XK → Hp → VK → Prop) → Hp → VK → Prop} {x a : Str} {g : Addr} {k : Nat} {pg : Arguments} {bg : List Stmt} {sg : Scope} {dV kV doc pm cdv ct oc : Value} {an od : Option Addr} {osl : Array (Option Value)} {Ng : List Str} {b : Heap}
    (lk : X.K.lookup g = some ⟨oc, od, .func (PySem.W.fnOf x x pg bg sg dV kV doc pm an cdv ct), osl⟩) (hcg : PySem.W.codeIn X.K cdv x = true) (hb : L2.Binds X.K (PySem.W.fnOf x x pg bg sg dV kV doc pm an cdv ct) [a] []) (Sg : FnScope Ng [a] sg) (hNg : Ng[0]? = some a) (hva : Vis sg a)
    (hG : ∀ (A : Around) (outer : List Env), GivesTo { X with base := b, A := A, stack := outer } Ng x sg g cdv bg a (X.env.qual ++ "<lambda>") TT) (B : LamB X σ b)
    (hd : (a == ("__debug__" : Str)) = false := by decide) (hcd : (a == ("__classdict__" : Str)) = false := by decide) :
    FnR X.prog X.w X.K X.mg b C8.CX0 (k + 2) g (sp_errB X k σ TT) := by
  intro A outer s H us vs Q E hr e0 r h
  obtain ⟨v, t, rfl, ⟨m, L, hbody, la⟩, h⟩ := h
  obtain ⟨f, c', dV, rfl, hf, hc, hdv⟩ := id la
  cases r with
  | cons rx rr =>
    cases rr
    cases rx
    have e00 : Env0 X.prog X.w X.K X.mg b A outer s H := e0
    have kin : X.K.In s.heap := e0.mod.kin.keeps fun b o e => (e0.bs b o e).1
    refine codeAny_mono (run_ofS (CX := C8.CX0) (N := Ng) (ps := [a]) (us := [.ref f]) (vs := [.ref f]) (k := k + 1) (Q := Q) (E := C8.E0) lk hcg Sg hr e0 (hb s [.ref f] kin rfl) (.cons rfl .nil) rfl fun hr' => ?_) fun r s' hq => ?_
    · obtain ⟨t', ht', hq'⟩ := hG A outer f c' s H Q (fun E H' Q' => (∀ m, LamAt (X.env.qual ++ "<lambda>") X.env.cells m H (.ref f) → LamAt (X.env.qual ++ "<lambda>") X.env.cells m H' (.ref f)) ∧ t E σ H' Q') (fun W pn xe E p1 p2 tk hW => ⟨fun pins s' σ' H' Q' I' h' => (pe_actB (X := X) (i := 0) B L tk hW hr' (fun A outer s H f c' hr2 => hbody A outer s H E f c' hr2) hNg hva hd hcd).run pins s' σ' H' Q' I' ⟨_, h'.1, h'.2.2.1 m la, h'.2.2.2⟩⟩) hc h
      exact ⟨t', ht'.nox, hq'⟩
    · cases r with
      | error e => exact (show False from hq).elim
      | ok fl => exact hq
/-- x(e, ..) by a promise over the base with the cells -/
theorem pe_big {x : Str} {g : Addr} {k : Nat} {e : Expr} {es : List Expr} {ta : TA} {sp : L2.St → Sp} {p pos : Pos} (hg : Gl X x) (hm : X.mg x = some (.ref g)) (hk : PySem.W.keepIn X.K (.ref g) = true) (hfn : ∀ x, X.fn x = true) (ha : PA X (e :: es) ta)
    (hF : ∀ σ b, LamB X σ b → FnR X.prog X.w X.K X.mg b C8.CX0 k g (sp σ)) (hr : Room k X.A) (hd : (x == ("__debug__" : Str)) = false := by decide)
    (he : starEach (e :: es) X.env = (false, eval e X.env) :: starEach es X.env := by rfl) (hpl : (backTo pos (starEach es X.env)).any (·.1) = false := by rfl) :
    PE X (.Call (.Name x p) (e :: es) [] pos) (fun σ H Q => ta σ H fun vs H1 => sp σ vs H1 Q C8.E0) := by
  refine ⟨fun pins s σ H Q I h => ?_⟩
  refine wpAny_Call_Name_kw (ld_glob I hg hm ?_ hd)
  refine PySem.W.callWith_K (h₀ := X.base) I.ok.mod.kin hk (thn (ha.run pos pins s σ H _ I h) fun us s1 ⟨vs, H1, I1, r, q⟩ => ⟨I1.kIn, ?_⟩) he hpl
  refine wpAny_call (codeAny_mono (hF σ _ (lamB_of I1 hfn) X.A X.stack s1 H1 us vs Q C8.E0 hr (big_env0 I1) r q) fun r s' hq => ?_)
  cases r with
  | error e => exact (show False from hq).elim
  | ok fl =>
    cases fl with
    | ret u => exact I1.after hq
    | next => exact False.elim hq
    | brk => exact False.elim hq
    | cont => exact False.elim hq
end
end My
/-! t == u of two tuples, items by their own == -/
namespace My
open PySem PySem.Spec L2 PyProof.Rows PySem.SeqAt
open AutoSeq1 (wpAny_loadPart')
open MeetsSeq MeetsSeq2 MeetsSeq3 SeqRoads2
section
variable {prog : Program} {w : World} {A : Around} {R : Result → Shared → Prop}
theorem tuple_eqB (l b : Addr) (items items2 : Array Value) (n n2 : Nat) (dd dd2 : Option Addr) (sl sl2 : Array (Option Value)) (I : Shared → Prop) (e : Nat → Bool)
    (turn : ∀ i (h1 : i < items.size) (h2 : i < items2.size) s, I s → wpAny (model prog w) A.in1 (eqBool items[i] items2[i]) (fun r s' => r = e i ∧ I s') (fun e s' => R (.error e) s') s)
    (fin : ∀ s, I s → R (.ok (.ret (.bool ((List.range (min items.size items2.size)).all e && items.size == items2.size)))) s) {s : Shared} (hl1 : s.heap.get? l = some { cls := .type "tuple", dict := dd, data := .seq items n, slots := sl }) (hb1 : s.heap.get? b = some { cls := .type "tuple", dict := dd2, data := .seq items2 n2, slots := sl2 }) (h : I s) :
    wpAny (model prog w) A.in1 (Builtin.«tuple.__eq__» ⟨[.ref l, .ref b], []⟩) (GQ.FinOf prog w A R) (fun e s' => R (.error e) s') s := by
  have f2 := AutoSeq1.sub_tuple_tuple
  have hZ : (items.toList.zip items2.toList).length = min items.size items2.size := by simp
  have h0 := h
  obtain ⟨hp, g, d, tk, os⟩ := s
  wp_walk using wpAny_loadPart' hl1, wpAny_loadPart' hb1, wpAny_forIn_list _ (fun rest b s' => b.1 = none ∧ ∃ i, rest = (items.toList.zip items2.toList).drop i ∧ I s' ∧ (List.range (min items.size items2.size)).all e = ((List.range (min items.size items2.size)).drop i).all e) _
  case turn =>
    rintro ⟨y, x⟩ rest b s' ⟨hb', i, hz, hI, hR⟩
    have hlt : i < (items.toList.zip items2.toList).length := by
      rcases Nat.lt_or_ge i (items.toList.zip items2.toList).length with h' | h'
      · exact h'
      · rw [List.drop_of_length_le h'] at hz; cases hz
    have hm : i < min items.size items2.size := hZ ▸ hlt
    have h1 : i < items.size := Nat.lt_of_lt_of_le hm (Nat.min_le_left _ _)
    have h2 : i < items2.size := Nat.lt_of_lt_of_le hm (Nat.min_le_right _ _)
    rw [List.drop_eq_getElem_cons hlt] at hz
    injection hz with hyx hrest
    have hy : y = items[i] := by have := congrArg Prod.fst hyx; simpa using this
    have hx : x = items2[i] := by have := congrArg Prod.snd hyx; simpa using this
    subst hy hx
    have hd : (List.range (min items.size items2.size)).drop i = i :: (List.range (min items.size items2.size)).drop (i + 1) := by simp [List.drop_eq_getElem_cons, hm]
    rw [hd, List.all_cons] at hR
    refine wpAny_bind (wpAny_mono (turn i h1 h2 s' hI) (fun r s2 q2 => ?_) fun _ _ x => x)
    obtain ⟨hr, q2⟩ := q2
    rw [← hr] at hR
    cases r with
    | true =>
      wp_walk
      exact ⟨rfl, i + 1, hrest, q2, by simpa using hR⟩
    | false =>
      have hF := fin s2 q2
      rw [hR] at hF
      wp_walk
      simpa using hF
  case fin =>
    rintro ⟨b1, b2⟩ s' ⟨hb', i, hz, hI, hR⟩
    simp only at hb'
    subst hb'
    have hge : min items.size items2.size ≤ i := by
      rcases Nat.lt_or_ge i (items.toList.zip items2.toList).length with h' | h'
      · rw [List.drop_eq_getElem_cons h'] at hz; cases hz
      · exact hZ ▸ h'
    rw [List.drop_of_length_le (by simpa using hge)] at hR
    have hF := fin s' hI
    rw [hR] at hF
    wp_walk
    simpa [Builtin.Tuple.tupleCompareSizes] using hF
  case h =>
    exact ⟨rfl, 0, rfl, h0, rfl⟩
end
/-- a tuple tells one triple only -/
def Coh (K : PySem.W.Frag) (H : Hp) : Prop := ∀ (a : Addr) (x y z x' y' z' : Int), SqT K H a [.int x, .int y, .int z] → SqT K H a [.int x', .int y', .int z'] → x = x' ∧ y = y' ∧ z = z'
theorem vals3 {x y z : Int} {its : List Value} (r : Vals [.int x, .int y, .int z] its) : ∃ t1 t2 t3, its = [.int x t1, .int y t2, .int z t3] := by
  cases r with
  | cons r1 r => cases r with
    | cons r2 r => cases r with
      | cons r3 r => cases r with
        | nil =>
          obtain ⟨t1, rfl⟩ := r1
          obtain ⟨t2, rfl⟩ := r2
          obtain ⟨t3, rfl⟩ := r3
          exact ⟨t1, t2, t3, rfl⟩
theorem coh_of {X : Cx} {pins : List (Addr × Obj)} {σ : L2.St} {H : Hp} {s : Shared} (I : Inv X pins σ H s) : Coh X.K H := by
  intro a x y z x' y' z' h h'
  obtain ⟨its, r, e, _⟩ := I.tuple h
  obtain ⟨its', r', e', _⟩ := I.tuple h'
  obtain ⟨o, ho, hc, n, hd⟩ := e
  obtain ⟨o', ho', hc', n', hd'⟩ := e'
  rw [ho] at ho'
  cases ho'
  rw [hd] at hd'
  injection hd' with hd' _
  obtain ⟨t1, t2, t3, rfl⟩ := vals3 r
  obtain ⟨u1, u2, u3, rfl⟩ := vals3 r'
  simp at hd'
  exact ⟨hd'.1.1, hd'.2.1.1, hd'.2.2.1⟩
def rEqTO (K : PySem.W.Frag) (C : Addr) (sp : Sp) : R2 := fun x y H Q => ∃ a b xs ys, x = .ref a ∧ y = .ref b ∧ SqT K H a xs ∧ SqT K H b ys ∧ (Coh K H → ∃ e : Nat → Bool, (∀ (i : Nat) (u v : V), xs[i]? = some u → ys[i]? = some v → ∃ (p q dx dy : Addr) (fs gs : List (Str × V)), u = .ref p ∧ v = .ref q ∧ H p = some (.ins C dx fs) ∧ H q = some (.ins C dy gs) ∧ (p = q → e i = true) ∧ sp [.ref p, .ref q] H (fun v H' => v = .bl (e i) ∧ H' = H) E0) ∧ Q (.bl ((List.range (min xs.length ys.length)).all e && xs.length == ys.length)) H)
section
variable {X : Cx} {k : Nat} {f C : Addr} {sp : Sp}
theorem op_eqTO (F0 : FnR X.prog X.w X.K X.mg X.base CX0 k f sp) (hr : Room (k + 1) X.A)
    (hs : PySem.W.findIn X.K (.ref C) "__eq__" = some (some (.ref f))) (hf : PySem.W.isFn X.K (.ref f) = true) : OpR X (compareOp .Eq) (rEqTO X.K C sp) := by
  intro pins s σ H x y v u Q I rx ry hq
  obtain ⟨a, b, xs, ys, rfl, rfl, ha, hb, q0⟩ := hq
  obtain ⟨e, turn, q⟩ := q0 (coh_of I)
  cases rx
  cases ry
  obtain ⟨its, r, e1, z⟩ := I.tuple ha
  obtain ⟨its2, r2, e2, z2⟩ := I.tuple hb
  obtain ⟨⟨cls, dd, data, sl⟩, ho, hc, n, hd⟩ := id e1
  obtain ⟨⟨cls2, dd2, data2, sl2⟩, ho2, hc2, n2, hd2⟩ := id e2
  simp only at hc hd hc2 hd2
  subst hc hd hc2 hd2
  show wpAny (model X.prog X.w) X.A (richCompare .Eq (.ref a) (.ref b)) (EP X pins σ Q) X.xe s
  refine wpAny_richCompare_same_room (op := .Eq) ⟨_, ho, rfl⟩ ⟨_, ho2, rfl⟩ F.slot_tuple_eq (GQ.call_here F.slot_tuple_eq ⟨_, ho, rfl⟩ F.entry_tuple_eq (F.args_tuple_eq_2 _ _) ?_) hr.units0
  refine tuple_eqB (R := wants (fun v s' => v ≠ .notImplemented ∧ EP X pins σ Q v s') X.xe) a b its.toArray its2.toArray n n2 dd dd2 sl sl2 (fun s' => Inv X pins σ H s') e (fun i h1 h2 s' I' => ?_) (fun s' I' => ⟨(fun x => nomatch x), ?_⟩) ho ho2 I
  · have k1 : i < xs.length := by rw [r.length]; simpa using h1
    have k2 : i < ys.length := by rw [r2.length]; simpa using h2
    obtain ⟨u, hu, ru⟩ := r.get (List.getElem?_eq_getElem k1)
    obtain ⟨v, hv, rv⟩ := r2.get (List.getElem?_eq_getElem k2)
    obtain ⟨p, q', dx, dy, fs, gs, eu, ev, hp, hq, self, hsp⟩ := turn i _ _ (List.getElem?_eq_getElem k1) (List.getElem?_eq_getElem k2)
    rw [eu] at ru
    rw [ev] at rv
    cases ru
    cases rv
    have g1 : its.toArray[i] = .ref p := by
      have h1' : i < its.length := by simpa using h1
      rw [List.getElem?_eq_getElem h1'] at hu
      simpa using hu
    have g2 : its2.toArray[i] = .ref q' := by
      have h2' : i < its2.length := by simpa using h2
      rw [List.getElem?_eq_getElem h2'] at hv
      simpa using hv
    rw [g1, g2]
    exact eqB_own F0 (Sub.in1 (n := k) ⟨hr, rfl⟩) hs hf I' hp hq self hsp
  · refine ⟨.bl _, H, I', rfl, ?_⟩
    rw [List.size_toArray, List.size_toArray, ← r.length, ← r2.length]
    exact q
end
end My
/-! o.m(e, ..) within a try; comprehensions with two for, by an invariant for each -/
namespace My
open PySem PySem.Spec L2 PyProof.Rows
def tMethS (C : Addr) (m : Str) (sp : Sp) (E : L2.St → XK) (ta : TE) (t : TA) : TE := fun σ H Q => ta σ H fun x H1 => ∃ a dx fs, x = .ref a ∧ H1 a = some (.ins C dx fs) ∧ fs.lookup m = none ∧ t σ H1 fun vs H2 => sp (x :: vs) H2 Q (E σ)
theorem pe_methS {X : Cx} {CX : CXT} {k : Nat} {f C : Addr} {fd : FuncData} {ps : List Str} {sp : Sp} {E : L2.St → XK} {m : Str} {pos apos : Pos} {e o : Expr} {es : List Expr} {ta : TE} {t : TA} {pl : Sem Bool} (he : PE X o ta) (c : Cls X.K C) (hm : Meth X.K C m f) (F : FnOk X.prog X.w X.K X.mg X.base CX k f fd ps sp) (hr : Room k X.A) (hb : Binds X.K fd ps []) (hx : ∀ σ, PassesAt CX X σ (E σ)) (ha : PA X (e :: es) t)
    (hst : starEach (e :: es) X.env = (false, eval e X.env) :: starEach es X.env := by rfl) (hpl : (backTo pos (starEach es X.env)).any (·.1) = false := by rfl)
    (ht : eval (.Call (.Attribute o m apos) (e :: es) [] pos) X.env = (do
      let ov ← eval o X.env
      standAt apos.atName
      let (f, first) ← holding [ov] (getMethod ov m pl)
      callWith pos f first (backTo pos (starEach (e :: es) X.env)) (backToKw pos (keywordEach [] X.env))) := by rfl) :
    PE X (.Call (.Attribute o m apos) (e :: es) [] pos) (tMethS C m sp E ta t) := by
  refine ⟨fun pins s σ H Q I h => ?_⟩
  refine PySem.W.methodCall_KW (pl := pl) (thn (he.run pins s σ H _ I h) fun u s1 ⟨x, H1, I1, rx, a, dx, fs, ex, ea, l, q⟩ => ?_) ht
  subst ex
  obtain rfl : u = Value.ref a := rx
  refine getmeth_ok I1 ea c hm l ?_
  refine PySem.W.callWith_K (first := [.ref a]) (h₀ := X.base) I.ok.mod.kin hm.kp (thn (ha.run pos pins s1 σ H1 _ I1 q) fun us s2 ⟨vs, H2, I2, r, q2⟩ => ⟨I2.kIn, ?_⟩) hst hpl
  exact run_fnS (us := .ref a :: us) (vs := .ref a :: vs) F hr hb (hx σ) I2 (.cons rfl r) q2
theorem FnOk.or {P : Program} {w : World} {K : PySem.W.Frag} {mg : Str → Option Value} {base : Heap} {k : Nat} {f : Addr} {fd : FuncData} {ps : List Str} {sp1 sp2 : Sp} (F1 : FnOk P w K mg base CX0 k f fd ps sp1) (F2 : FnOk P w K mg base (L2.CX P w) k f fd ps sp2) : FnOk P w K mg base (L2.CX P w) k f fd ps (fun vs H Q E => sp1 vs H Q E ∨ sp2 vs H Q E) := by
  refine ⟨fun vs H Q E h => h.elim (F1.len vs H Q E) (F2.len vs H Q E), fun A outer s H a us vs Q E hr e0 hb r h => ?_⟩
  rcases h with h | h
  · refine PySem.codeAny_mono (F1.run A outer s H a us vs Q E hr e0 hb r h) fun x s' hx => ?_
    match x, hx with
    | .ok (.ret u), hx => exact hx
    | .error e, hx => exact hx.elim
    | .ok .next, hx => exact hx
    | .ok .brk, hx => exact hx
    | .ok .cont, hx => exact hx
  · exact F2.run A outer s H a us vs Q E hr e0 hb r h
/-- one walk of the inner for -/
def LcIn (J1 : It) (g1 : TG) (tt1 : TT) (te : TE) (vs1 : List Nat) (D : Addr) (σ2 : L2.St) (Nx : Hp → Prop) (H4 : Hp) : Prop :=
  ∃ W1 : Nat → Nat → Hp → Prop, (∃ m, W1 0 m H4) ∧ ∀ j k H, W1 j k H →
    (J1.stop j H ∧ Nx H) ∨ (J1.go j H ∧ ∃ Nx1 : Hp → Prop, (∀ H', Nx1 H' → ∃ k', k' < k ∧ W1 (j + 1) k' H') ∧ ∀ x H', J1.yld j H x H' → g1 x (wipe σ2 vs1) H' fun σ3 H5 => wipe σ3 vs1 = wipe σ2 vs1 ∧ tt1 σ3 H5 fun b H6 =>
      if b = true then te σ3 H6 fun y H7 => ∃ acc, H7 D = some (.lst acc) ∧ acc.length < sizeLine ∧ Nx1 (upd H7 D (.lst (acc ++ [y]))) else Nx1 H6)
theorem in_list {K : PySem.W.Frag} {b : Addr} {ys : List V} {g1 : TG} {tt1 : TT} {te : TE} {vs1 : List Nat} {D : Addr} {σ2 : L2.St} {Nx : Hp → Prop} {H4 : Hp} (S : Nat → Hp → Prop) (h0 : S 0 H4) (hT : ∀ j H, j ≤ ys.length → S j H → SqL K H b ys)
    (hs : ∀ j x H, ys[j]? = some x → S j H → g1 x (wipe σ2 vs1) H fun σ3 H5 => wipe σ3 vs1 = wipe σ2 vs1 ∧ tt1 σ3 H5 fun c H6 => if c = true then te σ3 H6 fun y H7 => ∃ acc, H7 D = some (.lst acc) ∧ acc.length < sizeLine ∧ S (j + 1) (upd H7 D (.lst (acc ++ [y]))) else S (j + 1) H6)
    (hd : ∀ H, S ys.length H → Nx H) : LcIn (Itl K b) g1 tt1 te vs1 D σ2 Nx H4 := by
  refine ⟨fun j m H => m = ys.length - j ∧ j ≤ ys.length ∧ S j H, ⟨_, rfl, Nat.zero_le _, h0⟩, ?_⟩
  rintro j m H ⟨rfl, hj, p⟩
  have t := hT j H hj p
  by_cases lt : j < ys.length
  · refine .inr ⟨⟨ys, ys[j], t, List.getElem?_eq_getElem lt⟩, S (j + 1), fun H' p' => ⟨_, by omega, rfl, lt, p'⟩, ?_⟩
    rintro v H' ⟨rfl, hx⟩
    exact hs j v _ (hx ys t) p
  · obtain rfl : j = ys.length := by omega
    exact .inl ⟨⟨ys, t, Nat.le_refl _⟩, hd H p⟩
theorem in_tup {K : PySem.W.Frag} {b : Addr} {ys : List V} {g1 : TG} {tt1 : TT} {te : TE} {vs1 : List Nat} {D : Addr} {σ2 : L2.St} {Nx : Hp → Prop} {H4 : Hp} (S : Nat → Hp → Prop) (h0 : S 0 H4) (hT : ∀ j H, j ≤ ys.length → S j H → SqT K H b ys)
    (hs : ∀ j x H, ys[j]? = some x → S j H → g1 x (wipe σ2 vs1) H fun σ3 H5 => wipe σ3 vs1 = wipe σ2 vs1 ∧ tt1 σ3 H5 fun c H6 => if c = true then te σ3 H6 fun y H7 => ∃ acc, H7 D = some (.lst acc) ∧ acc.length < sizeLine ∧ S (j + 1) (upd H7 D (.lst (acc ++ [y]))) else S (j + 1) H6)
    (hd : ∀ H, S ys.length H → Nx H) : LcIn (Itt K b) g1 tt1 te vs1 D σ2 Nx H4 := by
  refine ⟨fun j m H => m = ys.length - j ∧ j ≤ ys.length ∧ S j H, ⟨_, rfl, Nat.zero_le _, h0⟩, ?_⟩
  rintro j m H ⟨rfl, hj, p⟩
  have t := hT j H hj p
  by_cases lt : j < ys.length
  · refine .inr ⟨⟨ys, ys[j], t, List.getElem?_eq_getElem lt⟩, S (j + 1), fun H' p' => ⟨_, by omega, rfl, lt, p'⟩, ?_⟩
    rintro v H' ⟨rfl, hx⟩
    exact hs j v _ (hx ys t) p
  · obtain rfl : j = ys.length := by omega
    exact .inl ⟨⟨ys, t, Nat.le_refl _⟩, hd H p⟩
theorem lc2_tup {K : PySem.W.Frag} {a : Addr} {xs : List V} {σ : L2.St} {g g1 : TG} {tt tt1 : TT} {wi1 : TI} {te : TE} {vs vs1 : List Nat} {D : Addr} {H0 : Hp} {Qd : Hp → Prop} (P : Nat → Hp → Prop) (h0 : P 0 H0) (hT : ∀ i H, i ≤ xs.length → P i H → SqT K H a xs)
    (hs : ∀ i x H, xs[i]? = some x → P i H → g x (wipe σ vs) H fun σ2 H2 => wipe σ2 vs = wipe σ vs ∧ tt σ2 H2 fun b H3 => if b = true then wi1 σ2 H3 fun J1 H4 => LcIn J1 g1 tt1 te vs1 D σ2 (P (i + 1)) H4 else P (i + 1) H3)
    (hd : ∀ H, P xs.length H → Qd H) :
    ∃ W : Nat → Nat → Hp → Prop, (∃ m, W 0 m H0) ∧ ∀ i m H, W i m H → ((Itt K a).stop i H ∧ Qd H) ∨ ((Itt K a).go i H ∧ ∃ Nx : Hp → Prop, (∀ H', Nx H' → ∃ m', m' < m ∧ W (i + 1) m' H') ∧ ∀ x H', (Itt K a).yld i H x H' → g x (wipe σ vs) H' fun σ2 H2 => wipe σ2 vs = wipe σ vs ∧ tt σ2 H2 fun b H3 =>
      if b = true then wi1 σ2 H3 fun J1 H4 => LcIn J1 g1 tt1 te vs1 D σ2 Nx H4 else Nx H3) := by
  refine ⟨fun i m H => m = xs.length - i ∧ i ≤ xs.length ∧ P i H, ⟨_, rfl, Nat.zero_le _, h0⟩, ?_⟩
  rintro i m H ⟨rfl, hi, p⟩
  have t := hT i H hi p
  by_cases lt : i < xs.length
  · refine .inr ⟨⟨xs, xs[i], t, List.getElem?_eq_getElem lt⟩, P (i + 1), fun H' p' => ⟨_, by omega, rfl, lt, p'⟩, ?_⟩
    rintro v H' ⟨rfl, hx⟩
    exact hs i v _ (hx xs t) p
  · obtain rfl : i = xs.length := by omega
    exact .inl ⟨⟨xs, t, Nat.le_refl _⟩, hd H p⟩
theorem lc2_list {K : PySem.W.Frag} {a : Addr} {xs : List V} {σ : L2.St} {g g1 : TG} {tt tt1 : TT} {wi1 : TI} {te : TE} {vs vs1 : List Nat} {D : Addr} {H0 : Hp} {Qd : Hp → Prop} (P : Nat → Hp → Prop) (h0 : P 0 H0) (hT : ∀ i H, i ≤ xs.length → P i H → SqL K H a xs)
    (hs : ∀ i x H, xs[i]? = some x → P i H → g x (wipe σ vs) H fun σ2 H2 => wipe σ2 vs = wipe σ vs ∧ tt σ2 H2 fun b H3 => if b = true then wi1 σ2 H3 fun J1 H4 => LcIn J1 g1 tt1 te vs1 D σ2 (P (i + 1)) H4 else P (i + 1) H3)
    (hd : ∀ H, P xs.length H → Qd H) :
    ∃ W : Nat → Nat → Hp → Prop, (∃ m, W 0 m H0) ∧ ∀ i m H, W i m H → ((Itl K a).stop i H ∧ Qd H) ∨ ((Itl K a).go i H ∧ ∃ Nx : Hp → Prop, (∀ H', Nx H' → ∃ m', m' < m ∧ W (i + 1) m' H') ∧ ∀ x H', (Itl K a).yld i H x H' → g x (wipe σ vs) H' fun σ2 H2 => wipe σ2 vs = wipe σ vs ∧ tt σ2 H2 fun b H3 =>
      if b = true then wi1 σ2 H3 fun J1 H4 => LcIn J1 g1 tt1 te vs1 D σ2 Nx H4 else Nx H3) := by
  refine ⟨fun i m H => m = xs.length - i ∧ i ≤ xs.length ∧ P i H, ⟨_, rfl, Nat.zero_le _, h0⟩, ?_⟩
  rintro i m H ⟨rfl, hi, p⟩
  have t := hT i H hi p
  by_cases lt : i < xs.length
  · refine .inr ⟨⟨xs, xs[i], t, List.getElem?_eq_getElem lt⟩, P (i + 1), fun H' p' => ⟨_, by omega, rfl, lt, p'⟩, ?_⟩
    rintro v H' ⟨rfl, hx⟩
    exact hs i v _ (hx xs t) p
  · obtain rfl : i = xs.length := by omega
    exact .inl ⟨⟨xs, t, Nat.le_refl _⟩, hd H p⟩
end My
/-! max(xs, default=k) of any list of ints; t < u of two tuples of ints -/
namespace My
open PySem PySem.Spec L2 PyProof.Rows
open Sem (wp)
section
variable {P0 : Program} {w0 : World} {B : Around} {Res : Result → Shared → Prop} {it : Addr} {fpr wri : List Addr} {Pi : Nat → Value → Prop} {Sti : Nat → Heap → Prop}
theorem mxd_none (Wk : Walks P0 w0 B.in1 it fpr wri 0 Pi Sti) (b : Addr) (bf : b ∉ fpr) {z : Shared} {cap : Nat} {d : Value} (st : Sti 0 z.heap)
    (hb : z.heap.get? b = some { cls := .type "list", dict := none, data := .seq #[] cap, slots := #[] })
    (hR : ∀ hp tk, (∀ a o, a ∉ wri → a ≠ b → z.heap.get? a = some o → hp.get? a = some o) → Res (.ok (.ret d)) { z with heap := hp, toks := tk }) :
    codeAny (model P0 w0) B (.builtin "max.loop" ⟨[.ref it, .none, .ref b], [(Str.ofString "default", d)]⟩) Res z := by
  refine codeAny_builtin F.entry_max_loop ?_
  rw [Around.under_plainId F.plain_max_loop _]
  show wpAny _ B.in1 (seqItems? (.ref b) >>= _) _ _ z
  refine wpAny_bind (wpAny_seqItems hb rfl ?_)
  show wpAny _ B.in1 (tryCatch (pyNext (.ref it)) _ >>= _) _ _ z
  refine wpAny_bind (wpAny_tryCatch (Wk.done z _ _ st fun hp tk hk => ?_))
  exact wpAny_bind (wpAny_rule (wpAny_pure (hR _ tk fun a o aw ab e => hk a o aw e)))
end
section
variable {P0 : Program} {w0 : World} {B : Around} {Ex : Value → Shared → Prop} {z : Shared}
theorem mxd_ints0 {l : Addr} {xs : Array (Int × Tok)} {d : Value} {Post : Value → Shared → Prop} (hh : B.handled = none) (hl : z.heap.IsList l (intItems xs)) (hne : xs.size = 0)
    (h : ∀ hp tk, (∀ a o, z.heap.get? a = some o → hp.get? a = some o) → Post d { z with heap := hp, toks := tk }) :
    wpAny (model P0 w0) B (call (.builtin "max") [.ref l] [(Str.ofString "default", d)]) Post Ex z := by
  refine fn_kw F.kind_max F.plain_max F.entry_max (mxd_args _ _) ?_
  show wpAny _ B.in1 (Builtin.Builtins.bindParams "max" ["key", "default"] 0 ⟨[], [(Str.ofString "default", d)]⟩ >>= _) _ _ z
  refine wpAny_bind (wpAny_of_eq (mxd_bind d) (wpAny_bind (wpAny_pure (wpAny_bind (iter_intList hl fun z2 e st hfp hlI => ?_)))))
  subst e
  refine wpAny_bind (wpAny_newObj_type ?_)
  rw [mxd_name]
  have W := Walks.list (prog := P0) (w := w0) (A := B.in1) hh _ l hlI (intItems xs)
  have e0 : (intItems xs).size = 0 := by simpa [intItems] using hne
  rw [e0] at W
  refine wpAny_pure ⟨plainId_quiet F.plain_max_loop _, mxd_none W _ (fun hm => Nat.lt_irrefl _ (hfp _ hm)) (W.frame _ _ _ st fun a _ o e => Heap.get?_push_of_some _ e) (Heap.get?_push_size _ rfl) fun hp tk hk => ?_⟩
  exact h hp tk (old_kept fun a o aw e => hk a o aw (Nat.ne_of_lt (Heap.lt_size e)) (Heap.get?_push_of_some _ e))
theorem mxd_raw0 {l : Addr} {its : List Value} {d : Value} {Post : Value → Shared → Prop} (hh : B.handled = none) (hl : z.heap.IsList l its.toArray) (hi : IntsAre its [])
    (h : ∀ hp tk, (∀ a o, z.heap.get? a = some o → hp.get? a = some o) → Post d { z with heap := hp, toks := tk }) : wpAny (model P0 w0) B (call (.builtin "max") [.ref l] [(Str.ofString "default", d)]) Post Ex z := by
  obtain ⟨ys, e⟩ := hi.allInts.items
  have en : numsOf (intItems ys).toList = [] := by rw [← e]; exact hi.numsOf
  rw [nums_intItems] at en
  rw [e] at hl
  exact mxd_ints0 hh hl (by simpa using congrArg List.length en) h
end
section
variable {X : Cx}
def tMaxE (K : PySem.W.Frag) (te tk : TE) : TE := fun σ H Q => te σ H fun y H1 => tk σ H1 fun d H2 => ∃ (a : Addr) (ns : List Int), y = .ref a ∧ SqL K H2 a (ns.map V.int) ∧ (0 < ns.length → ∀ m, m ∈ ns → (∀ y ∈ ns, y ≤ m) → Q (.int m) H2) ∧ (ns = [] → Q d H2)
/-- max(e, default=k), whether or not there is anything -/
theorem pe_maxE {e ek : Expr} {te tk : TE} {p kpos pos : Pos} (hc : X.calm = true) (hg : Gl X "max") (hm : X.mg "max" = none) (he : PE X e te) (hek : PE X ek tk)
    (hse : starEach [e] X.env = (false, eval e X.env) :: starEach [] X.env := by rfl) (hst : backTo pos (starEach [e] X.env) = (false, eval e X.env) :: backTo pos (starEach [] X.env) := by rfl) (hpl : (backTo pos (starEach [e] X.env)).any (·.1) = false := by rfl) :
    PE X (.Call (.Name "max" p) [e] [⟨some "default", ek, kpos⟩] pos) (tMaxE X.K te tk) := by
  refine ⟨fun pins s σ H Q I h => ?_⟩
  refine wpAny_Call_Name_kw (ld_blt (u := .builtin "max") I hg hm (by decide +kernel) ?_ (by decide) (by decide))
  have ha : PA X [e] (tCons te tNil) := pa_cons he pa_nil hse
  refine PyProof.Rows.callWith_kw (thn (ha.run pos pins s σ H (fun vs H1 => match vs with | [y] => tk σ H1 fun d H2 => ∃ (a : Addr) (ns : List Int), y = V.ref a ∧ SqL X.K H2 a (ns.map V.int) ∧ (0 < ns.length → ∀ m, m ∈ ns → (∀ y ∈ ns, y ≤ m) → Q (.int m) H2) ∧ (ns = [] → Q d H2) | _ => False) I h) fun us s1 ⟨vs, H1, I1, r1, q1⟩ => ?_) hst hpl (by rfl) (by rfl)
  obtain ⟨y, rfl, q1⟩ : ∃ y, vs = [y] ∧ tk σ H1 fun d H2 => ∃ (a : Addr) (ns : List Int), y = V.ref a ∧ SqL X.K H2 a (ns.map V.int) ∧ (0 < ns.length → ∀ m, m ∈ ns → (∀ y ∈ ns, y ≤ m) → Q (.int m) H2) ∧ (ns = [] → Q d H2) := by
    match vs, q1 with
    | [y], z => exact ⟨y, rfl, z⟩
  show wpAny _ _ (evalAll ((do let v ← eval ek X.env; standAt pos; pure v) :: [])) _ _ s1
  refine wpAny_evalAll_cons (wpAny_bind (thn (hek.run _ s1 σ H1 _ I1 q1) fun u s2 ⟨d, H2, I2, rd, a, ns, ey, hs, qn, q0⟩ => wpAny_bind (wpAny_standAt (wpAny_pure (wpAny_evalAll_nil ?_)))))
  cases ey
  obtain rfl := Vals.ref1 r1
  obtain ⟨its, rv, hl, _⟩ := I2.list hs
  show wpAny _ _ (call (.builtin "max") [.ref a] [(Str.ofString "default", u)]) _ _ s2
  by_cases hne : 0 < ns.length
  · exact mxd_raw (I2.ok.hd hc) hl.isList rv.ints hne fun h' tk m t' hk h1 h2 => ⟨.int _, H2, I2.kept hk, ⟨_, rfl⟩, qn hne m h1 h2⟩
  · have e0 : ns = [] := List.length_eq_zero_iff.mp (by omega)
    subst e0
    exact mxd_raw0 (I2.ok.hd hc) hl.isList rv.ints fun h' tk hk => ⟨d, H2, I2.kept hk, rd, q0 rfl⟩
/-- t < u, as the first pair that differs says -/
def ltII (ns ms : List Int) : Bool := Ob.lexAt (fun j => decide (ns.getD j 0 = ms.getD j 0)) (fun j => decide (ns.getD j 0 < ms.getD j 0)) (decide (ns.length < ms.length)) 0 (min ns.length ms.length)
def rLtT (K : PySem.W.Frag) : R2 := fun x y H Q => ∃ (a b : Addr) (ns ms : List Int), x = .ref a ∧ y = .ref b ∧ SqT K H a (ns.map V.int) ∧ SqT K H b (ms.map V.int) ∧ Q (.bl (ltII ns ms)) H
theorem op_ltT (hu : X.A.units < cLine) : OpR X (compareOp .Lt) (rLtT X.K) := by
  intro pins s σ H x y v u Q I rx ry h
  obtain ⟨a, b, ns, ms, rfl, rfl, ha, hb, q⟩ := h
  cases rx
  cases ry
  obtain ⟨ws, r1, p1, _⟩ := I.tuple ha
  obtain ⟨us, r2, p2, _⟩ := I.tuple hb
  have i1 : IntsAre ws ns := Vals.ints r1
  have i2 : IntsAre us ms := Vals.ints r2
  have n1 : ws.toArray.size = ns.length := by rw [List.size_toArray]; exact i1.length
  have n2 : us.toArray.size = ms.length := by rw [List.size_toArray]; exact i2.length
  have g1 : ∀ j (h1 : j < ws.toArray.size), ∃ t, ws.toArray[j] = .int (ns.getD j 0) t := fun j h1 => PyProof.Rows.IntsAre.int_at i1 _ _ (by simp at h1; simp [h1])
  have g2 : ∀ j (h1 : j < us.toArray.size), ∃ t, us.toArray[j] = .int (ms.getD j 0) t := fun j h1 => PyProof.Rows.IntsAre.int_at i2 _ _ (by simp at h1; simp [h1])
  have R := Ob.RcOp.tuples_lt (A := X.A) (s := s) (e := fun j => decide (ns.getD j 0 = ms.getD j 0)) (r := fun j => decide (ns.getD j 0 < ms.getD j 0)) p1 p2 hu (fun j h1 h2 => by
    obtain ⟨t, et⟩ := g1 j h1
    obtain ⟨t', et'⟩ := g2 j h2
    rw [et, et', show decide (ns.getD j 0 = ms.getD j 0) = (ns.getD j 0 == ms.getD j 0) by rw [Bool.eq_iff_iff]; simp]
    exact SeqAt.EqAt.int_int _ _ _ _) (fun j h1 h2 _ => by
    obtain ⟨t, et⟩ := g1 j h1
    obtain ⟨t', et'⟩ := g2 j h2
    rw [et, et']
    exact Ob.RcOp.lt_int _ _ _ _)
  rw [n1, n2] at R
  exact R X.prog X.w X.xe (EP X pins σ Q) ⟨.bl _, H, I, rfl, q⟩
theorem ltII2 (a b c d : Int) : ltII [a, b] [c, d] = decide (a < c ∨ (a = c ∧ b < d)) := by
  unfold ltII
  simp only [List.length_cons, List.length_nil, Nat.min_self, Nat.zero_add, Nat.lt_irrefl, decide_false]
  rw [Ob.lexAt_succ, Ob.lexAt_succ, Ob.lexAt_zero]
  simp only [List.getD_cons_zero, List.getD_cons_succ, Nat.zero_add]
  by_cases h : a = c
  · subst h
    by_cases h2 : b = d
    · subst h2; simp
    · simp [h2]
  · simp [h]
end
section
variable {X : Cx}
/-- x in a list or a tuple of data -/
def rInE (K : PySem.W.Frag) : R2 := fun x y H Q => ∃ d ds, Dp K H x d ∧ (Dp K H y (.list ds) ∨ Dp K H y (.tuple ds)) ∧ SeqAt.shaped d = true ∧ SeqAt.shaped (.list ds) = true ∧ Q (.bl (ds.any fun z => PyData.eqv z d)) H
theorem op_inE (hu : X.A.units + 65 < cLine) : OpR X (compareOp .In) (rInE X.K) := by
  intro pins s σ H x y v u Q I rx ry h
  obtain ⟨d, ds, hd, he, sd, se, q⟩ := h
  obtain ⟨as, r1⟩ := Dp.reads I d x v hd rx
  rcases he with he | he
  · obtain ⟨bs, r2⟩ := Dp.reads I (.list ds) y u he ry
    exact SeqAt.in_list_reads r2 r1 (SeqAt.canLay_of_shaped se) (SeqAt.canLay_of_shaped sd) (room_in_shaped sd hu) ⟨.bl _, H, I, rfl, q⟩
  · obtain ⟨bs, r2⟩ := Dp.reads I (.tuple ds) y u he ry
    exact SeqAt.in_tuple_reads r2 r1 (SeqAt.canLay_of_shaped se) (SeqAt.canLay_of_shaped sd) (room_in_shaped sd hu) ⟨.bl _, H, I, rfl, q⟩
end
end My
namespace My
open PySem L2 Mth
def topS (i : Nat) : Stmt := PySem.Challenge.pw_copyarms_k20_spots_in_reach.main.body.getD i (.Pass ⟨0, 0, 0, 0⟩)
end My
namespace My
open PySem L2 Mth
abbrev s_carried : Stmt := topS 41
theorem sc_carried : FnScope ["turn", "shift", "mirrored", "spot"] ["turn", "shift", "mirrored", "spot"] (defScope s_carried) := ⟨rfl, rfl, rfl, by decide +kernel, rfl, by decide +kernel, by decide +kernel⟩
abbrev s_common_divisor : Stmt := topS 28
theorem sc_common_divisor : FnScope ["one", "other"] ["one", "other"] (defScope s_common_divisor) := ⟨rfl, rfl, rfl, by decide +kernel, rfl, by decide +kernel, by decide +kernel⟩
abbrev s_faced : Stmt := topS 40
theorem sc_faced : FnScope ["number", "mirrored", "x", "y", "d"] ["number", "mirrored"] (defScope s_faced) := ⟨rfl, rfl, rfl, by decide +kernel, rfl, by decide +kernel, by decide +kernel⟩
abbrev s_inverse : Stmt := topS 39
theorem sc_inverse : FnScope ["number", "x", "y", "d"] ["number"] (defScope s_inverse) := ⟨rfl, rfl, rfl, by decide +kernel, rfl, by decide +kernel, by decide +kernel⟩
abbrev s_negative : Stmt := topS 36
theorem sc_negative : FnScope ["number", "x", "y", "d"] ["number"] (defScope s_negative) := ⟨rfl, rfl, rfl, by decide +kernel, rfl, by decide +kernel, by decide +kernel⟩
abbrev s_plus : Stmt := topS 35
theorem sc_plus : FnScope ["one", "other", "x", "y", "d", "u", "v", "e"] ["one", "other"] (defScope s_plus) := ⟨rfl, rfl, rfl, by decide +kernel, rfl, by decide +kernel, by decide +kernel⟩
abbrev s_product : Stmt := topS 38
theorem sc_product : FnScope ["one", "other", "x", "y", "d", "u", "v", "e"] ["one", "other"] (defScope s_product) := ⟨rfl, rfl, rfl, by decide +kernel, rfl, by decide +kernel, by decide +kernel⟩
abbrev s_spot_at : Stmt := topS 33
theorem sc_spot_at : FnScope ["x", "y", "d", "divisor"] ["x", "y", "d"] (defScope s_spot_at) := ⟨rfl, rfl, rfl, by decide +kernel, rfl, by decide +kernel, by decide +kernel⟩
section
variable {P : Program} {w : World} {K : PySem.W.Frag} {mg : Str → Option Value} {base : Heap}
/-- a def with keyword-only parameters, out of which nothing is raised -/
theorem ok0 {x qual : Str} {params : Arguments} {body : List Stmt} {scope : Scope} {dvs : List V} {kws : List (Str × V)} {f : Addr} {fd : FuncData} {N ps : List Str} {k : Nat} {sp : Sp} (F : FunD K x qual params body scope dvs kws f fd) (S : FnScope N ps scope) (len : ∀ vs H Q E, sp vs H Q E → vs.length = ps.length)
    (hbody : ∀ (cdv : Value) (A : Around) (outer : List Env) (s : Shared) (H : Hp) (vs : List V) (Q : VK) (E : XK), Room k (A.deeper (PyProof.Rows.envOfC qual scope s.heap.objs.size f cdv)) → sp vs H Q E →
      ∃ t, PSs (cxOf CX0 P w K mg base N qual scope f cdv A outer s H E).nox body t ∧ t { nx := fun _ H' => Q .non H', rt := Q } (start N vs) H) : FnOk P w K mg base CX0 (k + 1) f fd ps sp :=
  F.ok S len fun cdv A outer s H vs Q E hr hsp => by
    obtain ⟨t, h, q⟩ := hbody cdv A outer s H vs Q E hr hsp
    exact ⟨t, h.nox, q⟩
/-- the greatest common divisor -/
def sp_gcd : Sp := fun vs H Q _ => ∃ a b : Int, vs = [.int a, .int b] ∧ Q (.int ((Int.gcd a b : Nat) : Int)) H
theorem ok_common_divisor {f : Addr} {fd : FuncData} (b_abs : mg "abs" = none) (F : Fun K "common_divisor" "common_divisor" s_common_divisor f fd) : FnOk P w K mg base CX0 1 f fd ["one", "other"] sp_gcd := by
  refine F.ok sc_common_divisor (fun vs H Q E h => ?_) (fun cdv A outer s H vs Q E hr h => ?_)
  · obtain ⟨a, b, rfl, _⟩ := h
    rfl
  obtain ⟨a, b, rfl, q⟩ := h
  refine ⟨_, (pss_cons (ps_while PassesOwn.never (pt_cmpR (op_ne) (pv 1) pe_int (nomark _)) (pss_one (ps_par (i := 0) (j := 1) (by rfl) sc_common_divisor.nd rfl rfl (by decide) rfl rfl (pa_cons (pv 1) (pa_cons (pe_op op_modN (pv 0) (pv 1)) pa_nil)) (by rfl))))
    (pss_one (ps_ret (pe_callB call_abs (by rfl) b_abs (by decide +kernel) (pa_cons (pv 0) pa_nil))))), ?_⟩
  refine while_by (fun σ H' => H' = H ∧ ∃ x y : Int, σ = [some (.int x), some (.int y)] ∧ Int.gcd x y = Int.gcd a b) (fun σ _ => match σ with | [_, some (.int y)] => y.natAbs | _ => 0) ⟨rfl, a, b, rfl, rfl⟩ ?_ ?_
  · rintro σ H' ⟨rfl, x, y, rfl, e⟩
    refine ⟨_, rfl, rfl, _, rfl, ?_⟩
    by_cases c : y = 0
    · subst c
      refine if_neg (by decide) |>.mpr ?_
      refine ⟨_, rfl, _, rfl, ?_⟩
      rw [← e, gcd_0] at q
      exact q
    · refine (if_pos (show (!decide (V.int y = V.int 0)) = true by rw [decide_eq_false (fun z => c (V.int.inj z))]; rfl)).mpr ?_
      refine ⟨_, rfl, _, rfl, _, rfl, _, _, rfl, rfl, c, _, _, rfl, ⟨rfl, _, _, rfl, ?_⟩, ?_⟩
      · rw [gcd_fmod]; exact e
      · exact fmod_small c
  · rintro σ H' Q1 Q2 hq ⟨v, h1, h2, k, h3, h4⟩
    exact ⟨v, h1, h2, k, h3, hq _ _ h4⟩
/-- (x, y, d) in lowest terms -/
def sp_low (K : PySem.W.Frag) : Sp := fun vs H Q _ => ∃ x y d : Int, vs = [.int x, .int y, .int d] ∧ d ≠ 0 ∧ d.natAbs < 2 ^ 8500 ∧ ∀ H' r, Same H H' → IsT K H' r (low x y d) → Q r H'
theorem g3_lt {x y d : Int} (hd : d ≠ 0) {n : Nat} (h : d.natAbs < 2 ^ n) : (sg x y d).natAbs < 2 ^ n := by
  obtain ⟨u, hu⟩ := @sg_dd x y d
  have hu0 : u ≠ 0 := fun z => by rw [z, Int.mul_zero] at hu; exact hd hu
  have e : (sg x y d).natAbs * u.natAbs = d.natAbs := by rw [← Int.natAbs_mul, ← hu]
  have : 1 ≤ u.natAbs := by omega
  have : (sg x y d).natAbs * 1 ≤ (sg x y d).natAbs * u.natAbs := Nat.mul_le_mul_left _ this
  omega
theorem ok_spot_at {f : Addr} {fd : FuncData} (d_common_divisor : D P w K mg base "common_divisor" 1 sp_gcd) (F : Fun K "spot_at" "spot_at" s_spot_at f fd) : FnOk P w K mg base CX0 2 f fd ["x", "y", "d"] (sp_low K) := by
  refine F.ok sc_spot_at (fun vs H Q E h => ?_) (fun cdv A outer s H vs Q E hr h => ?_)
  · obtain ⟨x, y, d, rfl, _⟩ := h
    rfl
  obtain ⟨x, y, d, rfl, hd, hB, q⟩ := h
  refine ⟨_, (pss_cons (ps_set (i := 3) sc_spot_at.nd rfl (by first | exact Or.inl rfl | exact Or.inr rfl) (pc d_common_divisor (hr.mono (by decide)) (pa_cons (pc d_common_divisor (hr.mono (by decide)) (pa_cons (pv 0) (pa_cons (pv 1) pa_nil))) (pa_cons (pv 2) pa_nil))))
    (pss_cons (ps_if (pt_cmpR (op_lt) (pv 2) pe_int (nomark _)) (pss_one (ps_set (i := 3) sc_spot_at.nd rfl (by first | exact Or.inl rfl | exact Or.inr rfl) (pe_un un_neg (pv 3)))) pss_nil)
    (pss_one (ps_ret (pe_tup (pa_cons (pe_op op_fdivX (pv 0) (pv 3)) (pa_cons (pe_op op_fdivX (pv 1) (pv 3)) (pa_cons (pe_op op_fdivX (pv 2) (pv 3)) pa_nil)))))))), ?_⟩
  refine ⟨_, rfl, _, rfl, _, _, rfl, _, rfl, _, _, rfl, ?_⟩
  refine ⟨_, rfl, _, _, rfl, rfl, _, rfl, ?_⟩
  have hc : CDivX x (sg x y d) ∧ CDivX y (sg x y d) ∧ CDivX d (sg x y d) := ⟨divX (sg_ne hd) (g3_lt hd hB) (by decide) (by decide), divX (sg_ne hd) (g3_lt hd hB) (by decide) (by decide), divX (sg_ne hd) (g3_lt hd hB) (by decide) (by decide)⟩
  refine ite2 (fun c => ?_) (fun c => ?_)
  · have es : sg x y d = -(g3 x y d) := if_pos (of_decide_eq_true c)
    refine ⟨_, rfl, _, rfl, ?_⟩
    rw [es] at hc
    refine ⟨_, rfl, _, rfl, _, _, rfl, rfl, hc.1, _, rfl, _, rfl, _, _, rfl, rfl, hc.2.1, _, rfl, _, rfl, _, _, rfl, rfl, hc.2.2, (by show 3 ≤ sizeLine; decide), fun p hp => ?_⟩
    refine q _ _ (same_new hp _) ?_
    unfold low
    rw [es]
    exact IsT.new
  · have es : sg x y d = g3 x y d := if_neg (of_decide_eq_false (Bool.eq_false_iff.mpr c))
    rw [es] at hc
    refine ⟨_, rfl, _, rfl, _, _, rfl, rfl, hc.1, _, rfl, _, rfl, _, _, rfl, rfl, hc.2.1, _, rfl, _, rfl, _, _, rfl, rfl, hc.2.2, (by show 3 ≤ sizeLine; decide), fun p hp => ?_⟩
    refine q _ _ (same_new hp _) ?_
    unfold low
    rw [es]
    exact IsT.new
/-- two parts of numbers of bounded size -/
def sp_two (K : PySem.W.Frag) (g : T3 → T3 → T3) : Sp := fun vs H Q _ => ∃ va vb a b, vs = [va, vb] ∧ IsT K H va a ∧ IsT K H vb b ∧ Ok a ∧ Ok b ∧ B 4000 a ∧ B 4000 b ∧ ∀ H' r, Same H H' → IsT K H' r (g a b) → Q r H'
theorem mulW {i j : Int} {a b : Nat} (ha : i.natAbs < 2 ^ (a + 1)) (hb : j.natAbs < 2 ^ (b + 1)) (h : a + b + 2 ≤ 1000000 := by decide) : CMulW i j := wide_mul ha hb (by omega) (by omega) (by omega)
theorem ok_plus {f : Addr} {fd : FuncData} (d_spot_at : D P w K mg base "spot_at" 2 (sp_low K)) (F : Fun K "plus" "plus" s_plus f fd) : FnOk P w K mg base CX0 3 f fd ["one", "other"] (sp_two K plus) := by
  refine F.ok sc_plus (fun vs H Q E h => ?_) (fun cdv A outer s H vs Q E hr h => ?_)
  · obtain ⟨va, vb, a, b, rfl, _⟩ := h
    rfl
  obtain ⟨va, vb, ⟨x, y, d⟩, ⟨u, v, e⟩, rfl, ⟨pa, rfl, ta⟩, ⟨pb, rfl, tb⟩, oa, ob, ⟨a1, a2, a3⟩, ⟨b1, b2, b3⟩, q⟩ := h
  refine ⟨_, (pss_cons (ps_asg (pv 0) (pg_tup rfl (pgs_cons (pg_name (i := 2) sc_plus.nd rfl (by first | exact Or.inl rfl | exact Or.inr rfl)) (pgs_cons (pg_name (i := 3) sc_plus.nd rfl (by first | exact Or.inl rfl | exact Or.inr rfl)) (pgs_cons (pg_name (i := 4) sc_plus.nd rfl (by first | exact Or.inl rfl | exact Or.inr rfl)) pgs_nil)))))
    (pss_cons (ps_asg (pv 1) (pg_tup rfl (pgs_cons (pg_name (i := 5) sc_plus.nd rfl (by first | exact Or.inl rfl | exact Or.inr rfl)) (pgs_cons (pg_name (i := 6) sc_plus.nd rfl (by first | exact Or.inl rfl | exact Or.inr rfl)) (pgs_cons (pg_name (i := 7) sc_plus.nd rfl (by first | exact Or.inl rfl | exact Or.inr rfl)) pgs_nil)))))
    (pss_one (ps_ret (pc d_spot_at (hr.mono (by decide)) (pa_cons (pe_op op_add (pe_op op_mulW (pv 2) (pv 7)) (pe_op op_mulW (pv 5) (pv 4))) (pa_cons (pe_op op_add (pe_op op_mulW (pv 3) (pv 7)) (pe_op op_mulW (pv 6) (pv 4))) (pa_cons (pe_op op_mulW (pv 4) (pv 7)) pa_nil)))))))), ?_⟩
  refine ⟨_, rfl, _, _, rfl, ta, rfl, _, _, rfl, _, _, rfl, _, _, rfl, rfl, ?_⟩
  refine ⟨_, rfl, _, _, rfl, tb, rfl, _, _, rfl, _, _, rfl, _, _, rfl, rfl, ?_⟩
  refine ⟨_, rfl, _, rfl, _, _, rfl, rfl, mulW a1 b3, _, rfl, _, rfl, _, _, rfl, rfl, mulW b1 a3, _, _, rfl, rfl, ?_⟩
  refine ⟨_, rfl, _, rfl, _, _, rfl, rfl, mulW a2 b3, _, rfl, _, rfl, _, _, rfl, rfl, mulW b2 a3, _, _, rfl, rfl, ?_⟩
  refine ⟨_, rfl, _, rfl, _, _, rfl, rfl, mulW a3 b3, ?_⟩
  exact ⟨_, _, _, rfl, mul_ne oa.ne ob.ne, up_lt (by decide) (mul_lt a3 b3), q⟩
theorem ok_product {f : Addr} {fd : FuncData} (d_spot_at : D P w K mg base "spot_at" 2 (sp_low K)) (F : Fun K "product" "product" s_product f fd) : FnOk P w K mg base CX0 3 f fd ["one", "other"] (sp_two K times) := by
  refine F.ok sc_product (fun vs H Q E h => ?_) (fun cdv A outer s H vs Q E hr h => ?_)
  · obtain ⟨va, vb, a, b, rfl, _⟩ := h
    rfl
  obtain ⟨va, vb, ⟨x, y, d⟩, ⟨u, v, e⟩, rfl, ⟨pa, rfl, ta⟩, ⟨pb, rfl, tb⟩, oa, ob, ⟨a1, a2, a3⟩, ⟨b1, b2, b3⟩, q⟩ := h
  refine ⟨_, (pss_cons (ps_asg (pv 0) (pg_tup rfl (pgs_cons (pg_name (i := 2) sc_product.nd rfl (by first | exact Or.inl rfl | exact Or.inr rfl)) (pgs_cons (pg_name (i := 3) sc_product.nd rfl (by first | exact Or.inl rfl | exact Or.inr rfl)) (pgs_cons (pg_name (i := 4) sc_product.nd rfl (by first | exact Or.inl rfl | exact Or.inr rfl)) pgs_nil)))))
    (pss_cons (ps_asg (pv 1) (pg_tup rfl (pgs_cons (pg_name (i := 5) sc_product.nd rfl (by first | exact Or.inl rfl | exact Or.inr rfl)) (pgs_cons (pg_name (i := 6) sc_product.nd rfl (by first | exact Or.inl rfl | exact Or.inr rfl)) (pgs_cons (pg_name (i := 7) sc_product.nd rfl (by first | exact Or.inl rfl | exact Or.inr rfl)) pgs_nil)))))
    (pss_one (ps_ret (pc d_spot_at (hr.mono (by decide)) (pa_cons (pe_op op_sub (pe_op op_mulW (pv 2) (pv 5)) (pe_op op_mulW (pv 3) (pv 6))) (pa_cons (pe_op op_add (pe_op op_mulW (pv 2) (pv 6)) (pe_op op_mulW (pv 3) (pv 5))) (pa_cons (pe_op op_mulW (pv 4) (pv 7)) pa_nil)))))))), ?_⟩
  refine ⟨_, rfl, _, _, rfl, ta, rfl, _, _, rfl, _, _, rfl, _, _, rfl, rfl, ?_⟩
  refine ⟨_, rfl, _, _, rfl, tb, rfl, _, _, rfl, _, _, rfl, _, _, rfl, rfl, ?_⟩
  refine ⟨_, rfl, _, rfl, _, _, rfl, rfl, mulW a1 b1, _, rfl, _, rfl, _, _, rfl, rfl, mulW a2 b2, _, _, rfl, rfl, ?_⟩
  refine ⟨_, rfl, _, rfl, _, _, rfl, rfl, mulW a1 b2, _, rfl, _, rfl, _, _, rfl, rfl, mulW a2 b1, _, _, rfl, rfl, ?_⟩
  refine ⟨_, rfl, _, rfl, _, _, rfl, rfl, mulW a3 b3, ?_⟩
  exact ⟨_, _, _, rfl, mul_ne oa.ne ob.ne, up_lt (by decide) (mul_lt a3 b3), q⟩
def sp_one (K : PySem.W.Frag) (g : T3 → T3) : Sp := fun vs H Q _ => ∃ va a, vs = [va] ∧ IsT K H va a ∧ ∀ H' r, Same H H' → IsT K H' r (g a) → Q r H'
theorem ok_negative {f : Addr} {fd : FuncData} (F : Fun K "negative" "negative" s_negative f fd) : FnOk P w K mg base CX0 1 f fd ["number"] (sp_one K neg) := by
  refine F.ok sc_negative (fun vs H Q E h => ?_) (fun cdv A outer s H vs Q E hr h => ?_)
  · obtain ⟨va, a, rfl, _⟩ := h
    rfl
  obtain ⟨va, ⟨x, y, d⟩, rfl, ⟨pa, rfl, ta⟩, q⟩ := h
  refine ⟨_, (pss_cons (ps_asg (pv 0) (pg_tup rfl (pgs_cons (pg_name (i := 1) sc_negative.nd rfl (by first | exact Or.inl rfl | exact Or.inr rfl)) (pgs_cons (pg_name (i := 2) sc_negative.nd rfl (by first | exact Or.inl rfl | exact Or.inr rfl)) (pgs_cons (pg_name (i := 3) sc_negative.nd rfl (by first | exact Or.inl rfl | exact Or.inr rfl)) pgs_nil)))))
    (pss_one (ps_ret (pe_tup (pa_cons (pe_un un_neg (pv 1)) (pa_cons (pe_un un_neg (pv 2)) (pa_cons (pv 3) pa_nil))))))), ?_⟩
  refine ⟨_, rfl, _, _, rfl, ta, rfl, _, _, rfl, _, _, rfl, _, _, rfl, rfl, ?_⟩
  exact ⟨_, rfl, _, rfl, _, rfl, _, rfl, _, rfl, (by show 3 ≤ sizeLine; decide), fun p hp => q _ _ (same_new hp _) IsT.new⟩
def sp_inv (K : PySem.W.Frag) : Sp := fun vs H Q _ => ∃ va a, vs = [va] ∧ IsT K H va a ∧ Nz a ∧ B 4000 a ∧ ∀ H' r, Same H H' → IsT K H' r (inv a) → Q r H'
theorem ok_inverse {f : Addr} {fd : FuncData} (d_spot_at : D P w K mg base "spot_at" 2 (sp_low K)) (F : Fun K "inverse" "inverse" s_inverse f fd) : FnOk P w K mg base CX0 3 f fd ["number"] (sp_inv K) := by
  refine F.ok sc_inverse (fun vs H Q E h => ?_) (fun cdv A outer s H vs Q E hr h => ?_)
  · obtain ⟨va, a, rfl, _⟩ := h
    rfl
  obtain ⟨va, ⟨x, y, d⟩, rfl, ⟨pa, rfl, ta⟩, na, ⟨a1, a2, a3⟩, q⟩ := h
  refine ⟨_, (pss_cons (ps_asg (pv 0) (pg_tup rfl (pgs_cons (pg_name (i := 1) sc_inverse.nd rfl (by first | exact Or.inl rfl | exact Or.inr rfl)) (pgs_cons (pg_name (i := 2) sc_inverse.nd rfl (by first | exact Or.inl rfl | exact Or.inr rfl)) (pgs_cons (pg_name (i := 3) sc_inverse.nd rfl (by first | exact Or.inl rfl | exact Or.inr rfl)) pgs_nil)))))
    (pss_one (ps_ret (pc d_spot_at (hr.mono (by decide)) (pa_cons (pe_op op_mulW (pv 1) (pv 3)) (pa_cons (pe_op op_mulW (pe_un un_neg (pv 2)) (pv 3)) (pa_cons (pe_op op_add (pe_op op_mulW (pv 1) (pv 1)) (pe_op op_mulW (pv 2) (pv 2))) pa_nil))))))), ?_⟩
  refine ⟨_, rfl, _, _, rfl, ta, rfl, _, _, rfl, _, _, rfl, _, _, rfl, rfl, ?_⟩
  refine ⟨_, rfl, _, rfl, _, _, rfl, rfl, mulW a1 a3, _, rfl, _, rfl, _, rfl, _, _, rfl, rfl, mulW (neg_lt a2) a3, ?_⟩
  refine ⟨_, rfl, _, rfl, _, _, rfl, rfl, mulW a1 a1, _, rfl, _, rfl, _, _, rfl, rfl, mulW a2 a2, _, _, rfl, rfl, ?_⟩
  exact ⟨_, _, _, rfl, sq_ne na, up_lt (by decide) (add_lt (mul_lt a1 a1) (mul_lt a2 a2)), q⟩
def sp_face (K : PySem.W.Frag) : Sp := fun vs H Q _ => ∃ va a m, vs = [va, .bl m] ∧ IsT K H va a ∧ ∀ H' r, Same H H' → IsT K H' r (face a m) → Q r H'
theorem ok_faced {f : Addr} {fd : FuncData} (F : Fun K "faced" "faced" s_faced f fd) : FnOk P w K mg base CX0 1 f fd ["number", "mirrored"] (sp_face K) := by
  refine F.ok sc_faced (fun vs H Q E h => ?_) (fun cdv A outer s H vs Q E hr h => ?_)
  · obtain ⟨va, a, m, rfl, _⟩ := h
    rfl
  obtain ⟨va, ⟨x, y, d⟩, m, rfl, ⟨pa, rfl, ta⟩, q⟩ := h
  refine ⟨_, (pss_cons (ps_asg (pv 0) (pg_tup rfl (pgs_cons (pg_name (i := 2) sc_faced.nd rfl (by first | exact Or.inl rfl | exact Or.inr rfl)) (pgs_cons (pg_name (i := 3) sc_faced.nd rfl (by first | exact Or.inl rfl | exact Or.inr rfl)) (pgs_cons (pg_name (i := 4) sc_faced.nd rfl (by first | exact Or.inl rfl | exact Or.inr rfl)) pgs_nil)))))
    (pss_one (ps_ret (pe_ifExp (pt_val (pv 1)) (pe_tup (pa_cons (pv 2) (pa_cons (pe_un un_neg (pv 3)) (pa_cons (pv 4) pa_nil)))) (pv 0))))), ?_⟩
  refine ⟨_, rfl, _, _, rfl, ta, rfl, _, _, rfl, _, _, rfl, _, _, rfl, rfl, ?_⟩
  refine ⟨_, rfl, _, rfl, ?_⟩
  cases m with
  | true => exact iteT ⟨_, rfl, _, rfl, _, rfl, _, rfl, (by show 3 ≤ sizeLine; decide), fun p hp => q _ _ (same_new hp _) IsT.new⟩
  | false => exact iteF ⟨_, rfl, q _ _ (Same.refl _) ⟨pa, rfl, ta⟩⟩
/-- where a copy carries a spot -/
def sp_car (K : PySem.W.Frag) : Sp := fun vs H Q _ => ∃ vt vs' m vz t s z, vs = [vt, vs', .bl m, vz] ∧ IsT K H vt t ∧ IsT K H vs' s ∧ IsT K H vz z ∧ Ok t ∧ Ok s ∧ Ok z ∧ B 1900 t ∧ B 4000 s ∧ B 1900 z ∧ ∀ H' r, Same H H' → IsT K H' r (car t s m z) → Q r H'
theorem ok_carried {f : Addr} {fd : FuncData} (d_plus : D P w K mg base "plus" 3 (sp_two K plus)) (d_product : D P w K mg base "product" 3 (sp_two K times)) (d_faced : D P w K mg base "faced" 1 (sp_face K)) (F : Fun K "carried" "carried" s_carried f fd) : FnOk P w K mg base CX0 4 f fd ["turn", "shift", "mirrored", "spot"] (sp_car K) := by
  refine F.ok sc_carried (fun vs H Q E h => ?_) (fun cdv A outer s H vs Q E hr h => ?_)
  · obtain ⟨vt, vs', m, vz, t, s', z, rfl, _⟩ := h
    rfl
  obtain ⟨vt, vs', m, vz, t, s', z, rfl, it, is, iz, ot, os, oz, bt, bs, bz, q⟩ := h
  refine ⟨_, (pss_one (ps_ret (pc d_plus (hr.mono (by decide)) (pa_cons (pc d_product (hr.mono (by decide)) (pa_cons (pv 0) (pa_cons (pc d_faced (hr.mono (by decide)) (pa_cons (pv 3) (pa_cons (pv 2) pa_nil))) pa_nil))) (pa_cons (pv 1) pa_nil))))), ?_⟩
  refine ⟨_, rfl, _, rfl, _, rfl, _, _, _, rfl, iz, fun H1 r1 s1 i1 => ?_⟩
  refine ⟨_, _, _, _, rfl, it.same s1, i1, ot, face_ok oz m, bt.mono (by decide), (face_B bz m).mono (by decide), fun H2 r2 s2 i2 => ?_⟩
  refine ⟨_, rfl, _, _, _, _, rfl, i2, is.same (s1.trans s2), times_ok ot (face_ok oz m), os, (times_B ot (face_ok oz m) bt (face_B bz m)).mono (by decide), bs, fun H3 r3 s3 i3 => ?_⟩
  exact q _ _ (s1.trans (s2.trans s3)) i3
def sp_fr (K : PySem.W.Frag) : Sp := fun vs H Q _ => ∃ p q' : Int, vs = [.int p, .int q'] ∧ q' ≠ 0 ∧ q'.natAbs < 2 ^ 8500 ∧ ∀ H' a, Same H H' → SqT K H' a [.int (fr p q').1, .int (fr p q').2] → Q (.ref a) H'
theorem g3_0 (p q : Int) : g3 p 0 q = ((Int.gcd p q : Nat) : Int) := by
  unfold g3
  rw [Int.gcd_zero_right]
  unfold Int.gcd
  rw [Int.natAbs_natCast]
def BC (n : Nat) (c : Cp) : Prop := B n c.t ∧ B n c.s
end
end My

namespace My
open PySem L2 Mth
abbrev s_fraction : Stmt := topS 34
theorem sc_fraction : FnScope ["p", "q", "divisor"] ["p", "q"] (defScope s_fraction) := ⟨rfl, rfl, rfl, by decide +kernel, rfl, by decide +kernel, by decide +kernel⟩
section
variable {P : Program} {w : World} {K : PySem.W.Frag} {mg : Str → Option Value} {base : Heap}
theorem ok_fraction {f : Addr} {fd : FuncData} (d_common_divisor : D P w K mg base "common_divisor" 1 sp_gcd) (F : Fun K "fraction" "fraction" s_fraction f fd) : FnOk P w K mg base CX0 2 f fd ["p", "q"] (sp_fr K) := by
  refine F.ok sc_fraction (fun vs H Q E h => ?_) (fun cdv A outer s H vs Q E hr h => ?_)
  · obtain ⟨x, d, rfl, _⟩ := h
    rfl
  obtain ⟨x, d, rfl, hd, hB, q⟩ := h
  refine ⟨_, (pss_cons (ps_set (i := 2) sc_fraction.nd rfl (by first | exact Or.inl rfl | exact Or.inr rfl) (pc d_common_divisor (hr.mono (by decide)) (pa_cons (pv 0) (pa_cons (pv 1) pa_nil))))
    (pss_cons (ps_if (pt_cmpR (op_lt) (pv 1) pe_int (nomark _)) (pss_one (ps_set (i := 2) sc_fraction.nd rfl (by first | exact Or.inl rfl | exact Or.inr rfl) (pe_un un_neg (pv 2)))) pss_nil)
    (pss_one (ps_ret (pe_tup (pa_cons (pe_op op_fdivX (pv 0) (pv 2)) (pa_cons (pe_op op_fdivX (pv 1) (pv 2)) pa_nil))))))), ?_⟩
  refine ⟨_, rfl, _, rfl, _, _, rfl, ?_⟩
  refine ⟨_, rfl, _, _, rfl, rfl, _, rfl, ?_⟩
  have hc : CDivX x (sg x 0 d) ∧ CDivX d (sg x 0 d) := ⟨divX (sg_ne hd) (g3_lt hd hB) (by decide) (by decide), divX (sg_ne hd) (g3_lt hd hB) (by decide) (by decide)⟩
  have fin : ∀ H' a, Same H H' → SqT K H' a [.int (x.fdiv (sg x 0 d)), .int (d.fdiv (sg x 0 d))] → Q (.ref a) H' := q
  refine ite2 (fun c => ?_) (fun c => ?_)
  · have es : sg x 0 d = -((Int.gcd x d : Nat) : Int) := by rw [← g3_0]; exact if_pos (of_decide_eq_true c)
    refine ⟨_, rfl, _, rfl, ?_⟩
    rw [es] at hc fin
    refine ⟨_, rfl, _, rfl, _, _, rfl, rfl, hc.1, _, rfl, _, rfl, _, _, rfl, rfl, hc.2, (by show 2 ≤ sizeLine; decide), fun p hp => ?_⟩
    exact fin _ _ (same_new hp _) (.inl (.inl upd_same))
  · have es : sg x 0 d = ((Int.gcd x d : Nat) : Int) := by rw [← g3_0]; exact if_neg (of_decide_eq_false (Bool.eq_false_iff.mpr c))
    rw [es] at hc fin
    refine ⟨_, rfl, _, rfl, _, _, rfl, rfl, hc.1, _, rfl, _, rfl, _, _, rfl, rfl, hc.2, (by show 2 ≤ sizeLine; decide), fun p hp => ?_⟩
    exact fin _ _ (same_new hp _) (.inl (.inl upd_same))
end
end My

namespace My
open PySem L2 Mth
abbrev s_check_spot : Stmt := topS 30
theorem sc_check_spot : FnScope ["value"] ["value"] (defScope s_check_spot) := ⟨rfl, rfl, rfl, by decide +kernel, rfl, by decide +kernel, by decide +kernel⟩
abbrev s_check_turn : Stmt := topS 31
theorem sc_check_turn : FnScope ["value"] ["value"] (defScope s_check_turn) := ⟨rfl, rfl, rfl, by decide +kernel, rfl, by decide +kernel, by decide +kernel⟩
abbrev s_is_spot : Stmt := topS 29
theorem sc_is_spot : FnScope ["value", "number", "x", "y", "d"] ["value"] (defScope s_is_spot) := ⟨rfl, rfl, rfl, by decide +kernel, rfl, by decide +kernel, by decide +kernel⟩
abbrev s_is_whole : Stmt := topS 27
theorem sc_is_whole : FnScope ["value"] ["value"] (defScope s_is_whole) := ⟨rfl, rfl, rfl, by decide +kernel, rfl, by decide +kernel, by decide +kernel⟩
section
variable {P : Program} {w : World} {K : PySem.W.Frag} {mg : Str → Option Value} {base : Heap}
theorem ty_T {K : PySem.W.Frag} {H : Hp} {a : Addr} {xs : List V} (h : SqT K H a xs) : TyX K H (.ref a) (.type "tuple") := by
  rcases h with (h | ⟨o, h⟩) | ⟨o, its, n, h, c, _⟩
  · exact .base (.tup h)
  · exact .fTuple h
  · exact .kTuple h c
def sp_whole : Sp := fun vs H Q _ => ∃ i : Int, vs = [.int i] ∧ Q (.bl true) H
theorem ok_is_whole {f : Addr} {fd : FuncData} (b_isinstance : mg "isinstance" = none) (b_int : mg "int" = none) (b_bool : mg "bool" = none) (F : Fun K "is_whole" "is_whole" s_is_whole f fd) : FnOk P w K mg base CX0 1 f fd ["value"] sp_whole := by
  refine F.ok sc_is_whole (fun vs H Q E h => ?_) (fun cdv A outer s H vs Q E hr h => ?_)
  · obtain ⟨i, rfl, _⟩ := h
    rfl
  obtain ⟨i, rfl, q⟩ := h
  refine ⟨_, (pss_one (ps_ret (pe_and (pe_callB (r := rIsi K) call_isi (by rfl) b_isinstance (by decide +kernel) (pa_cons (pv 0) (pa_cons (pe_bltn (v := .ty "int") (by rfl) b_int (by decide +kernel) rfl) pa_nil))) (pe_one (pe_not (pe_callB (r := rIsi K) call_isi (by rfl) b_isinstance (by decide +kernel) (pa_cons (pv 0) (pa_cons (pe_bltn (v := .ty "bool") (by rfl) b_bool (by decide +kernel) rfl) pa_nil)))))))), ?_⟩
  refine ⟨_, rfl, _, _, _, _, _, rfl, .ty _, .base (.int i), kit_ty (by decide +kernel), true, rfl, iteT ?_⟩
  exact ⟨_, rfl, _, _, _, _, _, rfl, .ty _, .base (.int i), kit_ty (by decide +kernel), false, rfl, q⟩
/-- what is a spot is one -/
def sp_isspot (K : PySem.W.Frag) : Sp := fun vs H Q _ => ∃ va a, vs = [va] ∧ IsT K H va a ∧ Ok a ∧ ∀ H', Same H H' → Q (.bl true) H'
theorem v3_at {a : T3} {i : Nat} {x : V} (h : (v3 a)[i]? = some x) : ∃ z : Int, x = .int z := by
  unfold v3 at h
  match i, h with
  | 0, h => exact ⟨_, (Option.some.inj h).symm⟩
  | 1, h => exact ⟨_, (Option.some.inj h).symm⟩
  | 2, h => exact ⟨_, (Option.some.inj h).symm⟩
  | (n + 3), h => simp at h
theorem ok_is_spot {f : Addr} {fd : FuncData} (b_isinstance : mg "isinstance" = none) (b_tuple : mg "tuple" = none) (b_len : mg "len" = none) (b_all : mg "all" = none) (d_common_divisor : D P w K mg base "common_divisor" 1 sp_gcd) (d_is_whole : D P w K mg base "is_whole" 1 sp_whole)
    (F : Fun K "is_spot" "is_spot" s_is_spot f fd) : FnOk P w K mg base CX0 2 f fd ["value"] (sp_isspot K) := by
  refine F.ok sc_is_spot (fun vs H Q E h => ?_) (fun cdv A outer s H vs Q E hr h => ?_)
  · obtain ⟨va, a, rfl, _⟩ := h
    rfl
  obtain ⟨va, a, rfl, ⟨p, rfl, ta⟩, oa, q⟩ := h
  refine ⟨_, (pss_cons (ps_if (PW.pt (pw_or (pt_not (pt_val (pe_callB (r := rIsi K) call_isi (by rfl) b_isinstance (by decide +kernel) (pa_cons (pv 0) (pa_cons (pe_bltn (v := .ty "tuple") (by rfl) b_tuple (by decide +kernel) rfl) pa_nil))))) (pw_or1 (pt_cmpR (op_ne) (pe_callB call_len_seq (by rfl) b_len PySem.boot_len (pa_cons (pv 0) pa_nil)) pe_int (nomark _))))) (pss_one (ps_ret pe_bl)) pss_nil)
    (pss_cons (ps_if (pt_not (pt_val (pe_callB (cr_all rfl) (by rfl) b_all (by decide +kernel) (pa_cons (pe_lc (own := [("number", 1)]) (g := gName 1) (tt := tYes) (by rfl) sc_is_spot.nd (pi_tup (pv 0)) (blkOk_by (own := [("number", 1)]) (N := ["value", "number", "x", "y", "d"]) (sc := defScope s_is_spot) (by decide +kernel)) (fun _ _ _ _ _ => (pg_name (i := 1) sc_is_spot.nd rfl (by first | exact Or.inl rfl | exact Or.inr rfl))) (fun _ _ _ _ _ => pts_nil) (fun _ _ _ _ _ => (pc d_is_whole (hr.mono (by decide)) (pa_cons (pv 1) pa_nil)))) pa_nil)))) (pss_one (ps_ret pe_bl)) pss_nil)
    (pss_cons (ps_asg (pv 0) (pg_tup rfl (pgs_cons (pg_name (i := 2) sc_is_spot.nd rfl (by first | exact Or.inl rfl | exact Or.inr rfl)) (pgs_cons (pg_name (i := 3) sc_is_spot.nd rfl (by first | exact Or.inl rfl | exact Or.inr rfl)) (pgs_cons (pg_name (i := 4) sc_is_spot.nd rfl (by first | exact Or.inl rfl | exact Or.inr rfl)) pgs_nil)))))
    (pss_one (ps_ret (pe_and (pe_cmpR (op_ge) (pv 4) pe_int (nomark _)) (pe_one (pe_cmpR (op_eq) (pc d_common_divisor (hr.mono (by decide)) (pa_cons (pc d_common_divisor (hr.mono (by decide)) (pa_cons (pv 2) (pa_cons (pv 3) pa_nil))) (pa_cons (pv 4) pa_nil))) pe_int (nomark _))))))))), ?_⟩
  refine ⟨_, rfl, _, _, _, _, _, rfl, .ty _, ty_T ta, kit_ty (by decide +kernel), true, rfl, ?_⟩
  refine iteF ?_
  refine ⟨_, rfl, _, _, rfl, .inr ta, rfl, _, rfl, iteF ?_⟩
  refine ⟨_, rfl, _, rfl, ⟨_, ta⟩, fun L hL => lc_tup (K := K) (a := p) (xs := v3 a) (fun i H' => ∃ acc : List V, H' = upd H L (.lst acc) ∧ acc = (List.replicate i true).map V.bl) ⟨[], rfl, rfl⟩ ?_ ?_ ?_⟩
  · rintro i H' hi ⟨acc, rfl, _⟩
    exact same_T (same_new hL _) ta
  · rintro i x H' hx ⟨acc, rfl, ea⟩
    obtain ⟨z, rfl⟩ := v3_at hx
    refine ⟨rfl, ?_⟩
    refine yes_of ?_
    refine ⟨_, rfl, z, rfl, acc, upd_same, ?_, ?_⟩
    · have := (List.getElem?_eq_some_iff.mp hx).1
      rw [ea, List.length_map, List.length_replicate]
      exact small1000 (by have : (v3 a).length = 3 := rfl; omega)
    · refine ⟨acc ++ [.bl true], upd_upd, ?_⟩
      rw [ea, List.replicate_succ', List.map_append]
      rfl
  · rintro H' ⟨acc, rfl, ea⟩
    refine ⟨_, [true, true, true], rfl, .inl (.inl ?_), ?_⟩
    · rw [ea]; exact upd_same
    refine ⟨_, rfl, iteF ?_⟩
    have s1 := same_new hL (.lst acc)
    refine ⟨_, rfl, _, _, rfl, same_T s1 ta, rfl, _, _, rfl, _, _, rfl, _, _, rfl, rfl, ?_⟩
    refine ⟨_, rfl, _, _, rfl, rfl, true, congrArg V.bl (decide_eq_true (show (1 : Int) ≤ a.2.2 from oa.1)), iteT ?_⟩
    refine ⟨_, rfl, _, rfl, _, _, rfl, _, rfl, _, _, rfl, rfl, ?_⟩
    have e : V.int ((Int.gcd ((Int.gcd a.1 a.2.1 : Nat) : Int) a.2.2 : Nat) : Int) = V.int 1 := congrArg V.int oa.2
    have z := q _ s1
    show Q (.bl (decide (V.int ((Int.gcd ((Int.gcd a.1 a.2.1 : Nat) : Int) a.2.2 : Nat) : Int) = V.int 1))) _
    rw [decide_eq_true e]
    exact z
def sp_check (K : PySem.W.Frag) : Sp := fun vs H Q _ => ∃ va a, vs = [va] ∧ IsT K H va a ∧ Ok a ∧ ∀ H', Same H H' → Q .non H'
theorem ok_check_spot {f : Addr} {fd : FuncData} (d_is_spot : D P w K mg base "is_spot" 2 (sp_isspot K)) (F : Fun K "check_spot" "check_spot" s_check_spot f fd) : FnOk P w K mg base CX0 3 f fd ["value"] (sp_check K) := by
  refine F.ok sc_check_spot (fun vs H Q E h => ?_) (fun cdv A outer s H vs Q E hr h => ?_)
  · obtain ⟨va, a, rfl, _⟩ := h
    rfl
  obtain ⟨va, a, rfl, ia, oa, q⟩ := h
  refine ⟨_, (pss_one (ps_if (pt_not (pt_val (pc d_is_spot (hr.mono (by decide)) (pa_cons (pv 0) pa_nil)))) (pss_one ps_never) pss_nil)), ?_⟩
  exact ⟨_, rfl, _, _, rfl, ia, oa, fun H1 s1 => ⟨_, rfl, iteF (q _ s1)⟩⟩
def d3 (s : T3) : PyData := .tuple [.int s.1, .int s.2.1, .int s.2.2]
theorem Dp3 {K : PySem.W.Frag} {H : Hp} {p : Addr} {s : T3} (h : SqT K H p (v3 s)) : Dp K H (.ref p) (d3 s) := .tup h (.cons (.int _) (.cons (.int _) (.cons (.int _) .nil)))
theorem shaped3 (s : T3) : SeqAt.shaped (d3 s) = true := rfl
theorem eqv3 (s t : T3) : PyData.eqv (d3 s) (d3 t) = decide (s = t) := by
  obtain ⟨a, b, c⟩ := s
  obtain ⟨u, v, w⟩ := t
  show ((a == u) && ((b == v) && ((c == w) && true))) = decide ((a, b, c) = (u, v, w))
  by_cases h1 : a = u
  · by_cases h2 : b = v
    · by_cases h3 : c = w
      · subst h1 h2 h3; simp
      · rw [decide_eq_false (fun z => h3 (by injection z with _ z; injection z))]; simp [h3]
    · rw [decide_eq_false (fun z => h2 (by injection z with _ z; injection z))]; simp [h2]
  · rw [decide_eq_false (fun z => h1 (by injection z))]; simp [h1]
def sp_checkT (K : PySem.W.Frag) : Sp := fun vs H Q _ => ∃ va a, vs = [va] ∧ IsT K H va a ∧ Ok a ∧ Nz a ∧ ∀ H', Same H H' → Q .non H'
theorem ok_check_turn {f aM : Addr} {fd : FuncData} (d_is_spot : D P w K mg base "is_spot" 2 (sp_isspot K)) (m_MIDDLE : mg "MIDDLE" = some (.ref aM)) (t_MIDDLE : ∀ H, SqT K H aM (v3 (0, 0, 1))) (F : Fun K "check_turn" "check_turn" s_check_turn f fd) : FnOk P w K mg base CX0 3 f fd ["value"] (sp_checkT K) := by
  refine F.ok sc_check_turn (fun vs H Q E h => ?_) (fun cdv A outer s H vs Q E hr h => ?_)
  · obtain ⟨va, a, rfl, _⟩ := h
    rfl
  obtain ⟨va, a, rfl, ⟨p, rfl, ta⟩, oa, na, q⟩ := h
  refine ⟨_, (pss_one (ps_if (PW.pt (pw_or (pt_not (pt_val (pc d_is_spot (hr.mono (by decide)) (pa_cons (pv 0) pa_nil)))) (pw_or1 (pt_cmpR (op_eqD hr.units) (pv 0) (pe_glob (v := .ref aM) (by rfl) m_MIDDLE rfl) (nomark _))))) (pss_one ps_never) pss_nil)), ?_⟩
  refine ⟨_, rfl, _, _, rfl, ⟨p, rfl, ta⟩, oa, fun H1 s1 => ⟨_, rfl, iteF ?_⟩⟩
  refine ⟨_, rfl, _, _, Dp3 (same_T s1 ta), Dp3 (t_MIDDLE H1), shaped3 _, shaped3 _, _, rfl, ?_⟩
  rw [eqv3, decide_eq_false (fun z => by rw [z] at na; rcases na with n | n <;> exact n rfl)]
  exact iteF (q _ s1)
end
end My

namespace My
open PySem L2 Mth
abbrev s_minus : Stmt := topS 37
theorem sc_minus : FnScope ["one", "other"] ["one", "other"] (defScope s_minus) := ⟨rfl, rfl, rfl, by decide +kernel, rfl, by decide +kernel, by decide +kernel⟩
section
variable {P : Program} {w : World} {K : PySem.W.Frag} {mg : Str → Option Value} {base : Heap}
theorem dI (a b : Int) : decide (V.int a = V.int b) = decide (a = b) := by
  by_cases h : a = b
  · rw [h]; simp
  · rw [decide_eq_false h, decide_eq_false (fun z => h (V.int.inj z))]
theorem ok_minus {f : Addr} {fd : FuncData} (d_plus : D P w K mg base "plus" 3 (sp_two K plus)) (d_negative : D P w K mg base "negative" 1 (sp_one K neg)) (F : Fun K "minus" "minus" s_minus f fd) : FnOk P w K mg base CX0 4 f fd ["one", "other"] (sp_two K minus) := by
  refine F.ok sc_minus (fun vs H Q E h => ?_) (fun cdv A outer s H vs Q E hr h => ?_)
  · obtain ⟨va, vb, a, b, rfl, _⟩ := h
    rfl
  obtain ⟨va, vb, a, b, rfl, ia, ib, oa, ob, ba, bb, q⟩ := h
  refine ⟨_, (pss_one (ps_ret (pc d_plus (hr.mono (by decide)) (pa_cons (pv 0) (pa_cons (pc d_negative (hr.mono (by decide)) (pa_cons (pv 1) pa_nil)) pa_nil))))), ?_⟩
  refine ⟨_, rfl, _, rfl, _, b, rfl, ib, fun H1 r1 s1 i1 => ?_⟩
  exact ⟨_, _, a, _, rfl, ia.same s1, i1, oa, neg_ok ob, ba, neg_B bb, fun H2 r2 s2 i2 => q _ _ (s1.trans s2) i2⟩
end
end My

namespace My
open PySem L2 Mth
abbrev s_Copy___init__ : Stmt := inClass (topS 45) 0
theorem sc_Copy___init__ : FnScope ["self", "turn", "shift", "mirrored"] ["self", "turn", "shift", "mirrored"] (defScope s_Copy___init__) := ⟨rfl, rfl, rfl, by decide +kernel, rfl, by decide +kernel, by decide +kernel⟩
section
variable {P : Program} {w : World} {K : PySem.W.Frag} {mg : Str → Option Value} {base : Heap}
def cf (a b : Addr) (m : Bool) : List (Str × V) := [("factor", .ref a), ("offset", .ref b), ("flips", .bl m)]
theorem cf_put {a b : Addr} {m : Bool} : putF "flips" (.bl m) (putF "offset" (.ref b) (putF "factor" (.ref a) [])) = cf a b m := by
  have h1 : ¬ (("factor" : Str) = "offset") := by decide +kernel
  have h2 : ¬ (("factor" : Str) = "flips") := by decide +kernel
  have h3 : ¬ (("offset" : Str) = "flips") := by decide +kernel
  simp only [putF, if_neg h1, if_neg h2, if_neg h3]
  rfl
theorem cf_f {a b : Addr} {m : Bool} : (cf a b m).lookup ("factor" : Str) = some (.ref a) := by
  unfold cf
  simp only [List.lookup, beq_self_eq_true]
theorem cf_o {a b : Addr} {m : Bool} : (cf a b m).lookup ("offset" : Str) = some (.ref b) := by
  unfold cf
  simp only [List.lookup, beq_self_eq_true, show (("offset" : Str) == "factor") = false by decide +kernel]
theorem cf_m {a b : Addr} {m : Bool} : (cf a b m).lookup ("flips" : Str) = some (.bl m) := by
  unfold cf
  simp only [List.lookup, beq_self_eq_true, show (("flips" : Str) == "factor") = false by decide +kernel, show (("flips" : Str) == "offset") = false by decide +kernel]
structure CTxt (K : PySem.W.Frag) (C : Addr) : Prop where
  cl : Cls K C
  nF : NoAttr K C "factor"
  nO : NoAttr K C "offset"
  nL : NoAttr K C "flips"
  ha : PySem.W.findIn K (.ref C) "__class__" = some (some (.builtin "object.__class__"))
  hn : PySem.W.specialIn K (.builtin "object.__class__") "__get__" = some (some (.builtin "getset_descriptor.__get__"))
  htk : PySem.W.takesIn K (.builtin "object.__class__") = some true
  hm : PySem.W.mroIn K C (.type "object") = some true
/-- a copy as an object -/
def IsC (K : PySem.W.Frag) (C : Addr) (H : Hp) (v : V) (c : Cp) : Prop := ∃ p dx a b, v = .ref p ∧ H p = some (.ins C dx (cf a b c.m)) ∧ SqT K H a (v3 c.t) ∧ SqT K H b (v3 c.s)
theorem IsC.same {C : Addr} {H H' : Hp} {v : V} {c : Cp} (h : IsC K C H v c) (e : Same H H') : IsC K C H' v c := by
  obtain ⟨p, dx, a, b, rfl, h1, h2, h3⟩ := h
  exact ⟨p, dx, a, b, rfl, e _ _ h1, same_T e h2, same_T e h3⟩
def sp_init (K : PySem.W.Frag) (C : Addr) : Sp := fun vs H Q _ => ∃ (H0 : Hp) (p dx : Addr) (vt vs' : V) (m : Bool) (t s : T3), vs = [.ref p, vt, vs', .bl m] ∧ Same H0 H ∧ H0 p = none ∧ H p = some (.ins C dx []) ∧ IsT K H0 vt t ∧ IsT K H0 vs' s ∧ Ok t ∧ Nz t ∧ Ok s ∧
  ∀ H', Same H0 H' → IsC K C H' (.ref p) ⟨t, s, m⟩ → Q .non H'
theorem ok_init {f C : Addr} {fd : FuncData} {kws : List (Str × V)} (T : CTxt K C) (d_check_turn : D P w K mg base "check_turn" 3 (sp_checkT K)) (d_check_spot : D P w K mg base "check_spot" 3 (sp_check K))
    (F : FunD K "__init__" "Copy.__init__" (defArgs s_Copy___init__) (defBody s_Copy___init__) (defScope s_Copy___init__) [] kws f fd) : FnOk P w K mg base CX0 4 f fd ["self", "turn", "shift", "mirrored"] (sp_init K C) := by
  refine ok0 F sc_Copy___init__ (fun vs H Q E h => ?_) (fun cdv A outer s H vs Q E hr h => ?_)
  · obtain ⟨H0, p, dx, vt, vs', m, t, s, rfl, _⟩ := h
    rfl
  obtain ⟨H0, p, dx, vt, vs', m, t, s', rfl, s0, p0, hp, it, is, ot, nt, os, q⟩ := h
  refine ⟨_, (pss_cons (ps_expr (pc d_check_turn (hr.mono (by decide)) (pa_cons (pv 1) pa_nil)))
    (pss_cons (ps_expr (pc d_check_spot (hr.mono (by decide)) (pa_cons (pv 2) pa_nil)))
    (pss_cons (ps_fld (pv 0) (pv 1) rfl)
    (pss_cons (ps_fld (pv 0) (pv 2) rfl)
    (pss_one (ps_fld (pv 0) (pv 3) rfl)))))), ?_⟩
  refine ⟨_, rfl, _, _, rfl, it.same s0, ot, nt, fun H1 s1 => ?_⟩
  refine ⟨_, rfl, _, _, rfl, is.same (s0.trans s1), os, fun H2 s2 => ?_⟩
  obtain ⟨a, rfl, ta⟩ := it
  obtain ⟨b, rfl, tb⟩ := is
  have hp2 : H2 p = some (.ins C dx []) := s2 _ _ (s1 _ _ hp)
  refine ⟨_, rfl, _, rfl, p, C, dx, _, rfl, hp2, T.cl, T.nF, (by show 0 < 1000; decide), ?_⟩
  refine ⟨_, rfl, _, rfl, p, C, dx, _, rfl, upd_same, T.cl, T.nO, (by show 1 < 1000; decide), ?_⟩
  refine ⟨_, rfl, _, rfl, p, C, dx, _, rfl, upd_same, T.cl, T.nL, (by show _ < 1000; simp only [putF]; rw [if_neg (show ¬ (("factor" : Str) = "offset") by decide +kernel)]; exact (by decide : 2 < 1000)), ?_⟩
  have sm : Same H0 (upd (upd (upd H2 p (.ins C dx (putF "factor" (.ref a) []))) p (.ins C dx (putF "offset" (.ref b) (putF "factor" (.ref a) [])))) p (.ins C dx (putF "flips" (.bl m) (putF "offset" (.ref b) (putF "factor" (.ref a) []))))) := fun c o e => by
    have nc : c ≠ p := fun z => by rw [z, p0] at e; cases e
    rw [upd_ne nc, upd_ne nc, upd_ne nc]
    exact s2 _ _ (s1 _ _ (s0 _ _ e))
  exact q _ sm ⟨p, dx, a, b, rfl, by rw [upd_same, cf_put], same_T sm ta, same_T sm tb⟩
/-- the class as its users see it -/
structure CopyI (P : Program) (w : World) (K : PySem.W.Frag) (mg : Str → Option Value) (base : Heap) (C f : Addr) (fd : FuncData) (mv : List Value) (ds : List Value) : Prop where
  tx : CTxt K C
  mkC : Mk K C f
  ok : FnOk P w K mg base CX0 4 f fd ["self", "turn", "shift", "mirrored"] (sp_init K C)
  mgC : mg "Copy" = some (.ref C)
  bv : Vals [.bl false] ds
  bd : Binds K fd ["self", "turn", "shift", "mirrored"] ds
  kb : KBn K fd ["self", "turn", "shift", "mirrored"] 3 ["mirrored"] (fun us ws => us ++ ws) (fun vs zs => vs ++ zs)
theorem mk_of {C : Addr} {H : Hp} {Q : VK} {vt vs : V} {m : Bool} {t s : T3} (it : IsT K H vt t) (is : IsT K H vs s) (ot : Ok t) (nt : Nz t) (os : Ok s) (q : ∀ H' r, Same H H' → IsC K C H' r ⟨t, s, m⟩ → Q r H') :
    ∀ x dx, H x = none → H dx = none → dx ≠ x → sp_init K C [.ref x, vt, vs, .bl m] (upd (upd H dx (.own x)) x (.ins C dx [])) (fun v H2 => v = .non ∧ Q (.ref x) H2) E0 := by
  intro x dx hx hd _
  refine ⟨H, x, dx, vt, vs, m, t, s, rfl, fun c o e => ?_, hx, upd_same, it, is, ot, nt, os, fun H' s' i => ⟨rfl, q _ _ s' i⟩⟩
  rw [upd_ne (ne_of_none e hx), upd_ne (ne_of_none e hd)]
  exact e
theorem own2_of {C : Addr} {H : Hp} {Q : VK} {sp : Sp} {x y : V} {a b : Cp} (ix : IsC K C H x a) (iy : IsC K C H y b) (q : sp [x, y] H Q E0) : rOwn2 C sp x y H Q := by
  obtain ⟨p, dx, _, _, rfl, h1, _⟩ := ix
  obtain ⟨p', dx', _, _, rfl, h1', _⟩ := iy
  exact ⟨p, p', dx, _, dx', _, rfl, rfl, h1, h1', q⟩
theorem own1_of {C : Addr} {H : Hp} {Q : VK} {sp : Sp} {x : V} {a : Cp} (ix : IsC K C H x a) (q : sp [x] H Q E0) : rOwn1 C sp x H Q := by
  obtain ⟨p, dx, _, _, rfl, h1, _⟩ := ix
  exact ⟨p, dx, _, rfl, h1, q⟩
/-! ### the properties -/
def sp_get (K : PySem.W.Frag) (C : Addr) (g : Cp → Hp → V → Prop) : Sp := fun vs H Q _ => ∃ vc c, vs = [vc] ∧ IsC K C H vc c ∧ ∀ r, g c H r → Q r H
def sp_growth (K : PySem.W.Frag) (C : Addr) : Sp := fun vs H Q _ => ∃ vc c, vs = [vc] ∧ IsC K C H vc c ∧ CpOk c ∧ B 4000 c.t ∧ ∀ H' a, Same H H' → SqT K H' a [.int (gr c.t).1, .int (gr c.t).2] → Q (.ref a) H'
def sp_ap (K : PySem.W.Frag) (C : Addr) : Sp := fun vs H Q _ => ∃ vc c vz z, vs = [vc, vz] ∧ IsC K C H vc c ∧ CpOk c ∧ BC 1900 c ∧ IsT K H vz z ∧ Ok z ∧ B 1900 z ∧ ∀ H' r, Same H H' → IsT K H' r (ap c z) → Q r H'
def sp_jn (K : PySem.W.Frag) (C : Addr) : Sp := fun vs H Q _ => ∃ va a vb b, vs = [va, vb] ∧ IsC K C H va a ∧ IsC K C H vb b ∧ CpOk a ∧ CpOk b ∧ BC 1900 a ∧ BC 1900 b ∧ ∀ H' r, Same H H' → IsC K C H' r (jn a b) → Q r H'
theorem neB (a b : Bool) : V.bl (!decide (V.bl a = V.bl b)) = V.bl (a != b) := by cases a <;> cases b <;> rfl
def sp_bk (K : PySem.W.Frag) (C : Addr) : Sp := fun vs H Q _ => ∃ va a, vs = [va] ∧ IsC K C H va a ∧ CpOk a ∧ BC 1900 a ∧ ∀ H' r, Same H H' → IsC K C H' r (bk a) → Q r H'
def ceq (a b : Cp) : Bool := decide (a.t = b.t) && (decide (a.s = b.s) && decide (a.m = b.m))
theorem ceq_iff {a b : Cp} : ceq a b = true ↔ a = b := by
  obtain ⟨a1, a2, a3⟩ := a
  obtain ⟨b1, b2, b3⟩ := b
  unfold ceq
  simp
def sp_ceq (K : PySem.W.Frag) (C : Addr) : Sp := fun vs H Q _ => ∃ va a vb b, vs = [va, vb] ∧ IsC K C H va a ∧ IsC K C H vb b ∧ Q (.bl (ceq a b)) H
end
end My

namespace My
open PySem L2 Mth
abbrev s_Copy___call__ : Stmt := inClass (topS 45) 5
theorem sc_Copy___call__ : FnScope ["self", "spot"] ["self", "spot"] (defScope s_Copy___call__) := ⟨rfl, rfl, rfl, by decide +kernel, rfl, by decide +kernel, by decide +kernel⟩
section
variable {P : Program} {w : World} {K : PySem.W.Frag} {mg : Str → Option Value} {base : Heap}
theorem ok_call {f C : Addr} {fd : FuncData} (T : CTxt K C) (d_check_spot : D P w K mg base "check_spot" 3 (sp_check K)) (d_carried : D P w K mg base "carried" 4 (sp_car K)) (F : Fun K "__call__" "Copy.__call__" s_Copy___call__ f fd) : FnOk P w K mg base CX0 5 f fd ["self", "spot"] (sp_ap K C) := by
  refine F.ok sc_Copy___call__ (fun vs H Q E h => ?_) (fun cdv A outer s H vs Q E hr h => ?_)
  · obtain ⟨vc, c, vz, z, rfl, _⟩ := h
    rfl
  obtain ⟨vc, c, vz, z, rfl, ⟨p, dx, a, b, rfl, h1, h2, h3⟩, ok, bc, iz, oz, bz, q⟩ := h
  refine ⟨_, (pss_cons (ps_expr (pc d_check_spot (hr.mono (by decide)) (pa_cons (pv 1) pa_nil)))
    (pss_one (ps_ret (pc d_carried (hr.mono (by decide)) (pa_cons (pe_fld (pv 0) rfl) (pa_cons (pe_fld (pv 0) rfl) (pa_cons (pe_fld (pv 0) rfl) (pa_cons (pv 1) pa_nil)))))))), ?_⟩
  refine ⟨_, rfl, _, _, rfl, iz, oz, fun H1 s1 => ?_⟩
  refine ⟨_, rfl, p, C, dx, _, _, rfl, s1 _ _ h1, T.cl, T.nF, cf_f, _, rfl, p, C, dx, _, _, rfl, s1 _ _ h1, T.cl, T.nO, cf_o, _, rfl, p, C, dx, _, _, rfl, s1 _ _ h1, T.cl, T.nL, cf_m, _, rfl, ?_⟩
  exact ⟨_, _, _, _, _, _, _, rfl, ⟨_, rfl, same_T s1 h2⟩, ⟨_, rfl, same_T s1 h3⟩, iz.same s1, ok.t, ok.s, oz, bc.1, bc.2.mono (by decide), bz, fun H2 r s2 i => q _ _ (s1.trans s2) i⟩
end
end My

namespace My
open PySem L2 Mth
abbrev s_Copy___eq__ : Stmt := inClass (topS 45) 8
theorem sc_Copy___eq__ : FnScope ["self", "other"] ["self", "other"] (defScope s_Copy___eq__) := ⟨rfl, rfl, rfl, by decide +kernel, rfl, by decide +kernel, by decide +kernel⟩
section
variable {P : Program} {w : World} {K : PySem.W.Frag} {mg : Str → Option Value} {base : Heap}
theorem ok_eq {f C : Addr} {fd : FuncData} (T : CTxt K C) (mgC : mg "Copy" = some (.ref C)) (b_isinstance : mg "isinstance" = none) (F : Fun K "__eq__" "Copy.__eq__" s_Copy___eq__ f fd) : FnOk P w K mg base CX0 1 f fd ["self", "other"] (sp_ceq K C) := by
  refine F.ok sc_Copy___eq__ (fun vs H Q E h => ?_) (fun cdv A outer s H vs Q E hr h => ?_)
  · obtain ⟨va, a, vb, b, rfl, _⟩ := h
    rfl
  obtain ⟨va, a, vb, b, rfl, ⟨p, dx, u, v, rfl, h1, h2, h3⟩, ⟨p', dx', u', v', rfl, k1, k2, k3⟩, q⟩ := h
  refine ⟨_, (pss_one (ps_ret (pe_and (pe_callB (r := rIsi K) call_isi (by rfl) b_isinstance (by decide +kernel) (pa_cons (pv 1) (pa_cons (pe_glob (v := .ref C) (by rfl) mgC rfl) pa_nil))) (pe_and (pe_cmpR (op_eqD hr.units) (pe_fld (pv 0) rfl) (pe_fld (pv 1) rfl) (nomark _)) (pe_and (pe_cmpR (op_eqD hr.units) (pe_fld (pv 0) rfl) (pe_fld (pv 1) rfl) (nomark _)) (pe_one (pe_cmpR (op_eq) (pe_fld (pv 0) rfl) (pe_fld (pv 1) rfl) (nomark _)))))))), ?_⟩
  refine ⟨_, rfl, _, _, _, _, true, rfl, .own C, .base (.ins k1 T.cl T.ha T.hn T.htk T.hm), ?_, true, rfl, iteT ?_⟩
  · unfold PySem.W.kitOne; simp
  refine ⟨_, rfl, p, C, dx, _, _, rfl, h1, T.cl, T.nF, cf_f, _, rfl, p', C, dx', _, _, rfl, k1, T.cl, T.nF, cf_f, _, _, Dp3 h2, Dp3 k2, shaped3 _, shaped3 _, _, rfl, ?_⟩
  rw [eqv3]
  unfold ceq at q
  cases c1 : decide (a.t = b.t) with
  | false =>
    rw [c1] at q
    exact iteF q
  | true =>
    rw [c1] at q
    refine iteT ?_
    refine ⟨_, rfl, p, C, dx, _, _, rfl, h1, T.cl, T.nO, cf_o, _, rfl, p', C, dx', _, _, rfl, k1, T.cl, T.nO, cf_o, _, _, Dp3 h3, Dp3 k3, shaped3 _, shaped3 _, _, rfl, ?_⟩
    rw [eqv3]
    cases c2 : decide (a.s = b.s) with
    | false =>
      rw [c2] at q
      exact iteF q
    | true =>
      rw [c2] at q
      refine iteT ?_
      refine ⟨_, rfl, p, C, dx, _, _, rfl, h1, T.cl, T.nL, cf_m, _, rfl, p', C, dx', _, _, rfl, k1, T.cl, T.nL, cf_m, rfl, ?_⟩
      have e : decide (V.bl a.m = V.bl b.m) = decide (a.m = b.m) := by cases a.m <;> cases b.m <;> rfl
      show Q (.bl (decide (V.bl a.m = V.bl b.m))) H
      rw [e]
      exact q
end
end My

namespace My
open PySem L2 Mth
abbrev s_Copy___rshift__ : Stmt := inClass (topS 45) 6
theorem sc_Copy___rshift__ : FnScope ["self", "other", "turn", "shift"] ["self", "other"] (defScope s_Copy___rshift__) := ⟨rfl, rfl, rfl, by decide +kernel, rfl, by decide +kernel, by decide +kernel⟩
section
variable {P : Program} {w : World} {K : PySem.W.Frag} {mg : Str → Option Value} {base : Heap}
theorem ok_rshift {f C fI : Addr} {fd fdI : FuncData} {mv ds : List Value} (TC : CopyI P w K mg base C fI fdI mv ds) (d_product : D P w K mg base "product" 3 (sp_two K times)) (d_faced : D P w K mg base "faced" 1 (sp_face K)) (d_carried : D P w K mg base "carried" 4 (sp_car K))
    (F : Fun K "__rshift__" "Copy.__rshift__" s_Copy___rshift__ f fd) : FnOk P w K mg base CX0 6 f fd ["self", "other"] (sp_jn K C) := by
  refine F.ok sc_Copy___rshift__ (fun vs H Q E h => ?_) (fun cdv A outer s H vs Q E hr h => ?_)
  · obtain ⟨va, a, vb, b, rfl, _⟩ := h
    rfl
  obtain ⟨va, a, vb, b, rfl, ⟨p, dx, u, v, rfl, h1, h2, h3⟩, ⟨p', dx', u', v', rfl, k1, k2, k3⟩, oa, ob, ba, bb, q⟩ := h
  have T := TC.tx
  refine ⟨_, (pss_cons (ps_set (i := 2) sc_Copy___rshift__.nd rfl (by first | exact Or.inl rfl | exact Or.inr rfl) (pc d_product (hr.mono (by decide)) (pa_cons (pe_fld (pv 1) rfl) (pa_cons (pc d_faced (hr.mono (by decide)) (pa_cons (pe_fld (pv 0) rfl) (pa_cons (pe_fld (pv 1) rfl) pa_nil))) pa_nil))))
    (pss_cons (ps_set (i := 3) sc_Copy___rshift__.nd rfl (by first | exact Or.inl rfl | exact Or.inr rfl) (pc d_carried (hr.mono (by decide)) (pa_cons (pe_fld (pv 1) rfl) (pa_cons (pe_fld (pv 1) rfl) (pa_cons (pe_fld (pv 1) rfl) (pa_cons (pe_fld (pv 0) rfl) pa_nil))))))
    (pss_one (ps_ret (pe_makeK TC.mkC TC.ok (hr.mono (by decide)) (by rfl) TC.mgC TC.kb pass0 (pa_cons (pv 2) (pa_cons (pv 3) pa_nil)) (pk_cons (pe_cmpR (op_ne) (pe_fld (pv 0) rfl) (pe_fld (pv 1) rfl) (nomark _)) pk_nil)))))), ?_⟩
  refine ⟨_, rfl, p', C, dx', _, _, rfl, k1, T.cl, T.nF, cf_f, _, rfl, p, C, dx, _, _, rfl, h1, T.cl, T.nF, cf_f, _, rfl, p', C, dx', _, _, rfl, k1, T.cl, T.nL, cf_m, ?_⟩
  refine ⟨_, _, _, rfl, ⟨_, rfl, h2⟩, fun H1 r1 s1 i1 => ?_⟩
  refine ⟨_, _, _, _, rfl, ⟨_, rfl, same_T s1 k2⟩, i1, ob.t, face_ok oa.t _, bb.1.mono (by decide), (face_B ba.1 _).mono (by decide), fun H2 r2 s2 i2 => ?_⟩
  have s12 := s1.trans s2
  refine ⟨_, rfl, p', C, dx', _, _, rfl, s12 _ _ k1, T.cl, T.nF, cf_f, _, rfl, p', C, dx', _, _, rfl, s12 _ _ k1, T.cl, T.nO, cf_o, _, rfl, p', C, dx', _, _, rfl, s12 _ _ k1, T.cl, T.nL, cf_m, _, rfl, p, C, dx, _, _, rfl, s12 _ _ h1, T.cl, T.nO, cf_o, ?_⟩
  refine ⟨_, _, _, _, _, _, _, rfl, ⟨_, rfl, same_T s12 k2⟩, ⟨_, rfl, same_T s12 k3⟩, ⟨_, rfl, same_T s12 h3⟩, ob.t, ob.s, oa.s, bb.1, bb.2.mono (by decide), ba.2, fun H3 r3 s3 i3 => ?_⟩
  have s123 := s12.trans s3
  refine ⟨_, rfl, _, rfl, _, rfl, p, C, dx, _, _, rfl, s123 _ _ h1, T.cl, T.nL, cf_m, _, rfl, p', C, dx', _, _, rfl, s123 _ _ k1, T.cl, T.nL, cf_m, rfl, ?_⟩
  refine ⟨rfl, rfl, ?_⟩
  rw [neB]
  exact mk_of (i2.same s3) i3 (jn_ok oa ob).t (jn_ok oa ob).n (jn_ok oa ob).s fun H4 r4 s4 i4 => q _ _ (s123.trans s4) i4
end
end My

namespace My
open PySem L2 Mth
abbrev s_Copy_growth : Stmt := inClass (topS 45) 4
theorem sc_Copy_growth : FnScope ["self", "x", "y", "d"] ["self"] (defScope s_Copy_growth) := ⟨rfl, rfl, rfl, by decide +kernel, rfl, by decide +kernel, by decide +kernel⟩
section
variable {P : Program} {w : World} {K : PySem.W.Frag} {mg : Str → Option Value} {base : Heap}
theorem ok_growth {f C : Addr} {fd : FuncData} (T : CTxt K C) (d_fraction : D P w K mg base "fraction" 2 (sp_fr K)) (F : Fun K "growth" "Copy.growth" s_Copy_growth f fd) : FnOk P w K mg base CX0 3 f fd ["self"] (sp_growth K C) := by
  refine F.ok sc_Copy_growth (fun vs H Q E h => ?_) (fun cdv A outer s H vs Q E hr h => ?_)
  · obtain ⟨vc, c, rfl, _⟩ := h
    rfl
  obtain ⟨vc, ⟨⟨x, y, d⟩, s', m⟩, rfl, ⟨p, dx, a, b, rfl, h1, h2, h3⟩, ok, ⟨a1, a2, a3⟩, q⟩ := h
  refine ⟨_, (pss_cons (ps_asg (pe_fld (pv 0) rfl) (pg_tup rfl (pgs_cons (pg_name (i := 1) sc_Copy_growth.nd rfl (by first | exact Or.inl rfl | exact Or.inr rfl)) (pgs_cons (pg_name (i := 2) sc_Copy_growth.nd rfl (by first | exact Or.inl rfl | exact Or.inr rfl)) (pgs_cons (pg_name (i := 3) sc_Copy_growth.nd rfl (by first | exact Or.inl rfl | exact Or.inr rfl)) pgs_nil)))))
    (pss_one (ps_ret (pc d_fraction (hr.mono (by decide)) (pa_cons (pe_op op_add (pe_op op_mulW (pv 1) (pv 1)) (pe_op op_mulW (pv 2) (pv 2))) (pa_cons (pe_op op_mulW (pv 3) (pv 3)) pa_nil)))))), ?_⟩
  refine ⟨_, rfl, p, C, dx, _, _, rfl, h1, T.cl, T.nF, cf_f, _, _, rfl, h2, rfl, _, _, rfl, _, _, rfl, _, _, rfl, rfl, ?_⟩
  refine ⟨_, rfl, _, rfl, _, _, rfl, rfl, mulW a1 a1, _, rfl, _, rfl, _, _, rfl, rfl, mulW a2 a2, _, _, rfl, rfl, ?_⟩
  refine ⟨_, rfl, _, rfl, _, _, rfl, rfl, mulW a3 a3, ?_⟩
  exact ⟨_, _, rfl, mul_ne ok.t.ne ok.t.ne, up_lt (by decide) (mul_lt a3 a3), q⟩
end
end My

namespace My
open PySem L2 Mth
abbrev s_Copy___invert__ : Stmt := inClass (topS 45) 7
theorem sc_Copy___invert__ : FnScope ["self", "back", "shift"] ["self"] (defScope s_Copy___invert__) := ⟨rfl, rfl, rfl, by decide +kernel, rfl, by decide +kernel, by decide +kernel⟩
section
variable {P : Program} {w : World} {K : PySem.W.Frag} {mg : Str → Option Value} {base : Heap}
theorem ok_invert {f C fI : Addr} {fd fdI : FuncData} {mv ds : List Value} (TC : CopyI P w K mg base C fI fdI mv ds) (d_product : D P w K mg base "product" 3 (sp_two K times)) (d_inverse : D P w K mg base "inverse" 3 (sp_inv K)) (d_negative : D P w K mg base "negative" 1 (sp_one K neg)) (d_faced : D P w K mg base "faced" 1 (sp_face K))
    (F : Fun K "__invert__" "Copy.__invert__" s_Copy___invert__ f fd) : FnOk P w K mg base CX0 6 f fd ["self"] (sp_bk K C) := by
  refine F.ok sc_Copy___invert__ (fun vs H Q E h => ?_) (fun cdv A outer s H vs Q E hr h => ?_)
  · obtain ⟨va, a, rfl, _⟩ := h
    rfl
  obtain ⟨va, a, rfl, ⟨p, dx, u, v, rfl, h1, h2, h3⟩, oa, ba, q⟩ := h
  have T := TC.tx
  refine ⟨_, (pss_cons (ps_set (i := 1) sc_Copy___invert__.nd rfl (by first | exact Or.inl rfl | exact Or.inr rfl) (pc d_inverse (hr.mono (by decide)) (pa_cons (pe_fld (pv 0) rfl) pa_nil)))
    (pss_cons (ps_set (i := 2) sc_Copy___invert__.nd rfl (by first | exact Or.inl rfl | exact Or.inr rfl) (pc d_negative (hr.mono (by decide)) (pa_cons (pc d_product (hr.mono (by decide)) (pa_cons (pv 1) (pa_cons (pe_fld (pv 0) rfl) pa_nil))) pa_nil)))
    (pss_one (ps_ret (pe_makeK TC.mkC TC.ok (hr.mono (by decide)) (by rfl) TC.mgC TC.kb pass0 (pa_cons (pc d_faced (hr.mono (by decide)) (pa_cons (pv 1) (pa_cons (pe_fld (pv 0) rfl) pa_nil))) (pa_cons (pc d_faced (hr.mono (by decide)) (pa_cons (pv 2) (pa_cons (pe_fld (pv 0) rfl) pa_nil))) pa_nil)) (pk_cons (pe_fld (pv 0) rfl) pk_nil)))))), ?_⟩
  refine ⟨_, rfl, p, C, dx, _, _, rfl, h1, T.cl, T.nF, cf_f, ?_⟩
  refine ⟨_, _, rfl, ⟨_, rfl, h2⟩, oa.n, ba.1.mono (by decide), fun H1 r1 s1 i1 => ?_⟩
  refine ⟨_, rfl, _, rfl, p, C, dx, _, _, rfl, s1 _ _ h1, T.cl, T.nO, cf_o, ?_⟩
  refine ⟨_, _, _, _, rfl, i1, ⟨_, rfl, same_T s1 h3⟩, inv_ok oa.n, oa.s, (inv_B oa.n ba.1).mono (by decide), ba.2.mono (by decide), fun H2 r2 s2 i2 => ?_⟩
  refine ⟨_, _, rfl, i2, fun H3 r3 s3 i3 => ?_⟩
  have s123 := s1.trans (s2.trans s3)
  refine ⟨_, rfl, _, rfl, p, C, dx, _, _, rfl, s123 _ _ h1, T.cl, T.nL, cf_m, ?_⟩
  refine ⟨_, _, _, rfl, i1.same (s2.trans s3), fun H4 r4 s4 i4 => ?_⟩
  refine ⟨_, rfl, _, rfl, p, C, dx, _, _, rfl, (s123.trans s4) _ _ h1, T.cl, T.nL, cf_m, ?_⟩
  refine ⟨_, _, _, rfl, i3.same s4, fun H5 r5 s5 i5 => ?_⟩
  refine ⟨_, rfl, p, C, dx, _, _, rfl, (s123.trans (s4.trans s5)) _ _ h1, T.cl, T.nL, cf_m, rfl, rfl, ?_⟩
  exact mk_of (i4.same s5) i5 (bk_ok oa).t (bk_ok oa).n (bk_ok oa).s fun H6 r6 s6 i6 => q _ _ ((s123.trans (s4.trans s5)).trans s6) i6
end
end My

namespace My
open PySem L2 Mth
abbrev s_law_below : Stmt := topS 78
theorem sc_law_below : FnScope ["_law_d", "_law_limit", "_law_result"] ["_law_d", "_law_limit"] (defScope s_law_below) := ⟨rfl, rfl, rfl, by decide +kernel, rfl, by decide +kernel, by decide +kernel⟩
abbrev s_law_random : Stmt := topS 77
theorem sc_law_random : FnScope ["_law_script", "_law_salt", "_law_seed", "_law_cell"] ["_law_script", "_law_salt"] (defScope s_law_random) := ⟨rfl, rfl, rfl, by decide +kernel, rfl, by decide +kernel, by decide +kernel⟩
section
variable {P : Program} {w : World} {K : PySem.W.Frag} {mg : Str → Option Value} {base : Heap}
/-! ### the source of numbers -/
structure Src where
  seed : Int
  cur : Int
  rest : List Int
structure SrcOk (s : Src) : Prop where
  s0 : 0 ≤ s.seed
  s1 : s.seed < 2147483647
  c0 : 0 ≤ s.cur
  r0 : ∀ r ∈ s.rest, 0 ≤ r
  len : s.rest.length ≤ 63
def encD (s : Src) : List V := .int s.seed :: .int s.cur :: s.rest.map V.int
theorem natAbs_pow18 : ((10 : Int) ^ (18 : Int).toNat) = 1000000000000000000 := by decide
theorem getInt {ns : List Int} {i : Nat} {y : V} (h : (ns.map V.int)[i]? = some y) : ∃ u, y = V.int u ∧ ns[i]? = some u := by
  rw [List.getElem?_map] at h
  cases e : ns[i]? with
  | none => rw [e] at h; cases h
  | some u => rw [e] at h; exact ⟨u, (Option.some.inj h).symm, rfl⟩
theorem take_more {α : Type} {l : List α} {i : Nat} {x : α} (h : l[i]? = some x) : l.take (i + 1) = l.take i ++ [x] := by
  rw [List.take_succ, h]
  rfl
def sp_random (K : PySem.W.Frag) : Sp := fun vs H Q _ => ∃ (a : Addr) (ns : List Int) (salt : Int), vs = [.ref a, .int salt] ∧ SqL K H a (ns.map V.int) ∧ ns.length ≤ 63 ∧ 0 ≤ salt ∧ salt < 2147483647 ∧
  ∀ H' d st, Same H H' → H' d = some (.lst (encD st)) → SrcOk st → Q (.ref d) H'
theorem ok_law_random {f : Addr} {fd : FuncData} (b_abs : mg "abs" = none) (F : Fun K "_law_random" "_law_random" s_law_random f fd) : FnOk P w K mg base CX0 1 f fd ["_law_script", "_law_salt"] (sp_random K) := by
  refine F.ok sc_law_random (fun vs H Q E h => ?_) (fun cdv A outer s H vs Q E hr h => ?_)
  · obtain ⟨a, ns, salt, rfl, _⟩ := h
    rfl
  obtain ⟨a, ns, salt, rfl, hS, h63, h0, h1, q⟩ := h
  refine ⟨_, (pss_cons (ps_set (i := 2) sc_law_random.nd rfl (by first | exact Or.inl rfl | exact Or.inr rfl) (pv 1))
    (pss_cons (ps_for PassesOwn.never rfl (pi_list (pv 0)) (pg_name (i := 3) sc_law_random.nd rfl (by first | exact Or.inl rfl | exact Or.inr rfl)) (pss_one (ps_set (i := 2) sc_law_random.nd rfl (by first | exact Or.inl rfl | exact Or.inr rfl) (pe_op op_modN (pe_op op_add (pe_op op_mulW (pv 2) pe_int) (pe_callB call_abs (by rfl) b_abs (by decide +kernel) (pa_cons (pv 3) pa_nil))) pe_int))))
    (pss_one (ps_ret (pe_op op_cat (pe_lst (pa_cons (pv 2) (pa_cons pe_int pa_nil))) (pe_lc (own := [("_law_cell", 3)]) (g := gName 3) (by rfl) sc_law_random.nd (pi_list (pv 0)) (blkOk_by (own := [("_law_cell", 3)]) (N := ["_law_script", "_law_salt", "_law_seed", "_law_cell"]) (sc := defScope s_law_random) (by decide +kernel)) (fun _ _ _ _ _ => (pg_name (i := 3) sc_law_random.nd rfl (by first | exact Or.inl rfl | exact Or.inr rfl))) (fun _ _ _ _ _ => (pts_one (pt_cmpR (op_ge) (pv 3) (pe_op op_pow pe_int pe_int) (nomark _)))) (fun _ _ _ _ _ => (pv 3)))))))), ?_⟩
  refine ⟨_, rfl, ?_⟩
  refine ⟨_, rfl, _, rfl, ⟨_, hS⟩, for_list (K := K) (a := a) (xs := ns.map V.int) (fun i σ H' => H' = H ∧ ∃ (z : Int) (v : Option V), σ = [some (.ref a), some (.int salt), some (.int z), v] ∧ 0 ≤ z ∧ z < 2147483647) ⟨rfl, salt, none, rfl, h0, h1⟩ ?_ ?_ ?_⟩
  · rintro i σ H' _ ⟨rfl, _⟩
    exact hS
  · rintro i y σ H' hi ⟨rfl, z, v, rfl, z0, z1⟩
    obtain ⟨u, rfl, hu⟩ := getInt hi
    refine ⟨_, rfl, _, _, rfl, rfl, mulW (a := 31) (b := 31) (show z.natAbs < 2 ^ 32 by omega) (by decide), _, rfl, _, rfl, _, _, rfl, rfl, _, _, rfl, rfl, (show (2147483647 : Int) ≠ 0 by decide), ?_⟩
    exact ⟨rfl, _, _, rfl, Int.fmod_nonneg_of_pos _ (by decide), Int.fmod_lt_of_pos _ (by decide)⟩
  · rintro σ H' ⟨rfl, z, v, rfl, z0, z1⟩
    refine ⟨_, rfl, (by show 2 ≤ sizeLine; decide), fun p hp => ?_⟩
    have g1 := same_new hp (.lst [.int z, .int 0])
    refine ⟨_, rfl, a, rfl, ⟨_, g1.seq hS⟩, fun L hL => lc_list (K := K) (a := a) (xs := ns.map V.int) (fun i H1 => ∃ acc : List Int, H1 = upd (upd H' p (.lst [.int z, .int 0])) L (.lst (acc.map V.int)) ∧ acc.length ≤ i ∧ ∀ r ∈ acc, 0 ≤ r) ⟨[], rfl, Nat.le_refl _, fun r hr => by cases hr⟩ ?_ ?_ ?_⟩
    · rintro i H1 hi ⟨acc, rfl, _⟩
      exact (same_new hL _).seq (g1.seq hS)
    · rintro i y H1 hi ⟨acc, rfl, hl, ha⟩
      obtain ⟨u, rfl, hu⟩ := getInt hi
      have hi63 : i < ns.length := (List.getElem?_eq_some_iff.mp hu).1
      refine ⟨rfl, ?_⟩
      refine ⟨_, rfl, _, _, rfl, rfl, ⟨by decide, by decide, by decide⟩, _, _, rfl, rfl, _, rfl, ?_⟩
      refine ite2 (fun c => ?_) (fun c => ?_)
      · refine ⟨_, rfl, acc.map V.int, upd_same, ?_, acc ++ [u], ?_, ?_, ?_⟩
        · rw [List.length_map]; exact small1000 (by omega)
        · rw [upd_upd, List.map_append]; rfl
        · rw [List.length_append, List.length_singleton]; omega
        · intro r hr
          rcases List.mem_append.mp hr with h | h
          · exact ha r h
          · have c' : (10 : Int) ^ (18 : Int).toNat ≤ u := of_decide_eq_true c
            rw [natAbs_pow18] at c'
            have := List.mem_singleton.mp h
            omega
      · exact ⟨acc, rfl, by omega, ha⟩
    · rintro H1 ⟨acc, rfl, hl, ha⟩
      rw [List.length_map] at hl
      have npL : p ≠ L := fun z => by rw [← z, upd_same] at hL; cases hL
      refine ⟨p, L, _, _, rfl, rfl, by rw [upd_ne npL]; exact upd_same, upd_same, ?_, fun r hr => ?_⟩
      · rw [List.length_map]; exact small (by show 2 + _ ≤ 1000; omega)
      · have g2 := same_new hL (.lst (acc.map V.int))
        exact q _ _ ⟨z, 0, acc⟩ (g1.trans (g2.trans (same_new hr _))) upd_same ⟨z0, z1, Int.le_refl 0, ha, by show acc.length ≤ 63; omega⟩
/-- the next number -/
def sp_below : Sp := fun vs H Q _ => ∃ (d : Addr) (n : Int) (st : Src), vs = [.ref d, .int n] ∧ 0 < n ∧ n < 1000000 ∧ H d = some (.lst (encD st)) ∧ SrcOk st ∧
  ∀ st' r, SrcOk st' → 0 ≤ r → r < n → Q (.int r) (upd H d (.lst (encD st')))
theorem div_nn {a b : Int} (ha : 0 ≤ a) (hb : 0 < b) : 0 ≤ a.fdiv b := by
  rw [Int.fdiv_eq_ediv_of_nonneg a (by omega)]
  exact Int.ediv_nonneg ha (by omega)
theorem dX {i j : Int} (h : 0 < j) (h9 : j < 1000000) : CDivX i j := divX (b := 20) (by omega) (by omega) (by decide) (by decide)
theorem at0 {a b : V} {r : List V} : atI (a :: b :: r) 0 = some a := atI_nat (j := 0) rfl
theorem at1 {a b : V} {r : List V} : atI (a :: b :: r) 1 = some b := atI_nat (j := 1) rfl
theorem ix0 {a b : V} {r : List V} : ixN (a :: b :: r).length 0 = some 0 := by
  unfold ixN
  rw [if_pos (by decide), if_pos (by simp only [List.length_cons]; omega)]
  rfl
theorem ix1 {a b : V} {r : List V} : ixN (a :: b :: r).length 1 = some 1 := by
  unfold ixN
  rw [if_pos (by decide), if_pos (by simp only [List.length_cons]; omega)]
  rfl
theorem ok_law_below {f : Addr} {fd : FuncData} (b_len : mg "len" = none) (F : Fun K "_law_below" "_law_below" s_law_below f fd) : FnOk P w K mg base CX0 1 f fd ["_law_d", "_law_limit"] sp_below := by
  refine F.ok sc_law_below (fun vs H Q E h => ?_) (fun cdv A outer s H vs Q E hr h => ?_)
  · obtain ⟨d, n, st, rfl, _⟩ := h
    rfl
  obtain ⟨d, n, ⟨seed, cur, rest⟩, rfl, n0, n1, hd, ⟨s0, s1, c0, r0, hl⟩, q⟩ := h
  dsimp only at s0 s1 c0 r0 hl
  refine ⟨_, (pss_cons (ps_if (PW.pt (pw_and (pt_cmpR (op_eq) (pe_ix ix_list (pv 0) pe_int (fun _ _ => rfl)) pe_int (nomark _)) (pw_and1 (pt_cmpR (op_gt) (pe_callB call_len_seq (by rfl) b_len PySem.boot_len (pa_cons (pv 0) pa_nil)) pe_int (nomark _))))) (pss_one (ps_asg (pe_bm PySem.F.plainAttrs_list PySem.F.slot_list_pop PySem.F.type_list_pop mt_popAt (pv 0) (pa_cons pe_int pa_nil)) (pg_sub (pv 0) pe_int set_list))) pss_nil)
    (pss_cons (ps_if (pt_cmpR (op_gt) (pe_ix ix_list (pv 0) pe_int (fun _ _ => rfl)) pe_int (nomark _)) (pss_cons (ps_set (i := 2) sc_law_below.nd rfl (by first | exact Or.inl rfl | exact Or.inr rfl) (pe_op op_modN (pe_ix ix_list (pv 0) pe_int (fun _ _ => rfl)) (pv 1)))
    (pss_cons (ps_asg (pe_op op_fdivX (pe_ix ix_list (pv 0) pe_int (fun _ _ => rfl)) (pv 1)) (pg_sub (pv 0) pe_int set_list))
    (pss_one (ps_ret (pv 2))))) pss_nil)
    (pss_cons (ps_asg (pe_op op_modN (pe_op op_add (pe_op op_mulW (pe_ix ix_list (pv 0) pe_int (fun _ _ => rfl)) pe_int) pe_int) pe_int) (pg_sub (pv 0) pe_int set_list))
    (pss_one (ps_ret (pe_op op_modN (pe_op op_fdivX (pe_ix ix_list (pv 0) pe_int (fun _ _ => rfl)) pe_int) (pv 1))))))), ?_⟩
  have tail : ∀ (cur : Int) (rest : List Int) (H1 : Hp), 0 ≤ cur → (∀ r ∈ rest, 0 ≤ r) → rest.length ≤ 63 → (∀ o, upd H1 d o = upd H d o) → H1 d = some (.lst (encD ⟨seed, cur, rest⟩)) →
      (tSeq (tIfS (tTest (tOp (rI0 fun i j => .bl (decide (j < i))) (tOp (rIxL K) (tVar 0) (tC (.int 1))) (tC (.int 0))))
        (tSeq (tAsg (tOp (rI (fun _ j => j ≠ 0) fun i j => .int (i.fmod j)) (tOp (rIxL K) (tVar 0) (tC (.int 1))) (tVar 1)) (gName 2))
          (tSeq (tAsg (tOp (rI CDivX fun i j => .int (i.fdiv j)) (tOp (rIxL K) (tVar 0) (tC (.int 1))) (tVar 1)) (gSub (tVar 0) (tC (.int 1)) rSetL)) (tRet (tVar 2)))) tNext)
        (tSeq (tAsg (tOp (rI (fun _ j => j ≠ 0) fun i j => .int (i.fmod j)) (tOp (rI0 fun i j => .int (i + j)) (tOp (rI CMulW fun i j => .int (i * j)) (tOp (rIxL K) (tVar 0) (tC (.int 0))) (tC (.int 48271))) (tC (.int 11))) (tC (.int 2147483647))) (gSub (tVar 0) (tC (.int 0)) rSetL))
          (tRet (tOp (rI (fun _ j => j ≠ 0) fun i j => .int (i.fmod j)) (tOp (rI CDivX fun i j => .int (i.fdiv j)) (tOp (rIxL K) (tVar 0) (tC (.int 0))) (tC (.int 64))) (tVar 1))))) { nx := fun _ H' => Q .non H', rt := Q } [some (.ref d), some (.int n), none] H1 := by
    intro cur rest H1 c0 r0 hl hu h1
    refine ⟨_, rfl, _, _, _, _, rfl, rfl, .inl (.inl h1), at1, _, _, rfl, rfl, _, rfl, ?_⟩
    refine ite2 (fun c => ?_) (fun c => ?_)
    · refine ⟨_, rfl, _, _, _, _, rfl, rfl, .inl (.inl h1), at1, _, rfl, _, _, rfl, rfl, (show n ≠ 0 by omega), ?_⟩
      refine ⟨_, rfl, _, _, _, _, rfl, rfl, .inl (.inl h1), at1, _, rfl, _, _, rfl, rfl, dX n0 n1, ?_⟩
      refine ⟨_, rfl, _, _, _, _, rfl, rfl, h1, ix1, ?_⟩
      refine ⟨_, rfl, ?_⟩
      have z := q ⟨seed, cur.fdiv n, rest⟩ (cur.fmod n) ⟨s0, s1, div_nn c0 n0, r0, hl⟩ (Int.fmod_nonneg_of_pos _ n0) (Int.fmod_lt_of_pos _ n0)
      rw [← hu] at z
      exact z
    · refine ⟨_, rfl, _, _, _, _, rfl, rfl, .inl (.inl h1), at0, _, _, rfl, rfl, mulW (a := 31) (b := 31) (show seed.natAbs < 2 ^ 32 by omega) (by decide), _, _, rfl, rfl, _, _, rfl, rfl, (show (2147483647 : Int) ≠ 0 by decide), ?_⟩
      refine ⟨_, rfl, _, _, _, _, rfl, rfl, h1, ix0, ?_⟩
      have m0 := Int.fmod_nonneg_of_pos (a := seed * 48271 + 11) (b := 2147483647) (by decide)
      have m1 := Int.fmod_lt_of_pos (a := seed * 48271 + 11) (b := 2147483647) (by decide)
      have z := q ⟨(seed * 48271 + 11).fmod 2147483647, cur, rest⟩ ((((seed * 48271 + 11).fmod 2147483647).fdiv 64).fmod n) ⟨m0, m1, c0, r0, hl⟩ (Int.fmod_nonneg_of_pos _ n0) (Int.fmod_lt_of_pos _ n0)
      rw [← hu] at z
      refine ⟨_, rfl, _, _, _, _, rfl, rfl, .inl (.inl upd_same), at0, _, _, rfl, rfl, dX (by decide) (by decide), _, rfl, _, _, rfl, rfl, (show n ≠ 0 by omega), ?_⟩
      exact z
  refine ⟨_, rfl, _, _, _, _, rfl, rfl, .inl (.inl hd), at1, rfl, _, rfl, ?_⟩
  refine ite2 (fun c => ?_) (fun c => ?_)
  · refine ⟨_, rfl, _, _, rfl, .inl (.inl (.inl hd)), _, _, rfl, rfl, _, rfl, ?_⟩
    refine ite2 (fun c2 => ?_) (fun c2 => ?_)
    · cases rest with
      | nil =>
        exfalso
        have := of_decide_eq_true c2
        simp [encD] at this
      | cons r rs =>
        refine ⟨_, rfl, .inl ⟨rfl, _, .inl (.inl hd)⟩, _, _, _, 2, _, rfl, rfl, hd, by decide, by decide, ?_, rfl, ?_⟩
        · show seqIndex? 2 (encD ⟨seed, cur, r :: rs⟩).length = some 2
          refine (ixN_seq (n := (encD ⟨seed, cur, r :: rs⟩).length) (i := 2) (j := 2) ?_).1
          unfold ixN
          rw [if_pos (by decide), if_pos (by simp [encD]; omega)]
          rfl
        refine ⟨_, rfl, _, _, _, _, rfl, rfl, upd_same, ix1, ?_⟩
        refine tail r rs _ (r0 r (List.mem_cons_self ..)) (fun x hx => r0 x (List.mem_cons_of_mem _ hx)) (by simp only [List.length_cons] at hl; omega) (fun o => ?_) ?_
        · rw [upd_upd, upd_upd]
        · rw [upd_same]
          rfl
    · exact tail cur rest H c0 r0 hl (fun o => rfl) hd
  · exact tail cur rest H c0 r0 hl (fun o => rfl) hd
end
end My

namespace My
open PySem L2 Mth
abbrev s_law_common : Stmt := topS 80
theorem sc_law_common : FnScope ["_law_one", "_law_other"] ["_law_one", "_law_other"] (defScope s_law_common) := ⟨rfl, rfl, rfl, by decide +kernel, rfl, by decide +kernel, by decide +kernel⟩
abbrev s_law_lowest : Stmt := topS 81
theorem sc_law_lowest : FnScope ["_law_x", "_law_y", "_law_q", "_law_common_now"] ["_law_x", "_law_y", "_law_q"] (defScope s_law_lowest) := ⟨rfl, rfl, rfl, by decide +kernel, rfl, by decide +kernel, by decide +kernel⟩
abbrev s_law_spot : Stmt := topS 82
theorem sc_law_spot : FnScope ["_law_d", "_law_below_here"] ["_law_d"] (defScope s_law_spot) := ⟨rfl, rfl, rfl, by decide +kernel, rfl, by decide +kernel, by decide +kernel⟩
abbrev s_law_turn : Stmt := topS 83
theorem sc_law_turn : FnScope ["_law_d", "_law_some"] ["_law_d"] (defScope s_law_turn) := ⟨rfl, rfl, rfl, by decide +kernel, rfl, by decide +kernel, by decide +kernel⟩
section
variable {P : Program} {w : World} {K : PySem.W.Frag} {mg : Str → Option Value} {base : Heap}
theorem ok_law_common {f : Addr} {fd : FuncData} (b_abs : mg "abs" = none) (F : Fun K "_law_common" "_law_common" s_law_common f fd) : FnOk P w K mg base CX0 1 f fd ["_law_one", "_law_other"] sp_gcd := by
  refine F.ok sc_law_common (fun vs H Q E h => ?_) (fun cdv A outer s H vs Q E hr h => ?_)
  · obtain ⟨a, b, rfl, _⟩ := h
    rfl
  obtain ⟨a, b, rfl, q⟩ := h
  refine ⟨_, (pss_cons (ps_par (i := 0) (j := 1) (by rfl) sc_law_common.nd rfl rfl (by decide) rfl rfl (pa_cons (pe_callB call_abs (by rfl) b_abs (by decide +kernel) (pa_cons (pv 0) pa_nil)) (pa_cons (pe_callB call_abs (by rfl) b_abs (by decide +kernel) (pa_cons (pv 1) pa_nil)) pa_nil)) (by rfl))
    (pss_cons (ps_while PassesOwn.never (pt_cmpR (op_gt) (pv 1) pe_int (nomark _)) (pss_one (ps_par (i := 0) (j := 1) (by rfl) sc_law_common.nd rfl rfl (by decide) rfl rfl (pa_cons (pv 1) (pa_cons (pe_op op_modN (pv 0) (pv 1)) pa_nil)) (by rfl))))
    (pss_one (ps_ret (pv 0))))), ?_⟩
  refine ⟨_, rfl, _, rfl, _, rfl, _, rfl, _, _, rfl, ?_⟩
  refine while_by (fun σ H' => H' = H ∧ ∃ x y : Int, σ = [some (.int x), some (.int y)] ∧ 0 ≤ x ∧ 0 ≤ y ∧ Int.gcd x y = Int.gcd a b) (fun σ _ => match σ with | [_, some (.int y)] => y.natAbs | _ => 0) ⟨rfl, _, _, rfl, ?_, ?_, ?_⟩ ?_ ?_
  · split <;> omega
  · split <;> omega
  · have e : ∀ z : Int, (if z < 0 then -z else z) = ((z.natAbs : Nat) : Int) := fun z => by split <;> omega
    rw [e, e]
    unfold Int.gcd
    rw [Int.natAbs_natCast, Int.natAbs_natCast]
  · rintro σ H' ⟨rfl, x, y, rfl, x0, y0, e⟩
    refine ⟨_, rfl, _, _, rfl, rfl, _, rfl, ?_⟩
    refine ite2 (fun c => ?_) (fun c => ?_)
    · have c' : 0 < y := of_decide_eq_true c
      refine ⟨_, rfl, _, rfl, _, rfl, _, _, rfl, rfl, (show y ≠ 0 by omega), _, _, rfl, ⟨rfl, _, _, rfl, y0, Int.fmod_nonneg_of_pos _ c', ?_⟩, ?_⟩
      · rw [gcd_fmod]; exact e
      · exact fmod_small (by omega)
    · have c' : ¬ 0 < y := of_decide_eq_false (Bool.eq_false_iff.mpr c)
      have y1 : y = 0 := by omega
      subst y1
      refine ⟨_, rfl, ?_⟩
      rw [← e, Int.gcd_zero_right] at q
      have ex : ((x.natAbs : Nat) : Int) = x := by omega
      rw [ex] at q
      exact q
  · rintro σ H' Q1 Q2 hq ⟨v, h1, i, j, h2, h3, k, h4, h5⟩
    exact ⟨v, h1, i, j, h2, h3, k, h4, hq _ _ h5⟩
theorem ok_law_lowest {f : Addr} {fd : FuncData} (d_law_common : D P w K mg base "_law_common" 1 sp_gcd) (F : Fun K "_law_lowest" "_law_lowest" s_law_lowest f fd) : FnOk P w K mg base CX0 2 f fd ["_law_x", "_law_y", "_law_q"] (sp_low K) := by
  refine F.ok sc_law_lowest (fun vs H Q E h => ?_) (fun cdv A outer s H vs Q E hr h => ?_)
  · obtain ⟨x, y, d, rfl, _⟩ := h
    rfl
  obtain ⟨x, y, d, rfl, hd, hB, q⟩ := h
  refine ⟨_, (pss_cons (ps_set (i := 3) sc_law_lowest.nd rfl (by first | exact Or.inl rfl | exact Or.inr rfl) (pc d_law_common (hr.mono (by decide)) (pa_cons (pc d_law_common (hr.mono (by decide)) (pa_cons (pv 0) (pa_cons (pv 1) pa_nil))) (pa_cons (pv 2) pa_nil))))
    (pss_cons (ps_set (i := 3) sc_law_lowest.nd rfl (by first | exact Or.inl rfl | exact Or.inr rfl) (pe_ifExp (pt_cmpR (op_gt) (pv 2) pe_int (nomark _)) (pv 3) (pe_op op_sub pe_int (pv 3))))
    (pss_one (ps_ret (pe_tup (pa_cons (pe_op op_fdivX (pv 0) (pv 3)) (pa_cons (pe_op op_fdivX (pv 1) (pv 3)) (pa_cons (pe_op op_fdivX (pv 2) (pv 3)) pa_nil)))))))), ?_⟩
  refine ⟨_, rfl, _, rfl, _, _, rfl, _, rfl, _, _, rfl, ?_⟩
  refine ⟨_, rfl, _, _, rfl, rfl, _, rfl, ?_⟩
  have hc : CDivX x (sg x y d) ∧ CDivX y (sg x y d) ∧ CDivX d (sg x y d) := ⟨divX (sg_ne hd) (g3_lt hd hB) (by decide) (by decide), divX (sg_ne hd) (g3_lt hd hB) (by decide) (by decide), divX (sg_ne hd) (g3_lt hd hB) (by decide) (by decide)⟩
  refine ite2 (fun c => ?_) (fun c => ?_)
  · have es : sg x y d = g3 x y d := if_neg (by have := of_decide_eq_true c; omega)
    rw [es] at hc
    refine ⟨_, rfl, ?_⟩
    refine ⟨_, rfl, _, rfl, _, _, rfl, rfl, hc.1, _, rfl, _, rfl, _, _, rfl, rfl, hc.2.1, _, rfl, _, rfl, _, _, rfl, rfl, hc.2.2, (by show 3 ≤ sizeLine; decide), fun p hp => ?_⟩
    refine q _ _ (same_new hp _) ?_
    unfold low
    rw [es]
    exact IsT.new
  · have es : sg x y d = 0 - g3 x y d := by
      rw [Int.zero_sub]
      exact if_pos (by have := of_decide_eq_false (Bool.eq_false_iff.mpr c); omega)
    rw [es] at hc
    refine ⟨_, rfl, _, _, rfl, rfl, ?_⟩
    refine ⟨_, rfl, _, rfl, _, _, rfl, rfl, hc.1, _, rfl, _, rfl, _, _, rfl, rfl, hc.2.1, _, rfl, _, rfl, _, _, rfl, rfl, hc.2.2, (by show 3 ≤ sizeLine; decide), fun p hp => ?_⟩
    refine q _ _ (same_new hp _) ?_
    unfold low
    rw [es]
    exact IsT.new
/-! ### draws -/
structure TurnIn (t : T3) : Prop where
  ok : Ok t
  nz : Nz t
  bd : B 3 t
  mem : t ∈ turns13
structure SpotIn (t : T3) : Prop where
  ok : Ok t
  bd : B 3 t
def sp_draw (g : Hp → V → Prop) : Sp := fun vs H Q _ => ∃ (d : Addr) (st : Src), vs = [.ref d] ∧ H d = some (.lst (encD st)) ∧ SrcOk st ∧
  ∀ H' st' r, Keep d H H' → H' d = some (.lst (encD st')) → SrcOk st' → g H' r → Q r H'
instance (t : T3) : Decidable (Ok t) := inferInstanceAs (Decidable (_ ∧ _))
instance (t : T3) : Decidable (Nz t) := inferInstanceAs (Decidable (_ ∨ _))
theorem turns_in : ∀ t ∈ turns13, TurnIn t := by
  have h : ∀ t ∈ turns13, Ok t ∧ Nz t ∧ B 3 t := by decide +kernel
  exact fun t ht => ⟨(h t ht).1, (h t ht).2.1, (h t ht).2.2, ht⟩
theorem paired_at {ps : List Addr} {ts : List T3} {R : Addr → T3 → Prop} (h : Paired R ps ts) : ∀ {i : Nat}, i < ts.length → ∃ p t, ps[i]? = some p ∧ t ∈ ts ∧ R p t := by
  induction h with
  | nil => intro i hi; cases hi
  | cons r _ ih =>
    intro i hi
    cases i with
    | zero => exact ⟨_, _, rfl, List.mem_cons_self .., r⟩
    | succ i =>
      obtain ⟨p, t, h1, h2, h3⟩ := ih (i := i) (by simpa using hi)
      exact ⟨p, t, by simpa using h1, List.mem_cons_of_mem _ h2, h3⟩
theorem paired_app {R : Addr → T3 → Prop} : ∀ {ps qs : List Addr} {ts us : List T3}, Paired R ps ts → Paired R qs us → Paired R (ps ++ qs) (ts ++ us)
  | _, _, _, _, .nil, k => k
  | _, _, _, _, .cons r t, k => .cons r (paired_app t k)
theorem paired_imp {R S : Addr → T3 → Prop} (h : ∀ p t, R p t → S p t) : ∀ {ps : List Addr} {ts : List T3}, Paired R ps ts → Paired S ps ts
  | _, _, .nil => .nil
  | _, _, .cons r t => .cons (h _ _ r) (paired_imp h t)
theorem at_map {ps : List Addr} {i : Nat} {p : Addr} {z : Int} (h : ps[i]? = some p) (hz : z = (i : Int)) : atI (ps.map V.ref) z = some (.ref p) := by
  rw [hz]
  exact atI_nat (by rw [List.getElem?_map, h]; rfl)
theorem ok_law_turn {f : Addr} {fd : FuncData} (d_law_below : D P w K mg base "_law_below" 1 sp_below) (F : Fun K "_law_turn" "_law_turn" s_law_turn f fd) : FnOk P w K mg base CX0 2 f fd ["_law_d"] (sp_draw fun H r => ∃ t, IsT K H r t ∧ TurnIn t) := by
  refine F.ok sc_law_turn (fun vs H Q E h => ?_) (fun cdv A outer s H vs Q E hr h => ?_)
  · obtain ⟨d, st, rfl, _⟩ := h
    rfl
  obtain ⟨d, st, rfl, hd, ok, q⟩ := h
  refine ⟨_, (pss_cons (ps_set (i := 1) sc_law_turn.nd rfl (by first | exact Or.inl rfl | exact Or.inr rfl) (pe_lst (paT (t := (1, 0, 1)) (pe_tup (pa_cons pe_int (pa_cons pe_int (pa_cons pe_int pa_nil)))) (fun σ H Q h => ⟨(by show 3 ≤ sizeLine; decide), fun p hp => h _ _ (same_new hp _) (.inl (.inl upd_same))⟩) (paT (t := (-1, 0, 1)) (pe_tup (pa_cons (pe_op op_sub pe_int pe_int) (pa_cons pe_int (pa_cons pe_int pa_nil)))) (fun σ H Q h => ⟨_, _, rfl, rfl, (by show 3 ≤ sizeLine; decide), fun p hp => h _ _ (same_new hp _) (.inl (.inl upd_same))⟩) (paT (t := (0, 1, 1)) (pe_tup (pa_cons pe_int (pa_cons pe_int (pa_cons pe_int pa_nil)))) (fun σ H Q h => ⟨(by show 3 ≤ sizeLine; decide), fun p hp => h _ _ (same_new hp _) (.inl (.inl upd_same))⟩) (paT (t := (0, -1, 1)) (pe_tup (pa_cons pe_int (pa_cons (pe_op op_sub pe_int pe_int) (pa_cons pe_int pa_nil)))) (fun σ H Q h => ⟨_, _, rfl, rfl, (by show 3 ≤ sizeLine; decide), fun p hp => h _ _ (same_new hp _) (.inl (.inl upd_same))⟩) (paT (t := (2, 0, 1)) (pe_tup (pa_cons pe_int (pa_cons pe_int (pa_cons pe_int pa_nil)))) (fun σ H Q h => ⟨(by show 3 ≤ sizeLine; decide), fun p hp => h _ _ (same_new hp _) (.inl (.inl upd_same))⟩) (paT (t := (1, 0, 2)) (pe_tup (pa_cons pe_int (pa_cons pe_int (pa_cons pe_int pa_nil)))) (fun σ H Q h => ⟨(by show 3 ≤ sizeLine; decide), fun p hp => h _ _ (same_new hp _) (.inl (.inl upd_same))⟩) (paT (t := (1, 1, 1)) (pe_tup (pa_cons pe_int (pa_cons pe_int (pa_cons pe_int pa_nil)))) (fun σ H Q h => ⟨(by show 3 ≤ sizeLine; decide), fun p hp => h _ _ (same_new hp _) (.inl (.inl upd_same))⟩) (paT (t := (3, 4, 5)) (pe_tup (pa_cons pe_int (pa_cons pe_int (pa_cons pe_int pa_nil)))) (fun σ H Q h => ⟨(by show 3 ≤ sizeLine; decide), fun p hp => h _ _ (same_new hp _) (.inl (.inl upd_same))⟩) paT0))))))))))
    (pss_cons (ps_set (i := 1) sc_law_turn.nd rfl (by first | exact Or.inl rfl | exact Or.inr rfl) (pe_op op_cat (pv 1) (pe_lst (paT (t := (0, 2, 1)) (pe_tup (pa_cons pe_int (pa_cons pe_int (pa_cons pe_int pa_nil)))) (fun σ H Q h => ⟨(by show 3 ≤ sizeLine; decide), fun p hp => h _ _ (same_new hp _) (.inl (.inl upd_same))⟩) (paT (t := (-1, 0, 3)) (pe_tup (pa_cons (pe_op op_sub pe_int pe_int) (pa_cons pe_int (pa_cons pe_int pa_nil)))) (fun σ H Q h => ⟨_, _, rfl, rfl, (by show 3 ≤ sizeLine; decide), fun p hp => h _ _ (same_new hp _) (.inl (.inl upd_same))⟩) (paT (t := (1, -1, 2)) (pe_tup (pa_cons pe_int (pa_cons (pe_op op_sub pe_int pe_int) (pa_cons pe_int pa_nil)))) (fun σ H Q h => ⟨_, _, rfl, rfl, (by show 3 ≤ sizeLine; decide), fun p hp => h _ _ (same_new hp _) (.inl (.inl upd_same))⟩) (paT (t := (2, 1, 1)) (pe_tup (pa_cons pe_int (pa_cons pe_int (pa_cons pe_int pa_nil)))) (fun σ H Q h => ⟨(by show 3 ≤ sizeLine; decide), fun p hp => h _ _ (same_new hp _) (.inl (.inl upd_same))⟩) (paT (t := (-4, 3, 5)) (pe_tup (pa_cons (pe_op op_sub pe_int pe_int) (pa_cons pe_int (pa_cons pe_int pa_nil)))) (fun σ H Q h => ⟨_, _, rfl, rfl, (by show 3 ≤ sizeLine; decide), fun p hp => h _ _ (same_new hp _) (.inl (.inl upd_same))⟩) paT0))))))))
    (pss_one (ps_ret (pe_ix ix_list (pv 1) (pc d_law_below (hr.mono (by decide)) (pa_cons (pv 0) (pa_cons pe_int pa_nil))) (fun _ _ => rfl)))))), ?_⟩
  intro H1 ps s1 h1
  have l1 : (ps.map V.ref).length = 8 := by rw [List.length_map, Paired.length h1]; rfl
  refine ⟨by rw [l1]; decide, fun a ha => ?_⟩
  refine ⟨_, rfl, ?_⟩
  intro H2 qs s2 h2
  have l2 : (qs.map V.ref).length = 5 := by rw [List.length_map, Paired.length h2]; rfl
  refine ⟨by rw [l2]; decide, fun b hb => ?_⟩
  have sa := same_new ha (.lst (ps.map V.ref))
  have sb := same_new hb (.lst (qs.map V.ref))
  refine ⟨a, b, _, _, rfl, rfl, sb _ _ (s2 _ _ upd_same), upd_same, by rw [l1, l2]; decide, fun c hc => ?_⟩
  have sc := same_new hc (.lst (ps.map V.ref ++ qs.map V.ref))
  have sAll := s1.trans (sa.trans (s2.trans (sb.trans sc)))
  refine ⟨_, rfl, _, rfl, d, _, st, rfl, by decide, by decide, sAll _ _ hd, ok, fun st' r ok' r0 r1 => ?_⟩
  have hcd : c ≠ d := fun z => by
    have := sb _ _ (s2 _ _ (sa _ _ (s1 _ _ hd)))
    rw [← z, hc] at this
    cases this
  have pr : Paired (fun p t => SqT K (upd (upd (upd H2 b (.lst (qs.map V.ref))) c (.lst (ps.map V.ref ++ qs.map V.ref))) d (.lst (encD st'))) p (v3 t)) (ps ++ qs) turns13 :=
    paired_app (paired_imp (fun p t z => keep_T (same_T (sa.trans (s2.trans (sb.trans sc))) z) (sAll _ _ hd) keep_upd) h1) (paired_imp (fun p t z => keep_T (same_T (sb.trans sc) z) (sAll _ _ hd) keep_upd) h2)
  obtain ⟨p, t, e1, e2, e3⟩ := paired_at pr (i := r.toNat) (by show r.toNat < 13; omega)
  refine ⟨c, _, _, _, rfl, rfl, .inl (.inl ?_), at_map (ps := ps ++ qs) e1 (by omega), ?_⟩
  · rw [upd_ne hcd, upd_same, List.map_append]
  · exact q _ st' _ ((Keep.of sAll).trans keep_upd) upd_same ok' ⟨t, ⟨p, rfl, e3⟩, turns_in t e2⟩
theorem ok_law_spot {f : Addr} {fd : FuncData} (d_law_below : D P w K mg base "_law_below" 1 sp_below) (d_law_lowest : D P w K mg base "_law_lowest" 2 (sp_low K)) (F : Fun K "_law_spot" "_law_spot" s_law_spot f fd) : FnOk P w K mg base CX0 3 f fd ["_law_d"] (sp_draw fun H r => ∃ t, IsT K H r t ∧ SpotIn t) := by
  refine F.ok sc_law_spot (fun vs H Q E h => ?_) (fun cdv A outer s H vs Q E hr h => ?_)
  · obtain ⟨d, st, rfl, _⟩ := h
    rfl
  obtain ⟨d, st, rfl, hd, ok, q⟩ := h
  refine ⟨_, (pss_cons (ps_set (i := 1) sc_law_spot.nd rfl (by first | exact Or.inl rfl | exact Or.inr rfl) (pe_ix ix_list (pe_lst (pa_cons pe_int (pa_cons pe_int (pa_cons pe_int (pa_cons pe_int (pa_cons pe_int (pa_cons pe_int pa_nil))))))) (pc d_law_below (hr.mono (by decide)) (pa_cons (pv 0) (pa_cons pe_int pa_nil))) (fun _ _ => rfl)))
    (pss_one (ps_ret (pc d_law_lowest (hr.mono (by decide)) (pa_cons (pe_op op_sub (pc d_law_below (hr.mono (by decide)) (pa_cons (pv 0) (pa_cons pe_int pa_nil))) pe_int) (pa_cons (pe_op op_sub (pc d_law_below (hr.mono (by decide)) (pa_cons (pv 0) (pa_cons pe_int pa_nil))) pe_int) (pa_cons (pv 1) pa_nil))))))), ?_⟩
  refine ⟨(by show 6 ≤ sizeLine; decide), fun a ha => ?_⟩
  have sa := same_new ha (.lst [.int 1, .int 1, .int 1, .int 2, .int 3, .int 4])
  refine ⟨_, rfl, d, _, st, rfl, by decide, by decide, sa _ _ hd, ok, fun st1 r ok1 r0 r1 => ?_⟩
  have had : a ≠ d := fun z => by rw [← z, ha] at hd; cases hd
  obtain ⟨c, hc, c1, c4⟩ : ∃ c : Int, atI [V.int 1, .int 1, .int 1, .int 2, .int 3, .int 4] r = some (.int c) ∧ 1 ≤ c ∧ c ≤ 4 := by
    have : r = 0 ∨ r = 1 ∨ r = 2 ∨ r = 3 ∨ r = 4 ∨ r = 5 := by omega
    rcases this with rfl | rfl | rfl | rfl | rfl | rfl
    · exact ⟨1, by rfl, by decide, by decide⟩
    · exact ⟨1, by rfl, by decide, by decide⟩
    · exact ⟨1, by rfl, by decide, by decide⟩
    · exact ⟨2, by rfl, by decide, by decide⟩
    · exact ⟨3, by rfl, by decide, by decide⟩
    · exact ⟨4, by rfl, by decide, by decide⟩
  refine ⟨a, _, _, _, rfl, rfl, .inl (.inl (by rw [upd_ne had]; exact upd_same)), hc, ?_⟩
  refine ⟨_, rfl, d, _, st1, rfl, by decide, by decide, upd_same, ok1, fun st2 x ok2 x0 x1 => ?_⟩
  refine ⟨_, _, rfl, rfl, _, rfl, d, _, st2, rfl, by decide, by decide, upd_same, ok2, fun st3 y ok3 y0 y1 => ?_⟩
  refine ⟨_, _, rfl, rfl, _, rfl, _, _, _, rfl, (by omega), (show c.natAbs < 2 ^ 8500 from Nat.lt_of_lt_of_le (show c.natAbs < 2 ^ 3 by omega) (pw (by decide))), fun H' r' s' i => ?_⟩
  refine q _ st3 _ ((Keep.of sa).trans (keep_upd.trans (keep_upd.trans (keep_upd.trans (Keep.of s'))))) (s' _ _ upd_same) ok3 ⟨_, i, low_ok (by omega), low_B (by omega) ?_ ?_ ?_⟩ <;> show _ < 8 <;> omega
end
end My

namespace My
open PySem L2 Mth

section
variable {P : Program} {w : World} {K : PySem.W.Frag} {mg : Str → Option Value} {base : Heap}
/-- a copy as it is told: (turn, shift, mirrored) -/
def IsD (K : PySem.W.Frag) (H : Hp) (v : V) (c : Cp) : Prop := ∃ p a b, v = .ref p ∧ SqT K H p [.ref a, .ref b, .bl c.m] ∧ SqT K H a (v3 c.t) ∧ SqT K H b (v3 c.s)
theorem IsD.same {H H' : Hp} {v : V} {c : Cp} (h : IsD K H v c) (e : Same H H') : IsD K H' v c := by
  obtain ⟨p, a, b, rfl, h1, h2, h3⟩ := h
  exact ⟨p, a, b, rfl, same_T e h1, same_T e h2, same_T e h3⟩
theorem IsD.keep {H H' : Hp} {v : V} {c : Cp} {d : Addr} {ys : List V} (h : IsD K H v c) (hd : H d = some (.lst ys)) (e : Keep d H H') : IsD K H' v c := by
  obtain ⟨p, a, b, rfl, h1, h2, h3⟩ := h
  exact ⟨p, a, b, rfl, keep_T h1 hd e, keep_T h2 hd e, keep_T h3 hd e⟩
structure CopyIn (c : Cp) : Prop where
  ok : CpOk c
  bd : BC 3 c
  mem : c.t ∈ turns13
def sp_lcar (K : PySem.W.Frag) : Sp := fun vs H Q _ => ∃ vc c vz z, vs = [vc, vz] ∧ IsD K H vc c ∧ CpOk c ∧ BC 1900 c ∧ IsT K H vz z ∧ Ok z ∧ B 1900 z ∧ ∀ H' r, Same H H' → IsT K H' r (ap c z) → Q r H'
/-! ### equal at every level -/
theorem DpAll.get {H : Hp} : ∀ {xs : List V} {ds : List PyData}, DpAll K H xs ds → xs.length = ds.length ∧ ∀ (i : Nat) x, xs[i]? = some x → ∃ d, ds[i]? = some d ∧ Dp K H x d
  | _, _, .nil => ⟨rfl, fun i x h => by simp at h⟩
  | _, _, .cons h t => by
    obtain ⟨e, g⟩ := DpAll.get t
    refine ⟨by rw [List.length_cons, List.length_cons, e], fun i x hx => ?_⟩
    cases i with
    | zero => exact ⟨_, rfl, by simp at hx; rw [← hx]; exact h⟩
    | succ i => exact g i x (by simpa using hx)
mutual
theorem Dp.same {H H' : Hp} (s : Same H H') : ∀ {v : V} {d : PyData}, Dp K H v d → Dp K H' v d
  | _, _, .non => .non
  | _, _, .bl b => .bl b
  | _, _, .int i => .int i
  | _, _, .str x => .str x
  | _, _, .lst h t => .lst (s.seq h) (DpAll.same s t)
  | _, _, .tup h t => .tup (same_T s h) (DpAll.same s t)
theorem DpAll.same {H H' : Hp} (s : Same H H') : ∀ {vs : List V} {ds : List PyData}, DpAll K H vs ds → DpAll K H' vs ds
  | _, _, .nil => .nil
  | _, _, .cons h t => .cons (Dp.same s h) (DpAll.same s t)
end
/-- how deep -/
def Deep : Nat → PyData → Prop
  | 0, _ => False
  | n + 1, .list ds => ds.length ≤ 1000 ∧ ∀ d ∈ ds, Deep n d
  | n + 1, .tuple ds => ds.length ≤ 1000 ∧ ∀ d ∈ ds, Deep n d
  | _ + 1, .dict _ => False
  | _ + 1, _ => True
def sp_equal (K : PySem.W.Frag) (n : Nat) : Sp := fun vs H Q _ => ∃ va vb d, vs = [va, vb] ∧ Dp K H va d ∧ Dp K H vb d ∧ Deep n d ∧ ∀ H', Same H H' → Q (.bl true) H'
theorem ty_L {H : Hp} {a : Addr} {xs : List V} (h : SqL K H a xs) : TyX K H (.ref a) (.type "list") := by
  rcases h with (h | ⟨o, h⟩) | ⟨o, its, n, h, c, _⟩
  · exact .base (.lst h)
  · exact .base (.frz h)
  · exact .kList h c
end
end My

namespace My
open PySem L2 Mth
section
variable {K : PySem.W.Frag}
theorem IsC.keep {C : Addr} {H H' : Hp} {v : V} {c : Cp} {d : Addr} {ys : List V} (h : IsC K C H v c) (hd : H d = some (.lst ys)) (e : Keep d H H') : IsC K C H' v c := by
  obtain ⟨p, dx, a, b, rfl, h1, h2, h3⟩ := h
  exact ⟨p, dx, a, b, rfl, e _ _ (ne_of h1 hd (by intro z; cases z)) h1, keep_T h2 hd e, keep_T h3 hd e⟩
def sp_copyOf (K : PySem.W.Frag) (C : Addr) : Sp := fun vs H Q _ => ∃ vc c, vs = [vc] ∧ IsD K H vc c ∧ CpOk c ∧ ∀ H' r, Same H H' → IsC K C H' r c → Q r H'
end
end My

namespace My
open PySem L2 Mth
section
variable {K : PySem.W.Frag}
theorem asg_of {te : TE} {g : TG} {u : TS} {D : Ends} {σ : L2.St} {H : Hp} (h : te σ H fun x H1 => g x σ H1 (u D)) : tSeq (tAsg te g) u D σ H := h
theorem gn_of {i : Nat} {v : V} {σ : L2.St} {H : Hp} {Q : L2.St → Hp → Prop} (h : Q (σ.set i (some v)) H) : gName i v σ H Q := h
theorem nil_of {σ : L2.St} {H : Hp} {Q : List V → Hp → Prop} (h : Q [] H) : tNil σ H Q := h
theorem te_join {t : TE} {σ : L2.St} {H : Hp} {Q : VK} (W : V → Hp → Prop) (k : ∀ v H', W v H' → Q v H') (h : ∀ Q' : VK, (∀ v H', W v H' → Q' v H') → t σ H Q') : t σ H Q := h Q k
theorem seq_assoc {A B C : TS} {D : Ends} {σ : L2.St} {H : Hp} (h : tSeq (tSeq A B) C D σ H) : tSeq A (tSeq B C) D σ H := h
end
end My

namespace My
open PySem L2 Mth
section
variable {K : PySem.W.Frag}
theorem t3_of {H : Hp} {Q : VK} {t : T3} (q : ∀ H' r, Same H H' → IsT K H' r t → Q r H') : ∀ p, H p = none → Q (.ref p) (upd H p (.tup (v3 t))) := fun p hp => q _ _ (same_new hp _) ⟨p, rfl, .inl (.inl upd_same)⟩
theorem eqv2 (a b : Int) : PyData.eqv (.tuple [.int a, .int b]) (.tuple [.int a, .int b]) = true := by
  show ((a == a) && ((b == b) && true)) = true
  simp
theorem Dp2 {H : Hp} {p : Addr} {a b : Int} (h : SqT K H p [.int a, .int b]) : Dp K H (.ref p) (.tuple [.int a, .int b]) := .tup h (.cons (.int _) (.cons (.int _) .nil))
theorem IsT.dp {H : Hp} {v : V} {t : T3} (h : IsT K H v t) : Dp K H v (d3 t) := by
  obtain ⟨p, rfl, q⟩ := h
  exact Dp3 q
theorem deep3 (n : Nat) (t : T3) : Deep (n + 2) (d3 t) := by
  refine ⟨(by show 3 ≤ 1000; decide), fun d hd => ?_⟩
  simp only [List.mem_cons, List.mem_nil_iff, or_false] at hd
  rcases hd with rfl | rfl | rfl <;> trivial
theorem deep2 (n : Nat) (a b : Int) : Deep (n + 2) (.tuple [.int a, .int b]) := by
  refine ⟨(by show 2 ≤ 1000; decide), fun d hd => ?_⟩
  simp only [List.mem_cons, List.mem_nil_iff, or_false] at hd
  rcases hd with rfl | rfl <;> trivial
/-- equal at every level, of two spots -/
theorem eq3_of {H : Hp} {Q : VK} {va vb : V} {a b : T3} {n : Nat} (ia : IsT K H va a) (ib : IsT K H vb b) (e : a = b) (q : ∀ H', Same H H' → Q (.bl true) H') : sp_equal K (n + 2) [va, vb] H Q E0 := by
  subst e
  exact ⟨va, vb, d3 a, rfl, ia.dp, ib.dp, deep3 n a, q⟩
end
end My

namespace My
open PySem L2 Mth
open PyProof.Rows PySem.Spec
section
variable {P : Program} {w : World} {K : PySem.W.Frag} {mg : Str → Option Value} {base : Heap}
/-! ### the class's operations as its users see them -/
structure MRs (P : Program) (w : World) (K : PySem.W.Frag) (mg : Str → Option Value) (base : Heap) (C : Addr) : Prop where
  sf : PySem.W.selfFirst K C = true
  ex : ∃ f, FnR P w K mg base CX0 6 f (sp_jn K C) ∧ PySem.W.findIn K (.ref C) "__rshift__" = some (some (.ref f)) ∧ PySem.W.isFn K (.ref f) = true
structure MIv (P : Program) (w : World) (K : PySem.W.Frag) (mg : Str → Option Value) (base : Heap) (C : Addr) : Prop where
  ex : ∃ f, FnR P w K mg base CX0 6 f (sp_bk K C) ∧ PySem.W.findIn K (.ref C) "__invert__" = some (some (.ref f)) ∧ PySem.W.isFn K (.ref f) = true
structure MEq (P : Program) (w : World) (K : PySem.W.Frag) (mg : Str → Option Value) (base : Heap) (C : Addr) : Prop where
  ex : ∃ f, FnR P w K mg base CX0 1 f (sp_ceq K C) ∧ PySem.W.findIn K (.ref C) "__eq__" = some (some (.ref f)) ∧ PySem.W.isFn K (.ref f) = true
structure MCa (P : Program) (w : World) (K : PySem.W.Frag) (mg : Str → Option Value) (base : Heap) (C : Addr) : Prop where
  ex : ∃ f, FnR P w K mg base CX0 5 f (sp_ap K C) ∧ StX.CallO K C f
structure MPt (P : Program) (w : World) (K : PySem.W.Frag) (mg : Str → Option Value) (base : Heap) (C : Addr) : Prop where
  cl : Cls K C
  ex : ∃ f fd p, FnOk P w K mg base CX0 1 f fd ["self"] (sp_get K C fun c H r => IsT K H r c.t) ∧ Binds K fd ["self"] [] ∧ PropOf K C "turn" p f
structure MPs (P : Program) (w : World) (K : PySem.W.Frag) (mg : Str → Option Value) (base : Heap) (C : Addr) : Prop where
  cl : Cls K C
  ex : ∃ f fd p, FnOk P w K mg base CX0 1 f fd ["self"] (sp_get K C fun c H r => IsT K H r c.s) ∧ Binds K fd ["self"] [] ∧ PropOf K C "shift" p f
structure MPm (P : Program) (w : World) (K : PySem.W.Frag) (mg : Str → Option Value) (base : Heap) (C : Addr) : Prop where
  cl : Cls K C
  ex : ∃ f fd p, FnOk P w K mg base CX0 1 f fd ["self"] (sp_get K C fun c H r => r = .bl c.m) ∧ Binds K fd ["self"] [] ∧ PropOf K C "mirrored" p f
structure MPg (P : Program) (w : World) (K : PySem.W.Frag) (mg : Str → Option Value) (base : Heap) (C : Addr) : Prop where
  cl : Cls K C
  ex : ∃ f fd p, FnOk P w K mg base CX0 3 f fd ["self"] (sp_growth K C) ∧ Binds K fd ["self"] [] ∧ PropOf K C "growth" p f
section
variable {X : Cx} {C : Addr} {fe e : Expr} {es : List Expr} {te tf : TE} {t : TA} {pos : Pos}
theorem op_rsh (M : MRs X.prog X.w X.K X.mg X.base C) (hr : Room 6 X.A) : OpR X (binaryOp .RShift) (rOwn2 C (sp_jn X.K C)) := by
  obtain ⟨f, F, h1, h2⟩ := M.ex
  exact op_own (op := .RShift) F hr M.sf h1 h2
theorem un_inv' (M : MIv X.prog X.w X.K X.mg X.base C) (hr : Room 6 X.A) : UnR X (unaryOp .Invert) (rOwn1 C (sp_bk X.K C)) := by
  obtain ⟨f, F, h1, h2⟩ := M.ex
  exact un_own F hr h1 h2
theorem op_ceq (M : MEq X.prog X.w X.K X.mg X.base C) (hr : Room 1 X.A) : OpR X (compareOp .Eq) (rOwn2 C (sp_ceq X.K C)) := by
  obtain ⟨f, F, h1, h2⟩ := M.ex
  exact eq_own F hr h1 h2
def tAp (K : PySem.W.Frag) (C : Addr) (tf : TE) (t : TA) : TE := fun σ H Q => tf σ H fun y H1 => ∃ a, y = V.ref a ∧ t σ H1 fun vs H2 => (∃ dx fs, H2 a = some (.ins C dx fs)) ∧ sp_ap K C (V.ref a :: vs) H2 Q E0
theorem pe_ap (M : MCa X.prog X.w X.K X.mg X.base C) (hr : Room 5 X.A) (hf : PE X fe tf) (ha : PA X (e :: es) t)
    (ht : eval (.Call fe (e :: es) [] pos) X.env = (do callWith pos (← eval fe X.env) [] (backTo pos (starEach (e :: es) X.env)) (backToKw pos (keywordEach [] X.env))) := by rfl)
    (he : starEach (e :: es) X.env = (false, eval e X.env) :: starEach es X.env := by rfl) (hpl : (backTo pos (starEach es X.env)).any (·.1) = false := by rfl) : PE X (.Call fe (e :: es) [] pos) (tAp X.K C tf t) := by
  obtain ⟨g, F, c⟩ := M.ex
  refine ⟨fun pins s σ H Q I h => ?_⟩
  refine Call_ (thn (hf.run pins s σ H _ I h) fun u s1 ⟨y, H1, I1, ry, a, ey, q⟩ => ?_) ht
  subst ey
  obtain rfl : u = Value.ref a := ry
  refine StX.callO_with (thn (ha.run pos pins s1 σ H1 _ I1 q) fun us s2 ⟨vs, H2, I2, r, hi, q2⟩ => ?_) he hpl
  have hi' : StX.InsC X H2 a C := .inr hi
  obtain ⟨ox, od, J, hd⟩ := StX.insC_at I2 hi'
  exact ⟨⟨C, ox, od, J, hd⟩, StX.run_callO c F hr pass0 I2 hi' r q2⟩
theorem pe_turn (M : MPt X.prog X.w X.K X.mg X.base C) (hr : Room 2 X.A) (he : PE X e te) (hab : attributeBase e "turn" X.env (eval e X.env) = eval e X.env := by rfl) : PE X (.Attribute e "turn" pos) (tProp C (sp_get X.K C fun c H r => IsT X.K H r c.t) [] E0 te) := by
  obtain ⟨f, fd, p, F, b, hp⟩ := M.ex
  exact pe_prop he M.cl hp F hr b .nil pass0 hab
theorem pe_shift (M : MPs X.prog X.w X.K X.mg X.base C) (hr : Room 2 X.A) (he : PE X e te) (hab : attributeBase e "shift" X.env (eval e X.env) = eval e X.env := by rfl) : PE X (.Attribute e "shift" pos) (tProp C (sp_get X.K C fun c H r => IsT X.K H r c.s) [] E0 te) := by
  obtain ⟨f, fd, p, F, b, hp⟩ := M.ex
  exact pe_prop he M.cl hp F hr b .nil pass0 hab
theorem pe_mirr (M : MPm X.prog X.w X.K X.mg X.base C) (hr : Room 2 X.A) (he : PE X e te) (hab : attributeBase e "mirrored" X.env (eval e X.env) = eval e X.env := by rfl) : PE X (.Attribute e "mirrored" pos) (tProp C (sp_get X.K C fun c _ r => r = .bl c.m) [] E0 te) := by
  obtain ⟨f, fd, p, F, b, hp⟩ := M.ex
  exact pe_prop he M.cl hp F hr b .nil pass0 hab
theorem pe_grow (M : MPg X.prog X.w X.K X.mg X.base C) (hr : Room 4 X.A) (he : PE X e te) (hab : attributeBase e "growth" X.env (eval e X.env) = eval e X.env := by rfl) : PE X (.Attribute e "growth" pos) (tProp C (sp_growth X.K C) [] E0 te) := by
  obtain ⟨f, fd, p, F, b, hp⟩ := M.ex
  exact pe_prop he M.cl hp F hr b .nil pass0 hab
end
/-! ### readings of these, from what is known of the objects -/
theorem prop_of {C : Addr} {H : Hp} {Q : VK} {sp : Sp} {v : V} {c : Cp} (i : IsC K C H v c) (q : sp [v] H Q E0) : ∃ a dx fs, v = .ref a ∧ H a = some (.ins C dx fs) ∧ sp (.ref a :: []) H Q E0 := by
  obtain ⟨p, dx, a, b, rfl, h1, _⟩ := i
  exact ⟨p, dx, _, rfl, h1, q⟩
theorem ap_of {C : Addr} {H2 : Hp} {Q : VK} {vz : V} {a : Addr} {c : Cp} {z : T3} (i : IsC K C H2 (.ref a) c) (ok : CpOk c) (bc : BC 1900 c) (iz : IsT K H2 vz z) (oz : Ok z) (bz : B 1900 z) (q : ∀ H' r, Same H2 H' → IsT K H' r (ap c z) → Q r H') :
    (∃ dx fs, H2 a = some (.ins C dx fs)) ∧ sp_ap K C [.ref a, vz] H2 Q E0 := by
  have i' := i
  obtain ⟨p, dx, _, _, e, h1, _⟩ := i
  cases e
  exact ⟨⟨dx, _, h1⟩, _, c, _, z, rfl, i', ok, bc, iz, oz, bz, q⟩
theorem jn_of {C : Addr} {H : Hp} {Q : VK} {x y : V} {a b : Cp} (ix : IsC K C H x a) (iy : IsC K C H y b) (oa : CpOk a) (ob : CpOk b) (ba : BC 1900 a) (bb : BC 1900 b) (q : ∀ H' r, Same H H' → IsC K C H' r (jn a b) → Q r H') : rOwn2 C (sp_jn K C) x y H Q :=
  own2_of ix iy ⟨_, a, _, b, rfl, ix, iy, oa, ob, ba, bb, q⟩
theorem bk_of {C : Addr} {H : Hp} {Q : VK} {x : V} {a : Cp} (ix : IsC K C H x a) (oa : CpOk a) (ba : BC 1900 a) (q : ∀ H' r, Same H H' → IsC K C H' r (bk a) → Q r H') : rOwn1 C (sp_bk K C) x H Q :=
  own1_of ix ⟨_, a, rfl, ix, oa, ba, q⟩
theorem ceq_of {C : Addr} {H : Hp} {Q : VK} {x y : V} {a b : Cp} (ix : IsC K C H x a) (iy : IsC K C H y b) (e : a = b) (q : Q (.bl true) H) : rOwn2 C (sp_ceq K C) x y H Q :=
  own2_of ix iy ⟨_, a, _, b, rfl, ix, iy, by rw [ceq_iff.mpr e]; exact q⟩
/-- a copy made, whatever is wanted of it -/
theorem mk_of2 {C : Addr} {H : Hp} {Qf : Addr → VK} {vt vs : V} {m : Bool} {t s : T3} (it : IsT K H vt t) (is : IsT K H vs s) (ot : Ok t) (nt : Nz t) (os : Ok s) (q : ∀ H' x, Same H H' → IsC K C H' (.ref x) ⟨t, s, m⟩ → Qf x .non H') :
    ∀ x dx, H x = none → H dx = none → dx ≠ x → sp_init K C [.ref x, vt, vs, .bl m] (upd (upd H dx (.own x)) x (.ins C dx [])) (Qf x) E0 := by
  intro x dx hx hd _
  refine ⟨H, x, dx, vt, vs, m, t, s, rfl, fun c o e => ?_, hx, upd_same, it, is, ot, nt, os, fun H' s' i => q _ _ s' i⟩
  rw [upd_ne (ne_of_none e hx), upd_ne (ne_of_none e hd)]
  exact e
theorem BC.mono {n m : Nat} {c : Cp} (b : BC n c) (h : n ≤ m) : BC m c := ⟨b.1.mono h, b.2.mono h⟩
theorem bk_BC {n : Nat} {c : Cp} (ok : CpOk c) (b : BC n c) : BC (3 * n + 2) (bk c) :=
  ⟨(face_B (inv_B ok.n b.1) _).mono (by omega), (face_B (neg_B (times_B (inv_ok ok.n) ok.s (inv_B ok.n b.1) b.2)) _).mono (by omega)⟩
theorem jn_BC {n m : Nat} {a b : Cp} (oa : CpOk a) (ob : CpOk b) (ba : BC n a) (bb : BC m b) : BC (n + 2 * m + 2) (jn a b) :=
  ⟨(times_B ob.t (face_ok oa.t _) bb.1 (face_B ba.1 _)).mono (by omega), (car_B ob.t ob.s oa.s bb.1 bb.2 ba.2).mono (by omega)⟩
theorem ap_B {n m : Nat} {c : Cp} {z : T3} (ok : CpOk c) (oz : Ok z) (b : BC n c) (bz : B m z) : B (2 * n + m + 2) (ap c z) := (car_B ok.t ok.s oz b.1 b.2 bz).mono (by omega)
theorem still_BC : BC 3 still := by unfold BC; exact ⟨by decide, by decide⟩
theorem gr3_B {t : T3} (o : Ok t) (b : B 3 t) : B 4000 (gr3 t) :=
  B.mono (n := 7) (low_B (mul_ne o.ne o.ne) (add_lt (mul_lt b.1 b.1) (mul_lt b.2.1 b.2.1)) (by decide) (up_lt (by decide) (mul_lt b.2.2 b.2.2))) (by decide)
end
end My

namespace My
open PySem L2 Mth
section
variable {P : Program} {w : World} {K : PySem.W.Frag} {mg : Str → Option Value} {base : Heap}
theorem bind_init {f : Addr} {fd : FuncData} (F : FunD K "__init__" "Copy.__init__" (defArgs s_Copy___init__) (defBody s_Copy___init__) (defScope s_Copy___init__) [] [("mirrored", .bl false)] f fd) :
    (∃ ds, Vals [.bl false] ds ∧ Binds K fd ["self", "turn", "shift", "mirrored"] ds) ∧ ∃ mv : List Value, KBn K fd ["self", "turn", "shift", "mirrored"] 3 ["mirrored"] (fun us ws => us ++ ws) (fun vs zs => vs ++ zs) := by
  refine ⟨F.binds0 (ps := ["self", "turn", "shift", "mirrored"]) 3 (by intro z; cases z) rfl fun D doc pm an cdv ct us ks h1 h2 => ?_, ?_⟩
  · match us, ks, h1, h2 with
    | [x, y, z], [k], _, _ => exact ⟨_, _, _, _, _, _, rfl, rfl, rfl⟩
  · refine F.kbinds0 (ps := ["self", "turn", "shift", "mirrored"]) 3 ["mirrored"] [] (fun us _ ws => us ++ ws) (by intro z; cases z) (fun q hq => by cases hq) (fun r1 _ r3 => r1.append r3) fun D doc pm an cdv ct us mv ws h1 h2 h3 => ?_
    match us, mv, ws, h1, h2, h3 with
    | [x, y, z], [], [k], _, _, _ => rfl
end
end My

namespace My
open PySem L2 Mth
section
theorem pimp {α β : Type} {R S : α → β → Prop} (h : ∀ p t, R p t → S p t) : ∀ {ps : List α} {ts : List β}, Paired R ps ts → Paired S ps ts
  | _, _, .nil => .nil
  | _, _, .cons r t => .cons (h _ _ r) (pimp h t)
theorem papp {α β : Type} {R : α → β → Prop} : ∀ {ps qs : List α} {ts us : List β}, Paired R ps ts → Paired R qs us → Paired R (ps ++ qs) (ts ++ us)
  | _, _, _, _, .nil, k => k
  | _, _, _, _, .cons r t, k => .cons r (papp t k)
theorem pget {α β : Type} {R : α → β → Prop} : ∀ {ps : List α} {ts : List β}, Paired R ps ts → ∀ {i : Nat} {p : α}, ps[i]? = some p → ∃ t, ts[i]? = some t ∧ R p t
  | _, _, .nil, i, p, h => by simp at h
  | _, _, .cons r t, 0, p, h => ⟨_, rfl, by simp at h; rw [← h]; exact r⟩
  | _, _, .cons r t, i + 1, p, h => by
    obtain ⟨u, h1, h2⟩ := pget t (i := i) (p := p) (by simpa using h)
    exact ⟨u, by simpa using h1, h2⟩
theorem prev {α β : Type} {R : α → β → Prop} {l : List α} {m : List β} (h : Paired R l m) : Paired R l.reverse m.reverse := by
  induction h with
  | nil => exact .nil
  | cons r _ ih => rw [List.reverse_cons, List.reverse_cons]; exact papp ih (.cons r .nil)
theorem pdrop {α β : Type} {R : α → β → Prop} {l : List α} {m : List β} (h : Paired R l m) : ∀ n, Paired R (l.drop n) (m.drop n) := by
  induction h with
  | nil => intro n; rw [List.drop_nil, List.drop_nil]; exact .nil
  | cons r t ih =>
    intro n
    cases n with
    | zero => exact .cons r t
    | succ n => exact ih n
theorem ptake {α β : Type} {R : α → β → Prop} {l : List α} {m : List β} (h : Paired R l m) : ∀ n, Paired R (l.take n) (m.take n) := by
  induction h with
  | nil => intro n; rw [List.take_nil, List.take_nil]; exact .nil
  | cons r t ih =>
    intro n
    cases n with
    | zero => exact .nil
    | succ n => exact .cons r (ih n)
end
end My

namespace My
open PySem L2 Mth
section
variable {K : PySem.W.Frag}
/-- a list of told copies, and of copies -/
def AllD (K : PySem.W.Frag) (H : Hp) (vs : List V) (cs : List Cp) : Prop := Paired (fun v c => IsD K H v c) vs cs
def AllC (K : PySem.W.Frag) (C : Addr) (H : Hp) (vs : List V) (cs : List Cp) : Prop := Paired (fun v c => IsC K C H v c) vs cs
theorem AllD.same {H H' : Hp} {vs : List V} {cs : List Cp} (h : AllD K H vs cs) (s : Same H H') : AllD K H' vs cs := pimp (fun _ _ i => i.same s) h
theorem AllC.same {C : Addr} {H H' : Hp} {vs : List V} {cs : List Cp} (h : AllC K C H vs cs) (s : Same H H') : AllC K C H' vs cs := pimp (fun _ _ i => i.same s) h
theorem AllD.keep {H H' : Hp} {vs : List V} {cs : List Cp} {d : Addr} {ys : List V} (h : AllD K H vs cs) (hd : H d = some (.lst ys)) (k : Keep d H H') : AllD K H' vs cs := pimp (fun _ _ i => i.keep hd k) h
theorem AllC.keep {C : Addr} {H H' : Hp} {vs : List V} {cs : List Cp} {d : Addr} {ys : List V} (h : AllC K C H vs cs) (hd : H d = some (.lst ys)) (k : Keep d H H') : AllC K C H' vs cs := pimp (fun _ _ i => i.keep hd k) h
theorem keep_new {d p : Addr} {H : Hp} {o : HO} (h : H p = none) : Keep d H (upd H p o) := Keep.of (same_new h o)
/-- the tolds that a comprehension over range(n) draws: the heap behind it -/
structure Drawn (K : PySem.W.Frag) (d L : Addr) (H H' : Hp) (n : Nat) : Prop where
  ex : ∃ st vs cs, Keep d H H' ∧ H' d = some (.lst (encD st)) ∧ SrcOk st ∧ H' L = some (.lst vs) ∧ vs.length = n ∧ AllD K H' vs cs ∧ ∀ c ∈ cs, CopyIn c
theorem drawn_start {d L : Addr} {H : Hp} {st : Src} (hd : H d = some (.lst (encD st))) (ok : SrcOk st) (hL : H L = none) : Drawn K d L H (upd H L (.lst [])) 0 :=
  ⟨st, [], [], keep_new hL, (same_new hL _) _ _ hd, ok, upd_same, rfl, .nil, fun c hc => by cases hc⟩
theorem drawn_more {d L : Addr} {H H1 H2 : Hp} {n : Nat} {st st2 : Src} {v : V} {c : Cp} {vs : List V} {cs : List Cp} (hL : H L = none) (hdL : L ≠ d) (k1 : Keep d H H1) (hd1 : H1 d = some (.lst (encD st))) (h1 : H1 L = some (.lst vs)) (hn : vs.length = n) (a : AllD K H1 vs cs) (g : ∀ c ∈ cs, CopyIn c)
    (k2 : Keep d H1 H2) (hd2 : H2 d = some (.lst (encD st2))) (ok2 : SrcOk st2) (i : IsD K H2 v c) (ic : CopyIn c) : Drawn K d L H (upd H2 L (.lst (vs ++ [v]))) (n + 1) := by
  have h2 : H2 L = some (.lst vs) := k2 _ _ hdL h1
  have a2 : AllD K H2 vs cs := a.keep hd1 k2
  refine ⟨st2, vs ++ [v], cs ++ [c], fun b o nb e => ?_, ?_, ok2, upd_same, by rw [List.length_append, hn]; rfl, papp (a2.keep h2 keep_upd) (.cons (i.keep h2 keep_upd) .nil), fun x hx => ?_⟩
  · rw [upd_ne (ne_of_none e hL)]
    exact k2 _ _ nb (k1 _ _ nb e)
  · rw [upd_ne (Ne.symm hdL)]; exact hd2
  · rcases List.mem_append.mp hx with h | h
    · exact g x h
    · rw [List.mem_singleton.mp h]; exact ic
/-- the copies of tolds, by a comprehension: the heap behind it -/
structure Copied (K : PySem.W.Frag) (C L : Addr) (H H' : Hp) (cs : List Cp) : Prop where
  ex : ∃ ws, Same H H' ∧ H' L = some (.lst ws) ∧ AllC K C H' ws cs
theorem copied_start {C L : Addr} {H : Hp} (hL : H L = none) : Copied K C L H (upd H L (.lst [])) [] := ⟨[], same_new hL _, upd_same, .nil⟩
theorem copied_more {C L : Addr} {H H1 H2 : Hp} {cs : List Cp} {c : Cp} {w : V} {ws : List V} (hL : H L = none) (s1 : Same H H1) (h1 : H1 L = some (.lst ws)) (a : AllC K C H1 ws cs) (s2 : Same H1 H2) (i : IsC K C H2 w c) : Copied K C L H (upd H2 L (.lst (ws ++ [w]))) (cs ++ [c]) := by
  have h2 := s2 _ _ h1
  refine ⟨ws ++ [w], fun b o e => ?_, upd_same, papp ((a.same s2).keep h2 keep_upd) (.cons (i.keep h2 keep_upd) .nil)⟩
  rw [upd_ne (ne_of_none e hL)]
  exact s2 _ _ (s1 _ _ e)
end
end My

namespace My
open PySem L2 Mth
section
variable {K : PySem.W.Frag} {α : Type}
theorem tk_filter {β : Type} (p : β → Bool) {l : List β} {i : Nat} {x : β} (h : l[i]? = some x) : (l.take (i + 1)).filter p = (l.take i).filter p ++ (if p x = true then [x] else []) := by
  rw [take_more h, List.filter_append]
  congr 1
  by_cases c : p x = true
  · rw [if_pos c]; simp [c]
  · rw [if_neg c]; simp [c]
theorem tk_map {β γ : Type} (f : β → γ) {l : List β} {i : Nat} {x : β} (h : l[i]? = some x) : (l.take (i + 1)).map f = (l.take i).map f ++ [f x] := by
  rw [take_more h, List.map_append]; rfl
/-! ### what a comprehension draws, of any kind -/
def KeepsI (I : Hp → V → α → Prop) : Prop := ∀ (H H' : Hp) (v : V) (x : α) (e : Addr) (ys : List V), I H v x → H e = some (.lst ys) → Keep e H H' → I H' v x
def DrawnG (I : Hp → V → α → Prop) (G : α → Prop) (d L : Addr) (H H' : Hp) (n : Nat) : Prop := ∃ st vs xs, Keep d H H' ∧ H' d = some (.lst (encD st)) ∧ SrcOk st ∧ H' L = some (.lst vs) ∧ vs.length = n ∧ Paired (I H') vs xs ∧ ∀ x ∈ xs, G x
theorem drawnG_start {I : Hp → V → α → Prop} {G : α → Prop} {d L : Addr} {H : Hp} {st : Src} (hd : H d = some (.lst (encD st))) (ok : SrcOk st) (hL : H L = none) : DrawnG I G d L H (upd H L (.lst [])) 0 :=
  ⟨st, [], [], Keep.of (same_new hL _), (same_new hL _) _ _ hd, ok, upd_same, rfl, .nil, fun c hc => by cases hc⟩
theorem drawnG_more {I : Hp → V → α → Prop} {G : α → Prop} (kI : KeepsI I) {d L : Addr} {H H1 H2 : Hp} {n : Nat} {st st2 : Src} {v : V} {x : α} {vs : List V} {xs : List α} (hL : H L = none) (hdL : L ≠ d) (k1 : Keep d H H1) (hd1 : H1 d = some (.lst (encD st))) (h1 : H1 L = some (.lst vs)) (hn : vs.length = n) (a : Paired (I H1) vs xs) (g : ∀ x ∈ xs, G x)
    (k2 : Keep d H1 H2) (hd2 : H2 d = some (.lst (encD st2))) (ok2 : SrcOk st2) (i : I H2 v x) (ix : G x) : DrawnG I G d L H (upd H2 L (.lst (vs ++ [v]))) (n + 1) := by
  have h2 : H2 L = some (.lst vs) := k2 _ _ hdL h1
  refine ⟨st2, vs ++ [v], xs ++ [x], fun b o nb e => ?_, ?_, ok2, upd_same, by rw [List.length_append, hn]; rfl, papp (pimp (fun p t q => kI _ _ _ _ _ _ (kI _ _ _ _ _ _ q hd1 k2) h2 keep_upd) a) (.cons (kI _ _ _ _ _ _ i h2 keep_upd) .nil), fun y hy => ?_⟩
  · rw [upd_ne (ne_of_none e hL)]
    exact k2 _ _ nb (k1 _ _ nb e)
  · rw [upd_ne (Ne.symm hdL)]; exact hd2
  · rcases List.mem_append.mp hy with h | h
    · exact g y h
    · rw [List.mem_singleton.mp h]; exact ix
theorem keepsT : KeepsI (IsT K) := fun _ _ _ _ _ _ i hd k => i.keep hd k
theorem turn4' : ∀ t ∈ [((1, 0, 1) : T3), (-1, 0, 1), (0, 1, 1), (3, 4, 5)], TurnIn t := fun t ht => turns_in t (by
  have h : ∀ t ∈ [((1, 0, 1) : T3), (-1, 0, 1), (0, 1, 1), (3, 4, 5)], t ∈ turns13 := by decide +kernel
  exact h t ht)
end
end My

namespace My
open PySem L2 Mth
abbrev s_is_stroke : Stmt := topS 57
theorem sc_is_stroke : FnScope ["value", "spot", "start", "end"] ["value"] (defScope s_is_stroke) := ⟨rfl, rfl, rfl, by decide +kernel, rfl, by decide +kernel, by decide +kernel⟩
abbrev s_parts_of : Stmt := topS 56
theorem sc_parts_of : FnScope ["stroke"] ["stroke"] (defScope s_parts_of) := ⟨rfl, rfl, rfl, by decide +kernel, rfl, by decide +kernel, by decide +kernel⟩
section
variable {P : Program} {w : World} {K : PySem.W.Frag} {mg : Str → Option Value} {base : Heap}
/-! ### strokes -/
def PairsOf (K : PySem.W.Frag) (H : Hp) (us ps : List V) : Prop := ps.length = us.length - 1 ∧ ∀ (j : Nat) x y, us[j]? = some x → us[j + 1]? = some y → ∃ T, ps[j]? = some (.ref T) ∧ SqT K H T [x, y]
theorem PairsOf.same {H H' : Hp} {us ps : List V} (h : PairsOf K H us ps) (s : Same H H') : PairsOf K H' us ps := ⟨h.1, fun j x y e1 e2 => by
  obtain ⟨T, a, b⟩ := h.2 j x y e1 e2
  exact ⟨T, a, same_T s b⟩⟩
def sp_parts (K : PySem.W.Frag) : Sp := fun vs H Q _ => ∃ t us, vs = [.ref t] ∧ SqT K H t us ∧ 1 ≤ us.length ∧ ∀ H' L ps, Same H H' → H L = none → H' L = some (.lst ps) → PairsOf K H' us ps → Q (.ref L) H'
theorem ok_parts_of {f : Addr} {fd : FuncData} (b_list : mg "list" = none) (b_zip : mg "zip" = none) (F : Fun K "parts_of" "parts_of" s_parts_of f fd) : FnOk P w K mg base CX0 1 f fd ["stroke"] (sp_parts K) := by
  refine F.ok sc_parts_of (fun vs H Q E h => ?_) (fun cdv A outer s H vs Q E hr h => ?_)
  · obtain ⟨t, us, rfl, _⟩ := h
    rfl
  obtain ⟨t, us, rfl, hT, hl, q⟩ := h
  refine ⟨_, (pss_one (ps_ret (pe_listZip rfl (by rfl) b_list (by rfl) b_zip (pa_cons (pv 0) (pa_cons (pe_slice (r := rSlT K) sl_tup (pv 0) (po_some pe_int) po_none) pa_nil))))), ?_⟩
  have e1 : HT.sIx us.length 0 (some (1 : Int)) = 1 := by
    rw [show (1 : Int) = ((1 : Nat) : Int) from rfl, HT.sIx_nat]
    omega
  have ec : cutV us (some (1 : Int)) none = us.drop 1 := by
    unfold cutV
    rw [e1, HT.sIx_none, List.take_of_length_le (by rw [List.length_drop]; omega)]
  refine ⟨_, rfl, _, rfl, 1, rfl, t, us, rfl, hT, (fun z => absurd (e1.symm.trans z.1) (by decide)), fun p hp => ?_⟩
  rw [ec]
  have s1 := same_new hp (.tup (us.drop 1))
  refine ⟨t, p, us, us.drop 1, rfl, same_T s1 hT, .inl (.inl upd_same), fun H2 L ps s2 hL h2 hlen hps => ?_⟩
  refine q H2 L ps (s1.trans s2) (s1.free hL) h2 ⟨by rw [hlen, List.length_drop]; omega, fun j x y ex ey => ?_⟩
  obtain ⟨T, a, _, b⟩ := hps j x y ex (by rw [List.getElem?_drop, Nat.add_comm]; exact ey)
  exact ⟨T, a, .inl (.inl b)⟩
theorem pgt {α β : Type} {R : α → β → Prop} : ∀ {ps : List α} {ts : List β}, Paired R ps ts → ∀ {i : Nat} {p : α}, ps[i]? = some p → ∃ t, ts[i]? = some t ∧ R p t
  | _, _, .nil, i, p, h => by simp at h
  | _, _, .cons r t, 0, p, h => by
    cases h
    exact ⟨_, rfl, r⟩
  | _, _, .cons r t, i + 1, p, h => pgt t h
def IsSt (K : PySem.W.Frag) (H : Hp) (v : V) (zs : List T3) : Prop := ∃ t us, v = .ref t ∧ SqT K H t us ∧ Paired (IsT K H) us zs
theorem IsSt.same {H H' : Hp} {v : V} {zs : List T3} (h : IsSt K H v zs) (s : Same H H') : IsSt K H' v zs := by
  obtain ⟨t, us, rfl, a, b⟩ := h
  exact ⟨t, us, rfl, same_T s a, L2.Paired.mapP b (fun _ _ i => i.same s)⟩
theorem IsSt.keep {H H' : Hp} {v : V} {zs : List T3} {d : Addr} {ys : List V} (h : IsSt K H v zs) (hd : H d = some (.lst ys)) (s : Keep d H H') : IsSt K H' v zs := by
  obtain ⟨t, us, rfl, a, b⟩ := h
  exact ⟨t, us, rfl, keep_T a hd s, L2.Paired.mapP b (fun _ _ i => i.keep hd s)⟩
/-- a stroke -/
structure StOk (zs : List T3) : Prop where
  lo : 1 ≤ zs.length
  hi : zs.length ≤ 12
  ok : ∀ z ∈ zs, Ok z
  ne : ∀ (j : Nat) x y, zs[j]? = some x → zs[j + 1]? = some y → x ≠ y
def sp_isst (K : PySem.W.Frag) : Sp := fun vs H Q _ => ∃ v zs, vs = [v] ∧ IsSt K H v zs ∧ StOk zs ∧ ∀ H', Same H H' → Q (.bl true) H'
theorem ok_is_stroke {f : Addr} {fd : FuncData} {tk : Tok} (b_isinstance : mg "isinstance" = none) (b_tuple : mg "tuple" = none) (b_len : mg "len" = none) (b_all : mg "all" = none) (m_MOST_SPOTS : mg "MOST_SPOTS" = some (.int 12 tk)) (d_is_spot : D P w K mg base "is_spot" 2 (sp_isspot K)) (d_parts_of : D P w K mg base "parts_of" 1 (sp_parts K))
    (F : Fun K "is_stroke" "is_stroke" s_is_stroke f fd) : FnOk P w K mg base CX0 3 f fd ["value"] (sp_isst K) := by
  refine F.ok sc_is_stroke (fun vs H Q E h => ?_) (fun cdv A outer s H vs Q E hr h => ?_)
  · obtain ⟨v, zs, rfl, _⟩ := h
    rfl
  obtain ⟨v, zs, rfl, ⟨t, us, rfl, hT, hA⟩, ok, q⟩ := h
  refine ⟨_, (pss_cons (ps_if (PW.pt (pw_or (pt_not (pt_val (pe_callB (r := rIsi K) call_isi (by rfl) b_isinstance (by decide +kernel) (pa_cons (pv 0) (pa_cons (pe_bltn (v := .ty "tuple") (by rfl) b_tuple (by decide +kernel) rfl) pa_nil))))) (pw_or1 (pt_not (pt_chain op_le op_le pe_int (pe_callB call_len_seq (by rfl) b_len PySem.boot_len (pa_cons (pv 0) pa_nil)) (pe_glob (v := .int 12) (by rfl) m_MOST_SPOTS ⟨_, rfl⟩)))))) (pss_one (ps_ret pe_bl)) pss_nil)
    (pss_cons (ps_if (pt_not (pt_val (pe_callB (cr_all rfl) (by rfl) b_all (by decide +kernel) (pa_cons (pe_lc (own := [("spot", 1)]) (g := gName 1) (tt := tYes) (by rfl) sc_is_stroke.nd (pi_tup (pv 0)) (blkOk_by (own := [("spot", 1)]) (N := ["value", "spot", "start", "end"]) (sc := defScope s_is_stroke) (by decide +kernel)) (fun _ _ _ _ _ => (pg_name (i := 1) sc_is_stroke.nd rfl (by first | exact Or.inl rfl | exact Or.inr rfl))) (fun _ _ _ _ _ => pts_nil) (fun _ _ _ _ _ => (pc d_is_spot (hr.mono (by decide)) (pa_cons (pv 1) pa_nil)))) pa_nil)))) (pss_one (ps_ret pe_bl)) pss_nil)
    (pss_one (ps_ret (pe_callB (cr_all rfl) (by rfl) b_all (by decide +kernel) (pa_cons (pe_lc (own := [("start", 2), ("end", 3)]) (g := gTup K 2 (gCons (gName 2) (gCons (gName 3) gNil))) (tt := tYes) (by rfl) sc_is_stroke.nd (pi_list (pc d_parts_of (hr.mono (by decide)) (pa_cons (pv 0) pa_nil))) (blkOk_by (own := [("start", 2), ("end", 3)]) (N := ["value", "spot", "start", "end"]) (sc := defScope s_is_stroke) (by decide +kernel)) (fun _ _ _ _ _ => (pg_tup rfl (pgs_cons (pg_name (i := 2) sc_is_stroke.nd rfl (by first | exact Or.inl rfl | exact Or.inr rfl)) (pgs_cons (pg_name (i := 3) sc_is_stroke.nd rfl (by first | exact Or.inl rfl | exact Or.inr rfl)) pgs_nil)))) (fun _ _ _ _ _ => pts_nil) (fun _ _ _ _ _ => (pe_cmpR (r := rNeD K) (op_neD hr.units) (pv 2) (pv 3) (nomark _)))) pa_nil)))))), ?_⟩
  have hlen := Paired.length hA
  have lo := ok.lo
  have hi := ok.hi
  refine ⟨_, rfl, _, _, _, _, _, rfl, .ty _, ty_T hT, kit_ty (by decide +kernel), true, rfl, ?_⟩
  refine iteF ?_
  refine ⟨_, rfl, _, _, rfl, .inr hT, _, _, rfl, rfl, _, rfl, ?_⟩
  rw [decide_eq_true (show (1 : Int) ≤ (us.length : Int) by omega)]
  refine iteT ?_
  refine ⟨_, _, rfl, rfl, _, rfl, ?_⟩
  rw [decide_eq_true (show (us.length : Int) ≤ 12 by omega)]
  refine iteF ?_
  refine ⟨_, rfl, _, rfl, ⟨_, hT⟩, fun L hL => lc_tup (K := K) (a := t) (xs := us) (fun i H' => ∃ acc : List V, Same H H' ∧ H' L = some (.lst acc) ∧ acc = (List.replicate i true).map V.bl) ⟨[], same_new hL _, upd_same, rfl⟩ ?_ ?_ ?_⟩
  · rintro i H' hi ⟨acc, s', _⟩
    exact same_T s' hT
  · rintro i x H' hx ⟨acc, s', hb, ea⟩
    obtain ⟨z, ez, iz⟩ := pgt hA hx
    refine ⟨rfl, ?_⟩
    refine yes_of ?_
    refine ⟨_, rfl, _, z, rfl, iz.same s', ok.ok z (List.mem_of_getElem? ez), fun H2 s2 => ?_⟩
    have hb2 := s2 _ _ hb
    refine ⟨acc, hb2, ?_, acc ++ [.bl true], fun b o e => ?_, upd_same, ?_⟩
    · have := (List.getElem?_eq_some_iff.mp hx).1
      rw [ea, List.length_map, List.length_replicate]
      exact small1000 (by omega)
    · rw [upd_ne (ne_of_none e hL)]
      exact s2 _ _ (s' _ _ e)
    · rw [ea, List.replicate_succ', List.map_append]
      rfl
  rintro H1 ⟨acc, s1, hb, ea⟩
  refine ⟨_, List.replicate us.length true, rfl, .inl (.inl ?_), ?_⟩
  · rw [ea] at hb; exact hb
  refine ⟨_, rfl, ?_⟩
  rw [show (List.replicate us.length true).all id = true from List.all_eq_true.mpr fun b hb => List.eq_of_mem_replicate hb]
  refine iteF ?_
  refine ⟨_, rfl, t, us, rfl, same_T s1 hT, by omega, fun H2 Lp ps s2 hLp h2 hps => ?_⟩
  refine ⟨Lp, rfl, ⟨_, .inl (.inl h2)⟩, fun L3 hL3 => lc_list (K := K) (a := Lp) (xs := ps) (fun i H' => ∃ acc : List V, Same H2 H' ∧ H' L3 = some (.lst acc) ∧ acc = (List.replicate i true).map V.bl) ⟨[], same_new hL3 _, upd_same, rfl⟩ ?_ ?_ ?_⟩
  · rintro i H' hi ⟨acc, s', _⟩
    exact .inl (.inl (s' _ _ h2))
  · rintro i x H' hx ⟨acc, s', hb, ea⟩
    have li := (List.getElem?_eq_some_iff.mp hx).1
    have lp := hps.1
    obtain ⟨u, eu⟩ : ∃ u, us[i]? = some u := ⟨us[i]'(by omega), by simp⟩
    obtain ⟨v, ev⟩ : ∃ v, us[i + 1]? = some v := ⟨us[i + 1]'(by omega), by simp⟩
    obtain ⟨T, eT, hTT⟩ := hps.2 i u v eu ev
    obtain ⟨a, ez, pa, rfl, ia⟩ := pgt hA eu
    obtain ⟨b, ez2, pb, rfl, ib⟩ := pgt hA ev
    rw [eT] at hx
    cases hx
    have s02 := (s1.trans s2).trans s'
    refine ⟨T, _, rfl, same_T s' hTT, rfl, _, _, rfl, _, _, rfl, rfl, rfl, ?_⟩
    refine yes_of ?_
    refine ⟨_, rfl, _, rfl, _, _, Dp3 (same_T s02 ia), Dp3 (same_T s02 ib), shaped3 _, shaped3 _, ?_⟩
    rw [eqv3, decide_eq_false (ok.ne i a b ez ez2)]
    refine ⟨acc, hb, ?_, acc ++ [.bl true], fun b o e => ?_, upd_same, ?_⟩
    · rw [ea, List.length_map, List.length_replicate]
      exact small1000 (by omega)
    · rw [upd_ne (ne_of_none e hL3)]
      exact s' _ _ e
    · rw [ea, List.replicate_succ', List.map_append]
      rfl
  rintro H3 ⟨acc3, s3, hb3, ea3⟩
  refine ⟨_, List.replicate ps.length true, rfl, .inl (.inl ?_), ?_⟩
  · rw [ea3] at hb3; exact hb3
  rw [show (List.replicate ps.length true).all id = true from List.all_eq_true.mpr fun b hb => List.eq_of_mem_replicate hb]
  exact q _ ((s1.trans s2).trans s3)
end
end My

namespace My
open PySem L2 Mth
abbrev s_Drawing___init__ : Stmt := inClass (topS 55) 0
theorem sc_Drawing___init__ : FnScope ["self", "strokes"] ["self", "strokes"] (defScope s_Drawing___init__) := ⟨rfl, rfl, rfl, by decide +kernel, rfl, by decide +kernel, by decide +kernel⟩
abbrev s_check_strokes : Stmt := topS 58
theorem sc_check_strokes : FnScope ["strokes", "index", "stroke"] ["strokes"] (defScope s_check_strokes) := ⟨rfl, rfl, rfl, by decide +kernel, rfl, by decide +kernel, by decide +kernel⟩
section
variable {P : Program} {w : World} {K : PySem.W.Frag} {mg : Str → Option Value} {base : Heap}
/-! ### drawings -/
def AllSt (K : PySem.W.Frag) (H : Hp) (vs : List V) (zss : List (List T3)) : Prop := Paired (IsSt K H) vs zss
theorem AllSt.same {H H' : Hp} {vs : List V} {zss : List (List T3)} (h : AllSt K H vs zss) (s : Same H H') : AllSt K H' vs zss := pimp (fun _ _ i => i.same s) h
theorem AllSt.keep {H H' : Hp} {vs : List V} {zss : List (List T3)} {d : Addr} {ys : List V} (h : AllSt K H vs zss) (hd : H d = some (.lst ys)) (k : Keep d H H') : AllSt K H' vs zss := pimp (fun _ _ i => i.keep hd k) h
structure DrOk (zss : List (List T3)) : Prop where
  len : zss.length ≤ 12
  ok : ∀ zs ∈ zss, StOk zs
def sp_chk (K : PySem.W.Frag) : Sp := fun vs H Q _ => ∃ t us zss, vs = [.ref t] ∧ SqT K H t us ∧ AllSt K H us zss ∧ DrOk zss ∧ ∀ H', Same H H' → Q .non H'
theorem ok_check_strokes {f : Addr} {fd : FuncData} {tk : Tok} (b_enumerate : mg "enumerate" = none) (b_len : mg "len" = none) (m_MOST_STROKES : mg "MOST_STROKES" = some (.int 12 tk)) (d_is_stroke : D P w K mg base "is_stroke" 3 (sp_isst K))
    (F : Fun K "check_strokes" "check_strokes" s_check_strokes f fd) : FnOk P w K mg base CX0 4 f fd ["strokes"] (sp_chk K) := by
  refine F.ok sc_check_strokes (fun vs H Q E h => ?_) (fun cdv A outer s H vs Q E hr h => ?_)
  · obtain ⟨t, us, zss, rfl, _⟩ := h
    rfl
  obtain ⟨t, us, zss, rfl, hT, ha, ok, q⟩ := h
  refine ⟨_, (pss_cons (ps_for PassesOwn.never rfl (pi_enumT (by rfl) b_enumerate (pa_cons (pv 0) pa_nil)) (pg_tup rfl (pgs_cons (pg_name (i := 1) sc_check_strokes.nd rfl (by first | exact Or.inl rfl | exact Or.inr rfl)) (pgs_cons (pg_name (i := 2) sc_check_strokes.nd rfl (by first | exact Or.inl rfl | exact Or.inr rfl)) pgs_nil))) (pss_one (ps_if (pt_not (pt_val (pc d_is_stroke (hr.mono (by decide)) (pa_cons (pv 2) pa_nil)))) (pss_one (ps_never)) pss_nil)))
    (pss_one (ps_if (pt_cmpR (op_gt) (pe_callB call_len_seq (by rfl) b_len PySem.boot_len (pa_cons (pv 0) pa_nil)) (pe_glob (v := .int 12) (by rfl) m_MOST_STROKES ⟨_, rfl⟩) (nomark _)) (pss_one (ps_never)) pss_nil))), ?_⟩
  have hl := Paired.length ha
  refine ⟨_, rfl, t, us, rfl, hT, for_enumT (K := K) (a := t) (xs := us) (fun i σ H' => (∃ x y, σ = [some (.ref t), x, y]) ∧ Same H H') ⟨⟨none, none, rfl⟩, Same.refl _⟩ ?_ ?_ ?_⟩
  · rintro i σ H' _ ⟨_, s'⟩
    exact same_T s' hT
  · rintro i x σ H' T hx ⟨⟨y, z, rfl⟩, s'⟩ hn
    obtain ⟨zs, h1, h2⟩ := pget ha hx
    have sn := same_new hn (.tup [.int (i : Nat), x])
    refine ⟨T, _, rfl, .inl (.inl upd_same), rfl, _, _, rfl, _, _, rfl, rfl, ?_⟩
    refine ⟨_, rfl, _, zs, rfl, h2.same (s'.trans sn), ok.ok zs (List.mem_of_getElem? h1), fun H2 s2 => ⟨_, rfl, iteF ⟨⟨_, _, rfl⟩, s'.trans (sn.trans s2)⟩⟩⟩
  · rintro σ H' ⟨⟨y, z, rfl⟩, s'⟩
    refine ⟨_, rfl, t, us, rfl, .inr (same_T s' hT), _, _, rfl, rfl, _, rfl, ?_⟩
    rw [decide_eq_false (show ¬ ((12 : Int) < (us.length : Int)) by have := ok.len; omega)]
    exact iteF (q _ s')
def wf (a0 : Addr) : List (Str × V) := [("held", .ref a0)]
theorem wf_put {a0 : Addr} : putF "held" (.ref a0) ([]) = wf a0 := by
  simp only [putF, ]
  rfl
theorem wf_held {a0 : Addr} : (wf a0).lookup ("held" : Str) = some (.ref a0) := by
  unfold wf
  simp only [List.lookup, beq_self_eq_true]
structure WTxt (K : PySem.W.Frag) (C : Addr) : Prop where
  cl : Cls K C
  nH : NoAttr K C "held"
/-- a drawing as an object -/
def IsW (K : PySem.W.Frag) (CW : Addr) (H : Hp) (v : V) (zss : List (List T3)) : Prop := ∃ p dx t us, v = .ref p ∧ H p = some (.ins CW dx (wf t)) ∧ SqT K H t us ∧ AllSt K H us zss
theorem IsW.same {CW : Addr} {H H' : Hp} {v : V} {zss : List (List T3)} (h : IsW K CW H v zss) (e : Same H H') : IsW K CW H' v zss := by
  obtain ⟨p, dx, t, us, rfl, h1, h2, h3⟩ := h
  exact ⟨p, dx, t, us, rfl, e _ _ h1, same_T e h2, h3.same e⟩
theorem IsW.keep {CW : Addr} {H H' : Hp} {v : V} {zss : List (List T3)} {d : Addr} {ys : List V} (h : IsW K CW H v zss) (hd : H d = some (.lst ys)) (e : Keep d H H') : IsW K CW H' v zss := by
  obtain ⟨p, dx, t, us, rfl, h1, h2, h3⟩ := h
  exact ⟨p, dx, t, us, rfl, e _ _ (ne_of h1 hd (by intro z; cases z)) h1, keep_T h2 hd e, h3.keep hd e⟩
theorem IsSt.keepI {p dx CD : Addr} {fs : List (Str × V)} {H H' : Hp} {v : V} {zs : List T3} (h : IsSt K H v zs) (hd : H p = some (.ins CD dx fs)) (e : Keep p H H') : IsSt K H' v zs := by
  obtain ⟨t, us, rfl, h1, h2⟩ := h
  exact ⟨t, us, rfl, keepI_T h1 hd e, pimp (fun _ _ ⟨q, e', g⟩ => ⟨q, e', keepI_T g hd e⟩) h2⟩
def sp_win (K : PySem.W.Frag) (CW : Addr) : Sp := fun vs H Q _ => ∃ (H0 : Hp) (p dx t : Addr) (us : List V) (zss : List (List T3)), vs = [.ref p, .ref t] ∧ Same H0 H ∧ H0 p = none ∧ H p = some (.ins CW dx []) ∧ SqT K H t us ∧ AllSt K H0 us zss ∧ DrOk zss ∧ ∀ H', Same H0 H' → IsW K CW H' (.ref p) zss → Q .non H'
def sp_winit (K : PySem.W.Frag) (CW : Addr) : Sp := fun vs H Q E => ∃ ws rest, vs = ws ++ rest ∧ ws.length = (["self"] : List Str).length ∧ rest.length ≤ sizeLine ∧ ∀ p, H p = Option.none → sp_win K CW (ws ++ [V.ref p]) (upd H p (.tup rest)) Q E
theorem ok_winit {f CW : Addr} {fd : FuncData} (T : WTxt K CW) (d_check_strokes : D P w K mg base "check_strokes" 4 (sp_chk K))
    (F : Fun K "__init__" "Drawing.__init__" s_Drawing___init__ f fd) : FnR P w K mg base CX0 5 f (sp_winit K CW) := by
  refine fun_star (ps := ["self"]) (pv := "strokes") (sp := sp_win K CW) F sc_Drawing___init__ (fun kV doc pm an cdv ct => StX.bind_star1 (B := fun us => bindArgs (PySem.W.fnOf "__init__" "Drawing.__init__" (defArgs s_Drawing___init__) (defBody s_Drawing___init__) (defScope s_Drawing___init__) .none kV doc pm an cdv ct) ⟨us, []⟩) (fun a => rfl) (fun a r rs => rfl)) (fun cdv A outer s H vs Q E hr h => ?_)
  obtain ⟨H0, p, dx, t, us, zss, rfl, s0, p0, hp, hT, ha, ok, q⟩ := h
  refine ⟨_, (pss_cons (ps_expr (pc d_check_strokes (hr.mono (by decide)) (pa_cons (pv 1) pa_nil)))
    (pss_one (ps_fld (pv 0) (pv 1) rfl))), ?_⟩
  refine ⟨_, rfl, t, us, zss, rfl, hT, ha.same s0, ok, fun H1 s1 => ?_⟩
  have hp1 := s1 _ _ hp
  refine ⟨_, rfl, _, rfl, p, CW, dx, _, rfl, hp1, T.cl, T.nH, (by show 0 < 1000; decide), ?_⟩
  have k1 := keep_upd (d := p) (H := H1) (o := .ins CW dx (putF "held" (.ref t) []))
  refine q _ (fun y o e => ?_) ⟨p, dx, t, us, rfl, by rw [upd_same, wf_put], keepI_T (same_T s1 hT) hp1 k1, pimp (fun _ _ i => (i.same (s0.trans s1)).keepI hp1 k1) ha⟩
  have nc : y ≠ p := fun z => by rw [z, p0] at e; cases e
  rw [upd_ne nc]
  exact s1 _ _ (s0 _ _ e)
/-- the class as its users see it -/
structure DrawI (P : Program) (w : World) (K : PySem.W.Frag) (mg : Str → Option Value) (base : Heap) (CW f : Addr) : Prop where
  tx : WTxt K CW
  mkC : Mk K CW f
  ok : FnR P w K mg base CX0 5 f (sp_winit K CW)
  mgC : mg "Drawing" = some (.ref CW)
theorem mkw_of2 {CW : Addr} {H : Hp} {Qf : Addr → VK} {us : List V} {zss : List (List T3)} (ha : AllSt K H us zss) (ok : DrOk zss) (q : ∀ H' x, Same H H' → IsW K CW H' (.ref x) zss → Qf x .non H') :
    ∀ x dx, H x = none → H dx = none → dx ≠ x → sp_winit K CW (.ref x :: us) (upd (upd H dx (.own x)) x (.ins CW dx [])) (Qf x) E0 := by
  intro x dx hx hd _
  refine ⟨[.ref x], us, rfl, rfl, small (by have := Paired.length ha; have := ok.len; omega), fun t ht => ?_⟩
  have nt : x ≠ t := fun z => by rw [← z, upd_same] at ht; cases ht
  refine ⟨H, x, dx, t, us, zss, rfl, fun c o e => ?_, hx, by rw [upd_ne nt]; exact upd_same, .inl (.inl upd_same), ha, ok, fun H' s' i => q _ _ s' i⟩
  have e2 : upd (upd H dx (.own x)) x (.ins CW dx []) c = some o := by
    rw [upd_ne (ne_of_none e hx), upd_ne (ne_of_none e hd)]
    exact e
  rw [upd_ne (ne_of_none e2 ht)]
  exact e2
theorem mkw_of {CW : Addr} {H : Hp} {Q : VK} {us : List V} {zss : List (List T3)} (ha : AllSt K H us zss) (ok : DrOk zss) (q : ∀ H' r, Same H H' → IsW K CW H' r zss → Q r H') :
    ∀ x dx, H x = none → H dx = none → dx ≠ x → sp_winit K CW (.ref x :: us) (upd (upd H dx (.own x)) x (.ins CW dx [])) (fun v H2 => v = .non ∧ Q (.ref x) H2) E0 :=
  mkw_of2 (Qf := fun x v H2 => v = .non ∧ Q (.ref x) H2) ha ok fun H' x s i => ⟨rfl, q _ _ s i⟩
theorem drNil : DrOk [] := ⟨by decide, fun zs h => by cases h⟩
end
end My

namespace My
open PySem L2 Mth
abbrev s_Drawing___add__ : Stmt := inClass (topS 55) 5
theorem sc_Drawing___add__ : FnScope ["self", "other", "strokes"] ["self", "other"] (defScope s_Drawing___add__) := ⟨rfl, rfl, rfl, by decide +kernel, rfl, by decide +kernel, by decide +kernel⟩
section
variable {P : Program} {w : World} {K : PySem.W.Frag} {mg : Str → Option Value} {base : Heap}
def sp_wadd (K : PySem.W.Frag) (CW : Addr) : Sp := fun vs H Q _ => ∃ va as vb bs, vs = [va, vb] ∧ IsW K CW H va as ∧ IsW K CW H vb bs ∧ DrOk (as ++ bs) ∧ ∀ H' r, Same H H' → IsW K CW H' r (as ++ bs) → Q r H'
theorem ok_wadd {f fI CW : Addr} {fd : FuncData} (TW : DrawI P w K mg base CW fI) (F : Fun K "__add__" "Drawing.__add__" s_Drawing___add__ f fd) : FnOk P w K mg base CX0 7 f fd ["self", "other"] (sp_wadd K CW) := by
  refine F.ok sc_Drawing___add__ (fun vs H Q E h => ?_) (fun cdv A outer s H vs Q E hr h => ?_)
  · obtain ⟨va, as, vb, bs, rfl, _⟩ := h
    rfl
  obtain ⟨va, as, vb, bs, rfl, ⟨p, dx, t, us, rfl, h1, h2, h3⟩, ⟨p', dx', t', us', rfl, k1, k2, k3⟩, ok, q⟩ := h
  have T := TW.tx
  refine ⟨_, (pss_cons (ps_set (i := 2) sc_Drawing___add__.nd rfl (by first | exact Or.inl rfl | exact Or.inr rfl) (pe_lst (StX.pa_star (pe_fld (pv 0) rfl) (StX.pa_star (pe_fld (pv 1) rfl) pa_nil))))
    (pss_one (ps_ret (pe_makeS TW.mkC TW.ok (hr.mono (by decide)) (by rfl) TW.mgC (pv 2))))), ?_⟩
  have hl := Paired.length h3
  have hl' := Paired.length k3
  have ol := ok.len
  rw [List.length_append] at ol
  refine ⟨_, rfl, p, CW, dx, _, _, rfl, h1, T.cl, T.nH, wf_held, t, us, rfl, .inl h2, _, rfl, p', CW, dx', _, _, rfl, k1, T.cl, T.nH, wf_held, t', us', rfl, .inl k2, small (by simp only [List.length_append, List.length_nil]; omega), fun l hl => ?_⟩
  have s1 := same_new hl (.lst (us ++ (us' ++ [])))
  refine ⟨_, rfl, l, _, rfl, .inr (.inl (.inl upd_same)), ?_⟩
  rw [List.append_nil]
  rw [List.append_nil] at s1
  exact mkw_of (papp (h3.same s1) (k3.same s1)) ok fun H2 r2 s2 i2 => q _ _ (s1.trans s2) i2
structure MWa (P : Program) (w : World) (K : PySem.W.Frag) (mg : Str → Option Value) (base : Heap) (CW : Addr) : Prop where
  sf : PySem.W.selfFirst K CW = true
  ex : ∃ f, FnR P w K mg base CX0 7 f (sp_wadd K CW) ∧ PySem.W.findIn K (.ref CW) "__add__" = some (some (.ref f)) ∧ PySem.W.isFn K (.ref f) = true
theorem op_wadd {X : Cx} {CW : Addr} (M : MWa X.prog X.w X.K X.mg X.base CW) (hr : Room 7 X.A) : OpR X (binaryOp .Add) (rOwn2 CW (sp_wadd X.K CW)) := by
  obtain ⟨f, F, h1, h2⟩ := M.ex
  exact op_own (op := .Add) F hr M.sf h1 h2
theorem wadd_of {CW : Addr} {H : Hp} {Q : VK} {x y : V} {as bs : List (List T3)} (ix : IsW K CW H x as) (iy : IsW K CW H y bs) (ok : DrOk (as ++ bs)) (q : ∀ H' r, Same H H' → IsW K CW H' r (as ++ bs) → Q r H') : rOwn2 CW (sp_wadd K CW) x y H Q := by
  obtain ⟨p, dx, _, _, rfl, h1, _⟩ := id ix
  obtain ⟨p', dx', _, _, rfl, h1', _⟩ := id iy
  exact ⟨p, p', dx, _, dx', _, rfl, rfl, h1, h1', _, as, _, bs, rfl, ix, iy, ok, q⟩
end
end My

namespace My
open PySem L2 Mth
section
variable {X : Cx} {C : Addr} {fe e : Expr} {es : List Expr} {te tf : TE} {t : TA} {pos : Pos} {K : PySem.W.Frag}
theorem pe_apK (hK : X.K = K) (M : MCa X.prog X.w X.K X.mg X.base C) (hr : Room 5 X.A) (hf : PE X fe tf) (ha : PA X (e :: es) t)
    (ht : eval (.Call fe (e :: es) [] pos) X.env = (do callWith pos (← eval fe X.env) [] (backTo pos (starEach (e :: es) X.env)) (backToKw pos (keywordEach [] X.env))) := by rfl)
    (he : starEach (e :: es) X.env = (false, eval e X.env) :: starEach es X.env := by rfl) (hpl : (backTo pos (starEach es X.env)).any (·.1) = false := by rfl) : PE X (.Call fe (e :: es) [] pos) (tAp K C tf t) := by
  subst hK
  exact pe_ap M hr hf ha ht he hpl
end
end My

namespace My
open PySem L2 Mth
def rTupOf (K : PySem.W.Frag) : List V → Hp → VK → Prop := fun xs H Q => ∃ p ys, xs = [V.ref p] ∧ ((SqL K H p ys ∧ ∀ l, H l = none → Q (.ref l) (upd H l (.tup ys))) ∨ (SqT K H p ys ∧ Q (.ref p) H))
def lcSc : Stmt → Scope
  | .Assign _ (.ListComp _ _ sc _) _ => sc
  | _ => default
abbrev s_Drawing_copied : Stmt := inClass (topS 55) 9
theorem sc_Drawing_copied : FnScope ["self", "copy", "strokes", "spot", "stroke"] ["self", "copy"] (defScope s_Drawing_copied) := ⟨rfl, rfl, rfl, by decide +kernel, rfl, by decide +kernel, by decide +kernel⟩
section
variable {P : Program} {w : World} {K : PySem.W.Frag} {mg : Str → Option Value} {base : Heap}
theorem st_map {c : Cp} {zs : List T3} (oc : CpOk c) (ok : StOk zs) : StOk (zs.map (ap c)) := by
  refine ⟨by rw [List.length_map]; exact ok.lo, by rw [List.length_map]; exact ok.hi, fun z hz => ?_, fun j x y ex ey e => ?_⟩
  · obtain ⟨z', hz', rfl⟩ := List.mem_map.mp hz
    exact ap_ok oc (ok.ok z' hz')
  · rw [List.getElem?_map] at ex ey
    cases e1 : zs[j]? with
    | none => rw [e1] at ex; cases ex
    | some x' =>
      cases e2 : zs[j + 1]? with
      | none => rw [e2] at ey; cases ey
      | some y' =>
        rw [e1] at ex
        rw [e2] at ey
        cases ex
        cases ey
        exact ok.ne j x' y' e1 e2 (ap_inj oc (ok.ok _ (List.mem_of_getElem? e1)) (ok.ok _ (List.mem_of_getElem? e2)) e)
theorem dr_map {c : Cp} {zss : List (List T3)} (oc : CpOk c) (ok : DrOk zss) : DrOk (zss.map fun zs => zs.map (ap c)) := by
  refine ⟨by rw [List.length_map]; exact ok.len, fun zs hz => ?_⟩
  obtain ⟨zs', hz', rfl⟩ := List.mem_map.mp hz
  exact st_map oc (ok.ok zs' hz')
def sp_wcop (K : PySem.W.Frag) (C CW : Addr) : Sp := fun vs H Q _ => ∃ va zss vc c, vs = [va, vc] ∧ IsW K CW H va zss ∧ DrOk zss ∧ IsC K C H vc c ∧ CpOk c ∧ BC 1000 c ∧ (∀ z ∈ zss.flatten, B 1000 z) ∧ ∀ H' r, Same H H' → IsW K CW H' r (zss.map fun zs => zs.map (ap c)) → Q r H'
theorem ok_wcop {f fI C CW : Addr} {fd : FuncData} (TW : DrawI P w K mg base CW fI) (m_ca : MCa P w K mg base C) (b_tuple : mg "tuple" = none) (F : Fun K "copied" "Drawing.copied" s_Drawing_copied f fd) : FnOk P w K mg base CX0 7 f fd ["self", "copy"] (sp_wcop K C CW) := by
  refine F.ok sc_Drawing_copied (fun vs H Q E h => ?_) (fun cdv A outer s H vs Q E hr h => ?_)
  · obtain ⟨va, zss, vc, c, rfl, _⟩ := h
    rfl
  obtain ⟨va, zss, vc, c, rfl, ⟨p, dx, t, us, rfl, h1, h2, h3⟩, ok, ic, oc, bc, bd, q⟩ := h
  have T := TW.tx
  refine ⟨_, (pss_cons (ps_setLc (i := 2) (own := [("stroke", 4)]) (g := gName 4) (tt := tYes) (by rfl) sc_Drawing_copied.nd rfl rfl (sw_true rfl rfl rfl (by decide +kernel)) (pi_tup (pe_fld (pv 0) rfl)) (blkOk_by (own := [("stroke", 4)]) (N := ["self", "copy", "strokes", "spot", "stroke"]) (sc := defScope s_Drawing_copied) (by decide +kernel)) (fun _ _ _ _ _ => (pg_name (i := 4) sc_Drawing_copied.nd rfl (by first | exact Or.inl rfl | exact Or.inr rfl))) (fun _ _ _ _ _ => pts_nil) (fun _ _ _ _ _ => (pe_callTy (T := "tuple") (r := rTupOf K) call_tuple_of (by rfl) b_tuple (by decide +kernel) (pa_cons (pe_lc (own := [("spot", 3)]) (g := gName 3) (tt := tYes) (wi := iTup K (tVar 4)) (te := tAp K C (tVar 1) (tCons (tVar 3) tNil)) (by rfl) sc_Drawing_copied.nd (pi_tup (pv 4)) (blkOk_by (own := [("spot", 3)]) (N := ["self", "copy", "strokes", "spot", "stroke"]) (sc := relS (lcSc ((defBody s_Drawing_copied).getD 0 (.Pass ⟨0, 0, 0, 0⟩))) (defScope s_Drawing_copied)) (by decide +kernel)) (fun _ _ _ _ _ => (pg_name (i := 3) sc_Drawing_copied.nd rfl (by first | exact Or.inl rfl | exact Or.inr rfl))) (fun _ _ _ _ _ => pts_nil) (fun _ _ _ _ _ => (pe_apK (K := K) rfl m_ca (hr.mono (by decide)) (pv 1) (pa_cons (pv 3) pa_nil)))) pa_nil))))
    (pss_one (ps_ret (pe_makeS TW.mkC TW.ok (hr.mono (by decide)) (by rfl) TW.mgC (pv 2))))), ?_⟩
  have hl := Paired.length h3
  have ol := ok.len
  obtain ⟨pc, ec⟩ : ∃ pc, vc = .ref pc := by
    obtain ⟨pc, _, _, _, e, _⟩ := ic
    exact ⟨pc, e⟩
  subst ec
  refine ⟨_, rfl, p, CW, dx, _, _, rfl, h1, T.cl, T.nH, wf_held, t, rfl, ⟨_, h2⟩, fun D hD => lc_tup (K := K) (a := t) (xs := us) (fun i H' => ∃ acc : List V, Same H H' ∧ H' D = some (.lst acc) ∧ AllSt K H' acc ((zss.take i).map fun zs => zs.map (ap c))) ⟨[], same_new hD _, upd_same, .nil⟩ ?_ ?_ ?_⟩
  · rintro i H' hi ⟨acc, s', _⟩
    exact same_T s' h2
  · rintro i x H' hx ⟨acc, s', hb, ha⟩
    obtain ⟨zs, ez, tx, ux, rfl, hx1, hx2⟩ := pgt h3 hx
    have hz := List.mem_of_getElem? ez
    have sk := ok.ok zs hz
    have kl := Paired.length hx2
    have kh := sk.hi
    have la := Paired.length ha
    have li := (List.getElem?_eq_some_iff.mp ez).1
    rw [List.length_map, List.length_take] at la
    refine ⟨rfl, yes_of ?_⟩
    refine ⟨_, rfl, tx, rfl, ⟨_, same_T s' hx1⟩, fun L hL => lc_tup (K := K) (a := tx) (xs := ux) (fun j H2 => ∃ bcc : List V, Same H' H2 ∧ H2 L = some (.lst bcc) ∧ Paired (IsT K H2) bcc ((zs.take j).map (ap c))) ⟨[], same_new hL _, upd_same, .nil⟩ ?_ ?_ ?_⟩
    · rintro j H2 hj ⟨bcc, s2, _⟩
      exact same_T (s'.trans s2) hx1
    · rintro j y H2 hy ⟨bcc, s2, hb2, ha2⟩
      obtain ⟨z, ez2, pz, rfl, iz⟩ := pgt hx2 hy
      have mz := List.mem_of_getElem? ez2
      have lb := Paired.length ha2
      have lj := (List.getElem?_eq_some_iff.mp ez2).1
      rw [List.length_map, List.length_take] at lb
      have s02 := s'.trans s2
      refine ⟨rfl, yes_of ?_⟩
      refine ⟨_, rfl, pc, rfl, _, rfl, ?_⟩
      refine ap_of (ic.same s02) oc ⟨bc.1.mono (by decide), bc.2.mono (by decide)⟩ ⟨_, rfl, same_T s02 iz⟩ (sk.ok z mz) ((bd z (List.mem_flatten.mpr ⟨zs, hz, mz⟩)).mono (by decide)) fun H3 r3 s3 i3 => ?_
      have hb3 := s3 _ _ hb2
      have k3 := keep_upd (d := L) (H := H3) (o := .lst (bcc ++ [r3]))
      refine ⟨bcc, hb3, small1000 (by omega), bcc ++ [r3], fun b o e => ?_, upd_same, ?_⟩
      · rw [upd_ne (ne_of_none e hL)]
        exact s3 _ _ (s2 _ _ e)
      · rw [take_more ez2, List.map_append]
        exact papp (pimp (fun _ _ i => (i.same s3).keep hb3 k3) ha2) (.cons (i3.keep hb3 k3) .nil)
    rintro H2 ⟨bcc, s2, hb2, ha2⟩
    rw [kl, List.take_length] at ha2
    refine ⟨L, bcc, rfl, .inl ⟨.inl (.inl hb2), fun T2 hT2 => ?_⟩⟩
    have sn := same_new hT2 (.tup bcc)
    have s02 := s2.trans sn
    have hb3 := s02 _ _ hb
    generalize eH : upd H2 T2 (.tup bcc) = H3 at *
    have iT : SqT K H3 T2 bcc := .inl (.inl (by rw [← eH]; exact upd_same))
    have k3 := keep_upd (d := D) (H := H3) (o := .lst (acc ++ [.ref T2]))
    refine ⟨acc, hb3, small1000 (by omega), acc ++ [.ref T2], fun b o e => ?_, upd_same, ?_⟩
    · rw [upd_ne (ne_of_none e hD)]
      exact s02 _ _ (s' _ _ e)
    · rw [take_more ez, List.map_append]
      refine papp (pimp (fun _ _ i => (i.same s02).keep hb3 k3) ha) (.cons (IsSt.keep ⟨T2, bcc, rfl, iT, pimp (fun _ _ i => i.same sn) ha2⟩ hb3 k3) .nil)
  rintro H1 ⟨acc, s1, hb, ha⟩
  rw [hl, List.take_length] at ha
  refine ⟨_, rfl, D, acc, rfl, .inr (.inl (.inl hb)), ?_⟩
  refine mkw_of ha (dr_map oc ok) fun H2 r2 s2 i2 => q _ _ (s1.trans s2) i2
structure MWc (P : Program) (w : World) (K : PySem.W.Frag) (mg : Str → Option Value) (base : Heap) (C CW : Addr) : Prop where
  cl : Cls K CW
  ex : ∃ f fd, FnOk P w K mg base CX0 7 f fd ["self", "copy"] (sp_wcop K C CW) ∧ Binds K fd ["self", "copy"] [] ∧ Meth K CW "copied" f
theorem pe_copied {X : Cx} {C CW : Addr} {o e : Expr} {to : TE} {t : TA} {apos pos : Pos} {pl : Sem Bool} (M : MWc X.prog X.w X.K X.mg X.base C CW) (hr : Room 7 X.A) (ho : PE X o to) (ha : PA X [e] t)
    (hs1 : starEach [e] X.env = (false, eval e X.env) :: starEach [] X.env := by rfl) (hs2 : (backTo pos (starEach [] X.env)).any (·.1) = false := by rfl)
    (ht : eval (.Call (.Attribute o "copied" apos) [e] [] pos) X.env = (do
      let ov ← eval o X.env
      standAt apos.atName
      let (g, first) ← holding [ov] (getMethod ov "copied" pl)
      callWith pos g first (backTo pos (starEach [e] X.env)) (backToKw pos (keywordEach [] X.env))) := by rfl) :
    PE X (.Call (.Attribute o "copied" apos) [e] [] pos) (tMeth CW "copied" (sp_wcop X.K C CW) [] E0 to t) := by
  obtain ⟨f, fd, F, b, m⟩ := M.ex
  exact pe_meth ho M.cl m F hr b .nil pass0 ha hs1 hs2 ht
theorem wf_no {t : Addr} {x : Str} (h1 : (x == ("held" : Str)) = false) : (wf t).lookup x = none := by
  unfold wf
  simp only [List.lookup, h1]
theorem copied_of {C CW : Addr} {H : Hp} {Q : VK} {v : V} {zss : List (List T3)} (i : IsW K CW H v zss) {t : TA} {σ : L2.St} (q : t σ H fun vs H2 => sp_wcop K C CW (v :: (vs ++ [])) H2 Q E0) : ∃ a dx fs, v = .ref a ∧ H a = some (.ins CW dx fs) ∧ fs.lookup ("copied" : Str) = none ∧ t σ H fun vs H2 => sp_wcop K C CW (v :: (vs ++ [])) H2 Q E0 := by
  obtain ⟨p, dx, a, b, rfl, h1, _⟩ := i
  exact ⟨p, dx, _, rfl, h1, wf_no (by decide +kernel), q⟩
end
end My

namespace My
open PySem L2 Mth
section
variable {K : PySem.W.Frag}
/-! ### strokes as data -/
def dSt (zs : List T3) : PyData := .tuple (zs.map d3)
theorem dps3 {H : Hp} : ∀ {us : List V} {zs : List T3}, Paired (IsT K H) us zs → DpAll K H us (zs.map d3)
  | _, _, .nil => .nil
  | _, _, .cons ⟨p, e, h⟩ t => by
    subst e
    exact .cons (Dp3 h) (dps3 t)
theorem dps_st {H : Hp} : ∀ {us : List V} {zss : List (List T3)}, AllSt K H us zss → DpAll K H us (zss.map dSt)
  | _, _, .nil => .nil
  | _, _, .cons ⟨p, ys, e, h1, h2⟩ t => by
    subst e
    exact .cons (.tup h1 (dps3 h2)) (dps_st t)
theorem can_st (zs : List T3) : (dSt zs).canLay0 = true ∧ (dSt zs).depth ≤ 60 := by
  constructor
  · show PyData.canLayAll0 (zs.map d3) = true
    refine canAll fun x hx => ?_
    obtain ⟨z, _, rfl⟩ := List.mem_map.mp hx
    rfl
  · show PyData.depthAll (zs.map d3) + 1 ≤ 60
    have := depAll (n := 5) (xs := zs.map d3) fun x hx => by
      obtain ⟨z, _, rfl⟩ := List.mem_map.mp hx
      show PyData.depth (d3 z) ≤ 5
      simp [d3, PyData.depth, PyData.depthAll]
    omega
theorem sh_st (zss : List (List T3)) : SeqAt.shaped (.tuple (zss.map dSt)) = true := by
  show (PyData.canLayAll0 (zss.map dSt) && decide (PyData.depthAll (zss.map dSt) + 1 ≤ 64)) = true
  rw [canAll (xs := zss.map dSt) (fun x hx => by obtain ⟨z, _, rfl⟩ := List.mem_map.mp hx; exact (can_st z).1), decide_eq_true (by have := depAll (n := 60) (xs := zss.map dSt) (fun x hx => by obtain ⟨z, _, rfl⟩ := List.mem_map.mp hx; exact (can_st z).2); omega)]
  rfl
theorem eqvT : ∀ (xs : List PyData), PyData.eqv (.tuple xs) (.tuple []) = xs.isEmpty
  | [] => rfl
  | _ :: _ => rfl
theorem eqvMap {α : Type} [DecidableEq α] {g : α → PyData} (h : ∀ a b, PyData.eqv (g a) (g b) = decide (a = b)) : ∀ as bs : List α, PyData.eqvAll (as.map g) (bs.map g) = decide (as = bs)
  | [], [] => rfl
  | [], _ :: _ => rfl
  | _ :: _, [] => rfl
  | a :: as, b :: bs => by
    show (PyData.eqv (g a) (g b) && PyData.eqvAll (as.map g) (bs.map g)) = _
    rw [h, eqvMap h as bs, ← Bool.decide_and]
    simp
theorem eqvSt (as bs : List T3) : PyData.eqv (dSt as) (dSt bs) = decide (as = bs) := eqvMap eqv3 as bs
theorem eqvSS (as bs : List (List T3)) : PyData.eqv (.tuple (as.map dSt)) (.tuple (bs.map dSt)) = decide (as = bs) := eqvMap eqvSt as bs
end
end My

namespace My
open PySem L2 Mth
abbrev s_Drawing___eq__ : Stmt := inClass (topS 55) 6
theorem sc_Drawing___eq__ : FnScope ["self", "other"] ["self", "other"] (defScope s_Drawing___eq__) := ⟨rfl, rfl, rfl, by decide +kernel, rfl, by decide +kernel, by decide +kernel⟩
abbrev s_Drawing___getitem__ : Stmt := inClass (topS 55) 3
theorem sc_Drawing___getitem__ : FnScope ["self", "at"] ["self", "at"] (defScope s_Drawing___getitem__) := ⟨rfl, rfl, rfl, by decide +kernel, rfl, by decide +kernel, by decide +kernel⟩
abbrev s_Drawing___len__ : Stmt := inClass (topS 55) 2
theorem sc_Drawing___len__ : FnScope ["self"] ["self"] (defScope s_Drawing___len__) := ⟨rfl, rfl, rfl, by decide +kernel, rfl, by decide +kernel, by decide +kernel⟩
section
variable {P : Program} {w : World} {K : PySem.W.Frag} {mg : Str → Option Value} {base : Heap}
/-! ### len, items and equality of drawings -/
def sp_wlen (K : PySem.W.Frag) (CW : Addr) : Sp := fun vs H Q _ => ∃ va zss, vs = [va] ∧ IsW K CW H va zss ∧ Q (.int (zss.length : Nat)) H
theorem ok_wlen {f CW : Addr} {fd : FuncData} (T : WTxt K CW) (b_len : mg "len" = none) (F : Fun K "__len__" "Drawing.__len__" s_Drawing___len__ f fd) : FnOk P w K mg base CX0 1 f fd ["self"] (sp_wlen K CW) := by
  refine F.ok sc_Drawing___len__ (fun vs H Q E h => ?_) (fun cdv A outer s H vs Q E hr h => ?_)
  · obtain ⟨va, zss, rfl, _⟩ := h
    rfl
  obtain ⟨va, zss, rfl, ⟨p, dx, t, us, rfl, h1, h2, h3⟩, q⟩ := h
  refine ⟨_, (pss_one (ps_ret (pe_callB call_len_seq (by rfl) b_len PySem.boot_len (pa_cons (pe_fld (pv 0) rfl) pa_nil)))), ?_⟩
  refine ⟨_, rfl, p, CW, dx, _, _, rfl, h1, T.cl, T.nH, wf_held, t, us, rfl, .inr h2, ?_⟩
  rw [Paired.length h3]
  exact q
def sp_wget (K : PySem.W.Frag) (CW : Addr) : Sp := fun vs H Q _ => ∃ va i zss zs, vs = [va, .int i] ∧ IsW K CW H va zss ∧ atI zss i = some zs ∧ ∀ v, IsSt K H v zs → Q v H
theorem pairedI {α β : Type} {R : α → β → Prop} {us : List α} {ts : List β} (h : Paired R us ts) {i : Int} {t : β} (e : atI ts i = some t) : ∃ u, atI us i = some u ∧ R u t := by
  have hl := Paired.length h
  unfold atI at *
  rw [hl]
  cases hx : ixN ts.length i with
  | none => rw [hx] at e; cases e
  | some j =>
    rw [hx] at e
    have e : ts[j]? = some t := e
    have lj := (List.getElem?_eq_some_iff.mp e).1
    obtain ⟨u, eu⟩ : ∃ u, us[j]? = some u := ⟨us[j]'(by omega), by simp⟩
    obtain ⟨t', et, r⟩ := pgt h eu
    rw [e] at et
    cases et
    exact ⟨u, eu, r⟩
theorem ok_wget {f CW : Addr} {fd : FuncData} (T : WTxt K CW) (F : Fun K "__getitem__" "Drawing.__getitem__" s_Drawing___getitem__ f fd) : FnOk P w K mg base CX0 1 f fd ["self", "at"] (sp_wget K CW) := by
  refine F.ok sc_Drawing___getitem__ (fun vs H Q E h => ?_) (fun cdv A outer s H vs Q E hr h => ?_)
  · obtain ⟨va, i, zss, zs, rfl, _⟩ := h
    rfl
  obtain ⟨va, i, zss, zs, rfl, ⟨p, dx, t, us, rfl, h1, h2, h3⟩, e, q⟩ := h
  refine ⟨_, (pss_one (ps_ret (pe_ix (r := rIxT K) ix_tup (pe_fld (pv 0) rfl) (pv 1) (fun _ _ => rfl)))), ?_⟩
  obtain ⟨u, eu, iu⟩ := pairedI h3 e
  exact ⟨_, rfl, p, CW, dx, _, _, rfl, h1, T.cl, T.nH, wf_held, _, rfl, t, us, i, u, rfl, rfl, h2, eu, q u iu⟩
structure WIs (K : PySem.W.Frag) (C : Addr) : Prop where
  ha : PySem.W.findIn K (.ref C) "__class__" = some (some (.builtin "object.__class__"))
  hn : PySem.W.specialIn K (.builtin "object.__class__") "__get__" = some (some (.builtin "getset_descriptor.__get__"))
  htk : PySem.W.takesIn K (.builtin "object.__class__") = some true
  hm : PySem.W.mroIn K C (.type "object") = some true
def sp_weq (K : PySem.W.Frag) (CW : Addr) : Sp := fun vs H Q _ => ∃ va as vb bs, vs = [va, vb] ∧ IsW K CW H va as ∧ IsW K CW H vb bs ∧ Q (.bl (decide (as = bs))) H
theorem ok_weq {f CW : Addr} {fd : FuncData} (T : WTxt K CW) (TI : WIs K CW) (mgW : mg "Drawing" = some (.ref CW)) (b_isinstance : mg "isinstance" = none) (F : Fun K "__eq__" "Drawing.__eq__" s_Drawing___eq__ f fd) : FnOk P w K mg base CX0 1 f fd ["self", "other"] (sp_weq K CW) := by
  refine F.ok sc_Drawing___eq__ (fun vs H Q E h => ?_) (fun cdv A outer s H vs Q E hr h => ?_)
  · obtain ⟨va, as, vb, bs, rfl, _⟩ := h
    rfl
  obtain ⟨va, as, vb, bs, rfl, ⟨p, dx, t, us, rfl, h1, h2, h3⟩, ⟨p', dx', t', us', rfl, k1, k2, k3⟩, q⟩ := h
  refine ⟨_, (pss_one (ps_ret (pe_and (pe_callB (r := rIsi K) call_isi (by rfl) b_isinstance (by decide +kernel) (pa_cons (pv 1) (pa_cons (pe_glob (v := .ref CW) (by rfl) mgW rfl) pa_nil))) (pe_one (pe_cmpR (r := rEqD K) (op_eqD hr.units) (pe_fld (pv 0) rfl) (pe_fld (pv 1) rfl) (nomark _)))))), ?_⟩
  refine ⟨_, rfl, _, _, _, _, true, rfl, .own CW, .base (.ins k1 T.cl TI.ha TI.hn TI.htk TI.hm), ?_, true, rfl, iteT ?_⟩
  · unfold PySem.W.kitOne; simp
  refine ⟨_, rfl, p, CW, dx, _, _, rfl, h1, T.cl, T.nH, wf_held, _, rfl, p', CW, dx', _, _, rfl, k1, T.cl, T.nH, wf_held, .tuple (as.map dSt), .tuple (bs.map dSt), .tup h2 (dps_st h3), .tup k2 (dps_st k3), sh_st as, sh_st bs, ?_⟩
  rw [eqvSS]
  exact q
def sp_weqI (K : PySem.W.Frag) (CW : Addr) : Sp := fun vs H Q _ => ∃ va as i, vs = [va, .int i] ∧ IsW K CW H va as ∧ Q (.bl false) H
theorem ok_weqI {f CW : Addr} {fd : FuncData} (T : WTxt K CW) (kI : PySem.W.kitOne K (.type "int") (.ref CW) = some false) (mgW : mg "Drawing" = some (.ref CW)) (b_isinstance : mg "isinstance" = none) (F : Fun K "__eq__" "Drawing.__eq__" s_Drawing___eq__ f fd) : FnOk P w K mg base CX0 1 f fd ["self", "other"] (sp_weqI K CW) := by
  refine F.ok sc_Drawing___eq__ (fun vs H Q E h => ?_) (fun cdv A outer s H vs Q E hr h => ?_)
  · obtain ⟨va, as, i, rfl, _⟩ := h
    rfl
  obtain ⟨va, as, i, rfl, iw, q⟩ := h
  refine ⟨_, (pss_one (ps_ret (pe_and (pe_callB (r := rIsi K) call_isi (by rfl) b_isinstance (by decide +kernel) (pa_cons (pv 1) (pa_cons (pe_glob (v := .ref CW) (by rfl) mgW rfl) pa_nil))) (pe_one (pe_cmpR (r := rEqD K) (op_eqD hr.units) (pe_fld (pv 0) rfl) (pe_fld (pv 1) rfl) (nomark _)))))), ?_⟩
  refine ⟨_, rfl, _, _, _, _, false, rfl, .own CW, .base (.int _), ?_, false, rfl, iteF q⟩
  exact kI
structure MWl (P : Program) (w : World) (K : PySem.W.Frag) (mg : Str → Option Value) (base : Heap) (CW : Addr) : Prop where
  ex : ∃ f, FnR P w K mg base CX0 1 f (sp_wlen K CW) ∧ PySem.W.findIn K (.ref CW) "__len__" = some (some (.ref f)) ∧ PySem.W.isFn K (.ref f) = true
theorem cr_wlen {X : Cx} {CW : Addr} (M : MWl X.prog X.w X.K X.mg X.base CW) (hr : Room 2 X.A) : CallR X (.builtin "len") (rLenO CW (sp_wlen X.K CW)) := by
  obtain ⟨f, F, h1, h2⟩ := M.ex
  exact cr_lenO F hr h1 h2
theorem wlen_of {CW : Addr} {H : Hp} {Q : VK} {v : V} {zss : List (List T3)} (i : IsW K CW H v zss) (h : zss.length ≤ 1000) (q : Q (.int (zss.length : Nat)) H) : rLenO CW (sp_wlen K CW) [v] H Q := by
  obtain ⟨p, dx, _, _, rfl, h1, _⟩ := id i
  exact ⟨p, dx, _, rfl, h1, _, zss, rfl, i, _, rfl, by omega, by omega, q⟩
structure MWg (P : Program) (w : World) (K : PySem.W.Frag) (mg : Str → Option Value) (base : Heap) (CW : Addr) : Prop where
  ex : ∃ f, FnR P w K mg base CX0 1 f (sp_wget K CW) ∧ PySem.W.findIn K (.ref CW) "__getitem__" = some (some (.ref f)) ∧ PySem.W.isFn K (.ref f) = true ∧ PySem.W.fnIn K f = true
theorem pe_wget {X : Cx} {CW : Addr} {a b : Expr} {ta tb : TE} {pos : Pos} (hK : X.K = K) (M : MWg X.prog X.w X.K X.mg X.base CW) (hr : Room 2 X.A) (ha : PE X a ta) (hb : PE X b tb)
    (hsl : ∀ o i, subscripted b true o i = runValue (.builtin "lifetime.subscript" ⟨[o, i], []⟩) := by intro _ _; rfl) : PE X (.Subscript a b pos) (tOp (rIxO CW (sp_wget K CW)) ta tb) := by
  subst hK
  obtain ⟨f, F, h1, h2, h3⟩ := M.ex
  exact pe_ixO F hr h1 h2 h3 ha hb hsl
theorem wget_of {CW : Addr} {H : Hp} {Q : VK} {v : V} {zss : List (List T3)} {zs : List T3} {i : Int} (iw : IsW K CW H v zss) (e : atI zss i = some zs) (q : ∀ u, IsSt K H u zs → Q u H) : rIxO CW (sp_wget K CW) v (.int i) H Q := by
  obtain ⟨p, dx, _, _, rfl, h1, _⟩ := id iw
  exact ⟨p, dx, _, i, rfl, rfl, h1, _, i, zss, zs, rfl, iw, e, q⟩
structure MWe (P : Program) (w : World) (K : PySem.W.Frag) (mg : Str → Option Value) (base : Heap) (CW : Addr) : Prop where
  ex : ∃ f, FnR P w K mg base CX0 1 f (sp_weq K CW) ∧ FnR P w K mg base CX0 1 f (sp_weqI K CW) ∧ PySem.W.findIn K (.ref CW) "__eq__" = some (some (.ref f)) ∧ PySem.W.isFn K (.ref f) = true
theorem op_weq {X : Cx} {CW : Addr} (M : MWe X.prog X.w X.K X.mg X.base CW) (hr : Room 1 X.A) : OpR X (compareOp .Eq) (rOwn2 CW (sp_weq X.K CW)) := by
  obtain ⟨f, F, _, h1, h2⟩ := M.ex
  exact eq_own F hr h1 h2
theorem weq_of {CW : Addr} {H : Hp} {Q : VK} {x y : V} {as bs : List (List T3)} (ix : IsW K CW H x as) (iy : IsW K CW H y bs) (q : Q (.bl (decide (as = bs))) H) : rOwn2 CW (sp_weq K CW) x y H Q := by
  obtain ⟨p, dx, _, _, rfl, h1, _⟩ := id ix
  obtain ⟨p', dx', _, _, rfl, h1', _⟩ := id iy
  exact ⟨p, p', dx, _, dx', _, rfl, rfl, h1, h1', _, as, _, bs, rfl, ix, iy, q⟩
end
end My

namespace My
open PySem L2 Mth
section
variable {K : PySem.W.Frag}
/-- a fraction -/
def IsF (K : PySem.W.Frag) (H : Hp) (v : V) (f : Int × Int) : Prop := ∃ p, v = .ref p ∧ SqT K H p [.int f.1, .int f.2]
theorem IsF.same {H H' : Hp} {v : V} {f : Int × Int} (h : IsF K H v f) (e : Same H H') : IsF K H' v f := by
  obtain ⟨p, rfl, q⟩ := h
  exact ⟨p, rfl, same_T e q⟩
theorem IsF.keep {H H' : Hp} {v : V} {f : Int × Int} {d : Addr} {ys : List V} (h : IsF K H v f) (hd : H d = some (.lst ys)) (k : Keep d H H') : IsF K H' v f := by
  obtain ⟨p, rfl, q⟩ := h
  exact ⟨p, rfl, keep_T q hd k⟩
theorem IsF.new {H : Hp} {p : Addr} {a b : Int} : IsF K (upd H p (.tup [.int a, .int b])) (.ref p) (a, b) := ⟨p, rfl, .inl (.inl upd_same)⟩
def dF (f : Int × Int) : PyData := .tuple [.int f.1, .int f.2]
theorem IsF.dp {H : Hp} {v : V} {f : Int × Int} (h : IsF K H v f) : Dp K H v (dF f) := by
  obtain ⟨p, rfl, q⟩ := h
  exact .tup q (.cons (.int _) (.cons (.int _) .nil))
theorem shapedF (f : Int × Int) : SeqAt.shaped (dF f) = true := rfl
theorem deepF (n : Nat) (f : Int × Int) : Deep (n + 2) (dF f) := by
  refine ⟨(by show 2 ≤ 1000; decide), fun d hd => ?_⟩
  simp only [List.mem_cons, List.mem_nil_iff, or_false] at hd
  rcases hd with rfl | rfl <;> trivial
end
end My

namespace My
open PySem L2 Mth
section
variable {P : Program} {w : World} {K : PySem.W.Frag} {mg : Str → Option Value} {base : Heap}
def sp_still (K : PySem.W.Frag) (C : Addr) : Sp := fun vs H Q _ => vs = [] ∧ ∀ H' r, Same H H' → IsC K C H' r still → Q r H'
/-- done so many times -/
structure AgIn (c : Cp) (n : Int) : Prop where
  ok : CpOk c
  lo : -100 ≤ n
  hi : n ≤ 100
  bc : BC 1900 c
  bs : BC 1900 (stp c n)
  ba : ∀ k, k < n.natAbs → BC 1900 (ag (stp c n) k)
def sp_again (K : PySem.W.Frag) (C : Addr) : Sp := fun vs H Q _ => ∃ vc c n, vs = [vc, .int n] ∧ IsC K C H vc c ∧ AgIn c n ∧ ∀ H' r, Same H H' → IsC K C H' r (agz c n) → Q r H'
structure MAg (P : Program) (w : World) (K : PySem.W.Frag) (mg : Str → Option Value) (base : Heap) (C : Addr) : Prop where
  cl : Cls K C
  ex : ∃ f fd, FnOk P w K mg base CX0 7 f fd ["self", "times"] (sp_again K C) ∧ Binds K fd ["self", "times"] [] ∧ Meth K C "again" f
theorem pe_again {X : Cx} {C : Addr} {o e : Expr} {to : TE} {t : TA} {apos pos : Pos} {pl : Sem Bool} (M : MAg X.prog X.w X.K X.mg X.base C) (hr : Room 7 X.A) (ho : PE X o to) (ha : PA X [e] t)
    (hs1 : starEach [e] X.env = (false, eval e X.env) :: starEach [] X.env := by rfl) (hs2 : (backTo pos (starEach [] X.env)).any (·.1) = false := by rfl)
    (ht : eval (.Call (.Attribute o "again" apos) [e] [] pos) X.env = (do
      let ov ← eval o X.env
      standAt apos.atName
      let (g, first) ← holding [ov] (getMethod ov "again" pl)
      callWith pos g first (backTo pos (starEach [e] X.env)) (backToKw pos (keywordEach [] X.env))) := by rfl) :
    PE X (.Call (.Attribute o "again" apos) [e] [] pos) (tMeth C "again" (sp_again X.K C) [] E0 to t) := by
  obtain ⟨f, fd, F, b, m⟩ := M.ex
  exact pe_meth ho M.cl m F hr b .nil pass0 ha hs1 hs2 ht
theorem cf_no {a b : Addr} {m : Bool} {x : Str} (h1 : (x == ("factor" : Str)) = false) (h2 : (x == ("offset" : Str)) = false) (h3 : (x == ("flips" : Str)) = false) : (cf a b m).lookup x = none := by
  unfold cf
  simp only [List.lookup, h1, h2, h3]
theorem again_of {C : Addr} {H : Hp} {Q : VK} {v : V} {c : Cp} (i : IsC K C H v c) {t : TA} {σ : L2.St} (q : t σ H fun vs H2 => sp_again K C (v :: (vs ++ [])) H2 Q E0) : ∃ a dx fs, v = .ref a ∧ H a = some (.ins C dx fs) ∧ fs.lookup ("again" : Str) = none ∧ t σ H fun vs H2 => sp_again K C (v :: (vs ++ [])) H2 Q E0 := by
  obtain ⟨p, dx, a, b, rfl, h1, _⟩ := i
  exact ⟨p, dx, _, rfl, h1, cf_no (by decide +kernel) (by decide +kernel) (by decide +kernel), q⟩
end
end My

namespace My
open PySem L2 Mth
abbrev s_still_copy : Stmt := topS 46
theorem sc_still_copy : FnScope [] [] (defScope s_still_copy) := ⟨rfl, rfl, rfl, by decide +kernel, rfl, by decide +kernel, by decide +kernel⟩
section
variable {P : Program} {w : World} {K : PySem.W.Frag} {mg : Str → Option Value} {base : Heap}
theorem ok_still_copy {f C fI aO aM : Addr} {fd fdI : FuncData} {mv ds : List Value} (TC : CopyI P w K mg base C fI fdI mv ds) (m_ONE : mg "ONE" = some (.ref aO)) (t_ONE : ∀ H, SqT K H aO (v3 (1, 0, 1))) (m_MIDDLE : mg "MIDDLE" = some (.ref aM)) (t_MIDDLE : ∀ H, SqT K H aM (v3 (0, 0, 1)))
    (F : Fun K "still_copy" "still_copy" s_still_copy f fd) : FnOk P w K mg base CX0 6 f fd [] (sp_still K C) := by
  refine F.ok sc_still_copy (fun vs H Q E h => ?_) (fun cdv A outer s H vs Q E hr h => ?_)
  · obtain ⟨rfl, _⟩ := h
    rfl
  obtain ⟨rfl, q⟩ := h
  refine ⟨_, (pss_one (ps_ret (pe_make TC.mkC TC.ok (hr.mono (by decide)) (by rfl) TC.mgC TC.bd TC.bv pass0 (pa_cons (pe_glob (v := .ref aO) (by rfl) m_ONE rfl) (pa_cons (pe_glob (v := .ref aM) (by rfl) m_MIDDLE rfl) pa_nil))))), ?_⟩
  exact mk_of2 ⟨_, rfl, t_ONE H⟩ ⟨_, rfl, t_MIDDLE H⟩ still_ok.t still_ok.n still_ok.s fun H1 x s1 i1 => ⟨rfl, q _ _ s1 i1⟩
end
end My

namespace My
open PySem L2 Mth
abbrev s_Arm___init__ : Stmt := inClass (topS 61) 0
theorem sc_Arm___init__ : FnScope ["self", "pole", "turn", "near", "far", "mirrored"] ["self", "pole", "turn", "near", "far", "mirrored"] (defScope s_Arm___init__) := ⟨rfl, rfl, rfl, by decide +kernel, rfl, by decide +kernel, by decide +kernel⟩
abbrev s_check_reach : Stmt := topS 62
theorem sc_check_reach : FnScope ["near", "far"] ["near", "far"] (defScope s_check_reach) := ⟨rfl, rfl, rfl, by decide +kernel, rfl, by decide +kernel, by decide +kernel⟩
abbrev s_copy_around : Stmt := topS 63
theorem sc_copy_around : FnScope ["pole", "turn", "mirrored", "shift"] ["pole", "turn", "mirrored"] (defScope s_copy_around) := ⟨rfl, rfl, rfl, by decide +kernel, rfl, by decide +kernel, by decide +kernel⟩
section
variable {P : Program} {w : World} {K : PySem.W.Frag} {mg : Str → Option Value} {base : Heap}
/-! ### arms -/
def sp_reach : Sp := fun vs H Q _ => ∃ n f : Int, vs = [.int n, .int f] ∧ 0 ≤ n ∧ n ≤ f ∧ f ≤ 1000 ∧ Q .non H
theorem ok_check_reach {f : Addr} {fd : FuncData} {tk : Tok} (m_MOST_REACH : mg "MOST_REACH" = some (.int 1000 tk)) (d_is_whole : D P w K mg base "is_whole" 1 sp_whole) (F : Fun K "check_reach" "check_reach" s_check_reach f fd) : FnOk P w K mg base CX0 2 f fd ["near", "far"] sp_reach := by
  refine F.ok sc_check_reach (fun vs H Q E h => ?_) (fun cdv A outer s H vs Q E hr h => ?_)
  · obtain ⟨n, g, rfl, _⟩ := h
    rfl
  obtain ⟨n, g, rfl, h0, h1, h2, q⟩ := h
  refine ⟨_, (pss_one (ps_if (PW.pt (pw_or (pt_not (pt_val (pc d_is_whole (hr.mono (by decide)) (pa_cons (pv 0) pa_nil)))) (pw_or (pt_not (pt_val (pc d_is_whole (hr.mono (by decide)) (pa_cons (pv 1) pa_nil)))) (pw_or1 (pt_not (pt_chain3 op_le op_le op_le pe_int (pv 0) (pv 1) (pe_glob (v := .int 1000) (by rfl) m_MOST_REACH ⟨_, rfl⟩))))))) (pss_one ps_never) pss_nil)), ?_⟩
  refine ⟨_, rfl, n, rfl, _, rfl, iteF ?_⟩
  refine ⟨_, rfl, g, rfl, _, rfl, iteF ?_⟩
  refine ⟨_, rfl, _, _, rfl, rfl, true, congrArg V.bl (decide_eq_true h0), iteT ?_⟩
  refine ⟨_, rfl, _, _, rfl, rfl, true, congrArg V.bl (decide_eq_true h1), iteT ?_⟩
  exact ⟨_, _, rfl, rfl, true, congrArg V.bl (decide_eq_true h2), iteF q⟩
def sp_around (K : PySem.W.Frag) (C : Addr) : Sp := fun vs H Q _ => ∃ vp vt m p t, vs = [vp, vt, .bl m] ∧ IsT K H vp p ∧ IsT K H vt t ∧ Ok p ∧ Ok t ∧ Nz t ∧ B 2600 p ∧ B 1000 t ∧ ∀ H' r, Same H H' → IsC K C H' r ⟨t, minus p (times t (face p m)), m⟩ → Q r H'
theorem ok_copy_around {f C fI : Addr} {fd fdI : FuncData} {mv ds : List Value} (TC : CopyI P w K mg base C fI fdI mv ds) (d_minus : D P w K mg base "minus" 4 (sp_two K minus)) (d_product : D P w K mg base "product" 3 (sp_two K times)) (d_faced : D P w K mg base "faced" 1 (sp_face K))
    (F : Fun K "copy_around" "copy_around" s_copy_around f fd) : FnOk P w K mg base CX0 6 f fd ["pole", "turn", "mirrored"] (sp_around K C) := by
  refine F.ok sc_copy_around (fun vs H Q E h => ?_) (fun cdv A outer s H vs Q E hr h => ?_)
  · obtain ⟨vp, vt, m, p, t, rfl, _⟩ := h
    rfl
  obtain ⟨vp, vt, m, p, t, rfl, ip, it, op, ot, nt, bp, bt, q⟩ := h
  refine ⟨_, (pss_cons (ps_set (i := 3) sc_copy_around.nd rfl (by first | exact Or.inl rfl | exact Or.inr rfl) (pc d_minus (hr.mono (by decide)) (pa_cons (pv 0) (pa_cons (pc d_product (hr.mono (by decide)) (pa_cons (pv 1) (pa_cons (pc d_faced (hr.mono (by decide)) (pa_cons (pv 0) (pa_cons (pv 2) pa_nil))) pa_nil))) pa_nil))))
    (pss_one (ps_ret (pe_makeK TC.mkC TC.ok (hr.mono (by decide)) (by rfl) TC.mgC TC.kb pass0 (pa_cons (pv 1) (pa_cons (pv 3) pa_nil)) (pk_cons (pv 2) pk_nil))))), ?_⟩
  refine ⟨_, rfl, _, rfl, _, rfl, _, rfl, _, _, _, rfl, ip, fun H1 r1 s1 i1 => ?_⟩
  refine ⟨_, _, _, _, rfl, it.same s1, i1, ot, face_ok op _, bt.mono (by decide), (face_B bp _).mono (by decide), fun H2 r2 s2 i2 => ?_⟩
  refine ⟨_, _, _, _, rfl, ip.same (s1.trans s2), i2, op, times_ok ot (face_ok op _), bp.mono (by decide), (times_B ot (face_ok op _) bt (face_B bp _)).mono (by decide), fun H3 r3 s3 i3 => ?_⟩
  have s13 := s1.trans (s2.trans s3)
  refine ⟨_, rfl, _, rfl, _, rfl, rfl, rfl, ?_⟩
  exact mk_of (it.same s13) i3 ot nt (minus_ok op (times_ok ot (face_ok op _))) fun H4 r4 s4 i4 => q _ _ (s13.trans s4) i4
def af (a0 : Addr) (a1 : Addr) (a2 : Int) (a3 : Int) (a4 : Bool) (a5 : Addr) : List (Str × V) := [("centre", .ref a0), ("factor", .ref a1), ("least", .int a2), ("most", .int a3), ("flips", .bl a4), ("pen", .ref a5)]
theorem af_put {a0 : Addr} {a1 : Addr} {a2 : Int} {a3 : Int} {a4 : Bool} {a5 : Addr} : putF "pen" (.ref a5) (putF "flips" (.bl a4) (putF "most" (.int a3) (putF "least" (.int a2) (putF "factor" (.ref a1) (putF "centre" (.ref a0) ([])))))) = af a0 a1 a2 a3 a4 a5 := by
  have h0_1 : ¬ (("centre" : Str) = "factor") := by decide +kernel
  have h0_2 : ¬ (("centre" : Str) = "least") := by decide +kernel
  have h0_3 : ¬ (("centre" : Str) = "most") := by decide +kernel
  have h0_4 : ¬ (("centre" : Str) = "flips") := by decide +kernel
  have h0_5 : ¬ (("centre" : Str) = "pen") := by decide +kernel
  have h1_2 : ¬ (("factor" : Str) = "least") := by decide +kernel
  have h1_3 : ¬ (("factor" : Str) = "most") := by decide +kernel
  have h1_4 : ¬ (("factor" : Str) = "flips") := by decide +kernel
  have h1_5 : ¬ (("factor" : Str) = "pen") := by decide +kernel
  have h2_3 : ¬ (("least" : Str) = "most") := by decide +kernel
  have h2_4 : ¬ (("least" : Str) = "flips") := by decide +kernel
  have h2_5 : ¬ (("least" : Str) = "pen") := by decide +kernel
  have h3_4 : ¬ (("most" : Str) = "flips") := by decide +kernel
  have h3_5 : ¬ (("most" : Str) = "pen") := by decide +kernel
  have h4_5 : ¬ (("flips" : Str) = "pen") := by decide +kernel
  simp only [putF, if_neg h0_1, if_neg h0_2, if_neg h0_3, if_neg h0_4, if_neg h0_5, if_neg h1_2, if_neg h1_3, if_neg h1_4, if_neg h1_5, if_neg h2_3, if_neg h2_4, if_neg h2_5, if_neg h3_4, if_neg h3_5, if_neg h4_5]
  rfl
theorem af_centre {a0 : Addr} {a1 : Addr} {a2 : Int} {a3 : Int} {a4 : Bool} {a5 : Addr} : (af a0 a1 a2 a3 a4 a5).lookup ("centre" : Str) = some (.ref a0) := by
  unfold af
  simp only [List.lookup, beq_self_eq_true]
theorem af_factor {a0 : Addr} {a1 : Addr} {a2 : Int} {a3 : Int} {a4 : Bool} {a5 : Addr} : (af a0 a1 a2 a3 a4 a5).lookup ("factor" : Str) = some (.ref a1) := by
  unfold af
  simp only [List.lookup, beq_self_eq_true, show (("factor" : Str) == "centre") = false by decide +kernel]
theorem af_least {a0 : Addr} {a1 : Addr} {a2 : Int} {a3 : Int} {a4 : Bool} {a5 : Addr} : (af a0 a1 a2 a3 a4 a5).lookup ("least" : Str) = some (.int a2) := by
  unfold af
  simp only [List.lookup, beq_self_eq_true, show (("least" : Str) == "centre") = false by decide +kernel, show (("least" : Str) == "factor") = false by decide +kernel]
theorem af_most {a0 : Addr} {a1 : Addr} {a2 : Int} {a3 : Int} {a4 : Bool} {a5 : Addr} : (af a0 a1 a2 a3 a4 a5).lookup ("most" : Str) = some (.int a3) := by
  unfold af
  simp only [List.lookup, beq_self_eq_true, show (("most" : Str) == "centre") = false by decide +kernel, show (("most" : Str) == "factor") = false by decide +kernel, show (("most" : Str) == "least") = false by decide +kernel]
theorem af_flips {a0 : Addr} {a1 : Addr} {a2 : Int} {a3 : Int} {a4 : Bool} {a5 : Addr} : (af a0 a1 a2 a3 a4 a5).lookup ("flips" : Str) = some (.bl a4) := by
  unfold af
  simp only [List.lookup, beq_self_eq_true, show (("flips" : Str) == "centre") = false by decide +kernel, show (("flips" : Str) == "factor") = false by decide +kernel, show (("flips" : Str) == "least") = false by decide +kernel, show (("flips" : Str) == "most") = false by decide +kernel]
theorem af_pen {a0 : Addr} {a1 : Addr} {a2 : Int} {a3 : Int} {a4 : Bool} {a5 : Addr} : (af a0 a1 a2 a3 a4 a5).lookup ("pen" : Str) = some (.ref a5) := by
  unfold af
  simp only [List.lookup, beq_self_eq_true, show (("pen" : Str) == "centre") = false by decide +kernel, show (("pen" : Str) == "factor") = false by decide +kernel, show (("pen" : Str) == "least") = false by decide +kernel, show (("pen" : Str) == "most") = false by decide +kernel, show (("pen" : Str) == "flips") = false by decide +kernel]
structure ATxt (K : PySem.W.Frag) (C : Addr) : Prop where
  cl : Cls K C
  nC : NoAttr K C "centre"
  nF : NoAttr K C "factor"
  nE : NoAttr K C "least"
  nM : NoAttr K C "most"
  nL : NoAttr K C "flips"
  nP : NoAttr K C "pen"
  ha : PySem.W.findIn K (.ref C) "__class__" = some (some (.builtin "object.__class__"))
  hn : PySem.W.specialIn K (.builtin "object.__class__") "__get__" = some (some (.builtin "getset_descriptor.__get__"))
  htk : PySem.W.takesIn K (.builtin "object.__class__") = some true
  hm : PySem.W.mroIn K C (.type "object") = some true
/-- an arm as an object -/
def IsA (K : PySem.W.Frag) (C CA : Addr) (H : Hp) (v : V) (a : Am) : Prop := ∃ p dx u z c, v = .ref p ∧ H p = some (.ins CA dx (af u z a.near a.far a.m c)) ∧ SqT K H u (v3 a.pole) ∧ SqT K H z (v3 a.t) ∧ IsC K C H (.ref c) (about a)
theorem IsA.same {C CA : Addr} {H H' : Hp} {v : V} {a : Am} (h : IsA K C CA H v a) (e : Same H H') : IsA K C CA H' v a := by
  obtain ⟨p, dx, u, z, c, rfl, h1, h2, h3, h4⟩ := h
  exact ⟨p, dx, u, z, c, rfl, e _ _ h1, same_T e h2, same_T e h3, h4.same e⟩
theorem IsC.keepI {C CD p dx : Addr} {fs : List (Str × V)} {H H' : Hp} {v : V} {c : Cp} (h : IsC K C H v c) (hd : H p = some (.ins CD dx fs)) (hl : fs.length ≠ 3) (e : Keep p H H') : IsC K C H' v c := by
  obtain ⟨q, dy, a, b, rfl, h1, h2, h3⟩ := h
  have n : q ≠ p := fun z => by
    rw [z, hd] at h1
    injection h1 with h1
    injection h1 with _ _ h1
    exact hl (by rw [h1]; rfl)
  exact ⟨q, dy, a, b, rfl, e _ _ n h1, keepI_T h2 hd e, keepI_T h3 hd e⟩
def sp_ainit (K : PySem.W.Frag) (C CA : Addr) : Sp := fun vs H Q _ => ∃ (H0 : Hp) (p dx : Addr) (vp vt : V) (n f : Int) (m : Bool) (z t : T3), vs = [.ref p, vp, vt, .int n, .int f, .bl m] ∧ Same H0 H ∧ H0 p = none ∧ H p = some (.ins CA dx []) ∧ IsT K H0 vp z ∧ IsT K H0 vt t ∧ AmOk ⟨z, t, n, f, m⟩ ∧ B 2600 z ∧ B 1000 t ∧
  ∀ H', Same H0 H' → IsA K C CA H' (.ref p) ⟨z, t, n, f, m⟩ → Q .non H'
theorem ok_ainit {f C CA : Addr} {fd : FuncData} {kws : List (Str × V)} (T : ATxt K CA) (d_check_turn : D P w K mg base "check_turn" 3 (sp_checkT K)) (d_check_spot : D P w K mg base "check_spot" 3 (sp_check K)) (d_check_reach : D P w K mg base "check_reach" 2 sp_reach) (d_copy_around : D P w K mg base "copy_around" 6 (sp_around K C))
    (F : FunD K "__init__" "Arm.__init__" (defArgs s_Arm___init__) (defBody s_Arm___init__) (defScope s_Arm___init__) [] kws f fd) : FnOk P w K mg base CX0 7 f fd ["self", "pole", "turn", "near", "far", "mirrored"] (sp_ainit K C CA) := by
  refine ok0 F sc_Arm___init__ (fun vs H Q E h => ?_) (fun cdv A outer s H vs Q E hr h => ?_)
  · obtain ⟨H0, p, dx, vp, vt, n, g, m, z, t, rfl, _⟩ := h
    rfl
  obtain ⟨H0, p, dx, vp, vt, n, g, m, z, t, rfl, s0, p0, hp, iz, it, ok, bz, bt, q⟩ := h
  refine ⟨_, (pss_cons (ps_expr (pc d_check_spot (hr.mono (by decide)) (pa_cons (pv 1) pa_nil)))
    (pss_cons (ps_expr (pc d_check_turn (hr.mono (by decide)) (pa_cons (pv 2) pa_nil)))
    (pss_cons (ps_expr (pc d_check_reach (hr.mono (by decide)) (pa_cons (pv 3) (pa_cons (pv 4) pa_nil))))
    (pss_cons (ps_fld (pv 0) (pv 1) rfl)
    (pss_cons (ps_fld (pv 0) (pv 2) rfl)
    (pss_cons (ps_fld (pv 0) (pv 3) rfl)
    (pss_cons (ps_fld (pv 0) (pv 4) rfl)
    (pss_cons (ps_fld (pv 0) (pv 5) rfl)
    (pss_one (ps_fld (pv 0) (pc d_copy_around (hr.mono (by decide)) (pa_cons (pv 1) (pa_cons (pv 2) (pa_cons (pv 5) pa_nil)))) rfl)))))))))), ?_⟩
  refine ⟨_, rfl, _, _, rfl, iz.same s0, ok.p, fun H1 s1 => ?_⟩
  refine ⟨_, rfl, _, _, rfl, it.same (s0.trans s1), ok.t, ok.n, fun H2 s2 => ?_⟩
  have s02 := s0.trans (s1.trans s2)
  obtain ⟨a, rfl, ta⟩ := iz
  obtain ⟨b, rfl, tb⟩ := it
  have hp2 : H2 p = some (.ins CA dx []) := s2 _ _ (s1 _ _ hp)
  refine ⟨_, rfl, _, rfl, n, g, rfl, ok.lo, ok.mi, ok.hi, ?_⟩
  have l1 := putF_len "centre" (.ref a) []
  have l2 := putF_len "factor" (.ref b) (putF "centre" (.ref a) [])
  have l3 := putF_len "least" (.int n) (putF "factor" (.ref b) (putF "centre" (.ref a) []))
  have l4 := putF_len "most" (.int g) (putF "least" (.int n) (putF "factor" (.ref b) (putF "centre" (.ref a) [])))
  have l5 := putF_len "flips" (.bl m) (putF "most" (.int g) (putF "least" (.int n) (putF "factor" (.ref b) (putF "centre" (.ref a) []))))
  have l0 : ([] : List (Str × V)).length = 0 := rfl
  refine ⟨_, rfl, _, rfl, p, CA, dx, _, rfl, hp2, T.cl, T.nC, (by show 0 < 1000; decide), ?_⟩
  refine ⟨_, rfl, _, rfl, p, CA, dx, _, rfl, upd_same, T.cl, T.nF, (by omega), ?_⟩
  refine ⟨_, rfl, _, rfl, p, CA, dx, _, rfl, upd_same, T.cl, T.nE, (by omega), ?_⟩
  refine ⟨_, rfl, _, rfl, p, CA, dx, _, rfl, upd_same, T.cl, T.nM, (by omega), ?_⟩
  refine ⟨_, rfl, _, rfl, p, CA, dx, _, rfl, upd_same, T.cl, T.nL, (by omega), ?_⟩
  have k7 : Keep p H2 (upd (upd (upd (upd (upd H2 p (.ins CA dx (putF "centre" (.ref a) []))) p (.ins CA dx (putF "factor" (.ref b) (putF "centre" (.ref a) [])))) p (.ins CA dx (putF "least" (.int n) (putF "factor" (.ref b) (putF "centre" (.ref a) []))))) p (.ins CA dx (putF "most" (.int g) (putF "least" (.int n) (putF "factor" (.ref b) (putF "centre" (.ref a) [])))))) p (.ins CA dx (putF "flips" (.bl m) (putF "most" (.int g) (putF "least" (.int n) (putF "factor" (.ref b) (putF "centre" (.ref a) []))))))) :=
    keep_upd.trans (keep_upd.trans (keep_upd.trans (keep_upd.trans keep_upd)))
  have ta2 := keepI_T (same_T s02 ta) hp2 k7
  have tb2 := keepI_T (same_T s02 tb) hp2 k7
  refine ⟨_, rfl, _, rfl, _, rfl, _, _, m, z, t, rfl, ⟨_, rfl, ta2⟩, ⟨_, rfl, tb2⟩, ok.p, ok.t, ok.n, bz, bt, fun H8 r8 s8 i8 => ?_⟩
  have hp8 := s8 _ _ (upd_same (a := p))
  refine ⟨_, rfl, p, CA, dx, _, rfl, hp8, T.cl, T.nP, (by omega), ?_⟩
  obtain ⟨c, _, _, _, ec, _⟩ := id i8
  subst ec
  have k9 := keep_upd (d := p) (H := H8) (o := .ins CA dx (putF "pen" (.ref c) (putF "flips" (.bl m) (putF "most" (.int g) (putF "least" (.int n) (putF "factor" (.ref b) (putF "centre" (.ref a) [])))))))
  refine q _ (fun y o e => ?_) ⟨p, dx, a, b, c, rfl, by rw [upd_same, af_put], keepI_T (same_T s8 ta2) hp8 k9, keepI_T (same_T s8 tb2) hp8 k9, i8.keepI hp8 (fun e => ?_) k9⟩
  · have nc : y ≠ p := fun z => by rw [z, p0] at e; cases e
    rw [upd_ne nc]
    exact s8 _ _ (k7 _ _ nc (s02 _ _ e))
  · have h0 : ¬ (("centre" : Str) = "factor") := by decide +kernel
    have h1 : ¬ (("centre" : Str) = "least") := by decide +kernel
    have h2 : ¬ (("centre" : Str) = "most") := by decide +kernel
    have h3 : ¬ (("centre" : Str) = "flips") := by decide +kernel
    have h4 : ¬ (("factor" : Str) = "least") := by decide +kernel
    have h5 : ¬ (("factor" : Str) = "most") := by decide +kernel
    have h6 : ¬ (("factor" : Str) = "flips") := by decide +kernel
    have h7 : ¬ (("least" : Str) = "most") := by decide +kernel
    have h8 : ¬ (("least" : Str) = "flips") := by decide +kernel
    have h9 : ¬ (("most" : Str) = "flips") := by decide +kernel
    simp only [putF, if_neg h0, if_neg h1, if_neg h2, if_neg h3, if_neg h4, if_neg h5, if_neg h6, if_neg h7, if_neg h8, if_neg h9, List.length_cons, List.length_nil] at e
    omega
/-- the class as its users see it -/
structure ArmI (P : Program) (w : World) (K : PySem.W.Frag) (mg : Str → Option Value) (base : Heap) (C CA f : Addr) (fd : FuncData) (mv ds : List Value) : Prop where
  tx : ATxt K CA
  mkC : Mk K CA f
  ok : FnOk P w K mg base CX0 7 f fd ["self", "pole", "turn", "near", "far", "mirrored"] (sp_ainit K C CA)
  mgC : mg "Arm" = some (.ref CA)
  bv : Vals [.bl false] ds
  bd : Binds K fd ["self", "pole", "turn", "near", "far", "mirrored"] ds
  kb : KBn K fd ["self", "pole", "turn", "near", "far", "mirrored"] 5 ["mirrored"] (fun us ws => us ++ ws) (fun vs zs => vs ++ zs)
theorem mka_of {C CA : Addr} {H : Hp} {Q : VK} {vp vt : V} {m : Bool} {n f : Int} {z t : T3} (iz : IsT K H vp z) (it : IsT K H vt t) (ok : AmOk ⟨z, t, n, f, m⟩) (bz : B 2600 z) (bt : B 1000 t) (q : ∀ H' r, Same H H' → IsA K C CA H' r ⟨z, t, n, f, m⟩ → Q r H') :
    ∀ x dx, H x = none → H dx = none → dx ≠ x → sp_ainit K C CA [.ref x, vp, vt, .int n, .int f, .bl m] (upd (upd H dx (.own x)) x (.ins CA dx [])) (fun v H2 => v = .non ∧ Q (.ref x) H2) E0 := by
  intro x dx hx hd _
  refine ⟨H, x, dx, vp, vt, n, f, m, z, t, rfl, fun c o e => ?_, hx, upd_same, iz, it, ok, bz, bt, fun H' s' i => ⟨rfl, q _ _ s' i⟩⟩
  rw [upd_ne (ne_of_none e hx), upd_ne (ne_of_none e hd)]
  exact e
theorem mka_of2 {C CA : Addr} {H : Hp} {Qf : Addr → VK} {vp vt : V} {m : Bool} {n f : Int} {z t : T3} (iz : IsT K H vp z) (it : IsT K H vt t) (ok : AmOk ⟨z, t, n, f, m⟩) (bz : B 2600 z) (bt : B 1000 t) (q : ∀ H' x, Same H H' → IsA K C CA H' (.ref x) ⟨z, t, n, f, m⟩ → Qf x .non H') :
    ∀ x dx, H x = none → H dx = none → dx ≠ x → sp_ainit K C CA [.ref x, vp, vt, .int n, .int f, .bl m] (upd (upd H dx (.own x)) x (.ins CA dx [])) (Qf x) E0 := by
  intro x dx hx hd _
  refine ⟨H, x, dx, vp, vt, n, f, m, z, t, rfl, fun c o e => ?_, hx, upd_same, iz, it, ok, bz, bt, fun H' s' i => q _ _ s' i⟩
  rw [upd_ne (ne_of_none e hx), upd_ne (ne_of_none e hd)]
  exact e
theorem bind_ainit {f : Addr} {fd : FuncData} (F : FunD K "__init__" "Arm.__init__" (defArgs s_Arm___init__) (defBody s_Arm___init__) (defScope s_Arm___init__) [] [("mirrored", .bl false)] f fd) :
    (∃ ds, Vals [.bl false] ds ∧ Binds K fd ["self", "pole", "turn", "near", "far", "mirrored"] ds) ∧ ∃ mv : List Value, KBn K fd ["self", "pole", "turn", "near", "far", "mirrored"] 5 ["mirrored"] (fun us ws => us ++ ws) (fun vs zs => vs ++ zs) := by
  refine ⟨F.binds0 (ps := ["self", "pole", "turn", "near", "far", "mirrored"]) 5 (by intro z; cases z) rfl fun D doc pm an cdv ct us ks h1 h2 => ?_, ?_⟩
  · match us, ks, h1, h2 with
    | [x, y, z, u, v], [k], _, _ => exact ⟨_, _, _, _, _, _, rfl, rfl, rfl⟩
  · refine F.kbinds0 (ps := ["self", "pole", "turn", "near", "far", "mirrored"]) 5 ["mirrored"] [] (fun us _ ws => us ++ ws) (by intro z; cases z) (fun q hq => by cases hq) (fun r1 _ r3 => r1.append r3) fun D doc pm an cdv ct us mv ws h1 h2 h3 => ?_
    match us, mv, ws, h1, h2, h3 with
    | [x, y, z, u, v], [], [k], _, _, _ => rfl
theorem about_BC {n : Nat} {a : Am} (ok : AmOk a) (bp : B n a.pole) (bt : B n a.t) : BC (3 * n + 2) (about a) :=
  ⟨bt.mono (by omega), (minus_B ok.p (times_ok ok.t (face_ok ok.p _)) bp (times_B ok.t (face_ok ok.p _) bt (face_B bp _))).mono (by omega)⟩
end
end My

namespace My
open PySem L2 Mth
abbrev s_Arm___eq__ : Stmt := inClass (topS 61) 7
theorem sc_Arm___eq__ : FnScope ["self", "other"] ["self", "other"] (defScope s_Arm___eq__) := ⟨rfl, rfl, rfl, by decide +kernel, rfl, by decide +kernel, by decide +kernel⟩
section
variable {P : Program} {w : World} {K : PySem.W.Frag} {mg : Str → Option Value} {base : Heap}
def aeq (a b : Am) : Bool := decide (a.pole = b.pole) && (decide (a.t = b.t) && (decide (V.int a.near = V.int b.near) && (decide (V.int a.far = V.int b.far) && decide (V.bl a.m = V.bl b.m))))
theorem aeq_self (a : Am) : aeq a a = true := by unfold aeq; simp
theorem aeq_iff {a b : Am} : aeq a b = true ↔ a = b := by
  refine ⟨fun h => ?_, fun h => by rw [h]; exact aeq_self b⟩
  obtain ⟨a1, a2, a3, a4, a5⟩ := a
  obtain ⟨b1, b2, b3, b4, b5⟩ := b
  unfold aeq at h
  simp only [Bool.and_eq_true, decide_eq_true_eq] at h
  obtain ⟨h1, h2, h3, h4, h5⟩ := h
  cases V.int.inj h3
  cases V.int.inj h4
  cases V.bl.inj h5
  subst h1 h2
  rfl
def sp_aeq (K : PySem.W.Frag) (C CA : Addr) : Sp := fun vs H Q _ => ∃ va a vb b, vs = [va, vb] ∧ IsA K C CA H va a ∧ IsA K C CA H vb b ∧ Q (.bl (aeq a b)) H
theorem ok_aeq {f C CA : Addr} {fd : FuncData} (T : ATxt K CA) (mgA : mg "Arm" = some (.ref CA)) (b_isinstance : mg "isinstance" = none) (F : Fun K "__eq__" "Arm.__eq__" s_Arm___eq__ f fd) : FnOk P w K mg base CX0 1 f fd ["self", "other"] (sp_aeq K C CA) := by
  refine F.ok sc_Arm___eq__ (fun vs H Q E h => ?_) (fun cdv A outer s H vs Q E hr h => ?_)
  · obtain ⟨va, a, vb, b, rfl, _⟩ := h
    rfl
  obtain ⟨va, a, vb, b, rfl, ⟨p, dx, u, v, c, rfl, h1, h2, h3, _⟩, ⟨p', dx', u', v', c', rfl, k1, k2, k3, _⟩, q⟩ := h
  refine ⟨_, (pss_one (ps_ret (pe_and (pe_callB (r := rIsi K) call_isi (by rfl) b_isinstance (by decide +kernel) (pa_cons (pv 1) (pa_cons (pe_glob (v := .ref CA) (by rfl) mgA rfl) pa_nil))) (pe_and (pe_cmpR (op_eqD hr.units) (pe_fld (pv 0) rfl) (pe_fld (pv 1) rfl) (nomark _)) (pe_and (pe_cmpR (op_eqD hr.units) (pe_fld (pv 0) rfl) (pe_fld (pv 1) rfl) (nomark _)) (pe_and (pe_cmpR (op_eq) (pe_fld (pv 0) rfl) (pe_fld (pv 1) rfl) (nomark _)) (pe_and (pe_cmpR (op_eq) (pe_fld (pv 0) rfl) (pe_fld (pv 1) rfl) (nomark _)) (pe_one (pe_cmpR (op_eq) (pe_fld (pv 0) rfl) (pe_fld (pv 1) rfl) (nomark _)))))))))), ?_⟩
  refine ⟨_, rfl, _, _, _, _, true, rfl, .own CA, .base (.ins k1 T.cl T.ha T.hn T.htk T.hm), ?_, true, rfl, iteT ?_⟩
  · unfold PySem.W.kitOne; simp
  refine ⟨_, rfl, p, CA, dx, _, _, rfl, h1, T.cl, T.nC, af_centre, _, rfl, p', CA, dx', _, _, rfl, k1, T.cl, T.nC, af_centre, _, _, Dp3 h2, Dp3 k2, shaped3 _, shaped3 _, _, rfl, ?_⟩
  rw [eqv3]
  unfold aeq at q
  cases c1 : decide (a.pole = b.pole) with
  | false => rw [c1] at q; exact iteF q
  | true =>
    rw [c1] at q
    refine iteT ?_
    refine ⟨_, rfl, p, CA, dx, _, _, rfl, h1, T.cl, T.nF, af_factor, _, rfl, p', CA, dx', _, _, rfl, k1, T.cl, T.nF, af_factor, _, _, Dp3 h3, Dp3 k3, shaped3 _, shaped3 _, _, rfl, ?_⟩
    rw [eqv3]
    cases c2 : decide (a.t = b.t) with
    | false => rw [c2] at q; exact iteF q
    | true =>
      rw [c2] at q
      refine iteT ?_
      refine ⟨_, rfl, p, CA, dx, _, _, rfl, h1, T.cl, T.nE, af_least, _, rfl, p', CA, dx', _, _, rfl, k1, T.cl, T.nE, af_least, rfl, _, rfl, ?_⟩
      cases c3 : decide (V.int a.near = V.int b.near) with
      | false => rw [c3] at q; exact iteF q
      | true =>
        rw [c3] at q
        refine iteT ?_
        refine ⟨_, rfl, p, CA, dx, _, _, rfl, h1, T.cl, T.nM, af_most, _, rfl, p', CA, dx', _, _, rfl, k1, T.cl, T.nM, af_most, rfl, _, rfl, ?_⟩
        cases c4 : decide (V.int a.far = V.int b.far) with
        | false => rw [c4] at q; exact iteF q
        | true =>
          rw [c4] at q
          refine iteT ?_
          exact ⟨_, rfl, p, CA, dx, _, _, rfl, h1, T.cl, T.nL, af_flips, _, rfl, p', CA, dx', _, _, rfl, k1, T.cl, T.nL, af_flips, rfl, q⟩
structure MAe (P : Program) (w : World) (K : PySem.W.Frag) (mg : Str → Option Value) (base : Heap) (C CA : Addr) : Prop where
  ex : ∃ f, FnR P w K mg base CX0 1 f (sp_aeq K C CA) ∧ PySem.W.findIn K (.ref CA) "__eq__" = some (some (.ref f)) ∧ PySem.W.isFn K (.ref f) = true
theorem op_aeq {X : Cx} {C CA : Addr} (M : MAe X.prog X.w X.K X.mg X.base C CA) (hr : Room 1 X.A) : OpR X (compareOp .Eq) (rOwn2 CA (sp_aeq X.K C CA)) := by
  obtain ⟨f, F, h1, h2⟩ := M.ex
  exact eq_own F hr h1 h2
theorem aeq_of {C CA : Addr} {H : Hp} {Q : VK} {x y : V} {a b : Am} (ix : IsA K C CA H x a) (iy : IsA K C CA H y b) (q : Q (.bl (aeq a b)) H) : rOwn2 CA (sp_aeq K C CA) x y H Q := by
  have jx := ix
  have jy := iy
  obtain ⟨p, dx, _, _, _, rfl, h1, _⟩ := ix
  obtain ⟨p', dx', _, _, _, rfl, h1', _⟩ := iy
  exact ⟨p, p', dx, _, dx', _, rfl, rfl, h1, h1', _, a, _, b, rfl, jx, jy, q⟩
end
end My

namespace My
open PySem L2 Mth
abbrev s_Chain___init__ : Stmt := inClass (topS 69) 0
theorem sc_Chain___init__ : FnScope ["self", "arms"] ["self", "arms"] (defScope s_Chain___init__) := ⟨rfl, rfl, rfl, by decide +kernel, rfl, by decide +kernel, by decide +kernel⟩
abbrev s_joint_copy : Stmt := topS 70
theorem sc_joint_copy : FnScope ["arms", "done", "arm"] ["arms"] (defScope s_joint_copy) := ⟨rfl, rfl, rfl, by decide +kernel, rfl, by decide +kernel, by decide +kernel⟩
section
variable {P : Program} {w : World} {K : PySem.W.Frag} {mg : Str → Option Value} {base : Heap}
/-! ### chains -/
theorem IsA.keep {C CA : Addr} {H H' : Hp} {v : V} {a : Am} {d : Addr} {ys : List V} (h : IsA K C CA H v a) (hd : H d = some (.lst ys)) (e : Keep d H H') : IsA K C CA H' v a := by
  obtain ⟨p, dx, u, z, c, rfl, h1, h2, h3, h4⟩ := h
  exact ⟨p, dx, u, z, c, rfl, e _ _ (ne_of h1 hd (by intro z; cases z)) h1, keep_T h2 hd e, keep_T h3 hd e, h4.keep hd e⟩
def AllA (K : PySem.W.Frag) (C CA : Addr) (H : Hp) (vs : List V) (as : List Am) : Prop := Paired (fun v a => IsA K C CA H v a) vs as
theorem AllA.same {C CA : Addr} {H H' : Hp} {vs : List V} {as : List Am} (h : AllA K C CA H vs as) (s : Same H H') : AllA K C CA H' vs as := pimp (fun _ _ i => i.same s) h
theorem AllA.keep {C CA : Addr} {H H' : Hp} {vs : List V} {as : List Am} {d : Addr} {ys : List V} (h : AllA K C CA H vs as) (hd : H d = some (.lst ys)) (k : Keep d H H') : AllA K C CA H' vs as := pimp (fun _ _ i => i.keep hd k) h
structure ArmsOk (as : List Am) : Prop where
  len : as.length ≤ 6
  ok : ∀ a ∈ as, AmOk a
  bc : ∀ a ∈ as, BC 140 (about a)
theorem foldl_BC {n m : Nat} : ∀ {as : List Am} {c : Cp}, CpOk c → BC n c → (∀ a ∈ as, AmOk a ∧ BC m (about a)) → BC (n + (2 * m + 2) * as.length) (as.foldl (fun c a => jn c (about a)) c) := by
  intro as
  induction as generalizing n with
  | nil => intro c _ hb _; exact hb
  | cons a as ih =>
    intro c hc hb h
    have ha := h a (List.mem_cons_self ..)
    have z := ih (jn_ok hc (about_ok ha.1)) (jn_BC hc (about_ok ha.1) hb ha.2) fun b hb => h b (List.mem_cons_of_mem _ hb)
    refine z.mono ?_
    rw [List.length_cons, Nat.mul_succ]
    omega
theorem jall_BC {m : Nat} {as : List Am} (h : ∀ a ∈ as, AmOk a ∧ BC m (about a)) : BC (3 + (2 * m + 2) * as.length) (jall as) := foldl_BC still_ok still_BC h
theorem ArmsOk.take {as : List Am} (h : ArmsOk as) (i : Nat) : CpOk (jall (as.take i)) ∧ BC 1900 (jall (as.take i)) := by
  have hm : ∀ a ∈ as.take i, a ∈ as := fun a ha => List.mem_of_mem_take ha
  refine ⟨jall_ok fun a ha => h.ok a (hm a ha), (jall_BC (m := 140) fun a ha => ⟨h.ok a (hm a ha), h.bc a (hm a ha)⟩).mono ?_⟩
  have := h.len
  have l : (as.take i).length ≤ 6 := by rw [List.length_take]; omega
  omega
def sp_joint (K : PySem.W.Frag) (C CA : Addr) : Sp := fun vs H Q _ => ∃ p us as, vs = [.ref p] ∧ SqT K H p us ∧ AllA K C CA H us as ∧ ArmsOk as ∧ ∀ H' r, Same H H' → IsC K C H' r (jall as) → Q r H'
theorem ok_joint_copy {f C CA : Addr} {fd : FuncData} (m_A_effect : MPf P w K mg base CA "effect" "pen") (m_rs : MRs P w K mg base C) (d_still_copy : D P w K mg base "still_copy" 6 (sp_still K C))
    (F : Fun K "joint_copy" "joint_copy" s_joint_copy f fd) : FnOk P w K mg base CX0 7 f fd ["arms"] (sp_joint K C CA) := by
  refine F.ok sc_joint_copy (fun vs H Q E h => ?_) (fun cdv A outer s H vs Q E hr h => ?_)
  · obtain ⟨p, us, as, rfl, _⟩ := h
    rfl
  obtain ⟨p, us, as, rfl, hT, ha, ok, q⟩ := h
  refine ⟨_, (pss_cons (ps_set (i := 1) sc_joint_copy.nd rfl (by first | exact Or.inl rfl | exact Or.inr rfl) (pc0 d_still_copy (hr.mono (by decide))))
    (pss_cons (ps_for PassesOwn.never rfl (pi_tup (pv 0)) (pg_name (i := 2) sc_joint_copy.nd rfl (by first | exact Or.inl rfl | exact Or.inr rfl)) (pss_one (ps_set (i := 1) sc_joint_copy.nd rfl (by first | exact Or.inl rfl | exact Or.inr rfl) (pe_op (op_rsh m_rs (hr.mono (by decide))) (pv 1) (pe_pf m_A_effect (hr.mono (by decide)) (pv 2))))))
    (pss_one (ps_ret (pv 1))))), ?_⟩
  refine ⟨rfl, fun H1 r1 s1 i1 => ?_⟩
  have hl := Paired.length ha
  refine ⟨_, rfl, p, rfl, ⟨_, same_T s1 hT⟩, for_tup (K := K) (a := p) (xs := us) (fun i σ H' => ∃ r x, σ = [some (.ref p), some r, x] ∧ Same H H' ∧ IsC K C H' r (jall (as.take i))) ⟨r1, none, rfl, s1, i1⟩ ?_ ?_ ?_⟩
  · rintro i σ H' _ ⟨r, x, rfl, s', _⟩
    exact same_T s' hT
  · rintro i x σ H' hx ⟨r, y, rfl, s', ir⟩
    obtain ⟨a, h1, h2⟩ := pget ha hx
    have hm := List.mem_of_getElem? h1
    have h2 := h2.same s'
    obtain ⟨pa, dx, u, z, c, rfl, k1, k2, k3, k4⟩ := h2
    refine ⟨_, rfl, _, rfl, pf_of k1 af_pen ?_⟩
    refine jn_of ir k4 (ok.take i).1 (about_ok (ok.ok a hm)) (ok.take i).2 ((ok.bc a hm).mono (by decide)) fun H2 r2 s2 i2 => ?_
    exact ⟨_, _, rfl, s'.trans s2, by rw [jall_take h1]; exact i2⟩
  · rintro σ H' ⟨r, x, rfl, s', ir⟩
    rw [hl, List.take_length] at ir
    exact ⟨_, rfl, q _ _ s' ir⟩
def hf (a0 : Addr) (a1 : Addr) : List (Str × V) := [("links", .ref a0), ("pen", .ref a1)]
theorem hf_put {a0 : Addr} {a1 : Addr} : putF "pen" (.ref a1) (putF "links" (.ref a0) ([])) = hf a0 a1 := by
  have h0_1 : ¬ (("links" : Str) = "pen") := by decide +kernel
  simp only [putF, if_neg h0_1]
  rfl
theorem hf_links {a0 : Addr} {a1 : Addr} : (hf a0 a1).lookup ("links" : Str) = some (.ref a0) := by
  unfold hf
  simp only [List.lookup, beq_self_eq_true]
theorem hf_pen {a0 : Addr} {a1 : Addr} : (hf a0 a1).lookup ("pen" : Str) = some (.ref a1) := by
  unfold hf
  simp only [List.lookup, beq_self_eq_true, show (("pen" : Str) == "links") = false by decide +kernel]
structure HTxt (K : PySem.W.Frag) (C : Addr) : Prop where
  cl : Cls K C
  nK : NoAttr K C "links"
  nP : NoAttr K C "pen"
/-- a chain as an object -/
def IsH (K : PySem.W.Frag) (C CA CH : Addr) (H : Hp) (v : V) (as : List Am) : Prop := ∃ p dx t c us, v = .ref p ∧ H p = some (.ins CH dx (hf t c)) ∧ SqT K H t us ∧ AllA K C CA H us as ∧ IsC K C H (.ref c) (jall as)
theorem IsH.same {C CA CH : Addr} {H H' : Hp} {v : V} {as : List Am} (h : IsH K C CA CH H v as) (e : Same H H') : IsH K C CA CH H' v as := by
  obtain ⟨p, dx, t, c, us, rfl, h1, h2, h3, h4⟩ := h
  exact ⟨p, dx, t, c, us, rfl, e _ _ h1, same_T e h2, h3.same e, h4.same e⟩
theorem IsH.keep {C CA CH : Addr} {H H' : Hp} {v : V} {as : List Am} {d : Addr} {ys : List V} (h : IsH K C CA CH H v as) (hd : H d = some (.lst ys)) (e : Keep d H H') : IsH K C CA CH H' v as := by
  obtain ⟨p, dx, t, c, us, rfl, h1, h2, h3, h4⟩ := h
  exact ⟨p, dx, t, c, us, rfl, e _ _ (ne_of h1 hd (by intro z; cases z)) h1, keep_T h2 hd e, h3.keep hd e, h4.keep hd e⟩
theorem IsA.keepI {C CA CD p dx : Addr} {fs : List (Str × V)} {H H' : Hp} {v : V} {a : Am} (h : IsA K C CA H v a) (hd : H p = some (.ins CD dx fs)) (hl : fs.length < 3) (e : Keep p H H') : IsA K C CA H' v a := by
  obtain ⟨q, dy, u, z, c, rfl, h1, h2, h3, h4⟩ := h
  have n : q ≠ p := fun z => by
    rw [z, hd] at h1
    injection h1 with h1
    injection h1 with _ _ h1
    rw [h1] at hl
    exact absurd hl (by unfold af; simp)
  exact ⟨q, dy, u, z, c, rfl, e _ _ n h1, keepI_T h2 hd e, keepI_T h3 hd e, h4.keepI hd (by omega) e⟩
def sp_hin (K : PySem.W.Frag) (C CA CH : Addr) : Sp := fun vs H Q _ => ∃ (H0 : Hp) (p dx t : Addr) (us : List V) (as : List Am), vs = [.ref p, .ref t] ∧ Same H0 H ∧ H0 p = none ∧ H p = some (.ins CH dx []) ∧ SqT K H t us ∧ AllA K C CA H0 us as ∧ ArmsOk as ∧ ∀ H', Same H0 H' → IsH K C CA CH H' (.ref p) as → Q .non H'
def sp_hinit (K : PySem.W.Frag) (C CA CH : Addr) : Sp := fun vs H Q E => ∃ ws rest, vs = ws ++ rest ∧ ws.length = (["self"] : List Str).length ∧ rest.length ≤ sizeLine ∧ ∀ p, H p = Option.none → sp_hin K C CA CH (ws ++ [V.ref p]) (upd H p (.tup rest)) Q E
theorem ok_hinit {f C CA CH : Addr} {fd : FuncData} {tk : Tok} (T : HTxt K CH) (b_len : mg "len" = none) (m_MOST_ARMS : mg "MOST_ARMS" = some (.int 6 tk)) (d_joint_copy : D P w K mg base "joint_copy" 7 (sp_joint K C CA))
    (F : Fun K "__init__" "Chain.__init__" s_Chain___init__ f fd) : FnR P w K mg base CX0 8 f (sp_hinit K C CA CH) := by
  refine fun_star (ps := ["self"]) (pv := "arms") (sp := sp_hin K C CA CH) F sc_Chain___init__ (fun kV doc pm an cdv ct => StX.bind_star1 (B := fun us => bindArgs (PySem.W.fnOf "__init__" "Chain.__init__" (defArgs s_Chain___init__) (defBody s_Chain___init__) (defScope s_Chain___init__) .none kV doc pm an cdv ct) ⟨us, []⟩) (fun a => rfl) (fun a r rs => rfl)) (fun cdv A outer s H vs Q E hr h => ?_)
  obtain ⟨H0, p, dx, t, us, as, rfl, s0, p0, hp, hT, ha, ok, q⟩ := h
  refine ⟨_, (pss_cons (ps_if (pt_cmpR (op_gt) (pe_callB call_len_seq (by rfl) b_len PySem.boot_len (pa_cons (pv 1) pa_nil)) (pe_glob (v := .int 6) (by rfl) m_MOST_ARMS ⟨_, rfl⟩) (nomark _)) (pss_one ps_never) pss_nil)
    (pss_cons (ps_fld (pv 0) (pv 1) rfl)
    (pss_one (ps_fld (pv 0) (pc d_joint_copy (hr.mono (by decide)) (pa_cons (pv 1) pa_nil)) rfl)))), ?_⟩
  have hl := Paired.length ha
  refine ⟨_, rfl, t, us, rfl, .inr hT, _, _, rfl, rfl, _, rfl, ?_⟩
  rw [decide_eq_false (show ¬ ((6 : Int) < (us.length : Int)) by have := ok.len; omega)]
  refine iteF ?_
  refine ⟨_, rfl, _, rfl, p, CH, dx, _, rfl, hp, T.cl, T.nK, (by show 0 < 1000; decide), ?_⟩
  have k1 := keep_upd (d := p) (H := H) (o := .ins CH dx (putF "links" (.ref t) []))
  have hT1 := keepI_T hT hp k1
  have ha1 : AllA K C CA (upd H p (.ins CH dx (putF "links" (.ref t) []))) us as := pimp (fun _ _ i => (i.same s0).keepI hp (by show 0 < 3; decide) k1) ha
  refine ⟨_, rfl, t, us, as, rfl, hT1, ha1, ok, fun H2 r2 s2 i2 => ?_⟩
  have hp2 := s2 _ _ (upd_same (a := p))
  have l1 := putF_len "links" (.ref t) []
  have l0 : ([] : List (Str × V)).length = 0 := rfl
  refine ⟨_, rfl, p, CH, dx, _, rfl, hp2, T.cl, T.nP, (by omega), ?_⟩
  obtain ⟨c, _, _, _, ec, _⟩ := id i2
  subst ec
  have k3 := keep_upd (d := p) (H := H2) (o := .ins CH dx (putF "pen" (.ref c) (putF "links" (.ref t) [])))
  refine q _ (fun y o e => ?_) ⟨p, dx, t, c, us, rfl, by rw [upd_same, hf_put], keepI_T (same_T s2 hT1) hp2 k3, pimp (fun _ _ i => (i.same s2).keepI hp2 (by omega) k3) ha1, i2.keepI hp2 (by omega) k3⟩
  have nc : y ≠ p := fun z => by rw [z, p0] at e; cases e
  rw [upd_ne nc]
  exact s2 _ _ (k1 _ _ nc (s0 _ _ e))
/-- the class as its users see it -/
structure ChainI (P : Program) (w : World) (K : PySem.W.Frag) (mg : Str → Option Value) (base : Heap) (C CA CH f : Addr) : Prop where
  tx : HTxt K CH
  mkC : Mk K CH f
  ok : FnR P w K mg base CX0 8 f (sp_hinit K C CA CH)
  mgC : mg "Chain" = some (.ref CH)
theorem mkh_of {C CA CH : Addr} {H : Hp} {Q : VK} {us : List V} {as : List Am} (ha : AllA K C CA H us as) (ok : ArmsOk as) (q : ∀ H' r, Same H H' → IsH K C CA CH H' r as → Q r H') :
    ∀ x dx, H x = none → H dx = none → dx ≠ x → sp_hinit K C CA CH (.ref x :: us) (upd (upd H dx (.own x)) x (.ins CH dx [])) (fun v H2 => v = .non ∧ Q (.ref x) H2) E0 := by
  intro x dx hx hd _
  refine ⟨[.ref x], us, rfl, rfl, small (by have := Paired.length ha; have := ok.len; omega), fun t ht => ?_⟩
  have nt : x ≠ t := fun z => by rw [← z, upd_same] at ht; cases ht
  refine ⟨H, x, dx, t, us, as, rfl, fun c o e => ?_, hx, by rw [upd_ne nt]; exact upd_same, .inl (.inl upd_same), ha, ok, fun H' s' i => ⟨rfl, q _ _ s' i⟩⟩
  have e2 : upd (upd H dx (.own x)) x (.ins CH dx []) c = some o := by
    rw [upd_ne (ne_of_none e hx), upd_ne (ne_of_none e hd)]
    exact e
  rw [upd_ne (ne_of_none e2 ht)]
  exact e2
theorem mkh_of2 {C CA CH : Addr} {H : Hp} {Qf : Addr → VK} {us : List V} {as : List Am} (ha : AllA K C CA H us as) (ok : ArmsOk as) (q : ∀ H' x, Same H H' → IsH K C CA CH H' (.ref x) as → Qf x .non H') :
    ∀ x dx, H x = none → H dx = none → dx ≠ x → sp_hinit K C CA CH (.ref x :: us) (upd (upd H dx (.own x)) x (.ins CH dx [])) (Qf x) E0 := by
  intro x dx hx hd _
  refine ⟨[.ref x], us, rfl, rfl, small (by have := Paired.length ha; have := ok.len; omega), fun t ht => ?_⟩
  have nt : x ≠ t := fun z => by rw [← z, upd_same] at ht; cases ht
  refine ⟨H, x, dx, t, us, as, rfl, fun c o e => ?_, hx, by rw [upd_ne nt]; exact upd_same, .inl (.inl upd_same), ha, ok, fun H' s' i => q _ _ s' i⟩
  have e2 : upd (upd H dx (.own x)) x (.ins CH dx []) c = some o := by
    rw [upd_ne (ne_of_none e hx), upd_ne (ne_of_none e hd)]
    exact e
  rw [upd_ne (ne_of_none e2 ht)]
  exact e2
theorem armsNil : ArmsOk [] := ⟨by decide, (fun a h => by cases h), (fun a h => by cases h)⟩
end
end My

namespace My
open PySem L2 Mth
abbrev s_Chain___add__ : Stmt := inClass (topS 69) 6
theorem sc_Chain___add__ : FnScope ["self", "other", "both"] ["self", "other"] (defScope s_Chain___add__) := ⟨rfl, rfl, rfl, by decide +kernel, rfl, by decide +kernel, by decide +kernel⟩
section
variable {P : Program} {w : World} {K : PySem.W.Frag} {mg : Str → Option Value} {base : Heap}
def sp_hadd (K : PySem.W.Frag) (C CA CH : Addr) : Sp := fun vs H Q _ => ∃ va as vb bs, vs = [va, vb] ∧ IsH K C CA CH H va as ∧ IsH K C CA CH H vb bs ∧ ArmsOk (as ++ bs) ∧ ∀ H' r, Same H H' → IsH K C CA CH H' r (as ++ bs) → Q r H'
theorem ok_hadd {f fI C CA CH : Addr} {fd : FuncData} (TH : ChainI P w K mg base C CA CH fI) (F : Fun K "__add__" "Chain.__add__" s_Chain___add__ f fd) : FnOk P w K mg base CX0 10 f fd ["self", "other"] (sp_hadd K C CA CH) := by
  refine F.ok sc_Chain___add__ (fun vs H Q E h => ?_) (fun cdv A outer s H vs Q E hr h => ?_)
  · obtain ⟨va, as, vb, bs, rfl, _⟩ := h
    rfl
  obtain ⟨va, as, vb, bs, rfl, ⟨p, dx, t, c, us, rfl, h1, h2, h3, h4⟩, ⟨p', dx', t', c', us', rfl, k1, k2, k3, k4⟩, ok, q⟩ := h
  have T := TH.tx
  refine ⟨_, (pss_cons (ps_set (i := 2) sc_Chain___add__.nd rfl (by first | exact Or.inl rfl | exact Or.inr rfl) (pe_lst (StX.pa_star (pe_fld (pv 0) rfl) (StX.pa_star (pe_fld (pv 1) rfl) pa_nil))))
    (pss_one (ps_ret (pe_makeS TH.mkC TH.ok (hr.mono (by decide)) (by rfl) TH.mgC (pv 2))))), ?_⟩
  have hl := Paired.length h3
  have hl' := Paired.length k3
  have ol := ok.len
  rw [List.length_append] at ol
  refine ⟨_, rfl, p, CH, dx, _, _, rfl, h1, T.cl, T.nK, hf_links, t, us, rfl, .inl h2, _, rfl, p', CH, dx', _, _, rfl, k1, T.cl, T.nK, hf_links, t', us', rfl, .inl k2, small (by simp only [List.length_append, List.length_nil]; omega), fun l hl => ?_⟩
  have s1 := same_new hl (.lst (us ++ (us' ++ [])))
  refine ⟨_, rfl, l, _, rfl, .inr (.inl (.inl upd_same)), ?_⟩
  rw [List.append_nil]
  rw [List.append_nil] at s1
  exact mkh_of (papp (h3.same s1) (k3.same s1)) ok fun H2 r2 s2 i2 => q _ _ (s1.trans s2) i2
structure MHa (P : Program) (w : World) (K : PySem.W.Frag) (mg : Str → Option Value) (base : Heap) (C CA CH : Addr) : Prop where
  sf : PySem.W.selfFirst K CH = true
  ex : ∃ f, FnR P w K mg base CX0 10 f (sp_hadd K C CA CH) ∧ PySem.W.findIn K (.ref CH) "__add__" = some (some (.ref f)) ∧ PySem.W.isFn K (.ref f) = true
theorem op_hadd {X : Cx} {C CA CH : Addr} (M : MHa X.prog X.w X.K X.mg X.base C CA CH) (hr : Room 10 X.A) : OpR X (binaryOp .Add) (rOwn2 CH (sp_hadd X.K C CA CH)) := by
  obtain ⟨f, F, h1, h2⟩ := M.ex
  exact op_own (op := .Add) F hr M.sf h1 h2
theorem hadd_of {C CA CH : Addr} {H : Hp} {Q : VK} {x y : V} {as bs : List Am} (ix : IsH K C CA CH H x as) (iy : IsH K C CA CH H y bs) (ok : ArmsOk (as ++ bs)) (q : ∀ H' r, Same H H' → IsH K C CA CH H' r (as ++ bs) → Q r H') : rOwn2 CH (sp_hadd K C CA CH) x y H Q := by
  have jx := ix
  have jy := iy
  obtain ⟨p, dx, _, _, _, rfl, h1, _⟩ := ix
  obtain ⟨p', dx', _, _, _, rfl, h1', _⟩ := iy
  exact ⟨p, p', dx, _, dx', _, rfl, rfl, h1, h1', _, as, _, bs, rfl, jx, jy, ok, q⟩
end
end My

namespace My
open PySem L2 Mth
abbrev s_is_from_to : Stmt := topS 49
theorem sc_is_from_to : FnScope ["value", "least", "most", "p", "q"] ["value", "least", "most"] (defScope s_is_from_to) := ⟨rfl, rfl, rfl, by decide +kernel, rfl, by decide +kernel, by decide +kernel⟩
abbrev s_square_between : Stmt := topS 48
theorem sc_square_between : FnScope ["one", "other", "x", "y", "d"] ["one", "other"] (defScope s_square_between) := ⟨rfl, rfl, rfl, by decide +kernel, rfl, by decide +kernel, by decide +kernel⟩
section
variable {P : Program} {w : World} {K : PySem.W.Frag} {mg : Str → Option Value} {base : Heap}
/-! ### squares of distances -/
def sp_sqb (K : PySem.W.Frag) : Sp := fun vs H Q _ => ∃ va vb a b, vs = [va, vb] ∧ IsT K H va a ∧ IsT K H vb b ∧ Ok a ∧ Ok b ∧ B 1900 a ∧ B 1900 b ∧ ∀ H' r, Same H H' → IsF K H' r (gr (minus a b)) → Q r H'
theorem ok_square_between {f : Addr} {fd : FuncData} (d_minus : D P w K mg base "minus" 4 (sp_two K minus)) (d_fraction : D P w K mg base "fraction" 2 (sp_fr K)) (F : Fun K "square_between" "square_between" s_square_between f fd) : FnOk P w K mg base CX0 5 f fd ["one", "other"] (sp_sqb K) := by
  refine F.ok sc_square_between (fun vs H Q E h => ?_) (fun cdv A outer s H vs Q E hr h => ?_)
  · obtain ⟨va, vb, a, b, rfl, _⟩ := h
    rfl
  obtain ⟨va, vb, a, b, rfl, ia, ib, oa, ob, ba, bb, q⟩ := h
  refine ⟨_, (pss_cons (ps_asg (pc d_minus (hr.mono (by decide)) (pa_cons (pv 0) (pa_cons (pv 1) pa_nil))) (pg_tup rfl (pgs_cons (pg_name (i := 2) sc_square_between.nd rfl (by first | exact Or.inl rfl | exact Or.inr rfl)) (pgs_cons (pg_name (i := 3) sc_square_between.nd rfl (by first | exact Or.inl rfl | exact Or.inr rfl)) (pgs_cons (pg_name (i := 4) sc_square_between.nd rfl (by first | exact Or.inl rfl | exact Or.inr rfl)) pgs_nil)))))
    (pss_one (ps_ret (pc d_fraction (hr.mono (by decide)) (pa_cons (pe_op op_add (pe_op op_mulW (pv 2) (pv 2)) (pe_op op_mulW (pv 3) (pv 3))) (pa_cons (pe_op op_mulW (pv 4) (pv 4)) pa_nil)))))), ?_⟩
  refine ⟨_, rfl, _, rfl, _, _, _, _, rfl, ia, ib, oa, ob, ba.mono (by decide), bb.mono (by decide), fun H1 r1 s1 i1 => ?_⟩
  have om := minus_ok oa ob
  have bm : B 3801 (minus a b) := minus_B oa ob ba bb
  generalize minus a b = z at *
  obtain ⟨x, y, d⟩ := z
  obtain ⟨a1, a2, a3⟩ := bm
  obtain ⟨p1, rfl, t1⟩ := i1
  refine ⟨p1, _, rfl, t1, rfl, _, _, rfl, _, _, rfl, _, _, rfl, rfl, ?_⟩
  refine ⟨_, rfl, _, rfl, _, _, rfl, rfl, mulW a1 a1, _, rfl, _, rfl, _, _, rfl, rfl, mulW a2 a2, _, _, rfl, rfl, ?_⟩
  refine ⟨_, rfl, _, rfl, _, _, rfl, rfl, mulW a3 a3, ?_⟩
  exact ⟨_, _, rfl, mul_ne om.ne om.ne, up_lt (by decide) (mul_lt a3 a3), fun H2 g s2 t2 => q _ _ (s1.trans s2) ⟨g, rfl, t2⟩⟩
def sp_ft (K : PySem.W.Frag) : Sp := fun vs H Q _ => ∃ v l m fv fl fm, vs = [v, l, m] ∧ IsF K H v fv ∧ IsF K H l fl ∧ IsF K H m fm ∧ FB 16001 fv ∧ FB 16001 fl ∧ FB 16001 fm ∧ Q (.bl (inF fv fl fm)) H
theorem ok_is_from_to {f : Addr} {fd : FuncData} (F : Fun K "is_from_to" "is_from_to" s_is_from_to f fd) : FnOk P w K mg base CX0 1 f fd ["value", "least", "most"] (sp_ft K) := by
  refine F.ok sc_is_from_to (fun vs H Q E h => ?_) (fun cdv A outer s H vs Q E hr h => ?_)
  · obtain ⟨v, l, m, fv, fl, fm, rfl, _⟩ := h
    rfl
  obtain ⟨v, l, m, fv, fl, fm, rfl, ⟨p1, rfl, tv⟩, ⟨p2, rfl, tl⟩, ⟨p3, rfl, tm⟩, bv, bl, bm, q⟩ := h
  refine ⟨_, (pss_cons (ps_asg (pv 0) (pg_tup rfl (pgs_cons (pg_name (i := 3) sc_is_from_to.nd rfl (by first | exact Or.inl rfl | exact Or.inr rfl)) (pgs_cons (pg_name (i := 4) sc_is_from_to.nd rfl (by first | exact Or.inl rfl | exact Or.inr rfl)) pgs_nil))))
    (pss_one (ps_ret (pe_and (pe_cmpR (op_le) (pe_op op_mulW (pe_ix (r := rIxT K) ix_tup (pv 1) pe_int (fun _ _ => rfl)) (pv 4)) (pe_op op_mulW (pv 3) (pe_ix (r := rIxT K) ix_tup (pv 1) pe_int (fun _ _ => rfl))) (nomark _)) (pe_one (pe_cmpR (op_le) (pe_op op_mulW (pv 3) (pe_ix (r := rIxT K) ix_tup (pv 2) pe_int (fun _ _ => rfl))) (pe_op op_mulW (pe_ix (r := rIxT K) ix_tup (pv 2) pe_int (fun _ _ => rfl)) (pv 4)) (nomark _))))))), ?_⟩
  rw [← ft_in] at q
  unfold ftF at q
  refine ⟨_, rfl, p1, _, rfl, tv, rfl, _, _, rfl, _, _, rfl, rfl, ?_⟩
  refine ⟨_, rfl, p2, _, 0, _, rfl, rfl, tl, rfl, _, rfl, _, _, rfl, rfl, mulW bl.1 bv.2, _, rfl, _, rfl, p2, _, 1, _, rfl, rfl, tl, rfl, _, _, rfl, rfl, mulW bv.1 bl.2, _, _, rfl, rfl, _, rfl, ?_⟩
  cases c : decide (fl.1 * fv.2 ≤ fv.1 * fl.2) with
  | false =>
    rw [c] at q
    exact iteF q
  | true =>
    rw [c] at q
    refine iteT ?_
    exact ⟨_, rfl, _, rfl, p3, _, 1, _, rfl, rfl, tm, rfl, _, _, rfl, rfl, mulW bv.1 bm.2, _, rfl, p3, _, 0, _, rfl, rfl, tm, rfl, _, rfl, _, _, rfl, rfl, mulW bm.1 bv.2, _, _, rfl, rfl, q⟩
end
end My

namespace My
open PySem L2 Mth
/-! ### squares of whole numbers -/
theorem nn10' {n : Int} (h0 : 0 ≤ n) (h1 : n ≤ 1000) : CMulW n n := mulW (a := 9) (b := 9) (show n.natAbs < 2 ^ 10 by omega) (show n.natAbs < 2 ^ 10 by omega)
theorem near_FB' {n : Int} (h0 : 0 ≤ n) (h1 : n ≤ 1000) : FB 16001 (n * n, 1) := ⟨up_lt (n := 20) (by decide) (mul_lt (n := 10) (m := 10) (show n.natAbs < 2 ^ 10 by omega) (show n.natAbs < 2 ^ 10 by omega)), up_lt (n := 1) (by decide) (show (1 : Int).natAbs < 2 ^ 1 by decide)⟩
end My

namespace My
open PySem L2 Mth
abbrev s_square_ahead : Stmt := topS 72
theorem sc_square_ahead : FnScope ["distance", "growth"] ["distance", "growth"] (defScope s_square_ahead) := ⟨rfl, rfl, rfl, by decide +kernel, rfl, by decide +kernel, by decide +kernel⟩
abbrev s_zones : Stmt := topS 71
theorem sc_zones : FnScope ["chain", "found", "ahead", "arm", "back"] ["chain"] (defScope s_zones) := ⟨rfl, rfl, rfl, by decide +kernel, rfl, by decide +kernel, by decide +kernel⟩
section
variable {P : Program} {w : World} {K : PySem.W.Frag} {mg : Str → Option Value} {base : Heap}
/-! ### zones -/
def sp_sqa (K : PySem.W.Frag) : Sp := fun vs H Q _ => ∃ (n : Int) (p : Addr) (g : Int × Int), vs = [.int n, .ref p] ∧ SqT K H p [.int g.1, .int g.2] ∧ 0 < g.1 ∧ FB 4001 g ∧ n.natAbs < 2 ^ 21 ∧ ∀ H' r, Same H H' → IsF K H' r (fr (n * n * g.2) g.1) → Q r H'
theorem ok_square_ahead {f : Addr} {fd : FuncData} (d_fraction : D P w K mg base "fraction" 2 (sp_fr K)) (F : Fun K "square_ahead" "square_ahead" s_square_ahead f fd) : FnOk P w K mg base CX0 3 f fd ["distance", "growth"] (sp_sqa K) := by
  refine F.ok sc_square_ahead (fun vs H Q E h => ?_) (fun cdv A outer s H vs Q E hr h => ?_)
  · obtain ⟨n, p, g, rfl, _⟩ := h
    rfl
  obtain ⟨n, p, g, rfl, tg, g0, bg, bn, q⟩ := h
  refine ⟨_, (pss_one (ps_ret (pc d_fraction (hr.mono (by decide)) (pa_cons (pe_op op_mulW (pe_op op_mulW (pv 0) (pv 0)) (pe_ix (r := rIxT K) ix_tup (pv 1) pe_int (fun _ _ => rfl))) (pa_cons (pe_ix (r := rIxT K) ix_tup (pv 1) pe_int (fun _ _ => rfl)) pa_nil))))), ?_⟩
  have bnn : (n * n).natAbs < 2 ^ (41 + 1) := mul_lt (n := 21) (m := 21) bn bn
  refine ⟨_, rfl, _, rfl, _, _, rfl, rfl, mulW (a := 20) (b := 20) bn bn, _, rfl, _, _, _, _, rfl, rfl, tg, by rfl, _, _, rfl, rfl, mulW bnn bg.2, ?_⟩
  refine ⟨_, rfl, _, _, _, _, rfl, rfl, tg, by rfl, ?_⟩
  exact ⟨_, _, rfl, (by omega), up_lt (by decide) bg.1, fun H1 a1 s1 t1 => q _ _ s1 ⟨_, rfl, t1⟩⟩
def IsZ (K : PySem.W.Frag) (H : Hp) (v : V) (z : Zn) : Prop := ∃ p a b e, v = .ref p ∧ SqT K H p [.ref a, .ref b, .ref e] ∧ SqT K H a (v3 z.ctr) ∧ SqT K H b [.int z.lo.1, .int z.lo.2] ∧ SqT K H e [.int z.hi.1, .int z.hi.2]
theorem IsZ.same {H H' : Hp} {v : V} {z : Zn} (h : IsZ K H v z) (s : Same H H') : IsZ K H' v z := by
  obtain ⟨p, a, b, e, rfl, h1, h2, h3, h4⟩ := h
  exact ⟨p, a, b, e, rfl, same_T s h1, same_T s h2, same_T s h3, same_T s h4⟩
theorem IsZ.keep {H H' : Hp} {v : V} {z : Zn} {d : Addr} {ys : List V} (h : IsZ K H v z) (hd : H d = some (.lst ys)) (s : Keep d H H') : IsZ K H' v z := by
  obtain ⟨p, a, b, e, rfl, h1, h2, h3, h4⟩ := h
  exact ⟨p, a, b, e, rfl, keep_T h1 hd s, keep_T h2 hd s, keep_T h3 hd s, keep_T h4 hd s⟩
def AllZ (K : PySem.W.Frag) (H : Hp) (vs : List V) (zs : List Zn) : Prop := Paired (IsZ K H) vs zs
theorem AllZ.same {H H' : Hp} {vs : List V} {zs : List Zn} (h : AllZ K H vs zs) (s : Same H H') : AllZ K H' vs zs := pimp (fun _ _ i => i.same s) h
theorem AllZ.keep {H H' : Hp} {vs : List V} {zs : List Zn} {d : Addr} {ys : List V} (h : AllZ K H vs zs) (hd : H d = some (.lst ys)) (s : Keep d H H') : AllZ K H' vs zs := pimp (fun _ _ i => i.keep hd s) h
theorem jall11 {as : List Am} (h : ∀ a ∈ as, AmOk a ∧ BC 11 (about a)) (hl : as.length ≤ 6) (i : Nat) : CpOk (jall (as.take i)) ∧ BC 147 (jall (as.take i)) := by
  have hm : ∀ a ∈ as.take i, a ∈ as := fun a ha => List.mem_of_mem_take ha
  refine ⟨jall_ok fun a ha => (h a (hm a ha)).1, (jall_BC (m := 11) fun a ha => h a (hm a ha)).mono ?_⟩
  have l : (as.take i).length ≤ 6 := by rw [List.length_take]; omega
  omega
def sp_zones (K : PySem.W.Frag) (C CA CH : Addr) : Sp := fun vs H Q _ => ∃ v as, vs = [v] ∧ IsH K C CA CH H v as ∧ as.length ≤ 6 ∧ (∀ a ∈ as, AmOk a ∧ BC 11 (about a) ∧ B 3 a.pole) ∧ ∀ H' L us, Same H H' → H L = none → H' L = some (.lst us) → AllZ K H' us (zns as) → Q (.ref L) H'
theorem ok_zones {f C CA CH : Addr} {fd : FuncData} (m_A_effect : MPf P w K mg base CA "effect" "pen") (m_A_pole : MPf P w K mg base CA "pole" "centre") (m_A_near : MPf P w K mg base CA "near" "least") (m_A_far : MPf P w K mg base CA "far" "most") (m_H_arms : MPf P w K mg base CH "arms" "links")
    (m_rs : MRs P w K mg base C) (m_iv : MIv P w K mg base C) (m_ca : MCa P w K mg base C) (m_pg : MPg P w K mg base C) (d_still_copy : D P w K mg base "still_copy" 6 (sp_still K C)) (d_square_ahead : D P w K mg base "square_ahead" 3 (sp_sqa K))
    (F : Fun K "zones" "zones" s_zones f fd) : FnOk P w K mg base CX0 7 f fd ["chain"] (sp_zones K C CA CH) := by
  refine F.ok sc_zones (fun vs H Q E h => ?_) (fun cdv A outer s H vs Q E hr h => ?_)
  · obtain ⟨v, as, rfl, _⟩ := h
    rfl
  obtain ⟨v, as, rfl, ⟨p, dx, t, c, us, rfl, h1, h2, h3, h4⟩, hl6, hin, q⟩ := h
  refine ⟨_, (pss_cons (ps_set (i := 1) sc_zones.nd rfl (by first | exact Or.inl rfl | exact Or.inr rfl) (pe_lst pa_nil))
    (pss_cons (ps_set (i := 2) sc_zones.nd rfl (by first | exact Or.inl rfl | exact Or.inr rfl) (pc0 d_still_copy (hr.mono (by decide))))
    (pss_cons (ps_for PassesOwn.never rfl (pi_tup (pe_pf m_H_arms (hr.mono (by decide)) (pv 0))) (pg_name (i := 3) sc_zones.nd rfl (by first | exact Or.inl rfl | exact Or.inr rfl)) (pss_cons (ps_set (i := 4) sc_zones.nd rfl (by first | exact Or.inl rfl | exact Or.inr rfl) (pe_un (un_inv' m_iv (hr.mono (by decide))) (pv 2)))
    (pss_cons (ps_expr (pe_bm PySem.F.plainAttrs_list PySem.F.slot_list_append PySem.F.type_list_append mt_append (pv 1) (pa_cons (pe_tup (pa_cons (pe_ap m_ca (hr.mono (by decide)) (pv 4) (pa_cons (pe_pf m_A_pole (hr.mono (by decide)) (pv 3)) pa_nil)) (pa_cons (pc d_square_ahead (hr.mono (by decide)) (pa_cons (pe_pf m_A_near (hr.mono (by decide)) (pv 3)) (pa_cons (pe_grow m_pg (hr.mono (by decide)) (pv 2)) pa_nil))) (pa_cons (pc d_square_ahead (hr.mono (by decide)) (pa_cons (pe_pf m_A_far (hr.mono (by decide)) (pv 3)) (pa_cons (pe_grow m_pg (hr.mono (by decide)) (pv 2)) pa_nil))) pa_nil)))) pa_nil)))
    (pss_one (ps_set (i := 2) sc_zones.nd rfl (by first | exact Or.inl rfl | exact Or.inr rfl) (pe_op (op_rsh m_rs (hr.mono (by decide))) (pv 2) (pe_pf m_A_effect (hr.mono (by decide)) (pv 3))))))))
    (pss_one (ps_ret (pv 1)))))), ?_⟩
  refine ⟨(by show 0 ≤ sizeLine; decide), fun L hL => ?_⟩
  have sL := same_new hL (.lst [])
  refine ⟨rfl, fun H1 r1 s1 i1 => ?_⟩
  have hl := Paired.length h3
  have jb := jall11 (as := as) (fun a ha => ⟨(hin a ha).1, (hin a ha).2.1⟩) hl6
  have sH1 := sL.trans s1
  refine ⟨_, rfl, pf_of (sH1 _ _ h1) hf_links ?_⟩
  refine ⟨t, rfl, ⟨_, same_T sH1 h2⟩, for_tup (K := K) (a := t) (xs := us) (fun i σ H' => ∃ r y z ws, σ = [some (.ref p), some (.ref L), some r, y, z] ∧ Same H H' ∧ H' L = some (.lst ws) ∧ IsC K C H' r (jall (as.take i)) ∧ AllZ K H' ws ((zns as).take i)) ⟨r1, none, none, [], rfl, sH1, s1 _ _ upd_same, i1, .nil⟩ ?_ ?_ ?_⟩
  · rintro i σ H' _ ⟨r, y, z, ws, rfl, s', _⟩
    exact same_T s' h2
  · rintro i x σ H' hx ⟨r, y, z, ws, rfl, s', hw, ir, az⟩
    obtain ⟨a, e1, e2⟩ := pget h3 hx
    have hm := List.mem_of_getElem? e1
    obtain ⟨oa, ba, bp⟩ := hin a hm
    obtain ⟨oc, bc⟩ := jb i
    have ez := zns_at e1
    have lz : i < as.length := (List.getElem?_eq_some_iff.mp e1).1
    obtain ⟨pa, da, u, zt, pc, rfl, k1, k2, k3, k4⟩ := e2.same s'
    refine ⟨_, rfl, bk_of ir oc (bc.mono (by decide)) fun H2 r2 s2 i2 => ?_⟩
    obtain ⟨c2, _, _, _, ec2, _⟩ := id i2
    subst ec2
    have bb : BC 443 (bk (jall (as.take i))) := (bk_BC oc bc).mono (by decide)
    have ob := bk_ok oc
    have hw2 := s2 _ _ hw
    refine ⟨_, rfl, .inl ⟨rfl, _, .inl (.inl hw2)⟩, ?_⟩
    refine ⟨_, rfl, _, rfl, _, rfl, pf_of (s2 _ _ k1) af_centre ?_⟩
    refine ap_of i2 ob (bb.mono (by decide)) ⟨_, rfl, same_T s2 k2⟩ oa.p (bp.mono (by decide)) fun H3 r3 s3 i3 => ?_
    have s23 := s2.trans s3
    have gp := gr_pos oc.t oc.n
    have gb : FB 4001 (gr (jall (as.take i)).t) := (gr_FB oc.t bc.1).mono (by decide)
    have small2 : ∀ n : Int, 0 ≤ n → n ≤ 1000 → n.natAbs < 2 ^ 21 := fun n n0 n1 => Nat.lt_of_lt_of_le (show n.natAbs < 2 ^ 10 by omega) (pw (by decide))
    have lo := oa.lo
    have mi := oa.mi
    have hi := oa.hi
    refine ⟨_, rfl, pf_of (s23 _ _ k1) af_least ?_⟩
    refine ⟨_, rfl, prop_of (ir.same s23) ⟨_, _, rfl, ir.same s23, oc, bc.1.mono (by decide), fun H4 a4 s4 t4 => ?_⟩⟩
    have s24 := s23.trans s4
    refine ⟨_, _, _, rfl, t4, gp.1, gb, small2 _ lo (by omega), fun H5 r5 s5 i5 => ?_⟩
    have s25 := s24.trans s5
    refine ⟨_, rfl, pf_of (s25 _ _ k1) af_most ?_⟩
    refine ⟨_, rfl, prop_of (ir.same s25) ⟨_, _, rfl, ir.same s25, oc, bc.1.mono (by decide), fun H6 a6 s6 t6 => ?_⟩⟩
    have s26 := s25.trans s6
    refine ⟨_, _, _, rfl, t6, gp.1, gb, small2 _ (by omega) hi, fun H7 r7 s7 i7 => ?_⟩
    have s27 := s26.trans s7
    obtain ⟨p3, er3, t3⟩ := i3
    obtain ⟨p5, er5, t5⟩ := i5
    obtain ⟨p7, er7, t7⟩ := i7
    subst er3 er5 er7
    refine ⟨(by show 3 ≤ sizeLine; decide), fun p8 hp8 => ?_⟩
    have s8 := same_new hp8 (.tup [.ref p3, .ref p5, .ref p7])
    have hw8 := s8 _ _ (s27 _ _ hw)
    have lw := Paired.length az
    have lw2 : ((zns as).take i).length ≤ 6 := by rw [List.length_take, zns_len]; omega
    refine ⟨L, _, _, rfl, rfl, hw8, small1000 (by omega), ?_⟩
    have kk := keep_upd (d := L) (H := upd H7 p8 (.tup [.ref p3, .ref p5, .ref p7])) (o := .lst (ws ++ [.ref p8]))
    have s28 := s27.trans s8
    have z8 : IsZ K (upd (upd H7 p8 (.tup [.ref p3, .ref p5, .ref p7])) L (.lst (ws ++ [.ref p8]))) (.ref p8) (zn (jall (as.take i)) a) :=
      IsZ.keep (H := upd H7 p8 (.tup [.ref p3, .ref p5, .ref p7])) ⟨p8, p3, p5, p7, rfl, .inl (.inl upd_same), same_T (s4.trans (s5.trans (s6.trans (s7.trans s8)))) t3, same_T (s6.trans (s7.trans s8)) t5, same_T s8 t7⟩ hw8 kk
    have sX : Same H (upd (upd H7 p8 (.tup [.ref p3, .ref p5, .ref p7])) L (.lst (ws ++ [.ref p8]))) := fun b o e => kk _ _ (ne_of_none e hL) (s28 _ _ (s' _ _ e))
    have ir8 := (ir.same s28).keep hw8 kk
    have k8 : upd (upd H7 p8 (.tup [.ref p3, .ref p5, .ref p7])) L (.lst (ws ++ [.ref p8])) pa = some (.ins CA da (af u zt a.near a.far a.m pc)) := kk _ _ (ne_of k1 hw (by intro z; cases z)) (s28 _ _ k1)
    have k48 := (k4.same s28).keep hw8 kk
    have az8 : AllZ K (upd (upd H7 p8 (.tup [.ref p3, .ref p5, .ref p7])) L (.lst (ws ++ [.ref p8]))) (ws ++ [.ref p8]) ((zns as).take (i + 1)) := by
      rw [take_more ez]
      exact papp ((az.same s28).keep hw8 kk) (.cons z8 .nil)
    refine ⟨_, rfl, _, rfl, pf_of k8 af_pen ?_⟩
    refine jn_of ir8 k48 oc (about_ok oa) (bc.mono (by decide)) (ba.mono (by decide)) fun H9 r9 s9 i9 => ?_
    exact ⟨_, _, _, _, rfl, sX.trans s9, s9 _ _ upd_same, by rw [jall_take e1]; exact i9, az8.same s9⟩
  · rintro σ H' ⟨r, y, z, ws, rfl, s', hw, ir, az⟩
    rw [hl, ← zns_len, List.take_length] at az
    exact ⟨_, rfl, q _ _ _ s' hL hw az⟩
end
end My

namespace My
open PySem L2 Mth LamX
section
variable {K : PySem.W.Frag}
/-! ### what stays when a lambda is made; the pairs that tell of an error -/
theorem extN_T {H H' : Hp} {p : Addr} {xs : List V} (h : SqT K H p xs) (e : ExtN H H') : SqT K H' p xs := by
  rcases h with (h | ⟨o, h⟩) | h
  · exact .inl (.inl (e _ _ h (fun ps z => by cases z)))
  · exact .inl (.inr ⟨o, e _ _ h (fun ps z => by cases z)⟩)
  · exact .inr h
theorem extN_L {H H' : Hp} {p : Addr} {xs : List V} (h : H p = some (.lst xs)) (e : ExtN H H') : H' p = some (.lst xs) := e _ _ h (fun ps z => by cases z)
theorem IsT.extN {H H' : Hp} {v : V} {t : T3} (h : IsT K H v t) (e : ExtN H H') : IsT K H' v t := by
  obtain ⟨p, rfl, q⟩ := h
  exact ⟨p, rfl, extN_T q e⟩
theorem TabS.keep {H H' : Hp} {P d : Addr} {q : Str} {ys : List V} (t : TabS H P q) (hd : H d = some (.lst ys)) (k : Keep d H H') : TabS H' P q := by
  obtain ⟨ps, h1, h2, h3⟩ := t
  refine ⟨ps, k _ _ (ne_of h1 hd (by intro z; cases z)) h1, h2, fun pos cv hc => ?_⟩
  obtain ⟨c, e1, e2⟩ := h3 pos cv hc
  exact ⟨c, e1, k _ _ (ne_of e2 hd (by intro z; cases z)) e2⟩
def dErr (n : Str) : PyData := .tuple [.str n, .int 0]
theorem shapedE {n : Str} (h : PyData.strOk n = true) : SeqAt.shaped (dErr n) = true := by
  show ((PyData.strOk n && (true && true)) && decide (_ ≤ 64)) = true
  rw [h]
  rfl
theorem eqvE (n : Str) : PyData.eqv (dErr n) (dErr n) = true := by simp [dErr, PyData.eqv, PyData.eqvAll]
end
end My

namespace My
open PySem L2 Mth LamX
section
variable {P : Program} {w : World} {K : PySem.W.Frag} {mg : Str → Option Value} {base : Heap}
def NotW (v : V) : Prop := v = .non ∨ (∃ b, v = .bl b) ∨ ∃ s, v = .str s
/-- is_whole of an int, a bool, None, a text -/
def sp_wholeA : Sp := fun vs H Q _ => ∃ v, vs = [v] ∧ ((∃ i, v = .int i ∧ Q (.bl true) H) ∨ (NotW v ∧ Q (.bl false) H))
theorem ok_is_wholeA {f : Addr} {fd : FuncData} (b_isinstance : mg "isinstance" = none) (b_int : mg "int" = none) (b_bool : mg "bool" = none) (F : Fun K "is_whole" "is_whole" s_is_whole f fd) : FnOk P w K mg base CX0 1 f fd ["value"] sp_wholeA := by
  refine F.ok sc_is_whole (fun vs H Q E h => ?_) (fun cdv A outer s H vs Q E hr h => ?_)
  · obtain ⟨v, rfl, _⟩ := h
    rfl
  obtain ⟨v, rfl, h⟩ := h
  refine ⟨_, (pss_one (ps_ret (pe_and (pe_callB (r := rIsi K) call_isi (by rfl) b_isinstance (by decide +kernel) (pa_cons (pv 0) (pa_cons (pe_bltn (v := .ty "int") (by rfl) b_int (by decide +kernel) rfl) pa_nil))) (pe_one (pe_not (pe_callB (r := rIsi K) call_isi (by rfl) b_isinstance (by decide +kernel) (pa_cons (pv 0) (pa_cons (pe_bltn (v := .ty "bool") (by rfl) b_bool (by decide +kernel) rfl) pa_nil)))))))), ?_⟩
  rcases h with ⟨i, rfl, q⟩ | ⟨rfl | ⟨b, rfl⟩ | ⟨x, rfl⟩, q⟩
  · refine ⟨_, rfl, _, _, _, _, _, rfl, .ty _, .base (.int i), kit_ty (by decide +kernel), true, rfl, iteT ?_⟩
    exact ⟨_, rfl, _, _, _, _, _, rfl, .ty _, .base (.int i), kit_ty (by decide +kernel), false, rfl, q⟩
  · exact ⟨_, rfl, _, _, _, _, _, rfl, .ty _, .base .non, kit_ty (by decide +kernel), false, rfl, iteF q⟩
  · refine ⟨_, rfl, _, _, _, _, _, rfl, .ty _, .base (.bl b), kit_ty (by decide +kernel), true, rfl, iteT ?_⟩
    exact ⟨_, rfl, _, _, _, _, _, rfl, .ty _, .base (.bl b), kit_ty (by decide +kernel), true, rfl, q⟩
  · exact ⟨_, rfl, _, _, _, _, _, rfl, .ty _, .base (.str x), kit_ty (by decide +kernel), false, rfl, iteF q⟩
/-- an own class over ValueError, to be raised -/
structure ExX (K : PySem.W.Frag) (mg : Str → Option Value) (x : Str) (C : Addr) : Prop where
  q : PySem.W.excIn K C [.type "ValueError", .type "Exception", .type "BaseException", .type "object"] "ValueError.__new__" = true
  k : PySem.W.keepIn K (.ref C) = true
  b : PySem.W.subIn K (.ref C) (.type "BaseException") = some true
  t : PySem.W.typeIn K (.ref C) = some (.type "type")
  g : mg x = some (.ref C)
end
end My

namespace My
open PySem L2 Mth LamX
abbrev s_parting_scale : Stmt := topS 42
theorem sc_parting_scale : FnScope ["divisors", "most"] ["divisors"] (defScope s_parting_scale) := ⟨rfl, rfl, rfl, by decide +kernel, rfl, by decide +kernel, by decide +kernel⟩
section
variable {P : Program} {w : World} {K : PySem.W.Frag} {mg : Str → Option Value} {base : Heap}
/-! ### the scale that parts fractions -/
def sp_psc (K : PySem.W.Frag) : Sp := fun vs H Q _ => ∃ (l : Addr) (ns : List Int), vs = [.ref l] ∧ SqL K H l (ns.map V.int) ∧ (∀ n ∈ ns, n.natAbs < 2 ^ 4000) ∧ ∀ m : Int, (∀ y ∈ ns, y ≤ m) → m.natAbs < 2 ^ 4000 → Q (.int (m * m)) H
theorem ok_parting_scale {f : Addr} {fd : FuncData} (b_max : mg "max" = none) (F : Fun K "parting_scale" "parting_scale" s_parting_scale f fd) : FnOk P w K mg base CX0 1 f fd ["divisors"] (sp_psc K) := by
  refine F.ok sc_parting_scale (fun vs H Q E h => ?_) (fun cdv A outer s H vs Q E hr h => ?_)
  · obtain ⟨l, ns, rfl, _⟩ := h
    rfl
  obtain ⟨l, ns, rfl, hl, bd, q⟩ := h
  refine ⟨_, (pss_cons (ps_set (i := 1) sc_parting_scale.nd rfl (by first | exact Or.inl rfl | exact Or.inr rfl) (pe_maxE rfl (by rfl) b_max (pv 0) pe_int))
    (pss_one (ps_ret (pe_op op_mulW (pv 1) (pv 1))))), ?_⟩
  refine ⟨_, rfl, l, ns, rfl, hl, fun _ m h1 h2 => ?_, fun e => ?_⟩
  · exact ⟨_, rfl, _, rfl, _, _, rfl, rfl, mulW (a := 3999) (b := 3999) (bd m h1) (bd m h1), q m h2 (bd m h1)⟩
  · subst e
    exact ⟨_, rfl, _, rfl, _, _, rfl, rfl, mulW (a := 3999) (b := 3999) (by decide) (by decide), q 1 (fun y hy => by cases hy) (by decide)⟩
theorem small5 {n : Nat} (h : n ≤ 200000) : n < sizeLine := Nat.lt_of_le_of_lt h (by decide)
theorem zip_mem {α β : Type} {R : α → β → Prop} : ∀ {us : List α} {fs : List β}, Paired R us fs → ∀ {z : α × β}, z ∈ us.zip fs → R z.1 z.2
  | _, _, .nil, z, h => by cases h
  | _, _, .cons r t, z, h => by
    rcases List.mem_cons.mp h with rfl | h
    · exact r
    · exact zip_mem t h
theorem mem_zip {α β : Type} {R : α → β → Prop} : ∀ {ys : List (α × β)}, (∀ z ∈ ys, R z.1 z.2) → Paired R (ys.map (·.1)) (ys.map (·.2))
  | [], _ => .nil
  | y :: ys, h => .cons (h y (.head _)) (mem_zip fun z hz => h z (.tail _ hz))
end
end My

namespace My
open PySem L2 Mth LamX
abbrev s_ascending_fractions : Stmt := topS 43
theorem sc_ascending_fractions : FnScope ["fractions", "scale", "p", "q"] ["fractions"] (defScope s_ascending_fractions) := ⟨rfl, rfl, rfl, by decide +kernel, rfl, by decide +kernel, by decide +kernel⟩
section
variable {P : Program} {w : World} {K : PySem.W.Frag} {mg : Str → Option Value} {base : Heap}
/-! ### fractions in ascending order -/
theorem IsF.extN {H H' : Hp} {v : V} {f : Int × Int} (h : IsF K H v f) (e : ExtN H H') : IsF K H' v f := by
  obtain ⟨p, rfl, q⟩ := h
  exact ⟨p, rfl, extN_T q e⟩
theorem nl_ints {α : Type} (k : α → Int) : ∀ fs : List α, nlAll (fs.map fun g => PyData.int (k g)) = true
  | [] => rfl
  | _ :: t => by
    show (nlB (.int _) && nlAll _) = true
    rw [nl_ints k t]
    rfl
abbrev qA : Str := ("ascending_fractions" ++ ".<locals>." : Str) ++ ("<lambda>" : Str)
structure FrOk (fs : List (Int × Int)) : Prop where
  ne : 0 < fs.length
  le : fs.length ≤ 200
  pos : ∀ f ∈ fs, 0 < f.2
  bd : ∀ f ∈ fs, FB 4000 f
def sp_asc (K : PySem.W.Frag) (T : List (Addr × Str)) : Sp := fun vs H Q _ => ∃ (l : Addr) (us : List V) (fs : List (Int × Int)), vs = [.ref l] ∧ H l = some (.lst us) ∧ Paired (IsF K H) us fs ∧ FrOk fs ∧ Tabs T H ∧
  ∀ H' p us' fs', ExtN H H' → Tabs T H' → H' p = some (.lst us') → Paired (IsF K H') us' fs' → fs'.Perm fs → fs'.Pairwise leF → Q (.ref p) H'
theorem ok_ascending_fractions {f cA PA : Addr} {T : List (Addr × Str)} {oc kV doc pm ct : Value} {od an : Option Addr} {osl : Array (Option Value)} (b_sorted : mg "sorted" = none) (d_parting_scale : D P w K mg base "parting_scale" 1 (sp_psc K))
    (hmT : (PA, qA) ∈ T) (hu : ∀ p ∈ T, p.1 = PA → p.2 = qA) (TB : TabB base mg cA PA) (lk : K.lookup f = some ⟨oc, od, .func (PySem.W.fnOf "ascending_fractions" "ascending_fractions" (defArgs s_ascending_fractions) (defBody s_ascending_fractions) (defScope s_ascending_fractions) .none kV doc pm an (.ref cA) ct), osl⟩) (hcd : PySem.W.codeIn K (.ref cA) "ascending_fractions" = true) :
    FnOk P w K mg base CX0 4 f (PySem.W.fnOf "ascending_fractions" "ascending_fractions" (defArgs s_ascending_fractions) (defBody s_ascending_fractions) (defScope s_ascending_fractions) .none kV doc pm an (.ref cA) ct) ["fractions"] (sp_asc K T) := by
  refine fn_of lk hcd sc_ascending_fractions (fun vs H Q E h => ?_) (fun A outer s H vs Q E hr h => ?_)
  · obtain ⟨l, us, fs, rfl, _⟩ := h
    rfl
  obtain ⟨l, us, fs, rfl, hl, hA, ok, hT, q⟩ := h
  refine ⟨_, (pss_cons (ps_set (i := 1) sc_ascending_fractions.nd rfl (by first | exact Or.inl rfl | exact Or.inr rfl) (pc d_parting_scale (hr.mono (by decide)) (pa_cons (pe_lc (own := [("p", 2), ("q", 3)]) (g := gTup K 2 (gCons (gName 2) (gCons (gName 3) gNil))) (tt := tYes) (by rfl) sc_ascending_fractions.nd (pi_list (pv 0)) (blkOk_by (own := [("p", 2), ("q", 3)]) (N := ["fractions", "scale", "p", "q"]) (sc := defScope s_ascending_fractions) (by decide +kernel)) (fun _ _ _ _ _ => (pg_tup rfl (pgs_cons (pg_name (i := 2) sc_ascending_fractions.nd rfl (by first | exact Or.inl rfl | exact Or.inr rfl)) (pgs_cons (pg_name (i := 3) sc_ascending_fractions.nd rfl (by first | exact Or.inl rfl | exact Or.inr rfl)) pgs_nil)))) (fun _ _ _ _ _ => pts_nil) (fun _ _ _ _ _ => (pv 3))) pa_nil)))
    (pss_one (ps_ret (pe_sortL (T := T) (c := cA) (P := PA) (k := 0) (by rfl) b_sorted (pv 0) TB (by rfl) hmT hu (hr.mono (by decide)) (u65 hr) (nm := "one") (show LamS1 (defScope s_ascending_fractions) _ _ from lamS1_by (by decide +kernel)) (show ¬ ("one" : Str) ∈ (["fractions", "scale", "p", "q"] : List Str) from by decide) (by rfl) (fun _ _ _ _ _ v => by rfl) (fun A outer s H f c' hr' => pe_op op_fdivX (pe_op op_mulW (pe_ix (r := rIxT K) ix_tup (pv 4) pe_int (fun _ _ => rfl)) (pv 1)) (pe_ix (r := rIxT K) ix_tup (pv 4) pe_int (fun _ _ => rfl))))))), ?_⟩
  have hlen := Paired.length hA
  have hne := ok.ne
  have hle := ok.le
  refine ⟨_, rfl, l, rfl, ⟨_, .inl (.inl hl)⟩, fun L hL => lc_list (K := K) (a := l) (xs := us) (fun i H' => Same H H' ∧ H' L = some (.lst ((fs.take i).map fun f => V.int f.2))) ⟨same_new hL _, by rw [upd_same]; rfl⟩ ?_ ?_ ?_⟩
  · rintro i H' hi ⟨s', _⟩
    exact .inl (.inl (s' _ _ hl))
  · rintro i x H' hx ⟨s', hb⟩
    obtain ⟨g, eg, pg, rfl, ig⟩ := pgt hA hx
    refine ⟨pg, _, rfl, same_T s' ig, rfl, _, _, rfl, _, _, rfl, rfl, rfl, ?_⟩
    refine yes_of ?_
    have li := (List.getElem?_eq_some_iff.mp hx).1
    refine ⟨_, rfl, _, hb, ?_, fun b o e => ?_, ?_⟩
    · rw [List.length_map, List.length_take]
      exact small1000 (by omega)
    · rw [upd_ne (ne_of_none e hL)]
      exact s' _ _ e
    · rw [upd_same, List.take_succ, eg, List.map_append]
      rfl
  rintro H1 ⟨s1, hb⟩
  rw [hlen, List.take_length] at hb
  have bq : ∀ n ∈ fs.map (·.2), n.natAbs < 2 ^ 4000 := fun n hn => by
    obtain ⟨g, hg, rfl⟩ := List.mem_map.mp hn
    exact (ok.bd g hg).2
  refine ⟨_, fs.map (·.2), rfl, .inl (.inl (by rw [hb, List.map_map]; rfl)), bq, fun m hmax bm => ?_⟩
  have hm0 : ∀ g ∈ fs, g.2 ≤ m := fun g hg => hmax _ (List.mem_map.mpr ⟨g, hg, rfl⟩)
  refine ⟨_, rfl, l, rfl, hT.ext s1, fun H2 eN T2 => ?_⟩
  have hA2 : Paired (IsF K H2) us fs := pimp (fun _ _ i => (i.same s1).extN eN) hA
  have ez : us.zip (fs.map fun g => PyData.int (fkey (m * m) g)) = (us.zip fs).map fun z => (z.1, PyData.int (fkey (m * m) z.2)) := by
    rw [List.zip_map_right]
    rfl
  refine ⟨us, fs.map fun g => .int (fkey (m * m) g), .inl (.inl (extN_L (s1 _ _ hl) eN)), by rw [List.length_map, hlen], ?_, ?_, ?_, ?_, ?_, ?_⟩
  · intro d hd d' hd'
    obtain ⟨g, _, rfl⟩ := List.mem_map.mp hd
    obtain ⟨g', _, rfl⟩ := List.mem_map.mp hd'
    rfl
  · refine .inr fun d hd => ?_
    obtain ⟨g, _, rfl⟩ := List.mem_map.mp hd
    exact ⟨by simp, fun xs => by simp⟩
  · exact nl_ints _ _
  · intro d hd
    obtain ⟨g, _, rfl⟩ := List.mem_map.mp hd
    show (PyData.int _).depth ≤ 60
    simp [PyData.depth]
  · intro i x d hx hd H3 s3
    obtain ⟨g, eg, pg, rfl, ig⟩ := pgt hA2 hx
    rw [List.getElem?_map, eg] at hd
    cases hd
    have hg := List.mem_of_getElem? eg
    have g0 := ok.pos g hg
    have gb := ok.bd g hg
    have ig3 := same_T s3 ig
    exact ⟨.ref pg, rfl, pg, _, 0, .int g.1, rfl, rfl, ig3, rfl, .int (m * m), rfl, g.1, m * m, rfl, rfl, mulW (a := 3999) (b := 7999) gb.1 (mul_lt (n := 4000) (m := 4000) bm bm), .ref pg, rfl, pg, _, 1, .int g.2, rfl, rfl, ig3, rfl, g.1 * (m * m), g.2, rfl, rfl,
      divX (b := 4000) (by omega) gb.2 (by decide) (by decide), Same.refl _, .int _⟩
  · intro H5 p s5 hp h5
    have em := List.map_mergeSort (r := fun (a b : V × (Int × Int)) => decide (fkey (m * m) a.2 ≤ fkey (m * m) b.2)) (s := PySem.W.dataLe false (·.2)) (f := fun z : V × (Int × Int) => (z.1, PyData.int (fkey (m * m) z.2))) (l := us.zip fs) (fun a _ b _ => by
      have := congrFun (congrFun (PySem.W.dataLe_int (fun z : V × (Int × Int) => fkey (m * m) z.2)) a) b
      exact this.symm)
    rw [ez, ← em, List.map_map] at h5
    obtain ⟨g1, g2, g3⟩ := sortP (R := IsF K H5) (fkey (m * m)) (us.zip fs) (fun z hz => (zip_mem hA2 hz).same s5)
    generalize (us.zip fs).mergeSort (fun a b => decide (fkey (m * m) a.2 ≤ fkey (m * m) b.2)) = ys at *
    have e2 : (us.zip fs).map (·.2) = fs := by
      rw [List.map_snd_zip]
      omega
    rw [e2] at g2
    refine q H5 p (ys.map (·.1)) (ys.map (·.2)) ((ExtN.of s1).trans (eN.trans (ExtN.of s5))) (T2.ext s5) h5 (mem_zip g1) g2 ?_
    refine (List.Pairwise.and_mem.mp g3).imp fun {a b} ⟨ha, hb, h⟩ => ?_
    have ha := g2.mem_iff.mp ha
    have hb := g2.mem_iff.mp hb
    exact fkey_le (ok.pos a ha) (ok.pos b hb) (hm0 a ha) (hm0 b hb) h
end
end My

namespace My
open PySem L2 Mth LamX
abbrev s_square_beside : Stmt := topS 50
theorem sc_square_beside : FnScope ["spot", "part", "x", "y", "d", "u", "v", "e", "length", "across"] ["spot", "part"] (defScope s_square_beside) := ⟨rfl, rfl, rfl, by decide +kernel, rfl, by decide +kernel, by decide +kernel⟩
abbrev s_squares_along : Stmt := topS 51
theorem sc_squares_along : FnScope ["spot", "part", "ends", "end", "beside"] ["spot", "part"] (defScope s_squares_along) := ⟨rfl, rfl, rfl, by decide +kernel, rfl, by decide +kernel, by decide +kernel⟩
section
variable {P : Program} {w : World} {K : PySem.W.Frag} {mg : Str → Option Value} {base : Heap}
/-! ### the squares of distances along a part -/
/-- a part: a pair of spots -/
def IsP (K : PySem.W.Frag) (H : Hp) (vv : V) (u v : T3) : Prop := ∃ p a b, vv = .ref p ∧ SqT K H p [a, b] ∧ IsT K H a u ∧ IsT K H b v
theorem IsP.same {H H' : Hp} {vv : V} {u v : T3} (h : IsP K H vv u v) (s : Same H H') : IsP K H' vv u v := by
  obtain ⟨p, a, b, rfl, h1, h2, h3⟩ := h
  exact ⟨p, a, b, rfl, same_T s h1, h2.same s, h3.same s⟩
theorem IsP.extN {H H' : Hp} {vv : V} {u v : T3} (h : IsP K H vv u v) (s : ExtN H H') : IsP K H' vv u v := by
  obtain ⟨p, a, b, rfl, h1, h2, h3⟩ := h
  exact ⟨p, a, b, rfl, extN_T h1 s, h2.extN s, h3.extN s⟩
structure P3 (z u v : T3) : Prop where
  oz : Ok z
  ou : Ok u
  ov : Ok v
  bz : B 1300 z
  bu : B 600 u
  bv : B 600 v
def sp_bes (K : PySem.W.Frag) : Sp := fun vs H Q _ => ∃ vz vp z u v, vs = [vz, vp] ∧ IsT K H vz z ∧ IsP K H vp u v ∧ P3 z u v ∧ (bes (minus v u) (minus z u) = none → ∀ H', Same H H' → Q .non H') ∧ (∀ f, bes (minus v u) (minus z u) = some f → ∀ H' r, Same H H' → IsF K H' r f → Q r H')
theorem ok_square_beside {f : Addr} {fd : FuncData} (d_minus : D P w K mg base "minus" 4 (sp_two K minus)) (d_fraction : D P w K mg base "fraction" 2 (sp_fr K)) (F : Fun K "square_beside" "square_beside" s_square_beside f fd) : FnOk P w K mg base CX0 5 f fd ["spot", "part"] (sp_bes K) := by
  refine F.ok sc_square_beside (fun vs H Q E h => ?_) (fun cdv A outer s H vs Q E hr h => ?_)
  · obtain ⟨vz, vp, z, u, v, rfl, _⟩ := h
    rfl
  obtain ⟨vz, vp, z, u, v, rfl, iz, ⟨p, a, b, rfl, hp, ia, ib⟩, k, q0, q⟩ := h
  refine ⟨_, (pss_cons (ps_asg (pc d_minus (hr.mono (by decide)) (pa_cons (pe_ix (r := rIxT K) ix_tup (pv 1) pe_int (fun _ _ => rfl)) (pa_cons (pe_ix (r := rIxT K) ix_tup (pv 1) pe_int (fun _ _ => rfl)) pa_nil))) (pg_tup rfl (pgs_cons (pg_name (i := 2) sc_square_beside.nd rfl (by first | exact Or.inl rfl | exact Or.inr rfl)) (pgs_cons (pg_name (i := 3) sc_square_beside.nd rfl (by first | exact Or.inl rfl | exact Or.inr rfl)) (pgs_cons (pg_name (i := 4) sc_square_beside.nd rfl (by first | exact Or.inl rfl | exact Or.inr rfl)) pgs_nil)))))
    (pss_cons (ps_asg (pc d_minus (hr.mono (by decide)) (pa_cons (pv 0) (pa_cons (pe_ix (r := rIxT K) ix_tup (pv 1) pe_int (fun _ _ => rfl)) pa_nil))) (pg_tup rfl (pgs_cons (pg_name (i := 5) sc_square_beside.nd rfl (by first | exact Or.inl rfl | exact Or.inr rfl)) (pgs_cons (pg_name (i := 6) sc_square_beside.nd rfl (by first | exact Or.inl rfl | exact Or.inr rfl)) (pgs_cons (pg_name (i := 7) sc_square_beside.nd rfl (by first | exact Or.inl rfl | exact Or.inr rfl)) pgs_nil)))))
    (pss_cons (ps_set (i := 8) sc_square_beside.nd rfl (by first | exact Or.inl rfl | exact Or.inr rfl) (pe_op op_add (pe_op op_mulW (pv 2) (pv 2)) (pe_op op_mulW (pv 3) (pv 3))))
    (pss_cons (ps_if (pt_not (pt_chain op_lt op_lt pe_int (pe_op op_mulW (pe_op op_add (pe_op op_mulW (pv 2) (pv 5)) (pe_op op_mulW (pv 3) (pv 6))) (pv 4)) (pe_op op_mulW (pv 7) (pv 8)))) (pss_one (ps_ret pe_non)) pss_nil)
    (pss_cons (ps_set (i := 9) sc_square_beside.nd rfl (by first | exact Or.inl rfl | exact Or.inr rfl) (pe_op op_sub (pe_op op_mulW (pv 2) (pv 6)) (pe_op op_mulW (pv 3) (pv 5))))
    (pss_one (ps_ret (pc d_fraction (hr.mono (by decide)) (pa_cons (pe_op op_mulW (pv 9) (pv 9)) (pa_cons (pe_op op_mulW (pe_op op_mulW (pv 7) (pv 7)) (pv 8)) pa_nil)))))))))), ?_⟩
  have ow := minus_ok k.ov k.ou
  have ot := minus_ok k.oz k.ou
  have bw : B 1201 (minus v u) := minus_B k.ov k.ou k.bv k.bu
  have bt : B 1901 (minus z u) := minus_B k.oz k.ou k.bz k.bu
  refine ⟨_, rfl, p, _, 1, _, rfl, rfl, hp, rfl, _, rfl, p, _, 0, _, rfl, rfl, hp, rfl, _, _, _, _, rfl, ib, ia, k.ov, k.ou, k.bv.mono (by decide), k.bu.mono (by decide), fun H1 r1 s1 i1 => ?_⟩
  obtain ⟨p1, rfl, t1⟩ := i1
  refine ⟨p1, _, rfl, t1, rfl, _, _, rfl, _, _, rfl, _, _, rfl, rfl, ?_⟩
  refine ⟨_, rfl, _, rfl, p, _, 0, _, rfl, rfl, same_T s1 hp, rfl, _, _, _, _, rfl, iz.same s1, ia.same s1, k.oz, k.ou, k.bz.mono (by decide), k.bu.mono (by decide), fun H2 r2 s2 i2 => ?_⟩
  obtain ⟨p2, rfl, t2⟩ := i2
  refine ⟨p2, _, rfl, t2, rfl, _, _, rfl, _, _, rfl, _, _, rfl, rfl, ?_⟩
  have s12 := s1.trans s2
  generalize minus v u = W at *
  generalize minus z u = Z at *
  obtain ⟨x, y, d⟩ := W
  obtain ⟨x', y', e⟩ := Z
  obtain ⟨a1, a2, a3⟩ := bw
  obtain ⟨b1, b2, b3⟩ := bt
  refine ⟨_, rfl, _, rfl, _, _, rfl, rfl, mulW a1 a1, _, rfl, _, rfl, _, _, rfl, rfl, mulW a2 a2, _, _, rfl, rfl, gn_of ?_⟩
  have lb : (x * x + y * y).natAbs < 2 ^ 2403 := add_lt (mul_lt a1 a1) (mul_lt a2 a2)
  have db : (x * x' + y * y').natAbs < 2 ^ 3103 := add_lt (mul_lt a1 b1) (mul_lt a2 b2)
  refine ⟨_, rfl, _, rfl, _, _, rfl, rfl, mulW a1 b1, _, rfl, _, rfl, _, _, rfl, rfl, mulW a2 b2, _, _, rfl, rfl, _, rfl, _, _, rfl, rfl, mulW db a3, _, _, rfl, rfl, ?_⟩
  by_cases c1 : 0 < (x * x' + y * y') * d
  · refine ⟨true, congrArg V.bl (decide_eq_true c1), iteT ?_⟩
    refine ⟨_, rfl, _, rfl, _, _, rfl, rfl, mulW b3 lb, _, _, rfl, rfl, ?_⟩
    by_cases c2 : (x * x' + y * y') * d < e * (x * x + y * y)
    · refine ⟨true, congrArg V.bl (decide_eq_true c2), iteF ?_⟩
      have l0 : x * x + y * y ≠ 0 := fun z => by rw [z, Int.mul_zero] at c2; omega
      have ab : (x * y' - y * x').natAbs < 2 ^ 3103 := sub_lt (mul_lt a1 b2) (mul_lt a2 b1)
      refine ⟨_, rfl, _, rfl, _, _, rfl, rfl, mulW a1 b2, _, rfl, _, rfl, _, _, rfl, rfl, mulW a2 b1, _, _, rfl, rfl, gn_of ?_⟩
      refine ⟨_, rfl, _, rfl, _, _, rfl, rfl, mulW ab ab, _, rfl, _, rfl, _, _, rfl, rfl, mulW b3 b3, _, rfl, _, _, rfl, rfl, mulW (a := 3801) (mul_lt (n := 1901) (m := 1901) b3 b3) lb, ?_⟩
      refine ⟨_, _, rfl, mul_ne (mul_ne ot.ne ot.ne) l0, up_lt (n := 3802 + 2403) (by decide) (mul_lt (n := 3802) (m := 2403) (mul_lt (n := 1901) (m := 1901) b3 b3) lb), fun H3 g s3 ig => ?_⟩
      exact q _ (by unfold bes; exact if_pos ⟨c1, c2⟩) H3 _ (s12.trans s3) ⟨g, rfl, ig⟩
    · refine ⟨false, congrArg V.bl (decide_eq_false c2), iteT ?_⟩
      exact q0 (by unfold bes; exact if_neg fun z => c2 z.2) H2 s12
  · refine ⟨false, congrArg V.bl (decide_eq_false c1), iteF ⟨false, rfl, iteT ?_⟩⟩
    exact q0 (by unfold bes; exact if_neg fun z => c1 z.1) H2 s12
def sp_alo (K : PySem.W.Frag) (T : List (Addr × Str)) : Sp := fun vs H Q _ => ∃ vz vp z u v, vs = [vz, vp] ∧ IsT K H vz z ∧ IsP K H vp u v ∧ P3 z u v ∧ Tabs T H ∧
  ∀ H' p a b l m, ExtN H H' → Tabs T H' → SqT K H' p [a, b] → IsF K H' a ((bes (minus v u) (minus z u)).getD l) → IsF K H' b m → Least l [gr (minus z u), gr (minus z v)] → Most m [gr (minus z u), gr (minus z v)] → Q (.ref p) H'
theorem ok_squares_along {f : Addr} {fd : FuncData} {T : List (Addr × Str)} (d_square_between : D P w K mg base "square_between" 5 (sp_sqb K)) (d_square_beside : D P w K mg base "square_beside" 5 (sp_bes K)) (d_ascending_fractions : D P w K mg base "ascending_fractions" 4 (sp_asc K T)) (F : Fun K "squares_along" "squares_along" s_squares_along f fd) : FnOk P w K mg base CX0 6 f fd ["spot", "part"] (sp_alo K T) := by
  refine F.ok sc_squares_along (fun vs H Q E h => ?_) (fun cdv A outer s H vs Q E hr h => ?_)
  · obtain ⟨vz, vp, z, u, v, rfl, _⟩ := h
    rfl
  obtain ⟨vz, vp, z, u, v, rfl, iz, ⟨p, a, b, rfl, hp, ia, ib⟩, k, hT, q⟩ := h
  refine ⟨_, (pss_cons (ps_set (i := 2) sc_squares_along.nd rfl (by first | exact Or.inl rfl | exact Or.inr rfl) (pc d_ascending_fractions (hr.mono (by decide)) (pa_cons (pe_lc (own := [("end", 3)]) (g := gName 3) (tt := tYes) (by rfl) sc_squares_along.nd (pi_tup (pv 1)) (blkOk_by (own := [("end", 3)]) (N := ["spot", "part", "ends", "end", "beside"]) (sc := defScope s_squares_along) (by decide +kernel)) (fun _ _ _ _ _ => (pg_name (i := 3) sc_squares_along.nd rfl (by first | exact Or.inl rfl | exact Or.inr rfl))) (fun _ _ _ _ _ => pts_nil) (fun _ _ _ _ _ => (pc d_square_between (hr.mono (by decide)) (pa_cons (pv 0) (pa_cons (pv 3) pa_nil))))) pa_nil)))
    (pss_cons (ps_set (i := 4) sc_squares_along.nd rfl (by first | exact Or.inl rfl | exact Or.inr rfl) (pc d_square_beside (hr.mono (by decide)) (pa_cons (pv 0) (pa_cons (pv 1) pa_nil))))
    (pss_one (ps_ret (pe_tup (pa_cons (pe_ifExp (pt_cmpR (op_isN) (pv 4) pe_non (nomark _)) (pe_ix (r := rIxL K) ix_list (pv 2) pe_int (fun _ _ => rfl)) (pv 4)) (pa_cons (pe_ix (r := rIxL K) ix_list (pv 2) pe_int (fun _ _ => rfl)) pa_nil))))))), ?_⟩
  have ow := minus_ok k.ov k.ou
  have o1 := minus_ok k.oz k.ou
  have o2 := minus_ok k.oz k.ov
  have b1 : B 1901 (minus z u) := minus_B k.oz k.ou k.bz k.bu
  have b2 : B 1901 (minus z v) := minus_B k.oz k.ov k.bz k.bv
  have hP : Paired (IsT K H) [a, b] [u, v] := .cons ia (.cons ib .nil)
  refine ⟨_, rfl, p, rfl, ⟨_, hp⟩, fun L hL => lc_tup (K := K) (a := p) (xs := [a, b]) (fun i H' => ∃ acc : List V, Same H H' ∧ H' L = some (.lst acc) ∧ Paired (IsF K H') acc (([u, v].take i).map fun e => gr (minus z e))) ⟨[], same_new hL _, upd_same, .nil⟩ ?_ ?_ ?_⟩
  · rintro i H' hi ⟨acc, s', _⟩
    exact same_T s' hp
  · rintro i x H' hx ⟨acc, s', hb, ha⟩
    obtain ⟨e, ee, ie⟩ := pgt hP hx
    have me := List.mem_of_getElem? ee
    have oe : Ok e ∧ B 600 e := by
      simp only [List.mem_cons, List.mem_nil_iff, or_false] at me
      rcases me with rfl | rfl
      · exact ⟨k.ou, k.bu⟩
      · exact ⟨k.ov, k.bv⟩
    have la := Paired.length ha
    have li := (List.getElem?_eq_some_iff.mp ee).1
    have l2 : [u, v].length = 2 := rfl
    rw [List.length_map, List.length_take] at la
    refine ⟨rfl, yes_of ?_⟩
    refine ⟨_, rfl, _, rfl, _, _, _, _, rfl, iz.same s', ie.same s', k.oz, oe.1, k.bz.mono (by decide), oe.2.mono (by decide), fun H2 r2 s2 i2 => ?_⟩
    have hb2 := s2 _ _ hb
    have k2 := keep_upd (d := L) (H := H2) (o := .lst (acc ++ [r2]))
    refine ⟨acc, hb2, small1000 (by omega), acc ++ [r2], fun b o e => ?_, upd_same, ?_⟩
    · rw [upd_ne (ne_of_none e hL)]
      exact s2 _ _ (s' _ _ e)
    · rw [take_more ee, List.map_append]
      exact papp (pimp (fun _ _ i => (i.same s2).keep hb2 k2) ha) (.cons (i2.keep hb2 k2) .nil)
  rintro H1 ⟨acc, s1, hb, ha⟩
  have ha : Paired (IsF K H1) acc [gr (minus z u), gr (minus z v)] := ha
  refine ⟨L, acc, _, rfl, hb, ha, ⟨by show 0 < 2; decide, by show 2 ≤ 200; decide, fun f hf => ?_, fun f hf => ?_⟩, hT.ext s1, ?_⟩
  · simp only [List.mem_cons, List.mem_nil_iff, or_false] at hf
    rcases hf with rfl | rfl
    · exact gr_p2 o1
    · exact gr_p2 o2
  · simp only [List.mem_cons, List.mem_nil_iff, or_false] at hf
    rcases hf with rfl | rfl
    · exact (gr_FB o1 b1).mono (by decide)
    · exact (gr_FB o2 b2).mono (by decide)
  intro H3 p3 us3 fs3 eN3 T3 h3 P3 perm3 pw3
  have e3 : ExtN H H3 := (ExtN.of s1).trans eN3
  obtain ⟨a', b', f', g', rfl, rfl, if', ig'⟩ : ∃ a' b' f' g', us3 = [a', b'] ∧ fs3 = [f', g'] ∧ IsF K H3 a' f' ∧ IsF K H3 b' g' := by
    have l3 := perm3.length_eq
    cases P3 with
    | nil => cases l3
    | cons r1 t1 =>
      cases t1 with
      | nil => cases l3
      | cons r2 t2 =>
        cases t2 with
        | nil => exact ⟨_, _, _, _, rfl, rfl, r1, r2⟩
        | cons r3 t3 => simp at l3
  have hl := (least_first pw3).perm perm3
  have hm := (most_last (f := g') (gs := [f']) pw3).perm perm3
  refine ⟨_, rfl, _, rfl, _, _, z, u, v, rfl, iz.extN e3, ⟨p, a, b, rfl, extN_T hp e3, ia.extN e3, ib.extN e3⟩, k, fun hn H4 s4 => ?_, fun fb hn H4 r4 s4 i4 => ?_⟩
  · refine gn_of ?_
    refine ⟨_, rfl, rfl, _, rfl, iteT ?_⟩
    refine ⟨_, rfl, p3, _, _, _, rfl, rfl, .inl (.inl (s4 _ _ h3)), rfl, _, rfl, p3, _, _, _, rfl, rfl, .inl (.inl (s4 _ _ h3)), rfl, (by show 2 ≤ sizeLine; decide), fun pr hr' => ?_⟩
    have sr := same_new hr' (.tup [a', b'])
    have s4r := s4.trans sr
    exact q _ pr a' b' f' g' (e3.trans (ExtN.of s4r)) (T3.ext s4r) (.inl (.inl upd_same)) (by rw [hn]; exact if'.same s4r) (ig'.same s4r) hl hm
  · obtain ⟨p4, rfl, i4⟩ := i4
    refine gn_of ?_
    refine ⟨_, rfl, rfl, false, rfl, iteF ?_⟩
    refine ⟨_, rfl, _, rfl, p3, _, _, _, rfl, rfl, .inl (.inl (s4 _ _ h3)), rfl, (by show 2 ≤ sizeLine; decide), fun pr hr' => ?_⟩
    have sr := same_new hr' (.tup [.ref p4, b'])
    have s4r := s4.trans sr
    exact q _ pr (.ref p4) b' f' g' (e3.trans (ExtN.of s4r)) (T3.ext s4r) (.inl (.inl upd_same)) (by rw [hn]; exact IsF.same ⟨p4, rfl, i4⟩ sr) (ig'.same s4r) hl hm
end
end My

namespace My
open PySem L2 Mth LamX
abbrev s_can_trace : Stmt := topS 65
theorem sc_can_trace : FnScope ["arm", "part", "closest", "furthest", "least", "most"] ["arm", "part"] (defScope s_can_trace) := ⟨rfl, rfl, rfl, by decide +kernel, rfl, by decide +kernel, by decide +kernel⟩
abbrev s_traced_parts : Stmt := topS 64
theorem sc_traced_parts : FnScope ["stroke"] ["stroke"] (defScope s_traced_parts) := ⟨rfl, rfl, rfl, by decide +kernel, rfl, by decide +kernel, by decide +kernel⟩
section
variable {P : Program} {w : World} {K : PySem.W.Frag} {mg : Str → Option Value} {base : Heap}
/-! ### the parts that are traced -/
/-- the parts of a stroke, that of a dot included -/
def tps : List T3 → List (T3 × T3)
  | [z] => [(z, z)]
  | zs => zs.zip (zs.drop 1)
def IsPs (K : PySem.W.Frag) (H : Hp) (L : Addr) (ps : List (T3 × T3)) : Prop := ∃ us, H L = some (.lst us) ∧ Paired (fun x q => IsP K H x q.1 q.2) us ps
theorem paired_by {α β : Type} {R : α → β → Prop} : ∀ {us : List α} {ts : List β}, us.length = ts.length → (∀ (j : Nat) x t, us[j]? = some x → ts[j]? = some t → R x t) → Paired R us ts
  | [], [], _, _ => .nil
  | [], _ :: _, h, _ => by cases h
  | _ :: _, [], h, _ => by cases h
  | x :: us, t :: ts, h, r => .cons (r 0 x t rfl rfl) (paired_by (by simpa using h) fun j y u e1 e2 => r (j + 1) y u e1 e2)
theorem pairs_zip {H : Hp} {us ps : List V} {zs : List T3} (h : PairsOf K H us ps) (hz : Paired (IsT K H) us zs) : Paired (fun x q => IsP K H x q.1 q.2) ps (zs.zip (zs.drop 1)) := by
  have hl := Paired.length hz
  refine paired_by (by rw [h.1, List.length_zip, List.length_drop]; omega) fun j x q ex eq => ?_
  rw [List.getElem?_zip_eq_some, List.getElem?_drop, Nat.add_comm] at eq
  obtain ⟨e1, e2⟩ := eq
  have l1 := (List.getElem?_eq_some_iff.mp e1).1
  have l2 := (List.getElem?_eq_some_iff.mp e2).1
  obtain ⟨T, a, b⟩ := h.2 j (us[j]'(by omega)) (us[j + 1]'(by omega)) (by simp) (by simp)
  rw [ex] at a
  cases a
  obtain ⟨u, eu, iu⟩ := pgt hz (i := j) (p := us[j]'(by omega)) (by simp)
  obtain ⟨v, ev, iv⟩ := pgt hz (i := j + 1) (p := us[j + 1]'(by omega)) (by simp)
  rw [e1] at eu
  rw [e2] at ev
  cases eu
  cases ev
  exact ⟨T, _, _, rfl, b, iu, iv⟩
def sp_tps (K : PySem.W.Frag) : Sp := fun vs H Q _ => ∃ v zs, vs = [v] ∧ IsSt K H v zs ∧ StOk zs ∧ ∀ H' L, Same H H' → H L = none → IsPs K H' L (tps zs) → Q (.ref L) H'
theorem ok_traced_parts {f : Addr} {fd : FuncData} (b_len : mg "len" = none) (d_parts_of : D P w K mg base "parts_of" 1 (sp_parts K)) (F : Fun K "traced_parts" "traced_parts" s_traced_parts f fd) : FnOk P w K mg base CX0 2 f fd ["stroke"] (sp_tps K) := by
  refine F.ok sc_traced_parts (fun vs H Q E h => ?_) (fun cdv A outer s H vs Q E hr h => ?_)
  · obtain ⟨v, zs, rfl, _⟩ := h
    rfl
  obtain ⟨v, zs, rfl, ⟨t, us, rfl, hT, hP⟩, ok, q⟩ := h
  refine ⟨_, (pss_one (ps_ret (pe_ifExp (pt_cmpR (op_eq) (pe_callB call_len_seq (by rfl) b_len PySem.boot_len (pa_cons (pv 0) pa_nil)) pe_int (nomark _)) (pe_lst (pa_cons (pe_tup (pa_cons (pe_ix (r := rIxT K) ix_tup (pv 0) pe_int (fun _ _ => rfl)) (pa_cons (pe_ix (r := rIxT K) ix_tup (pv 0) pe_int (fun _ _ => rfl)) pa_nil))) pa_nil)) (pc d_parts_of (hr.mono (by decide)) (pa_cons (pv 0) pa_nil))))), ?_⟩
  have hl := Paired.length hP
  have lo := ok.lo
  refine ⟨_, rfl, t, us, rfl, .inr hT, rfl, ?_⟩
  by_cases h1 : us.length = 1
  · refine ⟨true, congrArg V.bl (decide_eq_true (congrArg V.int (by omega))), iteT ?_⟩
    obtain ⟨z, rfl⟩ : ∃ z, zs = [z] := by
      match zs, (by omega : zs.length = 1) with
      | [z], _ => exact ⟨z, rfl⟩
    obtain ⟨x, rfl⟩ : ∃ x, us = [x] := by
      match us, h1 with
      | [x], _ => exact ⟨x, rfl⟩
    obtain ⟨z', e, ix⟩ := pgt hP (i := 0) (p := x) rfl
    cases e
    refine ⟨_, rfl, t, _, 0, _, rfl, rfl, hT, rfl, _, rfl, t, _, 0, _, rfl, rfl, hT, rfl, (by show 2 ≤ sizeLine; decide), fun p1 hp1 => ?_⟩
    have s1 := same_new hp1 (.tup [x, x])
    refine ⟨(by show 1 ≤ sizeLine; decide), fun L hL => ?_⟩
    have s2 := same_new hL (.lst [.ref p1])
    exact q _ L (s1.trans s2) (s1.free hL) ⟨_, upd_same, .cons ⟨p1, x, x, rfl, same_T s2 (.inl (.inl upd_same)), ix.same (s1.trans s2), ix.same (s1.trans s2)⟩ .nil⟩
  · refine ⟨false, congrArg V.bl (decide_eq_false fun z => h1 (by injection z; omega)), iteF ?_⟩
    have e : tps zs = zs.zip (zs.drop 1) := by
      match zs, (by omega : zs.length ≠ 1) with
      | [], _ => rfl
      | [_], h => exact absurd rfl h
      | _ :: _ :: _, _ => rfl
    refine ⟨_, rfl, t, us, rfl, hT, by omega, fun H' L ps s' hL h' hp => ?_⟩
    refine q H' L s' hL ⟨ps, h', ?_⟩
    rw [e]
    exact pairs_zip hp (pimp (fun _ _ i => i.same s') hP)
/-- whether an arm traces a part -/
def ctr (a : Am) (u v : T3) : Bool := rch a u && rch a v && !lessF (lnr a.pole u v) (a.near * a.near, 1)
def sp_ctr (K : PySem.W.Frag) (C CA : Addr) (T : List (Addr × Str)) : Sp := fun vs H Q _ => ∃ va a vp u v, vs = [va, vp] ∧ IsA K C CA H va a ∧ AmOk a ∧ IsP K H vp u v ∧ P3 a.pole u v ∧ Tabs T H ∧ ∀ H', ExtN H H' → Tabs T H' → Q (.bl (ctr a u v)) H'
theorem ok_can_trace {f C CA : Addr} {fd : FuncData} {T : List (Addr × Str)} (m_A_pole : MPf P w K mg base CA "pole" "centre") (m_A_near : MPf P w K mg base CA "near" "least") (m_A_far : MPf P w K mg base CA "far" "most") (d_squares_along : D P w K mg base "squares_along" 6 (sp_alo K T)) (d_is_from_to : D P w K mg base "is_from_to" 1 (sp_ft K)) (F : Fun K "can_trace" "can_trace" s_can_trace f fd) : FnOk P w K mg base CX0 7 f fd ["arm", "part"] (sp_ctr K C CA T) := by
  refine F.ok sc_can_trace (fun vs H Q E h => ?_) (fun cdv A outer s H vs Q E hr h => ?_)
  · obtain ⟨va, a, vp, u, v, rfl, _⟩ := h
    rfl
  obtain ⟨va, a, vp, u, v, rfl, ia, ok, ip, k, hT, q⟩ := h
  refine ⟨_, (pss_cons (ps_asg (pc d_squares_along (hr.mono (by decide)) (pa_cons (pe_pf m_A_pole (hr.mono (by decide)) (pv 0)) (pa_cons (pv 1) pa_nil))) (pg_tup rfl (pgs_cons (pg_name (i := 2) sc_can_trace.nd rfl (by first | exact Or.inl rfl | exact Or.inr rfl)) (pgs_cons (pg_name (i := 3) sc_can_trace.nd rfl (by first | exact Or.inl rfl | exact Or.inr rfl)) pgs_nil))))
    (pss_cons (ps_set (i := 4) sc_can_trace.nd rfl (by first | exact Or.inl rfl | exact Or.inr rfl) (pe_tup (pa_cons (pe_op op_mulW (pe_pf m_A_near (hr.mono (by decide)) (pv 0)) (pe_pf m_A_near (hr.mono (by decide)) (pv 0))) (pa_cons pe_int pa_nil))))
    (pss_cons (ps_set (i := 5) sc_can_trace.nd rfl (by first | exact Or.inl rfl | exact Or.inr rfl) (pe_tup (pa_cons (pe_op op_mulW (pe_pf m_A_far (hr.mono (by decide)) (pv 0)) (pe_pf m_A_far (hr.mono (by decide)) (pv 0))) (pa_cons pe_int pa_nil))))
    (pss_one (ps_ret (pe_and (pc d_is_from_to (hr.mono (by decide)) (pa_cons (pv 2) (pa_cons (pv 4) (pa_cons (pv 5) pa_nil)))) (pe_one (pc d_is_from_to (hr.mono (by decide)) (pa_cons (pv 3) (pa_cons (pv 4) (pa_cons (pv 5) pa_nil))))))))))), ?_⟩
  obtain ⟨p, dx, uu, tt, c, rfl, h1, h2, h3, h4⟩ := ia
  refine ⟨_, rfl, pf_of h1 af_centre ⟨_, rfl, _, _, a.pole, u, v, rfl, ⟨uu, rfl, h2⟩, ip, k, hT, fun H1 p1 x y l m e1 T1 hp1 ix iy hl hm => ?_⟩⟩
  refine ⟨p1, _, rfl, hp1, rfl, _, _, rfl, _, _, rfl, rfl, ?_⟩
  have hA := e1 _ _ h1 (fun ps z => by cases z)
  have lo := ok.lo
  have mi := ok.mi
  have hi := ok.hi
  refine ⟨_, rfl, pf_of hA af_least ⟨_, rfl, pf_of hA af_least ⟨_, _, rfl, rfl, nn10' lo (by omega), (by show 2 ≤ sizeLine; decide), fun p3 hp3 => gn_of ?_⟩⟩⟩
  have s3 := same_new hp3 (.tup [.int (a.near * a.near), .int 1])
  have hA3 := s3 _ _ hA
  refine ⟨_, rfl, pf_of hA3 af_most ⟨_, rfl, pf_of hA3 af_most ⟨_, _, rfl, rfl, nn10' (by omega) hi, (by show 2 ≤ sizeLine; decide), fun p4 hp4 => gn_of ?_⟩⟩⟩
  have s4 := same_new hp4 (.tup [.int (a.far * a.far), .int 1])
  have s34 := s3.trans s4
  have i3 : IsF K _ (.ref p3) (a.near * a.near, 1) := IsF.same IsF.new s4
  have i4 : IsF K (upd (upd H1 p3 (.tup [.int (a.near * a.near), .int 1])) p4 (.tup [.int (a.far * a.far), .int 1])) (.ref p4) (a.far * a.far, 1) := IsF.new
  have o1 := minus_ok k.oz k.ou
  have o2 := minus_ok k.oz k.ov
  have ow := minus_ok k.ov k.ou
  have b1 : B 1901 (minus a.pole u) := minus_B k.oz k.ou k.bz k.bu
  have b2 : B 1901 (minus a.pole v) := minus_B k.oz k.ov k.bz k.bv
  have bw : B 1201 (minus v u) := minus_B k.ov k.ou k.bv k.bu
  have fb : ∀ g ∈ [gr (minus a.pole u), gr (minus a.pole v)], FB 16001 g := fun g hg => by
    simp only [List.mem_cons, List.mem_nil_iff, or_false] at hg
    rcases hg with rfl | rfl
    · exact (gr_FB o1 b1).mono (by decide)
    · exact (gr_FB o2 b2).mono (by decide)
  have fx : FB 16001 ((bes (minus v u) (minus a.pole u)).getD l) := by
    unfold bes
    by_cases cc : 0 < dt (minus v u) (minus a.pole u) * (minus v u).2.2 ∧ dt (minus v u) (minus a.pole u) * (minus v u).2.2 < (minus a.pole u).2.2 * ln (minus v u)
    · rw [if_pos cc]
      have l0 : ln (minus v u) ≠ 0 := fun z => by rw [z, Int.mul_zero] at cc; omega
      have lb : (ln (minus v u)).natAbs < 2 ^ 2403 := add_lt (mul_lt bw.1 bw.1) (mul_lt bw.2.1 bw.2.1)
      have cb : (crs2 (minus v u) (minus a.pole u)).natAbs < 2 ^ 3103 := sub_lt (mul_lt bw.1 b1.2.1) (mul_lt bw.2.1 b1.1)
      exact (fr_FB (n := 8000) (mul_ne (mul_ne o1.ne o1.ne) l0) (up_lt (by decide) (mul_lt cb cb)) (up_lt (n := 3802 + 2403) (by decide) (mul_lt (n := 3802) (m := 2403) (mul_lt (n := 1901) (m := 1901) b1.2.2 b1.2.2) lb))).mono (by decide)
    · rw [if_neg cc]
      exact fb l hl.1
  have ee := can_eq (lo := (a.near * a.near, 1)) (hi := (a.far * a.far, 1)) k.oz k.ou k.ov (by show (0 : Int) < 1; decide) (by show (0 : Int) < 1; decide) hl hm
  have er : ctr a u v = (inF ((bes (minus v u) (minus a.pole u)).getD l) (a.near * a.near, 1) (a.far * a.far, 1) && inF m (a.near * a.near, 1) (a.far * a.far, 1)) := by
    rw [ee]
    unfold ctr rch
    rw [gr_sym k.ou k.oz, gr_sym k.ov k.oz]
  rw [er] at q
  have q := q _ (e1.trans (ExtN.of s34)) (T1.ext s34)
  refine ⟨_, rfl, _, rfl, _, rfl, _, _, _, _, _, _, rfl, ix.same s34, i3, i4, fx, near_FB' lo (by omega), near_FB' (by omega) hi, ?_⟩
  refine ⟨_, rfl, ?_⟩
  cases cc : inF ((bes (minus v u) (minus a.pole u)).getD l) (a.near * a.near, 1) (a.far * a.far, 1) with
  | false =>
    rw [cc] at q
    exact iteF q
  | true =>
    rw [cc] at q
    exact iteT ⟨_, rfl, _, rfl, _, rfl, _, _, _, _, _, _, rfl, iy.same s34, i3, i4, fb m hm.1, near_FB' lo (by omega), near_FB' (by omega) hi, q⟩
end
end My

namespace My
open PySem L2 Mth LamX
abbrev s_traced : Stmt := topS 66
theorem sc_traced : FnScope ["arm", "drawing", "index", "at", "stroke", "number", "part"] ["arm", "drawing", "index"] (defScope s_traced) := ⟨rfl, rfl, rfl, by decide +kernel, rfl, by decide +kernel, by decide +kernel⟩
section
variable {P : Program} {w : World} {K : PySem.W.Frag} {mg : Str → Option Value} {base : Heap}
/-! ### what an arm traces -/
theorem IsSt.extN {H H' : Hp} {v : V} {zs : List T3} (h : IsSt K H v zs) (e : ExtN H H') : IsSt K H' v zs := by
  obtain ⟨t, us, rfl, a, b⟩ := h
  exact ⟨t, us, rfl, extN_T a e, pimp (fun _ _ i => i.extN e) b⟩
theorem IsW.extN {CW : Addr} {H H' : Hp} {v : V} {zss : List (List T3)} (h : IsW K CW H v zss) (e : ExtN H H') : IsW K CW H' v zss := by
  obtain ⟨p, dx, t, us, rfl, h1, h2, h3⟩ := h
  exact ⟨p, dx, t, us, rfl, e _ _ h1 (fun ps z => by cases z), extN_T h2 e, pimp (fun _ _ i => i.extN e) h3⟩
theorem IsC.extN {C : Addr} {H H' : Hp} {v : V} {c : Cp} (h : IsC K C H v c) (e : ExtN H H') : IsC K C H' v c := by
  obtain ⟨p, dx, a, b, rfl, h1, h2, h3⟩ := h
  exact ⟨p, dx, a, b, rfl, e _ _ h1 (fun ps z => by cases z), extN_T h2 e, extN_T h3 e⟩
theorem IsA.extN {C CA : Addr} {H H' : Hp} {v : V} {a : Am} (h : IsA K C CA H v a) (e : ExtN H H') : IsA K C CA H' v a := by
  obtain ⟨p, dx, u, z, c, rfl, h1, h2, h3, h4⟩ := h
  exact ⟨p, dx, u, z, c, rfl, e _ _ h1 (fun ps z => by cases z), extN_T h2 e, extN_T h3 e, h4.extN e⟩
/-- the loop over enumerate of a list -/
theorem for_enumL {a : Addr} {xs : List V} {g : TG} {tb : TS} {D : Ends} {σ : L2.St} {H : Hp} (Pv : Nat → L2.St → Hp → Prop) (h0 : Pv 0 σ H) (hT : ∀ i σ H, i ≤ xs.length → Pv i σ H → SqL K H a xs)
    (hs : ∀ i x σ H T, xs[i]? = some x → Pv i σ H → H T = none → g (.ref T) σ (upd H T (.tup [.int (i : Nat), x])) fun σ2 H2 => tb { D with nx := Pv (i + 1), ct := Pv (i + 1), bk := D.nx } σ2 H2) (hd : ∀ σ H, Pv xs.length σ H → D.nx σ H) :
    ∃ W : Nat → Nat → L2.St → Hp → Prop, (∃ m, W 0 m σ H) ∧ ∀ i m σ H, W i m σ H →
      ((Ite K a).stop i H ∧ D.nx σ H) ∨ ((Ite K a).go i H ∧ ∃ N : L2.St → Hp → Prop, (∀ σ' H', N σ' H' → ∃ m', m' < m ∧ W (i + 1) m' σ' H') ∧ ∀ x H', (Ite K a).yld i H x H' → g x σ H' fun σ2 H2 => tb { D with nx := N, ct := N, bk := D.nx } σ2 H2) := by
  refine ⟨fun i m σ H => m = xs.length - i ∧ i ≤ xs.length ∧ Pv i σ H, ⟨_, rfl, Nat.zero_le _, h0⟩, ?_⟩
  rintro i m σ H ⟨rfl, hi, p⟩
  have t := hT i σ H hi p
  by_cases lt : i < xs.length
  · refine .inr ⟨⟨xs, xs[i], t, List.getElem?_eq_getElem lt⟩, Pv (i + 1), fun σ' H' p' => ⟨_, by omega, rfl, lt, p'⟩, ?_⟩
    rintro v H' ⟨T, x, rfl, n, rfl, hx⟩
    exact hs i x σ H T (hx xs t) p n
  · obtain rfl : i = xs.length := by omega
    exact .inl ⟨⟨xs, t, Nat.le_refl _⟩, hd σ H p⟩
/-- all parts of a stroke are traced -/
def Trs (a : Am) (zs : List T3) : Prop := ∀ q ∈ tps zs, ctr a q.1 q.2 = true
/-- an arm and what it is to trace -/
structure TrIn (a : Am) (zss : List (List T3)) : Prop where
  ok : AmOk a
  bp : B 1300 a.pole
  bc : BC 1000 (about a)
  dr : DrOk zss
  bd : ∀ z ∈ zss.flatten, B 600 z
theorem tps_mem {zs : List T3} {q : T3 × T3} (h : q ∈ tps zs) : q.1 ∈ zs ∧ q.2 ∈ zs := by
  unfold tps at h
  split at h
  · simp only [List.mem_cons, List.mem_nil_iff, or_false] at h
    subst h
    exact ⟨.head _, .head _⟩
  · exact ⟨(List.of_mem_zip h).1, List.mem_of_mem_drop (List.of_mem_zip h).2⟩
theorem TrIn.p3 {a : Am} {zss : List (List T3)} (h : TrIn a zss) {zs : List T3} (hz : zs ∈ zss) {q : T3 × T3} (hq : q ∈ tps zs) : P3 a.pole q.1 q.2 := by
  obtain ⟨h1, h2⟩ := tps_mem hq
  have o := (h.dr.ok zs hz).ok
  exact ⟨h.ok.p, o _ h1, o _ h2, h.bp, h.bd _ (List.mem_flatten.mpr ⟨zs, hz, h1⟩), h.bd _ (List.mem_flatten.mpr ⟨zs, hz, h2⟩)⟩
theorem tps_len {zs : List T3} (h : StOk zs) : (tps zs).length ≤ 12 := by
  have := h.hi
  unfold tps
  split
  · show 1 ≤ 12; decide
  · rw [List.length_zip]; omega
def mv1 (a : Am) (zss : List (List T3)) : List (List T3) := zss.map fun zs => zs.map (ap (about a))
def mvs (as : List Am) (n : Nat) (zss : List (List T3)) : List (List T3) := (as.take n).foldl (fun z a => mv1 a z) zss
theorem mvs_succ {as : List Am} {n : Nat} {a : Am} {zss : List (List T3)} (h : as[n]? = some a) : mvs as (n + 1) zss = mv1 a (mvs as n zss) := by
  unfold mvs
  rw [take_more h, List.foldl_append]
  rfl
def sp_trd (K : PySem.W.Frag) (C CA CW : Addr) (T : List (Addr × Str)) (ix : List V → Prop) : Sp := fun vs H Q _ => ∃ va a vd zss r, vs = va :: vd :: r ∧ ix r ∧ IsA K C CA H va a ∧ IsW K CW H vd zss ∧ TrIn a zss ∧ (∀ zs ∈ zss, Trs a zs) ∧ Tabs T H ∧ ∀ H' r, ExtN H H' → Tabs T H' → IsW K CW H' r (zss.map fun zs => zs.map (ap (about a))) → Q r H'
theorem ok_traced {f C CA CW : Addr} {fd : FuncData} {T : List (Addr × Str)} (b_enumerate : mg "enumerate" = none) (m_W_strokes : MPf P w K mg base CW "strokes" "held") (m_A_effect : MPf P w K mg base CA "effect" "pen") (m_wcop : MWc P w K mg base C CW) (d_traced_parts : D P w K mg base "traced_parts" 2 (sp_tps K)) (d_can_trace : D P w K mg base "can_trace" 7 (sp_ctr K C CA T)) (F : Fun K "traced" "traced" s_traced f fd) : FnOk P w K mg base CX0 8 f fd ["arm", "drawing", "index"] (sp_trd K C CA CW T fun r => ∃ i, r = [V.int i]) := by
  refine F.ok sc_traced (fun vs H Q E h => ?_) (fun cdv A outer s H vs Q E hr h => ?_)
  · obtain ⟨va, a, vd, zss, r, rfl, ⟨i, rfl⟩, _⟩ := h
    rfl
  obtain ⟨va, a, vd, zss, r, rfl, ⟨ix, rfl⟩, ia, iw, ti, tr, hT, q⟩ := h
  refine ⟨_, (pss_cons (ps_for PassesOwn.never rfl (pi_enumT (by rfl) b_enumerate (pa_cons (pe_pf m_W_strokes (hr.mono (by decide)) (pv 1)) pa_nil)) (pg_tup rfl (pgs_cons (pg_name (i := 3) sc_traced.nd rfl (by first | exact Or.inl rfl | exact Or.inr rfl)) (pgs_cons (pg_name (i := 4) sc_traced.nd rfl (by first | exact Or.inl rfl | exact Or.inr rfl)) pgs_nil))) (pss_one (ps_for PassesOwn.never rfl (pi_enum (by rfl) b_enumerate (pa_cons (pc d_traced_parts (hr.mono (by decide)) (pa_cons (pv 4) pa_nil)) pa_nil)) (pg_tup rfl (pgs_cons (pg_name (i := 5) sc_traced.nd rfl (by first | exact Or.inl rfl | exact Or.inr rfl)) (pgs_cons (pg_name (i := 6) sc_traced.nd rfl (by first | exact Or.inl rfl | exact Or.inr rfl)) pgs_nil))) (pss_one (ps_if (pt_not (pt_val (pc d_can_trace (hr.mono (by decide)) (pa_cons (pv 0) (pa_cons (pv 6) pa_nil))))) (pss_one (ps_never)) pss_nil)))))
    (pss_one (ps_ret (pe_copied m_wcop (hr.mono (by decide)) (pv 1) (pa_cons (pe_pf m_A_effect (hr.mono (by decide)) (pv 0)) pa_nil))))), ?_⟩
  obtain ⟨p, dx, t, us, rfl, h1, h2, h3⟩ := iw
  refine ⟨_, rfl, pf_of h1 wf_held ⟨t, us, rfl, h2, for_enumT (K := K) (a := t) (xs := us) (fun i σ H' => (∃ x y z u, σ = [some va, some (.ref p), some (.int ix), x, y, z, u]) ∧ ExtN H H' ∧ Tabs T H') ⟨⟨none, none, none, none, rfl⟩, ExtN.of (Same.refl _), hT⟩ ?_ ?_ ?_⟩⟩
  · rintro i σ H' _ ⟨_, e', _⟩
    exact extN_T h2 e'
  · rintro i x σ H' N hx ⟨⟨x1, x2, x3, x4, rfl⟩, e', T'⟩ hn
    obtain ⟨zs, ez, iz⟩ := pgt h3 hx
    have mz := List.mem_of_getElem? ez
    have sn := same_new hn (.tup [.int (i : Nat), x])
    have e2 := e'.trans (ExtN.of sn)
    refine ⟨N, _, rfl, .inl (.inl upd_same), rfl, _, _, rfl, _, _, rfl, rfl, ?_⟩
    refine ⟨_, rfl, _, zs, rfl, iz.extN e2, ti.dr.ok zs mz, fun H2 L s2 nL ⟨ws, hL, hP⟩ => ⟨L, ws, rfl, .inl (.inl hL), ?_⟩⟩
    have e3 := e2.trans (ExtN.of s2)
    refine for_enumL (K := K) (a := L) (xs := ws) (fun j σ H' => (∃ z u, σ = [some va, some (.ref p), some (.int ix), some (.int (i : Nat)), some x, z, u]) ∧ ExtN H2 H' ∧ Tabs T H') ⟨⟨x3, x4, rfl⟩, ExtN.of (Same.refl _), (T'.ext sn).ext s2⟩ ?_ ?_ ?_
    · rintro j σ H' _ ⟨_, e4, _⟩
      exact .inl (.inl (extN_L hL e4))
    · rintro j y σ H4 M hy ⟨⟨x3, x4, rfl⟩, e4, T4⟩ hm
      obtain ⟨qq, eq, iq⟩ := pgt hP hy
      have mq := List.mem_of_getElem? eq
      have sm := same_new hm (.tup [.int (j : Nat), y])
      have e5 := e4.trans (ExtN.of sm)
      refine ⟨M, _, rfl, .inl (.inl upd_same), rfl, _, _, rfl, _, _, rfl, rfl, ?_⟩
      refine ⟨_, rfl, _, rfl, _, a, _, qq.1, qq.2, rfl, (ia.extN e3).extN e5, ti.ok, iq.extN e5, ti.p3 mz mq, T4.ext sm, fun H6 e6 T6 => ?_⟩
      rw [tr zs mz qq mq]
      exact ⟨true, rfl, iteF ⟨⟨_, _, rfl⟩, e5.trans e6, T6⟩⟩
    · rintro σ H5 ⟨⟨x3, x4, rfl⟩, e5, T5⟩
      exact ⟨⟨_, _, _, _, rfl⟩, e3.trans e5, T5⟩
  · rintro σ H' ⟨⟨x1, x2, x3, x4, rfl⟩, e', T'⟩
    obtain ⟨pa, da, ua, za, c, rfl, g1, g2, g3, g4⟩ := ia.extN e'
    have iW : IsW K CW H' (.ref p) zss := IsW.extN ⟨p, dx, t, us, rfl, h1, h2, h3⟩ e'
    refine ⟨_, rfl, copied_of iW ⟨_, rfl, pf_of g1 af_pen ⟨_, zss, _, about a, rfl, iW, ti.dr, g4, about_ok ti.ok, ti.bc, fun z hz => (ti.bd z hz).mono (by decide), fun H2 r s2 i2 => ?_⟩⟩⟩
    exact q H2 r (e'.trans (ExtN.of s2)) (T'.ext s2) i2
end
end My

namespace My
open PySem L2 Mth
abbrev s_OutOfReach___init__ : Stmt := inClass (topS 10) 0
theorem sc_OutOfReach___init__ : FnScope ["self", "arm", "stroke", "part"] ["self", "arm", "stroke", "part"] (defScope s_OutOfReach___init__) := ⟨rfl, rfl, rfl, by decide +kernel, rfl, by decide +kernel, by decide +kernel⟩
section
variable {P : Program} {w : World} {K : PySem.W.Frag} {mg : Str → Option Value} {base : Heap}
/-! ### OutOfReach(k, i, j) -/
def oorF (x y z : V) : List (Str × V) := [("part", z), ("stroke", y), ("arm", x)]
def sp_oor (C : Addr) : Sp := fun vs H Q _ => ∃ a x y z, vs = [.ref a, x, y, z] ∧ H a = some (exo a C none) ∧ ∀ dx, H dx = none → dx ≠ a → Q .non (upd (upd (upd (upd H dx (exd dx [("arm", x)])) a (exo a C (some dx))) dx (exd dx [("stroke", y), ("arm", x)])) dx (exd dx (oorF x y z)))
structure NoF3 (K : PySem.W.Frag) (C : Addr) : Prop where
  n1 : PySem.W.findIn K (.ref C) "arm" = some none
  n2 : PySem.W.findIn K (.ref C) "stroke" = some none
  n3 : PySem.W.findIn K (.ref C) "part" = some none
theorem ok_oor {f C : Addr} {fd : FuncData} (T : OexC K C) (hno : NoF3 K C) (F : Fun K "__init__" "OutOfReach.__init__" s_OutOfReach___init__ f fd) : FnOk P w K mg base CX0 1 f fd ["self", "arm", "stroke", "part"] (sp_oor C) := by
  refine F.ok sc_OutOfReach___init__ (fun vs H Q E h => ?_) (fun cdv A outer s H vs Q E hr h => ?_)
  · obtain ⟨a, x, y, z, rfl, _⟩ := h
    rfl
  obtain ⟨a, x, y, z, rfl, ha, q⟩ := h
  refine ⟨_, (pss_cons (ps_ost (pv 0) (pv 1))
    (pss_cons (ps_ost (pv 0) (pv 2))
    (pss_one (ps_ost (pv 0) (pv 3))))), ?_⟩
  refine ⟨_, rfl, _, rfl, a, C, rfl, T, hno.n1, .inl ⟨ha, fun dx n ne => ?_⟩⟩
  refine ⟨_, rfl, _, rfl, a, C, rfl, T, hno.n2, .inr ⟨dx, _, upd_same, by rw [upd_ne ne]; exact upd_same, by show 1 ≤ 900; decide, ?_⟩⟩
  exact ⟨_, rfl, _, rfl, a, C, rfl, T, hno.n3, .inr ⟨dx, _, by rw [upd_ne ne.symm]; exact upd_same, upd_same, by show 2 ≤ 900; decide, q dx n ne⟩⟩
/-- what raises OutOfReach asks -/
structure OorS (P : Program) (w : World) (K : PySem.W.Frag) (mg : Str → Option Value) (base : Heap) (C : Addr) : Prop where
  T : OexC K C
  gl : mg "OutOfReach" = some (.ref C)
  ex : ∃ fI fd, PySem.W.findIn K (.ref C) "__init__" = some (some (.ref fI)) ∧ PySem.W.typeIn K (.ref fI) = some (.type "function") ∧ FnOk P w K mg base CX0 1 fI fd ["self", "arm", "stroke", "part"] (sp_oor C) ∧ Binds K fd ["self", "arm", "stroke", "part"] []
theorem pmk_oor {X : Cx} {C : Addr} {e : Expr} {es : List Expr} {ta : TA} {p pos : Pos} (T : OorS X.prog X.w X.K X.mg X.base C) (hr : Room 2 X.A) (hx : Passes CX0 X (fun _ _ _ => False)) (ha : PA X (e :: es) ta) (hg : Gl X "OutOfReach" := by rfl)
    (he : starEach (e :: es) X.env = (false, eval e X.env) :: starEach es X.env := by rfl) (hpl : (backTo pos (starEach es X.env)).any (·.1) = false := by rfl) : PMk X (.Call (.Name "OutOfReach" p) (e :: es) [] pos) (tMkO C (sp_oor C) [] ta) := by
  obtain ⟨fI, fd, iC, tI, F1, hb⟩ := T.ex
  exact pmk_oex (p := p) (pos := pos) T.T iC tI F1 hr hb (dvs := []) .nil hx hg T.gl ha (by decide) he hpl
theorem oor_of {H1 : Hp} {C : Addr} {x y z : V} {Q : XK} (q : ∀ H' d, Same H1 H' → H1 d = none → H' d = some (.xd (oorF x y z)) → Q (.ref C) (some d) H') :
    [x, y, z].length ≤ 1000 ∧ ∀ a, H1 a = none → sp_oor C (.ref a :: ([x, y, z] ++ [])) (upd H1 a (exo a C none)) (fun v H2 => v = .non ∧ ∃ (d : Addr) (fs : List (Str × V)), H2 a = some (exo a C (some d)) ∧ H2 d = some (exd d fs) ∧ H1 d = none ∧ Q (.ref C) (some d) (upd (del H2 a) d (.xd fs))) (fun _ _ _ => False) := by
  refine ⟨by show 3 ≤ 1000; decide, fun a ha => ⟨a, x, y, z, rfl, upd_same, fun dx n ne => ?_⟩⟩
  have hd : H1 dx = none := by rw [upd_ne ne] at n; exact n
  refine ⟨rfl, dx, oorF x y z, by rw [upd_ne ne.symm, upd_ne ne.symm]; exact upd_same, upd_same, hd, q _ dx (fun b o e => ?_) hd upd_same⟩
  have b1 : b ≠ dx := ne_of_none e hd
  have b2 : b ≠ a := ne_of_none e ha
  rw [upd_ne b1, del_ne b2, upd_ne b1, upd_ne b1, upd_ne b2, upd_ne b1, upd_ne b2]
  exact e
end
end My

namespace My
open PySem L2 Mth LamX

section
variable {P : Program} {w : World} {K : PySem.W.Frag} {mg : Str → Option Value} {base : Heap}
/-! ### what is no spot -/
theorem D.or {x : Str} {k : Nat} {sp1 sp2 : Sp} (d1 : D P w K mg base x k sp1) (d2 : D P w K mg base x k sp2) : D P w K mg base x k (fun vs H Q E => sp1 vs H Q E ∨ sp2 vs H Q E) := by
  obtain ⟨f, F1, hk, hm⟩ := d1.ex
  obtain ⟨g, F2, _, hm'⟩ := d2.ex
  rw [hm] at hm'
  cases hm'
  exact ⟨f, fun A outer s H us vs Q E hr e0 r h => h.elim (F1 A outer s H us vs Q E hr e0 r) (F2 A outer s H us vs Q E hr e0 r), hk, hm⟩
inductive BadS : List V → Prop
  | len {xs : List V} (h : xs.length ≠ 3) (hl : xs.length ≤ 100) : BadS xs
  | num {x y d : Int} (h : ¬ (1 ≤ d ∧ g3 x y d = 1)) : BadS [.int x, .int y, .int d]
  | kind {a b c : V} (h : ∀ x ∈ [a, b, c], (∃ i, x = .int i) ∨ NotW x) (e : ∃ x ∈ [a, b, c], NotW x) : BadS [a, b, c]
def sp_isspotX (K : PySem.W.Frag) : Sp := fun vs H Q _ => ∃ p xs, vs = [.ref p] ∧ SqT K H p xs ∧ BadS xs ∧ ∀ H', Same H H' → Q (.bl false) H'
def wh (x : V) : Bool := match x with
  | .int _ => true
  | _ => false
theorem ok_is_spotX {f : Addr} {fd : FuncData} (b_isinstance : mg "isinstance" = none) (b_tuple : mg "tuple" = none) (b_len : mg "len" = none) (b_all : mg "all" = none) (d_common_divisor : D P w K mg base "common_divisor" 1 sp_gcd) (d_is_whole : D P w K mg base "is_whole" 1 sp_wholeA)
    (F : Fun K "is_spot" "is_spot" s_is_spot f fd) : FnOk P w K mg base CX0 2 f fd ["value"] (sp_isspotX K) := by
  refine F.ok sc_is_spot (fun vs H Q E h => ?_) (fun cdv A outer s H vs Q E hr h => ?_)
  · obtain ⟨p, xs, rfl, _⟩ := h
    rfl
  obtain ⟨p, xs, rfl, ta, bad, q⟩ := h
  refine ⟨_, (pss_cons (ps_if (PW.pt (pw_or (pt_not (pt_val (pe_callB (r := rIsi K) call_isi (by rfl) b_isinstance (by decide +kernel) (pa_cons (pv 0) (pa_cons (pe_bltn (v := .ty "tuple") (by rfl) b_tuple (by decide +kernel) rfl) pa_nil))))) (pw_or1 (pt_cmpR (op_ne) (pe_callB call_len_seq (by rfl) b_len PySem.boot_len (pa_cons (pv 0) pa_nil)) pe_int (nomark _))))) (pss_one (ps_ret pe_bl)) pss_nil)
    (pss_cons (ps_if (pt_not (pt_val (pe_callB (cr_all rfl) (by rfl) b_all (by decide +kernel) (pa_cons (pe_lc (own := [("number", 1)]) (g := gName 1) (tt := tYes) (by rfl) sc_is_spot.nd (pi_tup (pv 0)) (blkOk_by (own := [("number", 1)]) (N := ["value", "number", "x", "y", "d"]) (sc := defScope s_is_spot) (by decide +kernel)) (fun _ _ _ _ _ => (pg_name (i := 1) sc_is_spot.nd rfl (by first | exact Or.inl rfl | exact Or.inr rfl))) (fun _ _ _ _ _ => pts_nil) (fun _ _ _ _ _ => (pc d_is_whole (hr.mono (by decide)) (pa_cons (pv 1) pa_nil)))) pa_nil)))) (pss_one (ps_ret pe_bl)) pss_nil)
    (pss_cons (ps_asg (pv 0) (pg_tup rfl (pgs_cons (pg_name (i := 2) sc_is_spot.nd rfl (by first | exact Or.inl rfl | exact Or.inr rfl)) (pgs_cons (pg_name (i := 3) sc_is_spot.nd rfl (by first | exact Or.inl rfl | exact Or.inr rfl)) (pgs_cons (pg_name (i := 4) sc_is_spot.nd rfl (by first | exact Or.inl rfl | exact Or.inr rfl)) pgs_nil)))))
    (pss_one (ps_ret (pe_and (pe_cmpR (op_ge) (pv 4) pe_int (nomark _)) (pe_one (pe_cmpR (op_eq) (pc d_common_divisor (hr.mono (by decide)) (pa_cons (pc d_common_divisor (hr.mono (by decide)) (pa_cons (pv 2) (pa_cons (pv 3) pa_nil))) (pa_cons (pv 4) pa_nil))) pe_int (nomark _))))))))), ?_⟩
  refine ⟨_, rfl, _, _, _, _, _, rfl, .ty _, ty_T ta, kit_ty (by decide +kernel), true, rfl, ?_⟩
  refine iteF ?_
  refine ⟨_, rfl, _, _, rfl, .inr ta, rfl, _, rfl, ?_⟩
  by_cases hl : ¬ xs.length = 3
  · rw [decide_eq_false (fun z => hl (by have := V.int.inj z; omega))]
    exact iteT (q _ (Same.refl _))
  have hl : xs.length = 3 := Decidable.not_not.mp hl
  rw [show V.int (xs.length : Int) = V.int 3 by rw [hl]; rfl, decide_eq_true rfl]
  refine iteF ?_
  have items : ∀ x ∈ xs, (∃ i, x = .int i) ∨ NotW x := fun x hx => by
    cases bad with
    | len h => exact absurd hl h
    | num h =>
      simp only [List.mem_cons, List.mem_nil_iff, or_false] at hx
      rcases hx with rfl | rfl | rfl <;> exact .inl ⟨_, rfl⟩
    | kind h e => exact h x hx
  refine ⟨_, rfl, _, rfl, ⟨_, ta⟩, fun L hL => lc_tup (K := K) (a := p) (xs := xs) (fun i H' => ∃ acc : List V, H' = upd H L (.lst acc) ∧ acc = ((xs.take i).map wh).map V.bl) ⟨[], rfl, rfl⟩ ?_ ?_ ?_⟩
  · rintro i H' hi ⟨acc, rfl, _⟩
    exact same_T (same_new hL _) ta
  · rintro i x H' hx ⟨acc, rfl, ea⟩
    refine ⟨rfl, ?_⟩
    refine yes_of ?_
    have fin : ∃ acc', upd H L (.lst acc) L = some (.lst acc') ∧ acc'.length < sizeLine ∧ ∃ acc'', upd (upd H L (.lst acc)) L (.lst (acc' ++ [.bl (wh x)])) = upd H L (.lst acc'') ∧ acc'' = ((xs.take (i + 1)).map wh).map V.bl := by
      refine ⟨acc, upd_same, ?_, acc ++ [.bl (wh x)], upd_upd, ?_⟩
      · rw [ea, List.length_map, List.length_map, List.length_take]; exact small1000 (by omega)
      · rw [tk_map wh hx, List.map_append, ea]; rfl
    rcases items x (List.mem_of_getElem? hx) with ⟨i', rfl⟩ | nw
    · exact ⟨_, rfl, _, rfl, .inl ⟨i', rfl, fin⟩⟩
    · have ew : wh x = false := by rcases nw with rfl | ⟨b, rfl⟩ | ⟨t, rfl⟩ <;> rfl
      rw [ew] at fin
      exact ⟨_, rfl, _, rfl, .inr ⟨nw, fin⟩⟩
  · rintro H' ⟨acc, rfl, ea⟩
    rw [List.take_length] at ea
    refine ⟨_, xs.map wh, rfl, .inl (.inl ?_), ?_⟩
    · rw [ea]; exact upd_same
    refine ⟨_, rfl, ?_⟩
    have s1 := same_new hL (.lst acc)
    cases bad with
    | len h => exact absurd hl h
    | kind h e =>
      obtain ⟨x, hx, nw⟩ := e
      have ew : wh x = false := by rcases nw with rfl | ⟨b, rfl⟩ | ⟨t, rfl⟩ <;> rfl
      rw [show (([_, _, _] : List V).map wh).all id = false from List.all_eq_false.mpr ⟨wh x, List.mem_map.mpr ⟨x, hx, rfl⟩, by rw [ew]; decide⟩]
      exact iteT (q _ s1)
    | @num x y d h =>
      refine iteF ?_
      refine ⟨_, rfl, _, _, rfl, same_T s1 ta, rfl, _, _, rfl, _, _, rfl, _, _, rfl, rfl, ?_⟩
      refine ⟨_, rfl, _, _, rfl, rfl, _, rfl, ?_⟩
      by_cases hd : (1 : Int) ≤ d
      · rw [decide_eq_true hd]
        refine iteT ?_
        refine ⟨_, rfl, _, rfl, _, _, rfl, _, rfl, _, _, rfl, rfl, ?_⟩
        have e : ¬ V.int ((Int.gcd ((Int.gcd x y : Nat) : Int) d : Nat) : Int) = V.int 1 := fun z => h ⟨hd, V.int.inj z⟩
        show Q (.bl (decide (V.int ((Int.gcd ((Int.gcd x y : Nat) : Int) d : Nat) : Int) = V.int 1))) _
        rw [decide_eq_false e]
        exact q _ s1
      · rw [decide_eq_false hd]
        exact iteF (q _ s1)
/-- a def that may raise -/
structure DX (P : Program) (w : World) (K : PySem.W.Frag) (mg : Str → Option Value) (base : Heap) (x : Str) (k : Nat) (sp : Sp) : Prop where
  ex : ∃ f, FnR P w K mg base (L2.CX P w) k f sp ∧ PySem.W.keepIn K (.ref f) = true ∧ mg x = some (.ref f)
def tClX (sp : Sp) (E : XK) (t : TA) : TE := fun σ H Q => t σ H fun vs H1 => sp vs H1 Q E
theorem pcX {X : Cx} {k : Nat} {sp : Sp} {x : Str} {e : Expr} {es : List Expr} {t : TA} {p pos : Pos} {E : XK} (d : DX X.prog X.w X.K X.mg X.base x k sp) (hr : Room k X.A) (hx : Passes (L2.CX X.prog X.w) X E) (ha : PA X (e :: es) t) (hg : Gl X x := by rfl) (hd : (x == ("__debug__" : Str)) = false := by decide)
    (he : starEach (e :: es) X.env = (false, eval e X.env) :: starEach es X.env := by rfl) (hpl : (backTo pos (starEach es X.env)).any (·.1) = false := by rfl) :
    PE X (.Call (.Name x p) (e :: es) [] pos) (tClX sp E t) := by
  obtain ⟨f, F, hk, hm⟩ := d.ex
  refine ⟨fun pins s σ H Q I h => ?_⟩
  refine wpAny_Call_Name_kw (ld_glob I hg hm ?_ hd)
  refine PySem.W.callWith_K (h₀ := X.base) I.ok.mod.kin hk (thn (ha.run pos pins s σ H _ I h) fun us s1 ⟨vs, H1, I1, r, q⟩ => ⟨I1.kIn, ?_⟩) he hpl
  exact wpAny_call (run_fnR F hr hx I1 r q)
theorem rOfX {k : Nat} {f : Addr} {fd : FuncData} {ps : List Str} {sp : Sp} (F : FnOk P w K mg base (L2.CX P w) k f fd ps sp) (b : Binds K fd ps []) : FnR P w K mg base (L2.CX P w) k f sp := rOf F b
def sp_isspotB (K : PySem.W.Frag) : Sp := fun vs H Q E => sp_isspot K vs H Q E ∨ sp_isspotX K vs H Q E
def sp_checkB (K : PySem.W.Frag) (CT : Addr) : Sp := fun vs H Q E => ∃ v, vs = [v] ∧ ((∃ a, IsT K H v a ∧ Ok a ∧ ∀ H', Same H H' → Q .non H') ∨ ∃ p xs, v = .ref p ∧ SqT K H p xs ∧ BadS xs ∧ ∀ H', Same H H' → E (.ref CT) none H')
theorem ok_check_spotB {f CT : Addr} {fd : FuncData} (XS : ExX K mg "InvalidSpot" CT) (d_is_spotB : D P w K mg base "is_spot" 2 (sp_isspotB K)) (F : Fun K "check_spot" "check_spot" s_check_spot f fd) : FnOk P w K mg base (L2.CX P w) 3 f fd ["value"] (sp_checkB K CT) := by
  refine F.okX sc_check_spot (fun vs H Q E h => ?_) (fun cdv A outer s H vs Q E hr h => ?_)
  · obtain ⟨v, rfl, _⟩ := h
    rfl
  obtain ⟨v, rfl, h⟩ := h
  refine ⟨_, (pss_one (ps_if (pt_not (pt_val (pc d_is_spotB (hr.mono (by decide)) (pa_cons (pv 0) pa_nil)))) (pss_one (ps_raise rfl (takes_of rfl rfl rfl rfl) (pmk_own PySem.F.excBase_ValueError XS.q XS.g XS.k (raises_own XS.b XS.t) (by rfl)))) pss_nil)), ?_⟩
  rcases h with ⟨a, ia, oa, q⟩ | ⟨p, xs, rfl, ta, bad, q⟩
  · exact ⟨_, rfl, .inl ⟨_, _, rfl, ia, oa, fun H1 s1 => ⟨_, rfl, iteF (q _ s1)⟩⟩⟩
  · exact ⟨_, rfl, .inr ⟨_, _, rfl, ta, bad, fun H1 s1 => ⟨_, rfl, iteT (q _ s1)⟩⟩⟩
end
end My

namespace My
open PySem L2 Mth LamX

section
variable {P : Program} {w : World} {K : PySem.W.Frag} {mg : Str → Option Value} {base : Heap}
/-! ### what is out of reach -/
/-- the first part that is not traced -/
structure Miss (a : Am) (zss : List (List T3)) (i j : Nat) : Prop where
  ex : ∃ zs q, zss[i]? = some zs ∧ (tps zs)[j]? = some q ∧ ctr a q.1 q.2 = false ∧ ∀ j' q', j' < j → (tps zs)[j']? = some q' → ctr a q'.1 q'.2 = true
  be : ∀ i' zs', i' < i → zss[i']? = some zs' → Trs a zs'
def sp_trdX (K : PySem.W.Frag) (C CA CW C7 : Addr) (T : List (Addr × Str)) (ix : List V → Int → Prop) : Sp := fun vs H Q E => ∃ va a vd zss r k i j, vs = va :: vd :: r ∧ ix r k ∧ IsA K C CA H va a ∧ IsW K CW H vd zss ∧ TrIn a zss ∧ Miss a zss i j ∧ Tabs T H ∧ ∀ H' d, ExtN H H' → Tabs T H' → H' d = some (.xd (oorF (.int k) (.int (i : Nat)) (.int (j : Nat)))) → E (.ref C7) (some d) H'
theorem ok_tracedX {f C CA CW C7 : Addr} {fd : FuncData} {T : List (Addr × Str)} (b_enumerate : mg "enumerate" = none) (m_W_strokes : MPf P w K mg base CW "strokes" "held") (m_A_effect : MPf P w K mg base CA "effect" "pen") (m_wcop : MWc P w K mg base C CW) (OO : OorS P w K mg base C7) (d_traced_parts : D P w K mg base "traced_parts" 2 (sp_tps K)) (d_can_trace : D P w K mg base "can_trace" 7 (sp_ctr K C CA T)) (F : Fun K "traced" "traced" s_traced f fd) : FnOk P w K mg base (L2.CX P w) 8 f fd ["arm", "drawing", "index"] (sp_trdX K C CA CW C7 T fun r k => r = [V.int k]) := by
  refine F.okX sc_traced (fun vs H Q E h => ?_) (fun cdv A outer s H vs Q E hr h => ?_)
  · obtain ⟨va, a, vd, zss, r, k, i, j, rfl, rfl, _⟩ := h
    rfl
  obtain ⟨va, a, vd, zss, r, kx, i0, j0, rfl, rfl, ia, iw, ti, ms, hT, q⟩ := h
  refine ⟨_, (pss_cons (ps_for (passes_of rfl) rfl (pi_enumT (by rfl) b_enumerate (pa_cons (pe_pf m_W_strokes (hr.mono (by decide)) (pv 1)) pa_nil)) (pg_tup rfl (pgs_cons (pg_name (i := 3) sc_traced.nd rfl (by first | exact Or.inl rfl | exact Or.inr rfl)) (pgs_cons (pg_name (i := 4) sc_traced.nd rfl (by first | exact Or.inl rfl | exact Or.inr rfl)) pgs_nil))) (pss_one (ps_for (passes_of rfl) rfl (pi_enum (by rfl) b_enumerate (pa_cons (pc d_traced_parts (hr.mono (by decide)) (pa_cons (pv 4) pa_nil)) pa_nil)) (pg_tup rfl (pgs_cons (pg_name (i := 5) sc_traced.nd rfl (by first | exact Or.inl rfl | exact Or.inr rfl)) (pgs_cons (pg_name (i := 6) sc_traced.nd rfl (by first | exact Or.inl rfl | exact Or.inr rfl)) pgs_nil))) (pss_one (ps_if (pt_not (pt_val (pc d_can_trace (hr.mono (by decide)) (pa_cons (pv 0) (pa_cons (pv 6) pa_nil))))) (pss_one (ps_raise rfl (takes_of rfl rfl rfl rfl) (pmk_oor OO (hr.mono (by decide)) pass0 (pa_cons (pv 2) (pa_cons (pv 3) (pa_cons (pv 5) pa_nil)))))) pss_nil)))))
    (pss_one (ps_ret (pe_copied m_wcop (hr.mono (by decide)) (pv 1) (pa_cons (pe_pf m_A_effect (hr.mono (by decide)) (pv 0)) pa_nil))))), ?_⟩
  obtain ⟨zs0, q0, ez0, eq0, c0, cb⟩ := ms.ex
  have li := (List.getElem?_eq_some_iff.mp ez0).1
  have lj := (List.getElem?_eq_some_iff.mp eq0).1
  obtain ⟨p, dx, t, us, rfl, h1, h2, h3⟩ := iw
  have hl := Paired.length h3
  refine ⟨_, rfl, pf_of h1 wf_held ⟨t, us, rfl, h2, for_enumT (K := K) (a := t) (xs := us) (fun i σ H' => (∃ x y z u, σ = [some va, some (.ref p), some (.int kx), x, y, z, u]) ∧ ExtN H H' ∧ Tabs T H' ∧ i ≤ i0) ⟨⟨none, none, none, none, rfl⟩, ExtN.of (Same.refl _), hT, Nat.zero_le _⟩ ?_ ?_ ?_⟩⟩
  · rintro i σ H' _ ⟨_, e', _⟩
    exact extN_T h2 e'
  · rintro i x σ H' N hx ⟨⟨x1, x2, x3, x4, rfl⟩, e', T', le⟩ hn
    obtain ⟨zs, ez, iz⟩ := pgt h3 hx
    have mz := List.mem_of_getElem? ez
    have sn := same_new hn (.tup [.int (i : Nat), x])
    have e2 := e'.trans (ExtN.of sn)
    refine ⟨N, _, rfl, .inl (.inl upd_same), rfl, _, _, rfl, _, _, rfl, rfl, ?_⟩
    refine ⟨_, rfl, _, zs, rfl, iz.extN e2, ti.dr.ok zs mz, fun H2 L s2 nL ⟨ws, hL, hP⟩ => ⟨L, ws, rfl, .inl (.inl hL), ?_⟩⟩
    have e3 := e2.trans (ExtN.of s2)
    have hw := Paired.length hP
    refine for_enumL (K := K) (a := L) (xs := ws) (fun j σ H' => (∃ z u, σ = [some va, some (.ref p), some (.int kx), some (.int (i : Nat)), some x, z, u]) ∧ ExtN H2 H' ∧ Tabs T H' ∧ (i = i0 → j ≤ j0)) ⟨⟨x3, x4, rfl⟩, ExtN.of (Same.refl _), (T'.ext sn).ext s2, fun _ => Nat.zero_le _⟩ ?_ ?_ ?_
    · rintro j σ H' _ ⟨_, e4, _⟩
      exact .inl (.inl (extN_L hL e4))
    · rintro j y σ H4 M hy ⟨⟨x3, x4, rfl⟩, e4, T4, lj'⟩ hm
      obtain ⟨qq, eq, iq⟩ := pgt hP hy
      have mq := List.mem_of_getElem? eq
      have sm := same_new hm (.tup [.int (j : Nat), y])
      have e5 := e4.trans (ExtN.of sm)
      refine ⟨M, _, rfl, .inl (.inl upd_same), rfl, _, _, rfl, _, _, rfl, rfl, ?_⟩
      refine ⟨_, rfl, _, rfl, _, a, _, qq.1, qq.2, rfl, (ia.extN e3).extN e5, ti.ok, iq.extN e5, ti.p3 mz mq, T4.ext sm, fun H6 e6 T6 => ?_⟩
      by_cases ei : i = i0
      · subst ei
        rw [ez0] at ez
        cases ez
        by_cases ej : j = j0
        · subst ej
          rw [eq0] at eq
          cases eq
          rw [c0]
          refine ⟨false, rfl, iteT ?_⟩
          have e7 := e3.trans (e5.trans e6)
          exact ⟨_, rfl, _, rfl, _, rfl, oor_of fun H' d s4 n hd => q H' d (e7.trans (ExtN.of s4)) (T6.ext s4) hd⟩
        · have := lj' rfl
          rw [cb j qq (by omega) eq]
          exact ⟨true, rfl, iteF ⟨⟨_, _, rfl⟩, e5.trans e6, T6, fun _ => by omega⟩⟩
      · rw [ms.be i zs (by omega) ez qq mq]
        exact ⟨true, rfl, iteF ⟨⟨_, _, rfl⟩, e5.trans e6, T6, fun z => absurd z ei⟩⟩
    · rintro σ H5 ⟨⟨x3, x4, rfl⟩, e5, T5, le5⟩
      refine ⟨⟨_, _, _, _, rfl⟩, e3.trans e5, T5, ?_⟩
      by_cases ei : i = i0
      · subst ei
        rw [ez0] at ez
        cases ez
        have := le5 rfl
        omega
      · omega
  · rintro σ H' ⟨_, _, _, le⟩
    omega
end
end My

namespace My
open PySem L2 Mth LamX
abbrev s_Chain_draw : Stmt := inClass (topS 69) 8
theorem sc_Chain_draw : FnScope ["self", "drawing", "coming", "index", "arm"] ["self", "drawing"] (defScope s_Chain_draw) := ⟨rfl, rfl, rfl, by decide +kernel, rfl, by decide +kernel, by decide +kernel⟩
section
variable {P : Program} {w : World} {K : PySem.W.Frag} {mg : Str → Option Value} {base : Heap}
/-! ### what a chain draws -/
theorem AllA.extN {C CA : Addr} {H H' : Hp} {us : List V} {as : List Am} (h : AllA K C CA H us as) (e : ExtN H H') : AllA K C CA H' us as := pimp (fun _ _ i => i.extN e) h
theorem IsH.extN {C CA CH : Addr} {H H' : Hp} {v : V} {as : List Am} (h : IsH K C CA CH H v as) (e : ExtN H H') : IsH K C CA CH H' v as := by
  obtain ⟨p, dx, t, c, us, rfl, h1, h2, h3, h4⟩ := h
  exact ⟨p, dx, t, c, us, rfl, e _ _ h1 (fun ps z => by cases z), extN_T h2 e, AllA.extN h3 e, h4.extN e⟩
def sp_hdraw (K : PySem.W.Frag) (C CA CH CW : Addr) (T : List (Addr × Str)) : Sp := fun vs H Q _ => ∃ vh as vd zss, vs = [vh, vd] ∧ IsH K C CA CH H vh as ∧ IsW K CW H vd zss ∧ (∀ n a, as[n]? = some a → TrIn a (mvs as n zss)) ∧ (∀ n a, as[n]? = some a → ∀ zs ∈ mvs as n zss, Trs a zs) ∧ Tabs T H ∧ ∀ H' r, ExtN H H' → Tabs T H' → IsW K CW H' r (mvs as as.length zss) → Q r H'
theorem ok_hdraw {f C CA CH CW : Addr} {fd : FuncData} {T : List (Addr × Str)} (TX : HTxt K CH) (b_enumerate : mg "enumerate" = none) (d_traced : D P w K mg base "traced" 8 (sp_trd K C CA CW T fun r => ∃ i, r = [V.int i])) (F : Fun K "draw" "Chain.draw" s_Chain_draw f fd) : FnOk P w K mg base CX0 9 f fd ["self", "drawing"] (sp_hdraw K C CA CH CW T) := by
  refine F.ok sc_Chain_draw (fun vs H Q E h => ?_) (fun cdv A outer s H vs Q E hr h => ?_)
  · obtain ⟨vh, as, vd, zss, rfl, _⟩ := h
    rfl
  obtain ⟨vh, as, vd, zss, rfl, ⟨p, dx, t, c, us, rfl, h1, h2, h3, h4⟩, iw, ti, tr, hT, q⟩ := h
  refine ⟨_, (pss_cons (ps_set (i := 2) sc_Chain_draw.nd rfl (by first | exact Or.inl rfl | exact Or.inr rfl) (pv 1))
    (pss_cons (ps_for PassesOwn.never rfl (pi_enumT (by rfl) b_enumerate (pa_cons (pe_fld (pv 0) rfl) pa_nil)) (pg_tup rfl (pgs_cons (pg_name (i := 3) sc_Chain_draw.nd rfl (by first | exact Or.inl rfl | exact Or.inr rfl)) (pgs_cons (pg_name (i := 4) sc_Chain_draw.nd rfl (by first | exact Or.inl rfl | exact Or.inr rfl)) pgs_nil))) (pss_one (ps_set (i := 2) sc_Chain_draw.nd rfl (by first | exact Or.inl rfl | exact Or.inr rfl) (pc d_traced (hr.mono (by decide)) (pa_cons (pv 4) (pa_cons (pv 2) (pa_cons (pv 3) pa_nil)))))))
    (pss_one (ps_ret (pv 2))))), ?_⟩
  have hl := Paired.length h3
  refine ⟨_, rfl, gn_of ?_⟩
  refine ⟨_, rfl, p, CH, dx, _, _, rfl, h1, TX.cl, TX.nK, hf_links, t, us, rfl, h2, for_enumT (K := K) (a := t) (xs := us) (fun i σ H' => (∃ vc x y, σ = [some (.ref p), some vd, some vc, x, y] ∧ IsW K CW H' vc (mvs as i zss)) ∧ ExtN H H' ∧ Tabs T H') ⟨⟨vd, none, none, rfl, iw⟩, ExtN.of (Same.refl _), hT⟩ ?_ ?_ ?_⟩
  · rintro i σ H' _ ⟨_, e', _⟩
    exact extN_T h2 e'
  · rintro i x σ H' N hx ⟨⟨vc, x1, x2, rfl, iw'⟩, e', T'⟩ hn
    obtain ⟨a, ea, ia⟩ := pgt h3 hx
    have sn := same_new hn (.tup [.int (i : Nat), x])
    have e2 := e'.trans (ExtN.of sn)
    refine ⟨N, _, rfl, .inl (.inl upd_same), rfl, _, _, rfl, _, _, rfl, rfl, ?_⟩
    refine ⟨_, rfl, _, rfl, _, rfl, _, a, _, mvs as i zss, _, rfl, ⟨_, rfl⟩, ia.extN e2, iw'.same sn, ti i a ea, tr i a ea, T'.ext sn, fun H3 r3 e3 T3 i3 => gn_of ?_⟩
    exact ⟨⟨r3, _, _, rfl, by rw [mvs_succ ea]; exact i3⟩, e2.trans e3, T3⟩
  · rintro σ H' ⟨⟨vc, x1, x2, rfl, iw'⟩, e', T'⟩
    rw [hl] at iw'
    exact ⟨_, rfl, q H' vc e' T' iw'⟩
end
end My

namespace My
open PySem L2 Mth LamX

section
variable {P : Program} {w : World} {K : PySem.W.Frag} {mg : Str → Option Value} {base : Heap}
/-! ### what a chain cannot draw -/
/-- what never raises also keeps its promise where errors may pass -/
theorem FnR.up0 {k : Nat} {f : Addr} {sp : Sp} (F : FnR P w K mg base CX0 k f sp) : FnR P w K mg base (L2.CX P w) k f sp := fun A outer s H us vs Q E hr e0 r h => by
  refine PySem.codeAny_mono (F A outer s H us vs Q E hr e0 r h) fun x s' hx => ?_
  match x, hx with
  | .ok (.ret u), hx => exact hx
  | .error e, hx => exact hx.elim
  | .ok .next, hx => exact hx
  | .ok .brk, hx => exact hx
  | .ok .cont, hx => exact hx
theorem DX.or {x : Str} {k : Nat} {sp1 sp2 : Sp} (d1 : D P w K mg base x k sp1) (d2 : DX P w K mg base x k sp2) : DX P w K mg base x k (fun vs H Q E => sp1 vs H Q E ∨ sp2 vs H Q E) := by
  obtain ⟨f, F1, hk, hm⟩ := d1.ex
  obtain ⟨g, F2, _, hm'⟩ := d2.ex
  rw [hm] at hm'
  cases hm'
  exact ⟨f, fun A outer s H us vs Q E hr e0 r h => h.elim (FnR.up0 F1 A outer s H us vs Q E hr e0 r) (F2 A outer s H us vs Q E hr e0 r), hk, hm⟩
/-- traced, whether it ends or raises -/
def sp_trdB (K : PySem.W.Frag) (C CA CW C7 : Addr) (T : List (Addr × Str)) : Sp := fun vs H Q E => sp_trd K C CA CW T (fun r => ∃ i, r = [V.int i]) vs H Q E ∨ sp_trdX K C CA CW C7 T (fun r k => r = [V.int k]) vs H Q E
def sp_hdrawX (K : PySem.W.Frag) (C CA CH CW C7 : Addr) (T : List (Addr × Str)) : Sp := fun vs H Q E => ∃ vh as vd zss n i j, vs = [vh, vd] ∧ IsH K C CA CH H vh as ∧ IsW K CW H vd zss ∧ (∀ n a, as[n]? = some a → TrIn a (mvs as n zss)) ∧ (∃ a, as[n]? = some a ∧ Miss a (mvs as n zss) i j) ∧ (∀ n' a', n' < n → as[n']? = some a' → ∀ zs ∈ mvs as n' zss, Trs a' zs) ∧ Tabs T H ∧
  ∀ H' d, ExtN H H' → Tabs T H' → H' d = some (.xd (oorF (.int (n : Nat)) (.int (i : Nat)) (.int (j : Nat)))) → E (.ref C7) (some d) H'
theorem ok_hdrawX {f C CA CH CW C7 : Addr} {fd : FuncData} {T : List (Addr × Str)} (TX : HTxt K CH) (b_enumerate : mg "enumerate" = none) (d_tracedB : DX P w K mg base "traced" 8 (sp_trdB K C CA CW C7 T)) (F : Fun K "draw" "Chain.draw" s_Chain_draw f fd) : FnOk P w K mg base (L2.CX P w) 9 f fd ["self", "drawing"] (sp_hdrawX K C CA CH CW C7 T) := by
  refine F.okX sc_Chain_draw (fun vs H Q E h => ?_) (fun cdv A outer s H vs Q E hr h => ?_)
  · obtain ⟨vh, as, vd, zss, n, i, j, rfl, _⟩ := h
    rfl
  obtain ⟨vh, as, vd, zss, n, i0, j0, rfl, ⟨p, dx, t, c, us, rfl, h1, h2, h3, h4⟩, iw, ti, ⟨a0, ea0, ms⟩, be, hT, q⟩ := h
  refine ⟨_, (pss_cons (ps_set (i := 2) sc_Chain_draw.nd rfl (by first | exact Or.inl rfl | exact Or.inr rfl) (pv 1))
    (pss_cons (ps_for (passes_of rfl) rfl (pi_enumT (by rfl) b_enumerate (pa_cons (pe_fld (pv 0) rfl) pa_nil)) (pg_tup rfl (pgs_cons (pg_name (i := 3) sc_Chain_draw.nd rfl (by first | exact Or.inl rfl | exact Or.inr rfl)) (pgs_cons (pg_name (i := 4) sc_Chain_draw.nd rfl (by first | exact Or.inl rfl | exact Or.inr rfl)) pgs_nil))) (pss_one (ps_set (i := 2) sc_Chain_draw.nd rfl (by first | exact Or.inl rfl | exact Or.inr rfl) (pcX d_tracedB (hr.mono (by decide)) (passes_call (takes_of rfl rfl rfl rfl) (fun _ _ _ _ h => h)) (pa_cons (pv 4) (pa_cons (pv 2) (pa_cons (pv 3) pa_nil)))))))
    (pss_one (ps_ret (pv 2))))), ?_⟩
  have hl := Paired.length h3
  have ln := (List.getElem?_eq_some_iff.mp ea0).1
  refine ⟨_, rfl, gn_of ?_⟩
  refine ⟨_, rfl, p, CH, dx, _, _, rfl, h1, TX.cl, TX.nK, hf_links, t, us, rfl, h2, for_enumT (K := K) (a := t) (xs := us) (fun i σ H' => (∃ vc x y, σ = [some (.ref p), some vd, some vc, x, y] ∧ IsW K CW H' vc (mvs as i zss)) ∧ ExtN H H' ∧ Tabs T H' ∧ i ≤ n) ⟨⟨vd, none, none, rfl, iw⟩, ExtN.of (Same.refl _), hT, Nat.zero_le _⟩ ?_ ?_ ?_⟩
  · rintro i σ H' _ ⟨_, e', _⟩
    exact extN_T h2 e'
  · rintro i x σ H' N hx ⟨⟨vc, x1, x2, rfl, iw'⟩, e', T', le⟩ hn
    obtain ⟨a, ea, ia⟩ := pgt h3 hx
    have sn := same_new hn (.tup [.int (i : Nat), x])
    have e2 := e'.trans (ExtN.of sn)
    refine ⟨N, _, rfl, .inl (.inl upd_same), rfl, _, _, rfl, _, _, rfl, rfl, ?_⟩
    by_cases ei : i = n
    · subst ei
      rw [ea0] at ea
      cases ea
      exact ⟨_, rfl, _, rfl, _, rfl, .inr ⟨_, a0, _, mvs as i zss, _, (i : Nat), i0, j0, rfl, rfl, ia.extN e2, iw'.same sn, ti i a0 ea0, ms, T'.ext sn, fun H3 d e3 T3 hd => q H3 d (e2.trans e3) T3 hd⟩⟩
    · refine ⟨_, rfl, _, rfl, _, rfl, .inl ⟨_, a, _, mvs as i zss, _, rfl, ⟨_, rfl⟩, ia.extN e2, iw'.same sn, ti i a ea, be i a (by omega) ea, T'.ext sn, fun H3 r3 e3 T3 i3 => gn_of ?_⟩⟩
      exact ⟨⟨r3, _, _, rfl, by rw [mvs_succ ea]; exact i3⟩, e2.trans e3, T3, by omega⟩
  · rintro σ H' ⟨_, _, _, le⟩
    omega
end
end My

namespace My
open PySem L2 Mth
abbrev s_law_over : Stmt := topS 94
theorem sc_law_over : FnScope ["_law_one"] ["_law_one"] (defScope s_law_over) := ⟨rfl, rfl, rfl, by decide +kernel, rfl, by decide +kernel, by decide +kernel⟩
section
variable {P : Program} {w : World} {K : PySem.W.Frag} {mg : Str → Option Value} {base : Heap}
theorem ok_law_over {f : Addr} {fd : FuncData} (F : Fun K "_law_over" "_law_over" s_law_over f fd) : FnOk P w K mg base CX0 1 f fd ["_law_one"] (sp_one K over) := by
  refine F.ok sc_law_over (fun vs H Q E h => ?_) (fun cdv A outer s H vs Q E hr h => ?_)
  · obtain ⟨va, a, rfl, _⟩ := h
    rfl
  obtain ⟨va, ⟨x, y, d⟩, rfl, ⟨pa, rfl, ta⟩, q⟩ := h
  refine ⟨_, (pss_one (ps_ret (pe_tup (pa_cons (pe_ix (r := rIxT K) ix_tup (pv 0) pe_int (fun _ _ => rfl)) (pa_cons (pe_op op_sub pe_int (pe_ix (r := rIxT K) ix_tup (pv 0) pe_int (fun _ _ => rfl))) (pa_cons (pe_ix (r := rIxT K) ix_tup (pv 0) pe_int (fun _ _ => rfl)) pa_nil)))))), ?_⟩
  refine ⟨_, rfl, _, _, _, _, rfl, rfl, ta, by rfl, _, rfl, _, _, _, _, rfl, rfl, ta, by rfl, _, _, rfl, rfl, _, rfl, _, _, _, _, rfl, rfl, ta, by rfl, (by show 3 ≤ sizeLine; decide), fun p hp => ?_⟩
  refine q _ _ (same_new hp _) ?_
  unfold over
  dsimp only
  rw [← Int.zero_sub]
  exact IsT.new
end
end My

namespace My
open PySem L2 Mth
abbrev s_law_plus : Stmt := topS 89
theorem sc_law_plus : FnScope ["_law_one", "_law_other", "_law_x", "_law_y"] ["_law_one", "_law_other"] (defScope s_law_plus) := ⟨rfl, rfl, rfl, by decide +kernel, rfl, by decide +kernel, by decide +kernel⟩
section
variable {P : Program} {w : World} {K : PySem.W.Frag} {mg : Str → Option Value} {base : Heap}
theorem ok_law_plus {f : Addr} {fd : FuncData} (d_law_lowest : D P w K mg base "_law_lowest" 2 (sp_low K)) (F : Fun K "_law_plus" "_law_plus" s_law_plus f fd) : FnOk P w K mg base CX0 3 f fd ["_law_one", "_law_other"] (sp_two K plus) := by
  refine F.ok sc_law_plus (fun vs H Q E h => ?_) (fun cdv A outer s H vs Q E hr h => ?_)
  · obtain ⟨va, vb, a, b, rfl, _⟩ := h
    rfl
  obtain ⟨va, vb, ⟨x, y, d⟩, ⟨u, v, e⟩, rfl, ⟨pa, rfl, ta⟩, ⟨pb, rfl, tb⟩, oa, ob, ⟨a1, a2, a3⟩, ⟨b1, b2, b3⟩, q⟩ := h
  refine ⟨_, (pss_cons (ps_set (i := 2) sc_law_plus.nd rfl (by first | exact Or.inl rfl | exact Or.inr rfl) (pe_op op_add (pe_op op_mulW (pe_ix (r := rIxT K) ix_tup (pv 0) pe_int (fun _ _ => rfl)) (pe_ix (r := rIxT K) ix_tup (pv 1) pe_int (fun _ _ => rfl))) (pe_op op_mulW (pe_ix (r := rIxT K) ix_tup (pv 1) pe_int (fun _ _ => rfl)) (pe_ix (r := rIxT K) ix_tup (pv 0) pe_int (fun _ _ => rfl)))))
    (pss_cons (ps_set (i := 3) sc_law_plus.nd rfl (by first | exact Or.inl rfl | exact Or.inr rfl) (pe_op op_add (pe_op op_mulW (pe_ix (r := rIxT K) ix_tup (pv 0) pe_int (fun _ _ => rfl)) (pe_ix (r := rIxT K) ix_tup (pv 1) pe_int (fun _ _ => rfl))) (pe_op op_mulW (pe_ix (r := rIxT K) ix_tup (pv 1) pe_int (fun _ _ => rfl)) (pe_ix (r := rIxT K) ix_tup (pv 0) pe_int (fun _ _ => rfl)))))
    (pss_one (ps_ret (pc d_law_lowest (hr.mono (by decide)) (pa_cons (pv 2) (pa_cons (pv 3) (pa_cons (pe_op op_mulW (pe_ix (r := rIxT K) ix_tup (pv 0) pe_int (fun _ _ => rfl)) (pe_ix (r := rIxT K) ix_tup (pv 1) pe_int (fun _ _ => rfl))) pa_nil)))))))), ?_⟩
  refine ⟨_, rfl, _, _, _, _, rfl, rfl, ta, by rfl, _, rfl, _, _, _, _, rfl, rfl, tb, by rfl, _, _, rfl, rfl, mulW a1 b3, _, rfl, _, _, _, _, rfl, rfl, tb, by rfl, _, rfl, _, _, _, _, rfl, rfl, ta, by rfl, _, _, rfl, rfl, mulW b1 a3, _, _, rfl, rfl, ?_⟩
  refine ⟨_, rfl, _, _, _, _, rfl, rfl, ta, by rfl, _, rfl, _, _, _, _, rfl, rfl, tb, by rfl, _, _, rfl, rfl, mulW a2 b3, _, rfl, _, _, _, _, rfl, rfl, tb, by rfl, _, rfl, _, _, _, _, rfl, rfl, ta, by rfl, _, _, rfl, rfl, mulW b2 a3, _, _, rfl, rfl, ?_⟩
  refine ⟨_, rfl, _, rfl, _, rfl, _, _, _, _, rfl, rfl, ta, by rfl, _, rfl, _, _, _, _, rfl, rfl, tb, by rfl, _, _, rfl, rfl, mulW a3 b3, ?_⟩
  exact ⟨_, _, _, rfl, mul_ne oa.ne ob.ne, up_lt (by decide) (mul_lt a3 b3), q⟩
end
end My

namespace My
open PySem L2 Mth
abbrev s_law_times : Stmt := topS 93
theorem sc_law_times : FnScope ["_law_one", "_law_other", "_law_x", "_law_y"] ["_law_one", "_law_other"] (defScope s_law_times) := ⟨rfl, rfl, rfl, by decide +kernel, rfl, by decide +kernel, by decide +kernel⟩
section
variable {P : Program} {w : World} {K : PySem.W.Frag} {mg : Str → Option Value} {base : Heap}
theorem ok_law_times {f : Addr} {fd : FuncData} (d_law_lowest : D P w K mg base "_law_lowest" 2 (sp_low K)) (F : Fun K "_law_times" "_law_times" s_law_times f fd) : FnOk P w K mg base CX0 3 f fd ["_law_one", "_law_other"] (sp_two K times) := by
  refine F.ok sc_law_times (fun vs H Q E h => ?_) (fun cdv A outer s H vs Q E hr h => ?_)
  · obtain ⟨va, vb, a, b, rfl, _⟩ := h
    rfl
  obtain ⟨va, vb, ⟨x, y, d⟩, ⟨u, v, e⟩, rfl, ⟨pa, rfl, ta⟩, ⟨pb, rfl, tb⟩, oa, ob, ⟨a1, a2, a3⟩, ⟨b1, b2, b3⟩, q⟩ := h
  refine ⟨_, (pss_cons (ps_set (i := 2) sc_law_times.nd rfl (by first | exact Or.inl rfl | exact Or.inr rfl) (pe_op op_sub (pe_op op_mulW (pe_ix (r := rIxT K) ix_tup (pv 0) pe_int (fun _ _ => rfl)) (pe_ix (r := rIxT K) ix_tup (pv 1) pe_int (fun _ _ => rfl))) (pe_op op_mulW (pe_ix (r := rIxT K) ix_tup (pv 0) pe_int (fun _ _ => rfl)) (pe_ix (r := rIxT K) ix_tup (pv 1) pe_int (fun _ _ => rfl)))))
    (pss_cons (ps_set (i := 3) sc_law_times.nd rfl (by first | exact Or.inl rfl | exact Or.inr rfl) (pe_op op_add (pe_op op_mulW (pe_ix (r := rIxT K) ix_tup (pv 0) pe_int (fun _ _ => rfl)) (pe_ix (r := rIxT K) ix_tup (pv 1) pe_int (fun _ _ => rfl))) (pe_op op_mulW (pe_ix (r := rIxT K) ix_tup (pv 0) pe_int (fun _ _ => rfl)) (pe_ix (r := rIxT K) ix_tup (pv 1) pe_int (fun _ _ => rfl)))))
    (pss_one (ps_ret (pc d_law_lowest (hr.mono (by decide)) (pa_cons (pv 2) (pa_cons (pv 3) (pa_cons (pe_op op_mulW (pe_ix (r := rIxT K) ix_tup (pv 0) pe_int (fun _ _ => rfl)) (pe_ix (r := rIxT K) ix_tup (pv 1) pe_int (fun _ _ => rfl))) pa_nil)))))))), ?_⟩
  refine ⟨_, rfl, _, _, _, _, rfl, rfl, ta, by rfl, _, rfl, _, _, _, _, rfl, rfl, tb, by rfl, _, _, rfl, rfl, mulW a1 b1, _, rfl, _, _, _, _, rfl, rfl, ta, by rfl, _, rfl, _, _, _, _, rfl, rfl, tb, by rfl, _, _, rfl, rfl, mulW a2 b2, _, _, rfl, rfl, ?_⟩
  refine ⟨_, rfl, _, _, _, _, rfl, rfl, ta, by rfl, _, rfl, _, _, _, _, rfl, rfl, tb, by rfl, _, _, rfl, rfl, mulW a1 b2, _, rfl, _, _, _, _, rfl, rfl, ta, by rfl, _, rfl, _, _, _, _, rfl, rfl, tb, by rfl, _, _, rfl, rfl, mulW a2 b1, _, _, rfl, rfl, ?_⟩
  refine ⟨_, rfl, _, rfl, _, rfl, _, _, _, _, rfl, rfl, ta, by rfl, _, rfl, _, _, _, _, rfl, rfl, tb, by rfl, _, _, rfl, rfl, mulW a3 b3, ?_⟩
  exact ⟨_, _, _, rfl, mul_ne oa.ne ob.ne, up_lt (by decide) (mul_lt a3 b3), q⟩
end
end My

namespace My
open PySem L2 Mth
abbrev s_law_minus : Stmt := topS 90
theorem sc_law_minus : FnScope ["_law_one", "_law_other"] ["_law_one", "_law_other"] (defScope s_law_minus) := ⟨rfl, rfl, rfl, by decide +kernel, rfl, by decide +kernel, by decide +kernel⟩
section
variable {P : Program} {w : World} {K : PySem.W.Frag} {mg : Str → Option Value} {base : Heap}
theorem ok_law_minus {f : Addr} {fd : FuncData} (d_law_plus : D P w K mg base "_law_plus" 3 (sp_two K plus)) (F : Fun K "_law_minus" "_law_minus" s_law_minus f fd) : FnOk P w K mg base CX0 4 f fd ["_law_one", "_law_other"] (sp_two K minus) := by
  refine F.ok sc_law_minus (fun vs H Q E h => ?_) (fun cdv A outer s H vs Q E hr h => ?_)
  · obtain ⟨va, vb, a, b, rfl, _⟩ := h
    rfl
  obtain ⟨va, vb, a, ⟨u, v, e⟩, rfl, ia, ⟨pb, rfl, tb⟩, oa, ob, ba, bb, q⟩ := h
  refine ⟨_, (pss_one (ps_ret (pc d_law_plus (hr.mono (by decide)) (pa_cons (pv 0) (pa_cons (pe_tup (pa_cons (pe_op op_sub pe_int (pe_ix (r := rIxT K) ix_tup (pv 1) pe_int (fun _ _ => rfl))) (pa_cons (pe_op op_sub pe_int (pe_ix (r := rIxT K) ix_tup (pv 1) pe_int (fun _ _ => rfl))) (pa_cons (pe_ix (r := rIxT K) ix_tup (pv 1) pe_int (fun _ _ => rfl)) pa_nil)))) pa_nil))))), ?_⟩
  refine ⟨_, rfl, _, rfl, _, _, _, _, rfl, rfl, tb, by rfl, _, _, rfl, rfl, _, rfl, _, _, _, _, rfl, rfl, tb, by rfl, _, _, rfl, rfl, _, rfl, _, _, _, _, rfl, rfl, tb, by rfl, (by show 3 ≤ sizeLine; decide), fun p hp => ?_⟩
  have s1 := same_new hp (.tup [.int (0 - u), .int (0 - v), .int e])
  have i1 : IsT K (upd H p (.tup [.int (0 - u), .int (0 - v), .int e])) (.ref p) (neg (u, v, e)) := by
    unfold neg
    dsimp only
    rw [← Int.zero_sub u, ← Int.zero_sub v]
    exact IsT.new (H := H)
  exact ⟨_, _, a, neg (u, v, e), rfl, ia.same s1, i1, oa, neg_ok ob, ba, neg_B bb, fun H2 r2 s2 i2 => q _ _ (s1.trans s2) i2⟩
end
end My

namespace My
open PySem L2 Mth
abbrev s_law_carried : Stmt := topS 98
theorem sc_law_carried : FnScope ["_law_told", "_law_spot_here"] ["_law_told", "_law_spot_here"] (defScope s_law_carried) := ⟨rfl, rfl, rfl, by decide +kernel, rfl, by decide +kernel, by decide +kernel⟩
section
variable {P : Program} {w : World} {K : PySem.W.Frag} {mg : Str → Option Value} {base : Heap}
theorem ok_law_carried {f : Addr} {fd : FuncData} (d_law_plus : D P w K mg base "_law_plus" 3 (sp_two K plus)) (d_law_times : D P w K mg base "_law_times" 3 (sp_two K times)) (d_law_over : D P w K mg base "_law_over" 1 (sp_one K over)) (F : Fun K "_law_carried" "_law_carried" s_law_carried f fd) : FnOk P w K mg base CX0 4 f fd ["_law_told", "_law_spot_here"] (sp_lcar K) := by
  refine F.ok sc_law_carried (fun vs H Q E h => ?_) (fun cdv A outer s H vs Q E hr h => ?_)
  · obtain ⟨vc, c, vz, z, rfl, _⟩ := h
    rfl
  obtain ⟨vc, c, vz, z, rfl, ⟨p, a, b, rfl, h1, h2, h3⟩, ok, bc, iz, oz, bz, q⟩ := h
  refine ⟨_, (pss_one (ps_ret (pc d_law_plus (hr.mono (by decide)) (pa_cons (pc d_law_times (hr.mono (by decide)) (pa_cons (pe_ix (r := rIxT K) ix_tup (pv 0) pe_int (fun _ _ => rfl)) (pa_cons (pe_ifExp (pt_val (pe_ix (r := rIxT K) ix_tup (pv 0) pe_int (fun _ _ => rfl))) (pc d_law_over (hr.mono (by decide)) (pa_cons (pv 1) pa_nil)) (pv 1)) pa_nil))) (pa_cons (pe_ix (r := rIxT K) ix_tup (pv 0) pe_int (fun _ _ => rfl)) pa_nil))))), ?_⟩
  refine ⟨_, rfl, _, _, _, _, rfl, rfl, h1, by rfl, _, rfl, _, _, _, _, rfl, rfl, h1, by rfl, _, rfl, ?_⟩
  have fin : ∀ H1 r1, Same H H1 → IsT K H1 r1 (face z c.m) → sp_two K times [.ref a, r1] H1 (fun r2 H2 => ∃ v, [some (V.ref p), some vz][0]? = some (some v) ∧ ∃ p' xs i u, v = .ref p' ∧ V.int 1 = .int i ∧ SqT K H2 p' xs ∧ atI xs i = some u ∧ sp_two K plus [r2, u] H2 Q E0) E0 := fun H1 r1 s1 i1 => by
    refine ⟨_, _, _, _, rfl, ⟨_, rfl, same_T s1 h2⟩, i1, ok.t, face_ok oz _, bc.1.mono (by decide), (face_B bz _).mono (by decide), fun H2 r2 s2 i2 => ?_⟩
    refine ⟨_, rfl, _, _, _, _, rfl, rfl, same_T (s1.trans s2) h1, by rfl, ?_⟩
    exact ⟨_, _, _, _, rfl, i2, ⟨_, rfl, same_T (s1.trans s2) h3⟩, times_ok ok.t (face_ok oz _), ok.s, (times_B ok.t (face_ok oz _) bc.1 (face_B bz _)).mono (by decide), bc.2.mono (by decide), fun H3 r3 s3 i3 => q _ _ ((s1.trans s2).trans s3) i3⟩
  cases hm : c.m with
  | true =>
    rw [hm] at fin
    exact iteT ⟨_, rfl, _, _, rfl, iz, fun H1 r1 s1 i1 => fin H1 r1 s1 i1⟩
  | false =>
    rw [hm] at fin
    exact iteF ⟨_, rfl, fin H _ (Same.refl _) iz⟩
end
end My

namespace My
open PySem L2 Mth
abbrev s_law_equal : Stmt := topS 101
theorem sc_law_equal : FnScope ["_law_actual", "_law_expected", "_law_k"] ["_law_actual", "_law_expected"] (defScope s_law_equal) := ⟨rfl, rfl, rfl, by decide +kernel, rfl, by decide +kernel, by decide +kernel⟩
section
variable {P : Program} {w : World} {K : PySem.W.Frag} {mg : Str → Option Value} {base : Heap}
/-- one of the sequences -/
def Sq (K : PySem.W.Frag) (H : Hp) (p : Addr) (xs : List V) (l : Bool) : Prop := if l = true then SqL K H p xs else SqT K H p xs
theorem Sq.same {H H' : Hp} {p : Addr} {xs : List V} {l : Bool} (h : Sq K H p xs l) (s : Same H H') : Sq K H' p xs l := by
  unfold Sq at *
  cases l with
  | true => exact s.seq h
  | false => exact same_T s h
theorem Sq.ix {H : Hp} {Q : VK} {p : Addr} {xs : List V} {l : Bool} {j : Nat} {x : V} (h : Sq K H p xs l) (e : xs[j]? = some x) (q : Q x H) : rIx K (.ref p) (.int (0 + (j : Int))) H Q := by
  rw [Int.zero_add]
  unfold Sq at h
  cases l with
  | true => exact .inl ⟨_, _, _, _, rfl, rfl, h, atI_nat e, q⟩
  | false => exact .inr (.inl ⟨_, _, _, _, rfl, rfl, h, atI_nat e, q⟩)
theorem ok_law_equal {f : Addr} {fd : FuncData} {n : Nat} (b_isinstance : mg "isinstance" = none) (b_int : mg "int" = none) (b_bool : mg "bool" = none) (b_str : mg "str" = none) (b_tuple : mg "tuple" = none) (b_list : mg "list" = none) (b_len : mg "len" = none) (b_all : mg "all" = none) (b_range : mg "range" = none)
    (d_law_equal : D P w K mg base "_law_equal" n (sp_equal K n)) (F : Fun K "_law_equal" "_law_equal" s_law_equal f fd) : FnOk P w K mg base CX0 (n + 1) f fd ["_law_actual", "_law_expected"] (sp_equal K (n + 1)) := by
  refine F.ok sc_law_equal (fun vs H Q E h => ?_) (fun cdv A outer s H vs Q E hr h => ?_)
  · obtain ⟨va, vb, d, rfl, _⟩ := h
    rfl
  obtain ⟨va, vb, d, rfl, da, db, dp, q⟩ := h
  refine ⟨_, (pss_cons (ps_if (pt_cmpR (op_isN) (pv 1) pe_non (nomark _)) (pss_one (ps_ret (pe_cmpR (op_isN) (pv 0) pe_non (nomark _)))) pss_nil)
    (pss_cons (ps_if (pt_val (pe_callB (r := rIsi K) call_isi (by rfl) b_isinstance (by decide +kernel) (pa_cons (pv 1) (pa_cons (pe_bltn (v := .ty "bool") (by rfl) b_bool (by decide +kernel) rfl) pa_nil)))) (pss_one (ps_ret (pe_and (pe_callB (r := rIsi K) call_isi (by rfl) b_isinstance (by decide +kernel) (pa_cons (pv 0) (pa_cons (pe_bltn (v := .ty "bool") (by rfl) b_bool (by decide +kernel) rfl) pa_nil))) (pe_one (pe_cmpR (op_eq) (pv 0) (pv 1) (nomark _)))))) pss_nil)
    (pss_cons (ps_if (pt_val (pe_callB (r := rIsi K) call_isi (by rfl) b_isinstance (by decide +kernel) (pa_cons (pv 1) (pa_cons (pe_bltn (v := .ty "int") (by rfl) b_int (by decide +kernel) rfl) pa_nil)))) (pss_one (ps_ret (pe_and (pe_callB (r := rIsi K) call_isi (by rfl) b_isinstance (by decide +kernel) (pa_cons (pv 0) (pa_cons (pe_bltn (v := .ty "int") (by rfl) b_int (by decide +kernel) rfl) pa_nil))) (pe_and (pe_not (pe_callB (r := rIsi K) call_isi (by rfl) b_isinstance (by decide +kernel) (pa_cons (pv 0) (pa_cons (pe_bltn (v := .ty "bool") (by rfl) b_bool (by decide +kernel) rfl) pa_nil)))) (pe_one (pe_cmpR (op_eq) (pv 0) (pv 1) (nomark _))))))) pss_nil)
    (pss_cons (ps_if (pt_val (pe_callB (r := rIsi K) call_isi (by rfl) b_isinstance (by decide +kernel) (pa_cons (pv 1) (pa_cons (pe_bltn (v := .ty "str") (by rfl) b_str (by decide +kernel) rfl) pa_nil)))) (pss_one (ps_ret (pe_and (pe_callB (r := rIsi K) call_isi (by rfl) b_isinstance (by decide +kernel) (pa_cons (pv 0) (pa_cons (pe_bltn (v := .ty "str") (by rfl) b_str (by decide +kernel) rfl) pa_nil))) (pe_one (pe_cmpR (op_eq) (pv 0) (pv 1) (nomark _)))))) pss_nil)
    (pss_cons (ps_if (pt_cmpR (op_ne) (pe_callB (r := rIsi K) call_isi (by rfl) b_isinstance (by decide +kernel) (pa_cons (pv 1) (pa_cons (pe_bltn (v := .ty "tuple") (by rfl) b_tuple (by decide +kernel) rfl) pa_nil))) (pe_callB (r := rIsi K) call_isi (by rfl) b_isinstance (by decide +kernel) (pa_cons (pv 0) (pa_cons (pe_bltn (v := .ty "tuple") (by rfl) b_tuple (by decide +kernel) rfl) pa_nil))) (nomark _)) (pss_one (ps_ret pe_bl)) pss_nil)
    (pss_cons (ps_if (pt_cmpR (op_ne) (pe_callB (r := rIsi K) call_isi (by rfl) b_isinstance (by decide +kernel) (pa_cons (pv 1) (pa_cons (pe_bltn (v := .ty "list") (by rfl) b_list (by decide +kernel) rfl) pa_nil))) (pe_callB (r := rIsi K) call_isi (by rfl) b_isinstance (by decide +kernel) (pa_cons (pv 0) (pa_cons (pe_bltn (v := .ty "list") (by rfl) b_list (by decide +kernel) rfl) pa_nil))) (nomark _)) (pss_one (ps_ret pe_bl)) pss_nil)
    (pss_cons (ps_if (pt_cmpR (op_ne) (pe_callB call_len_seq (by rfl) b_len PySem.boot_len (pa_cons (pv 0) pa_nil)) (pe_callB call_len_seq (by rfl) b_len PySem.boot_len (pa_cons (pv 1) pa_nil)) (nomark _)) (pss_one (ps_ret pe_bl)) pss_nil)
    (pss_one (ps_ret (pe_callB (cr_all rfl) (by rfl) b_all (by decide +kernel) (pa_cons (pe_lc (own := [("_law_k", 2)]) (g := gName 2) (tt := tYes) (by rfl) sc_law_equal.nd (pi_range1 (by rfl) b_range (pa_cons (pe_callB call_len_seq (by rfl) b_len PySem.boot_len (pa_cons (pv 1) pa_nil)) pa_nil)) (blkOk_by (own := [("_law_k", 2)]) (N := ["_law_actual", "_law_expected", "_law_k"]) (sc := defScope s_law_equal) (by decide +kernel)) (fun _ _ _ _ _ => (pg_name (i := 2) sc_law_equal.nd rfl (by first | exact Or.inl rfl | exact Or.inr rfl))) (fun _ _ _ _ _ => pts_nil) (fun _ _ _ _ _ => (pc d_law_equal hr (pa_cons (pe_ix (r := rIx K) ix_seq (pv 0) (pv 2) (fun _ _ => rfl)) (pa_cons (pe_ix (r := rIx K) ix_seq (pv 1) (pv 2) (fun _ _ => rfl)) pa_nil))))) pa_nil))))))))))), ?_⟩
  cases db with
  | non =>
    cases da
    refine ⟨_, rfl, rfl, _, rfl, ?_⟩
    refine (if_pos (by decide)).mpr ?_
    exact ⟨_, rfl, rfl, q _ (Same.refl _)⟩
  | bl b =>
    cases da
    refine ⟨_, rfl, rfl, _, rfl, ?_⟩
    refine (if_neg (show ¬ decide (V.bl b = V.non) = true by rw [decide_eq_false (by intro z; cases z)]; decide)).mpr ?_
    refine ⟨_, rfl, _, _, _, _, _, rfl, .ty _, .base (.bl b), kit_ty (by decide +kernel), true, rfl, iteT ?_⟩
    refine ⟨_, rfl, _, _, _, _, _, rfl, .ty _, .base (.bl b), kit_ty (by decide +kernel), true, rfl, iteT ?_⟩
    refine ⟨_, rfl, _, rfl, rfl, ?_⟩
    rw [decide_eq_true rfl]
    exact q _ (Same.refl _)
  | int i =>
    cases da
    refine ⟨_, rfl, rfl, _, rfl, ?_⟩
    refine (if_neg (show ¬ decide (V.int i = V.non) = true by rw [decide_eq_false (by intro z; cases z)]; decide)).mpr ?_
    refine ⟨_, rfl, _, _, _, _, _, rfl, .ty _, .base (.int i), kit_ty (by decide +kernel), false, rfl, iteF ?_⟩
    refine ⟨_, rfl, _, _, _, _, _, rfl, .ty _, .base (.int i), kit_ty (by decide +kernel), true, rfl, iteT ?_⟩
    refine ⟨_, rfl, _, _, _, _, _, rfl, .ty _, .base (.int i), kit_ty (by decide +kernel), true, rfl, iteT ?_⟩
    refine ⟨_, rfl, _, _, _, _, _, rfl, .ty _, .base (.int i), kit_ty (by decide +kernel), false, rfl, true, rfl, iteT ?_⟩
    refine ⟨_, rfl, _, rfl, rfl, ?_⟩
    rw [decide_eq_true rfl]
    exact q _ (Same.refl _)
  | str x =>
    cases da
    refine ⟨_, rfl, rfl, _, rfl, ?_⟩
    refine (if_neg (show ¬ decide (V.str x = V.non) = true by rw [decide_eq_false (by intro z; cases z)]; decide)).mpr ?_
    refine ⟨_, rfl, _, _, _, _, _, rfl, .ty _, .base (.str x), kit_ty (by decide +kernel), false, rfl, iteF ?_⟩
    refine ⟨_, rfl, _, _, _, _, _, rfl, .ty _, .base (.str x), kit_ty (by decide +kernel), false, rfl, iteF ?_⟩
    refine ⟨_, rfl, _, _, _, _, _, rfl, .ty _, .base (.str x), kit_ty (by decide +kernel), true, rfl, iteT ?_⟩
    refine ⟨_, rfl, _, _, _, _, _, rfl, .ty _, .base (.str x), kit_ty (by decide +kernel), true, rfl, iteT ?_⟩
    refine ⟨_, rfl, _, rfl, rfl, ?_⟩
    rw [decide_eq_true rfl]
    exact q _ (Same.refl _)
  | @lst p' ys ds hb tb =>
    cases da with
    | @lst p xs _ ha ta =>
    obtain ⟨hl, hds⟩ := dp
    have e1 := (DpAll.get ta).1
    have e2 := (DpAll.get tb).1
    refine ⟨_, rfl, rfl, _, rfl, ?_⟩
    refine (if_neg (show ¬ decide (V.ref p' = V.non) = true by rw [decide_eq_false (by intro z; cases z)]; decide)).mpr ?_
    refine ⟨_, rfl, _, _, _, _, _, rfl, .ty _, ty_L hb, kit_ty (by decide +kernel), false, rfl, iteF ?_⟩
    refine ⟨_, rfl, _, _, _, _, _, rfl, .ty _, ty_L hb, kit_ty (by decide +kernel), false, rfl, iteF ?_⟩
    refine ⟨_, rfl, _, _, _, _, _, rfl, .ty _, ty_L hb, kit_ty (by decide +kernel), false, rfl, iteF ?_⟩
    refine ⟨_, rfl, _, _, _, _, _, rfl, .ty _, ty_L hb, kit_ty (b := "tuple") (r := false) (by decide +kernel), _, rfl, _, _, _, _, _, rfl, .ty _, ty_L ha, kit_ty (b := "tuple") (r := false) (by decide +kernel), rfl, _, rfl, iteF ?_⟩
    refine ⟨_, rfl, _, _, _, _, _, rfl, .ty _, ty_L hb, kit_ty (b := "list") (r := true) (by decide +kernel), _, rfl, _, _, _, _, _, rfl, .ty _, ty_L ha, kit_ty (b := "list") (r := true) (by decide +kernel), rfl, _, rfl, iteF ?_⟩
    refine ⟨_, rfl, _, _, rfl, .inl ha, _, rfl, _, _, rfl, .inl hb, rfl, _, rfl, ?_⟩
    refine (if_neg (show ¬ (!decide (V.int (xs.length : Int) = V.int (ys.length : Int))) = true by rw [e1, e2, decide_eq_true rfl]; decide)).mpr ?_
    refine ⟨_, rfl, _, _, rfl, .inl hb, _, rfl, by omega, by rw [e2]; exact Int.lt_of_le_of_lt (by omega : ((ds.length : Nat) : Int) ≤ 1000) (by decide), fun L hL => lc_range (lo := 0) (n := (ys.length : Int).toNat) (fun i H1 => Same H H1 ∧ H1 L = some (.lst ((List.replicate i true).map V.bl)) ∧ H L = none) ⟨same_new hL _, upd_same, hL⟩ ?_ ?_⟩
    · rintro i H1 hi ⟨s1, h1, _⟩
      have hi' : i < ys.length := by simpa using hi
      have hi2 : i < xs.length := by omega
      have gx : xs[i]? = some xs[i] := List.getElem?_eq_getElem hi2
      have gy : ys[i]? = some ys[i] := List.getElem?_eq_getElem hi'
      obtain ⟨d1, k1, dx⟩ := (DpAll.get ta).2 i _ gx
      obtain ⟨d2, k2, dy⟩ := (DpAll.get tb).2 i _ gy
      rw [k1] at k2
      cases Option.some.inj k2
      refine ⟨rfl, ?_⟩
      refine yes_of ?_
      refine ⟨_, rfl, _, rfl, Sq.ix (l := true) (show Sq K H1 p xs true from s1.seq ha) gx ?_⟩
      refine ⟨_, rfl, _, rfl, Sq.ix (l := true) (show Sq K H1 p' ys true from s1.seq hb) gy ?_⟩
      refine ⟨_, _, d1, rfl, Dp.same s1 dx, Dp.same s1 dy, hds d1 (List.mem_of_getElem? k1), fun H2 s2 => ?_⟩
      refine ⟨_, s2 _ _ h1, ?_, ?_, ?_, hL⟩
      · rw [List.length_map, List.length_replicate]; exact small1000 (by omega)
      · intro b o e
        have nb : b ≠ L := ne_of_none e hL
        rw [upd_ne nb]
        exact s2 _ _ (s1 _ _ e)
      · rw [upd_same, List.replicate_succ', List.map_append]
        rfl
    · rintro H1 ⟨s1, h1, _⟩
      refine ⟨_, _, rfl, .inl (.inl h1), ?_⟩
      have e : (List.replicate (ys.length : Int).toNat true).all id = true := by simp
      show Q (.bl ((List.replicate (ys.length : Int).toNat true).all id)) H1
      rw [e]
      exact q _ s1
  | @tup p' ys ds hb tb =>
    cases da with
    | @tup p xs _ ha ta =>
    obtain ⟨hl, hds⟩ := dp
    have e1 := (DpAll.get ta).1
    have e2 := (DpAll.get tb).1
    refine ⟨_, rfl, rfl, _, rfl, ?_⟩
    refine (if_neg (show ¬ decide (V.ref p' = V.non) = true by rw [decide_eq_false (by intro z; cases z)]; decide)).mpr ?_
    refine ⟨_, rfl, _, _, _, _, _, rfl, .ty _, ty_T hb, kit_ty (by decide +kernel), false, rfl, iteF ?_⟩
    refine ⟨_, rfl, _, _, _, _, _, rfl, .ty _, ty_T hb, kit_ty (by decide +kernel), false, rfl, iteF ?_⟩
    refine ⟨_, rfl, _, _, _, _, _, rfl, .ty _, ty_T hb, kit_ty (by decide +kernel), false, rfl, iteF ?_⟩
    refine ⟨_, rfl, _, _, _, _, _, rfl, .ty _, ty_T hb, kit_ty (b := "tuple") (r := true) (by decide +kernel), _, rfl, _, _, _, _, _, rfl, .ty _, ty_T ha, kit_ty (b := "tuple") (r := true) (by decide +kernel), rfl, _, rfl, iteF ?_⟩
    refine ⟨_, rfl, _, _, _, _, _, rfl, .ty _, ty_T hb, kit_ty (b := "list") (r := false) (by decide +kernel), _, rfl, _, _, _, _, _, rfl, .ty _, ty_T ha, kit_ty (b := "list") (r := false) (by decide +kernel), rfl, _, rfl, iteF ?_⟩
    refine ⟨_, rfl, _, _, rfl, .inr ha, _, rfl, _, _, rfl, .inr hb, rfl, _, rfl, ?_⟩
    refine (if_neg (show ¬ (!decide (V.int (xs.length : Int) = V.int (ys.length : Int))) = true by rw [e1, e2, decide_eq_true rfl]; decide)).mpr ?_
    refine ⟨_, rfl, _, _, rfl, .inr hb, _, rfl, by omega, by rw [e2]; exact Int.lt_of_le_of_lt (by omega : ((ds.length : Nat) : Int) ≤ 1000) (by decide), fun L hL => lc_range (lo := 0) (n := (ys.length : Int).toNat) (fun i H1 => Same H H1 ∧ H1 L = some (.lst ((List.replicate i true).map V.bl)) ∧ H L = none) ⟨same_new hL _, upd_same, hL⟩ ?_ ?_⟩
    · rintro i H1 hi ⟨s1, h1, _⟩
      have hi' : i < ys.length := by simpa using hi
      have hi2 : i < xs.length := by omega
      have gx : xs[i]? = some xs[i] := List.getElem?_eq_getElem hi2
      have gy : ys[i]? = some ys[i] := List.getElem?_eq_getElem hi'
      obtain ⟨d1, k1, dx⟩ := (DpAll.get ta).2 i _ gx
      obtain ⟨d2, k2, dy⟩ := (DpAll.get tb).2 i _ gy
      rw [k1] at k2
      cases Option.some.inj k2
      refine ⟨rfl, ?_⟩
      refine yes_of ?_
      refine ⟨_, rfl, _, rfl, Sq.ix (l := false) (show Sq K H1 p xs false from same_T s1 ha) gx ?_⟩
      refine ⟨_, rfl, _, rfl, Sq.ix (l := false) (show Sq K H1 p' ys false from same_T s1 hb) gy ?_⟩
      refine ⟨_, _, d1, rfl, Dp.same s1 dx, Dp.same s1 dy, hds d1 (List.mem_of_getElem? k1), fun H2 s2 => ?_⟩
      refine ⟨_, s2 _ _ h1, ?_, ?_, ?_, hL⟩
      · rw [List.length_map, List.length_replicate]; exact small1000 (by omega)
      · intro b o e
        have nb : b ≠ L := ne_of_none e hL
        rw [upd_ne nb]
        exact s2 _ _ (s1 _ _ e)
      · rw [upd_same, List.replicate_succ', List.map_append]
        rfl
    · rintro H1 ⟨s1, h1, _⟩
      refine ⟨_, _, rfl, .inl (.inl h1), ?_⟩
      have e : (List.replicate (ys.length : Int).toNat true).all id = true := by simp
      show Q (.bl ((List.replicate (ys.length : Int).toNat true).all id)) H1
      rw [e]
      exact q _ s1
end
end My

namespace My
open PySem L2 Mth
abbrev s_law_step : Stmt := topS 79
theorem sc_law_step : FnScope ["_law_d", "_law_size_now"] ["_law_d", "_law_size_now"] (defScope s_law_step) := ⟨rfl, rfl, rfl, by decide +kernel, rfl, by decide +kernel, by decide +kernel⟩
section
variable {P : Program} {w : World} {K : PySem.W.Frag} {mg : Str → Option Value} {base : Heap}
def sp_step (K : PySem.W.Frag) : Sp := fun vs H Q _ => ∃ (d : Addr) (n : Int) (st : Src), vs = [.ref d, .int n] ∧ 0 ≤ n ∧ n ≤ 7 ∧ H d = some (.lst (encD st)) ∧ SrcOk st ∧
  ∀ H' st' r, Keep d H H' → H' d = some (.lst (encD st')) → SrcOk st' → (∃ t, IsT K H' r t ∧ SpotIn t) → Q r H'
theorem ok_law_step {f : Addr} {fd : FuncData} (d_law_below : D P w K mg base "_law_below" 1 sp_below) (F : Fun K "_law_step" "_law_step" s_law_step f fd) : FnOk P w K mg base CX0 2 f fd ["_law_d", "_law_size_now"] (sp_step K) := by
  refine F.ok sc_law_step (fun vs H Q E h => ?_) (fun cdv A outer s H vs Q E hr h => ?_)
  · obtain ⟨d, n, st, rfl, _⟩ := h
    rfl
  obtain ⟨d, n, st, rfl, n0, n7, hd, ok, q⟩ := h
  refine ⟨_, (pss_one (ps_ret (pe_tup (pa_cons (pe_op op_sub (pc d_law_below (hr.mono (by decide)) (pa_cons (pv 0) (pa_cons (pe_op op_add (pe_op op_mulW pe_int (pv 1)) pe_int) pa_nil))) (pv 1)) (pa_cons (pe_op op_sub (pc d_law_below (hr.mono (by decide)) (pa_cons (pv 0) (pa_cons (pe_op op_add (pe_op op_mulW pe_int (pv 1)) pe_int) pa_nil))) (pv 1)) (pa_cons pe_int pa_nil)))))), ?_⟩
  have m2 : CMulW 2 n := mulW (a := 1) (b := 2) (by decide) (show n.natAbs < 8 by omega)
  refine ⟨_, rfl, _, rfl, _, _, rfl, rfl, m2, _, _, rfl, rfl, d, _, st, rfl, by omega, by omega, hd, ok, fun st1 x ok1 x0 x1 => ?_⟩
  refine ⟨_, rfl, _, _, rfl, rfl, ?_⟩
  refine ⟨_, rfl, _, rfl, _, _, rfl, rfl, m2, _, _, rfl, rfl, d, _, st1, rfl, by omega, by omega, upd_same, ok1, fun st2 y ok2 y0 y1 => ?_⟩
  refine ⟨_, rfl, _, _, rfl, rfl, (by show 3 ≤ sizeLine; decide), fun p hp => ?_⟩
  have sp' := same_new hp (.tup [.int (x - n), .int (y - n), .int 1])
  refine q _ st2 _ (keep_upd.trans (keep_upd.trans (Keep.of sp'))) (sp' _ _ upd_same) ok2 ⟨(x - n, y - n, 1), IsT.new, ⟨⟨(by decide : (0 : Int) < 1), by unfold g3; dsimp only; rw [Int.gcd_one_right]; rfl⟩, ?_⟩⟩
  refine ⟨?_, ?_, ?_⟩ <;> show _ < 8
  · show (x - n).natAbs < 8; omega
  · show (y - n).natAbs < 8; omega
  · show (1 : Nat) < 8; decide
end
end My

namespace My
open PySem L2 Mth
section
variable {K : PySem.W.Frag}
/-! ### the law's arms -/
structure ArmIn (a : Am) : Prop where
  ok : AmOk a
  bp : B 3 a.pole
  bt : B 3 a.t
  mem : a.t ∈ turns13
  fa : a.far ≤ 200
/-- an arm as it is told -/
def IsB (K : PySem.W.Frag) (H : Hp) (v : V) (a : Am) : Prop := ∃ p u z, v = .ref p ∧ SqT K H p [.ref u, .ref z, .int a.near, .int a.far, .bl a.m] ∧ SqT K H u (v3 a.pole) ∧ SqT K H z (v3 a.t)
theorem IsB.same {H H' : Hp} {v : V} {a : Am} (h : IsB K H v a) (e : Same H H') : IsB K H' v a := by
  obtain ⟨p, u, z, rfl, h1, h2, h3⟩ := h
  exact ⟨p, u, z, rfl, same_T e h1, same_T e h2, same_T e h3⟩
theorem IsB.keep {H H' : Hp} {v : V} {a : Am} {d : Addr} {ys : List V} (h : IsB K H v a) (hd : H d = some (.lst ys)) (e : Keep d H H') : IsB K H' v a := by
  obtain ⟨p, u, z, rfl, h1, h2, h3⟩ := h
  exact ⟨p, u, z, rfl, keep_T h1 hd e, keep_T h2 hd e, keep_T h3 hd e⟩
end
end My

namespace My
open PySem L2 Mth
abbrev s_law_arm : Stmt := topS 85
theorem sc_law_arm : FnScope ["_law_told"] ["_law_told"] (defScope s_law_arm) := ⟨rfl, rfl, rfl, by decide +kernel, rfl, by decide +kernel, by decide +kernel⟩
abbrev s_law_arm_told : Stmt := topS 84
theorem sc_law_arm_told : FnScope ["_law_d", "_law_near_here", "_law_pole"] ["_law_d"] (defScope s_law_arm_told) := ⟨rfl, rfl, rfl, by decide +kernel, rfl, by decide +kernel, by decide +kernel⟩
section
variable {P : Program} {w : World} {K : PySem.W.Frag} {mg : Str → Option Value} {base : Heap}
theorem nears {r : Int} (h0 : 0 ≤ r) (h1 : r < 4) : ∃ c : Int, atI [V.int 0, .int 0, .int 1, .int 2] r = some (.int c) ∧ 0 ≤ c ∧ c ≤ 2 := by
  have : r = 0 ∨ r = 1 ∨ r = 2 ∨ r = 3 := by omega
  rcases this with rfl | rfl | rfl | rfl
  · exact ⟨0, by rfl, by decide, by decide⟩
  · exact ⟨0, by rfl, by decide, by decide⟩
  · exact ⟨1, by rfl, by decide, by decide⟩
  · exact ⟨2, by rfl, by decide, by decide⟩
theorem fars {r : Int} (h0 : 0 ≤ r) (h1 : r < 4) : ∃ c : Int, atI [V.int 3, .int 8, .int 20, .int 99] r = some (.int c) ∧ 3 ≤ c ∧ c ≤ 99 := by
  have : r = 0 ∨ r = 1 ∨ r = 2 ∨ r = 3 := by omega
  rcases this with rfl | rfl | rfl | rfl
  · exact ⟨3, by rfl, by decide, by decide⟩
  · exact ⟨8, by rfl, by decide, by decide⟩
  · exact ⟨20, by rfl, by decide, by decide⟩
  · exact ⟨99, by rfl, by decide, by decide⟩
theorem ok_law_arm_told {f : Addr} {fd : FuncData} (d_law_below : D P w K mg base "_law_below" 1 sp_below) (d_law_step : D P w K mg base "_law_step" 2 (sp_step K)) (d_law_turn : D P w K mg base "_law_turn" 2 (sp_draw fun H r => ∃ t, IsT K H r t ∧ TurnIn t)) (d_law_spot : D P w K mg base "_law_spot" 3 (sp_draw fun H r => ∃ t, IsT K H r t ∧ SpotIn t))
    (F : Fun K "_law_arm_told" "_law_arm_told" s_law_arm_told f fd) : FnOk P w K mg base CX0 4 f fd ["_law_d"] (sp_draw fun H r => ∃ a, IsB K H r a ∧ ArmIn a) := by
  refine F.ok sc_law_arm_told (fun vs H Q E h => ?_) (fun cdv A outer s H vs Q E hr h => ?_)
  · obtain ⟨d, st, rfl, _⟩ := h
    rfl
  obtain ⟨d, st, rfl, hd, ok, q⟩ := h
  refine ⟨_, (pss_cons (ps_set (i := 1) sc_law_arm_told.nd rfl (by first | exact Or.inl rfl | exact Or.inr rfl) (pe_ix (r := rIxL K) ix_list (pe_lst (pa_cons pe_int (pa_cons pe_int (pa_cons pe_int (pa_cons pe_int pa_nil))))) (pc d_law_below (hr.mono (by decide)) (pa_cons (pv 0) (pa_cons pe_int pa_nil))) (fun _ _ => rfl)))
    (pss_cons (ps_set (i := 2) sc_law_arm_told.nd rfl (by first | exact Or.inl rfl | exact Or.inr rfl) (pe_ifExp (pt_cmpR (op_gt) (pc d_law_below (hr.mono (by decide)) (pa_cons (pv 0) (pa_cons pe_int pa_nil))) pe_int (nomark _)) (pc d_law_step (hr.mono (by decide)) (pa_cons (pv 0) (pa_cons pe_int pa_nil))) (pc d_law_spot (hr.mono (by decide)) (pa_cons (pv 0) pa_nil))))
    (pss_one (ps_ret (pe_tup (pa_cons (pv 2) (pa_cons (pc d_law_turn (hr.mono (by decide)) (pa_cons (pv 0) pa_nil)) (pa_cons (pv 1) (pa_cons (pe_op op_add (pv 1) (pe_ix (r := rIxL K) ix_list (pe_lst (pa_cons pe_int (pa_cons pe_int (pa_cons pe_int (pa_cons pe_int pa_nil))))) (pc d_law_below (hr.mono (by decide)) (pa_cons (pv 0) (pa_cons pe_int pa_nil))) (fun _ _ => rfl))) (pa_cons (pe_cmpR (op_eq) (pc d_law_below (hr.mono (by decide)) (pa_cons (pv 0) (pa_cons pe_int pa_nil))) pe_int (nomark _)) pa_nil)))))))))), ?_⟩
  refine ⟨(by show 4 ≤ sizeLine; decide), fun a ha => ?_⟩
  have sa := same_new ha (.lst [.int 0, .int 0, .int 1, .int 2])
  refine ⟨_, rfl, d, _, st, rfl, by decide, by decide, sa _ _ hd, ok, fun st1 r ok1 r0 r1 => ?_⟩
  have had : a ≠ d := (ne_of_none hd ha).symm
  obtain ⟨n, hn, n0, n2⟩ := nears r0 r1
  refine ⟨a, _, _, _, rfl, rfl, .inl (.inl (by rw [upd_ne had]; exact upd_same)), hn, ?_⟩
  have kk1 : Keep d H (upd (upd H a (.lst [.int 0, .int 0, .int 1, .int 2])) d (.lst (encD st1))) := (Keep.of sa).trans keep_upd
  have hd1 := upd_same (H := upd H a (.lst [.int 0, .int 0, .int 1, .int 2])) (a := d) (o := .lst (encD st1))
  generalize upd (upd H a (.lst [.int 0, .int 0, .int 1, .int 2])) d (.lst (encD st1)) = H1 at *
  refine gn_of ?_
  dsimp only
  refine asg_of ?_
  refine exp_join (fun v' H' => ∃ st z, H' d = some (.lst (encD st)) ∧ SrcOk st ∧ Keep d H1 H' ∧ IsT K H' v' z ∧ SpotIn z) ?_ ?_
  · rintro vp H2 ⟨st2, z, hd2, ok2, k2, ⟨pz, ez, tz⟩, nz⟩
    subst ez
    refine gn_of ?_
    refine ⟨_, rfl, ?_⟩
    refine ⟨_, rfl, d, st2, rfl, hd2, ok2, fun H3 st3 v3 k3 hd3 ok3 ⟨t, ⟨pt, et, tt⟩, nt⟩ => ?_⟩
    subst et
    have tz := keep_T tz hd2 k3
    refine ⟨_, rfl, ?_⟩
    refine ⟨_, rfl, (by show 4 ≤ sizeLine; decide), fun b hb => ?_⟩
    have sb := same_new hb (.lst [.int 3, .int 8, .int 20, .int 99])
    refine ⟨_, rfl, d, _, st3, rfl, by decide, by decide, sb _ _ hd3, ok3, fun st4 r4 ok4 r40 r41 => ?_⟩
    have hbd : b ≠ d := (ne_of_none hd3 hb).symm
    obtain ⟨c, hc, c3, c99⟩ := fars r40 r41
    refine ⟨b, _, _, _, rfl, rfl, .inl (.inl (by rw [upd_ne hbd]; exact upd_same)), hc, ?_⟩
    refine ⟨_, _, rfl, rfl, ?_⟩
    refine ⟨_, rfl, d, _, st4, rfl, by decide, by decide, upd_same, ok4, fun st5 r5 ok5 r50 r51 => ?_⟩
    refine ⟨rfl, (by show 5 ≤ sizeLine; decide), fun p hp => ?_⟩
    have sp' := same_new hp (.tup [.ref pz, .ref pt, .int n, .int (n + c), .bl (decide (V.int r5 = V.int 0))])
    have k35 : Keep d H3 (upd (upd (upd H3 b (.lst [.int 3, .int 8, .int 20, .int 99])) d (.lst (encD st4))) d (.lst (encD st5))) := (Keep.of sb).trans (keep_upd.trans keep_upd)
    refine q _ st5 _ (kk1.trans (k2.trans (k3.trans (k35.trans (Keep.of sp'))))) (sp' _ _ upd_same) ok5 ⟨⟨z, t, n, n + c, decide (V.int r5 = V.int 0)⟩, ⟨p, pz, pt, rfl, .inl (.inl upd_same), same_T sp' (keep_T tz hd3 k35), same_T sp' (keep_T tt hd3 k35)⟩, ⟨⟨nz.ok, nt.ok, nt.nz, n0, ?_, ?_⟩, nz.bd, nt.bd, nt.mem, (by show n + c ≤ 200; omega)⟩⟩
    · show n ≤ n + c; omega
    · show n + c ≤ 1000; omega
  · intro Q' kQ
    refine ⟨_, rfl, d, _, st1, rfl, by decide, by decide, hd1, ok1, fun st2 r2 ok2 r20 r21 => ?_⟩
    have kk : Keep d H1 (upd H1 d (.lst (encD st2))) := keep_upd
    refine ⟨_, _, rfl, rfl, _, rfl, ?_⟩
    refine ite2 (fun _ => ?_) (fun _ => ?_)
    · exact ⟨_, rfl, d, 4, st2, rfl, by decide, by decide, upd_same, ok2, fun H3 st3 v3 k3 hd3 ok3 ⟨z, iz, nz⟩ => kQ _ _ ⟨st3, z, hd3, ok3, kk.trans k3, iz, nz⟩⟩
    · exact ⟨_, rfl, d, st2, rfl, upd_same, ok2, fun H3 st3 v3 k3 hd3 ok3 ⟨z, iz, nz⟩ => kQ _ _ ⟨st3, z, hd3, ok3, kk.trans k3, iz, nz⟩⟩
def sp_armOf (K : PySem.W.Frag) (C CA : Addr) : Sp := fun vs H Q _ => ∃ v a, vs = [v] ∧ IsB K H v a ∧ AmOk a ∧ B 1000 a.pole ∧ B 1000 a.t ∧ ∀ H' r, Same H H' → IsA K C CA H' r a → Q r H'
theorem ok_law_arm {f C CA fI : Addr} {fd fdI : FuncData} {mv ds : List Value} (TA : ArmI P w K mg base C CA fI fdI mv ds) (F : Fun K "_law_arm" "_law_arm" s_law_arm f fd) : FnOk P w K mg base CX0 9 f fd ["_law_told"] (sp_armOf K C CA) := by
  refine F.ok sc_law_arm (fun vs H Q E h => ?_) (fun cdv A outer s H vs Q E hr h => ?_)
  · obtain ⟨v, a, rfl, _⟩ := h
    rfl
  obtain ⟨v, a, rfl, ⟨p, u, z, rfl, h1, h2, h3⟩, ok, bp, bt, q⟩ := h
  refine ⟨_, (pss_one (ps_ret (pe_makeK TA.mkC TA.ok (hr.mono (by decide)) (by rfl) TA.mgC TA.kb pass0 (pa_cons (pe_ix (r := rIxT K) ix_tup (pv 0) pe_int (fun _ _ => rfl)) (pa_cons (pe_ix (r := rIxT K) ix_tup (pv 0) pe_int (fun _ _ => rfl)) (pa_cons (pe_ix (r := rIxT K) ix_tup (pv 0) pe_int (fun _ _ => rfl)) (pa_cons (pe_ix (r := rIxT K) ix_tup (pv 0) pe_int (fun _ _ => rfl)) pa_nil)))) (pk_cons (pe_ix (r := rIxT K) ix_tup (pv 0) pe_int (fun _ _ => rfl)) pk_nil)))), ?_⟩
  refine ⟨_, rfl, _, _, _, _, rfl, rfl, h1, by rfl, _, rfl, _, _, _, _, rfl, rfl, h1, by rfl, _, rfl, _, _, _, _, rfl, rfl, h1, by rfl, _, rfl, _, _, _, _, rfl, rfl, h1, by rfl, _, rfl, _, _, _, _, rfl, rfl, h1, by rfl, ?_⟩
  exact ⟨rfl, rfl, mka_of ⟨_, rfl, h2⟩ ⟨_, rfl, h3⟩ ok (bp.mono (by decide)) bt fun H' r s' i => q _ _ s' i⟩
end
end My

namespace My
open PySem L2 Mth
abbrev s_law_chain : Stmt := topS 86
theorem sc_law_chain : FnScope ["_law_tolds", "_law_chain_here", "_law_told"] ["_law_tolds"] (defScope s_law_chain) := ⟨rfl, rfl, rfl, by decide +kernel, rfl, by decide +kernel, by decide +kernel⟩
section
variable {P : Program} {w : World} {K : PySem.W.Frag} {mg : Str → Option Value} {base : Heap}
theorem keepsB : KeepsI (IsB K) := fun _ _ _ _ _ _ i hd k => i.keep hd k
def AllB (K : PySem.W.Frag) (H : Hp) (vs : List V) (as : List Am) : Prop := Paired (IsB K H) vs as
theorem AllB.same {H H' : Hp} {vs : List V} {as : List Am} (h : AllB K H vs as) (s : Same H H') : AllB K H' vs as := pimp (fun _ _ i => i.same s) h
theorem AllB.keep {H H' : Hp} {vs : List V} {as : List Am} {d : Addr} {ys : List V} (h : AllB K H vs as) (hd : H d = some (.lst ys)) (k : Keep d H H') : AllB K H' vs as := pimp (fun _ _ i => i.keep hd k) h
theorem ArmIn.bc {a : Am} (h : ArmIn a) : BC 11 (about a) := about_BC h.ok h.bp h.bt
theorem armsOk {as : List Am} (h : ∀ a ∈ as, ArmIn a) (hl : as.length ≤ 6) : ArmsOk as := ⟨hl, fun a ha => (h a ha).ok, fun a ha => (h a ha).bc.mono (by decide)⟩
theorem mem_take {α : Type} {l : List α} {i : Nat} {x : α} (h : x ∈ l.take i) : x ∈ l := List.mem_of_mem_take h
def sp_lchain (K : PySem.W.Frag) (C CA CH : Addr) : Sp := fun vs H Q _ => ∃ L us as, vs = [.ref L] ∧ SqL K H L us ∧ AllB K H us as ∧ as.length ≤ 6 ∧ (∀ a ∈ as, ArmIn a) ∧ ∀ H' r, Same H H' → IsH K C CA CH H' r as → Q r H'
theorem ok_law_chain {f fI C CA CH : Addr} {fd : FuncData} (TH : ChainI P w K mg base C CA CH fI) (m_hadd : MHa P w K mg base C CA CH) (d_law_arm : D P w K mg base "_law_arm" 9 (sp_armOf K C CA)) (F : Fun K "_law_chain" "_law_chain" s_law_chain f fd) : FnOk P w K mg base CX0 11 f fd ["_law_tolds"] (sp_lchain K C CA CH) := by
  refine F.ok sc_law_chain (fun vs H Q E h => ?_) (fun cdv A outer s H vs Q E hr h => ?_)
  · obtain ⟨L, us, as, rfl, _⟩ := h
    rfl
  obtain ⟨L, us, as, rfl, hL, ha, hl6, hin, q⟩ := h
  refine ⟨_, (pss_cons (ps_set (i := 1) sc_law_chain.nd rfl (by first | exact Or.inl rfl | exact Or.inr rfl) (pe_makeR0 TH.mkC TH.ok (hr.mono (by decide)) (by rfl) TH.mgC))
    (pss_cons (ps_for PassesOwn.never rfl (pi_list (pv 0)) (pg_name (i := 2) sc_law_chain.nd rfl (by first | exact Or.inl rfl | exact Or.inr rfl)) (pss_one (ps_set (i := 1) sc_law_chain.nd rfl (by first | exact Or.inl rfl | exact Or.inr rfl) (pe_op (op_hadd m_hadd (hr.mono (by decide))) (pv 1) (StX.pe_makeR TH.mkC TH.ok (hr.mono (by decide)) (by rfl) TH.mgC pass0 (pa_cons (pc d_law_arm (hr.mono (by decide)) (pa_cons (pv 2) pa_nil)) pa_nil))))))
    (pss_one (ps_ret (pv 1))))), ?_⟩
  refine mkh_of2 (K := K) (us := []) (as := []) .nil armsNil fun H1 x1 s1 i1 => ⟨rfl, ?_⟩
  have hl := Paired.length ha
  refine ⟨_, rfl, L, rfl, ⟨_, s1.seq hL⟩, for_list (K := K) (a := L) (xs := us) (fun i σ H' => ∃ r x, σ = [some (.ref L), some r, x] ∧ Same H H' ∧ IsH K C CA CH H' r (as.take i)) ⟨_, none, rfl, s1, i1⟩ ?_ ?_ ?_⟩
  · rintro i σ H' _ ⟨r, x, rfl, s', _⟩
    exact s'.seq hL
  · rintro i x σ H' hx ⟨r, y, rfl, s', ir⟩
    obtain ⟨a, h1, h2⟩ := pget ha hx
    have hm := List.mem_of_getElem? h1
    have na := hin a hm
    refine ⟨_, rfl, _, rfl, _, a, rfl, h2.same s', na.ok, na.bp.mono (by decide), na.bt.mono (by decide), fun H2 r2 s2 i2 => ?_⟩
    refine mkh_of2 (K := K) (us := [r2]) (as := [a]) (.cons i2 .nil) (armsOk (fun b hb => by rw [List.mem_singleton.mp hb]; exact na) (by show 1 ≤ 6; decide)) fun H3 x3 s3 i3 => ⟨rfl, ?_⟩
    have et : as.take i ++ [a] = as.take (i + 1) := (take_more h1).symm
    have hle : (as.take (i + 1)).length ≤ 6 := by rw [List.length_take]; omega
    refine hadd_of (ir.same (s2.trans s3)) i3 (by rw [et]; exact armsOk (fun b hb => hin b (mem_take hb)) hle) fun H4 r4 s4 i4 => ?_
    rw [et] at i4
    exact ⟨_, _, rfl, s'.trans (s2.trans (s3.trans s4)), i4⟩
  · rintro σ H' ⟨r, x, rfl, s', ir⟩
    rw [hl, List.take_length] at ir
    exact ⟨_, rfl, q _ _ s' ir⟩
end
end My

namespace My
open PySem L2 Mth
abbrev s_law_about : Stmt := topS 97
theorem sc_law_about : FnScope ["_law_told", "_law_pole", "_law_turn_here", "_law_near_here", "_law_far", "_law_flipped", "_law_carried_to"] ["_law_told"] (defScope s_law_about) := ⟨rfl, rfl, rfl, by decide +kernel, rfl, by decide +kernel, by decide +kernel⟩
section
variable {P : Program} {w : World} {K : PySem.W.Frag} {mg : Str → Option Value} {base : Heap}
def sp_labout (K : PySem.W.Frag) : Sp := fun vs H Q _ => ∃ v a, vs = [v] ∧ IsB K H v a ∧ AmOk a ∧ B 1000 a.pole ∧ B 1000 a.t ∧ ∀ H' r, Same H H' → IsD K H' r (about a) → Q r H'
theorem ok_law_about {f : Addr} {fd : FuncData} (d_law_times : D P w K mg base "_law_times" 3 (sp_two K times)) (d_law_over : D P w K mg base "_law_over" 1 (sp_one K over)) (d_law_minus : D P w K mg base "_law_minus" 4 (sp_two K minus)) (F : Fun K "_law_about" "_law_about" s_law_about f fd) : FnOk P w K mg base CX0 5 f fd ["_law_told"] (sp_labout K) := by
  refine F.ok sc_law_about (fun vs H Q E h => ?_) (fun cdv A outer s H vs Q E hr h => ?_)
  · obtain ⟨v, a, rfl, _⟩ := h
    rfl
  obtain ⟨v, ⟨z, t, n, g, m⟩, rfl, ⟨p, u, w', rfl, h1, h2, h3⟩, oa, bp, bt, q⟩ := h
  refine ⟨_, (pss_cons (ps_asg (pv 0) (pg_tup rfl (pgs_cons (pg_name (i := 1) sc_law_about.nd rfl (by first | exact Or.inl rfl | exact Or.inr rfl)) (pgs_cons (pg_name (i := 2) sc_law_about.nd rfl (by first | exact Or.inl rfl | exact Or.inr rfl)) (pgs_cons (pg_name (i := 3) sc_law_about.nd rfl (by first | exact Or.inl rfl | exact Or.inr rfl)) (pgs_cons (pg_name (i := 4) sc_law_about.nd rfl (by first | exact Or.inl rfl | exact Or.inr rfl)) (pgs_cons (pg_name (i := 5) sc_law_about.nd rfl (by first | exact Or.inl rfl | exact Or.inr rfl)) pgs_nil)))))))
    (pss_cons (ps_set (i := 6) sc_law_about.nd rfl (by first | exact Or.inl rfl | exact Or.inr rfl) (pc d_law_times (hr.mono (by decide)) (pa_cons (pv 2) (pa_cons (pe_ifExp (pt_val (pv 5)) (pc d_law_over (hr.mono (by decide)) (pa_cons (pv 1) pa_nil)) (pv 1)) pa_nil))))
    (pss_one (ps_ret (pe_tup (pa_cons (pv 2) (pa_cons (pc d_law_minus (hr.mono (by decide)) (pa_cons (pv 1) (pa_cons (pv 6) pa_nil))) (pa_cons (pv 5) pa_nil)))))))), ?_⟩
  refine ⟨_, rfl, p, _, rfl, h1, rfl, _, _, rfl, _, _, rfl, _, _, rfl, _, _, rfl, _, _, rfl, rfl, ?_⟩
  refine ⟨_, rfl, _, rfl, ?_⟩
  cases m with
  | true =>
    refine ⟨_, rfl, iteT ⟨_, rfl, _, z, rfl, ⟨_, rfl, h2⟩, fun H1 r1 s1 i1 => ?_⟩⟩
    have i1 : IsT K H1 r1 (face z true) := i1
    refine ⟨_, _, _, _, rfl, ⟨_, rfl, same_T s1 h3⟩, i1, oa.t, face_ok oa.p _, bt.mono (by decide), (face_B bp _).mono (by decide), fun H2 r2 s2 i2 => ?_⟩
    have s12 := s1.trans s2
    refine ⟨_, rfl, _, rfl, _, rfl, _, _, _, _, rfl, ⟨_, rfl, same_T s12 h2⟩, i2, oa.p, times_ok oa.t (face_ok oa.p _), bp.mono (by decide), (times_B oa.t (face_ok oa.p _) bt (face_B bp _)).mono (by decide), fun H3 r3 s3 i3 => ?_⟩
    have s13 := s12.trans s3
    obtain ⟨p3, e3, t3⟩ := i3
    subst e3
    refine ⟨_, rfl, (by show 3 ≤ sizeLine; decide), fun p4 hp4 => ?_⟩
    have s4 := same_new hp4 (.tup [.ref w', .ref p3, .bl true])
    exact q _ _ (s13.trans s4) ⟨p4, w', p3, rfl, .inl (.inl upd_same), same_T (s13.trans s4) h3, same_T s4 t3⟩
  | false =>
    have i1 : IsT K H (.ref u) (face z false) := ⟨_, rfl, h2⟩
    have s1 := Same.refl H
    refine ⟨_, rfl, iteF ⟨_, rfl, ?_⟩⟩
    refine ⟨_, _, _, _, rfl, ⟨_, rfl, same_T s1 h3⟩, i1, oa.t, face_ok oa.p _, bt.mono (by decide), (face_B bp _).mono (by decide), fun H2 r2 s2 i2 => ?_⟩
    have s12 := s1.trans s2
    refine ⟨_, rfl, _, rfl, _, rfl, _, _, _, _, rfl, ⟨_, rfl, same_T s12 h2⟩, i2, oa.p, times_ok oa.t (face_ok oa.p _), bp.mono (by decide), (times_B oa.t (face_ok oa.p _) bt (face_B bp _)).mono (by decide), fun H3 r3 s3 i3 => ?_⟩
    have s13 := s12.trans s3
    obtain ⟨p3, e3, t3⟩ := i3
    subst e3
    refine ⟨_, rfl, (by show 3 ≤ sizeLine; decide), fun p4 hp4 => ?_⟩
    have s4 := same_new hp4 (.tup [.ref w', .ref p3, .bl false])
    exact q _ _ (s13.trans s4) ⟨p4, w', p3, rfl, .inl (.inl upd_same), same_T (s13.trans s4) h3, same_T s4 t3⟩
end
end My

namespace My
open PySem L2 Mth
abbrev s_law_ratio : Stmt := topS 87
theorem sc_law_ratio : FnScope ["_law_p", "_law_q"] ["_law_p", "_law_q"] (defScope s_law_ratio) := ⟨rfl, rfl, rfl, by decide +kernel, rfl, by decide +kernel, by decide +kernel⟩
abbrev s_law_size : Stmt := topS 88
theorem sc_law_size : FnScope ["_law_one"] ["_law_one"] (defScope s_law_size) := ⟨rfl, rfl, rfl, by decide +kernel, rfl, by decide +kernel, by decide +kernel⟩
section
variable {P : Program} {w : World} {K : PySem.W.Frag} {mg : Str → Option Value} {base : Heap}
/-! ### the law's fractions -/
def sp_ratio (K : PySem.W.Frag) : Sp := fun vs H Q _ => ∃ p q : Int, vs = [.int p, .int q] ∧ q ≠ 0 ∧ q.natAbs < 2 ^ 8500 ∧ ∀ H' r, Same H H' → IsF K H' r (fr p q) → Q r H'
theorem ok_law_ratio {f : Addr} {fd : FuncData} (d_law_lowest : D P w K mg base "_law_lowest" 2 (sp_low K)) (F : Fun K "_law_ratio" "_law_ratio" s_law_ratio f fd) : FnOk P w K mg base CX0 3 f fd ["_law_p", "_law_q"] (sp_ratio K) := by
  refine F.ok sc_law_ratio (fun vs H Q E h => ?_) (fun cdv A outer s H vs Q E hr h => ?_)
  · obtain ⟨p, d, rfl, _⟩ := h
    rfl
  obtain ⟨p, d, rfl, hd, hB, q⟩ := h
  refine ⟨_, (pss_one (ps_ret (pe_tup (pa_cons (pe_ix (r := rIxT K) ix_tup (pc d_law_lowest (hr.mono (by decide)) (pa_cons (pv 0) (pa_cons pe_int (pa_cons (pv 1) pa_nil)))) pe_int (fun _ _ => rfl)) (pa_cons (pe_ix (r := rIxT K) ix_tup (pc d_law_lowest (hr.mono (by decide)) (pa_cons (pv 0) (pa_cons pe_int (pa_cons (pv 1) pa_nil)))) pe_int (fun _ _ => rfl)) pa_nil))))), ?_⟩
  refine ⟨_, rfl, _, rfl, p, 0, d, rfl, hd, hB, fun H1 r1 s1 i1 => ?_⟩
  obtain ⟨p1, e1, t1⟩ := i1
  subst e1
  refine ⟨p1, _, _, _, rfl, rfl, t1, by rfl, ?_⟩
  refine ⟨_, rfl, _, rfl, p, 0, d, rfl, hd, hB, fun H2 r2 s2 i2 => ?_⟩
  obtain ⟨p2, e2, t2⟩ := i2
  subst e2
  refine ⟨p2, _, _, _, rfl, rfl, t2, by rfl, (by show 2 ≤ sizeLine; decide), fun p3 hp3 => ?_⟩
  exact q _ _ (s1.trans (s2.trans (same_new hp3 _))) (IsF.new (a := (fr p d).1) (b := (fr p d).2))
def sp_size (K : PySem.W.Frag) : Sp := fun vs H Q _ => ∃ v a, vs = [v] ∧ IsT K H v a ∧ Ok a ∧ B 4000 a ∧ ∀ H' r, Same H H' → IsF K H' r (gr a) → Q r H'
theorem ok_law_size {f : Addr} {fd : FuncData} (d_law_ratio : D P w K mg base "_law_ratio" 3 (sp_ratio K)) (F : Fun K "_law_size" "_law_size" s_law_size f fd) : FnOk P w K mg base CX0 4 f fd ["_law_one"] (sp_size K) := by
  refine F.ok sc_law_size (fun vs H Q E h => ?_) (fun cdv A outer s H vs Q E hr h => ?_)
  · obtain ⟨v, a, rfl, _⟩ := h
    rfl
  obtain ⟨v, ⟨x, y, d⟩, rfl, ⟨p, rfl, t⟩, oa, ⟨a1, a2, a3⟩, q⟩ := h
  refine ⟨_, (pss_one (ps_ret (pc d_law_ratio (hr.mono (by decide)) (pa_cons (pe_op op_add (pe_op op_mulW (pe_ix (r := rIxT K) ix_tup (pv 0) pe_int (fun _ _ => rfl)) (pe_ix (r := rIxT K) ix_tup (pv 0) pe_int (fun _ _ => rfl))) (pe_op op_mulW (pe_ix (r := rIxT K) ix_tup (pv 0) pe_int (fun _ _ => rfl)) (pe_ix (r := rIxT K) ix_tup (pv 0) pe_int (fun _ _ => rfl)))) (pa_cons (pe_op op_mulW (pe_ix (r := rIxT K) ix_tup (pv 0) pe_int (fun _ _ => rfl)) (pe_ix (r := rIxT K) ix_tup (pv 0) pe_int (fun _ _ => rfl))) pa_nil))))), ?_⟩
  refine ⟨_, rfl, _, _, _, _, rfl, rfl, t, by rfl, _, rfl, _, _, _, _, rfl, rfl, t, by rfl, _, _, rfl, rfl, mulW a1 a1, ?_⟩
  refine ⟨_, rfl, _, _, _, _, rfl, rfl, t, by rfl, _, rfl, _, _, _, _, rfl, rfl, t, by rfl, _, _, rfl, rfl, mulW a2 a2, _, _, rfl, rfl, ?_⟩
  refine ⟨_, rfl, _, _, _, _, rfl, rfl, t, by rfl, _, rfl, _, _, _, _, rfl, rfl, t, by rfl, _, _, rfl, rfl, mulW a3 a3, ?_⟩
  exact ⟨_, _, rfl, mul_ne oa.ne oa.ne, up_lt (by decide) (mul_lt a3 a3), q⟩
end
end My

namespace My
open PySem L2 Mth
abbrev s_law_less : Stmt := topS 91
theorem sc_law_less : FnScope ["_law_one", "_law_other"] ["_law_one", "_law_other"] (defScope s_law_less) := ⟨rfl, rfl, rfl, by decide +kernel, rfl, by decide +kernel, by decide +kernel⟩
section
variable {P : Program} {w : World} {K : PySem.W.Frag} {mg : Str → Option Value} {base : Heap}
def sp_lless (K : PySem.W.Frag) : Sp := fun vs H Q _ => ∃ va vb a b, vs = [va, vb] ∧ IsF K H va a ∧ IsF K H vb b ∧ FB 16001 a ∧ FB 16001 b ∧ Q (.bl (lessF a b)) H
theorem ok_law_less {f : Addr} {fd : FuncData} (F : Fun K "_law_less" "_law_less" s_law_less f fd) : FnOk P w K mg base CX0 1 f fd ["_law_one", "_law_other"] (sp_lless K) := by
  refine F.ok sc_law_less (fun vs H Q E h => ?_) (fun cdv A outer s H vs Q E hr h => ?_)
  · obtain ⟨va, vb, a, b, rfl, _⟩ := h
    rfl
  obtain ⟨va, vb, a, b, rfl, ⟨pa, rfl, ta⟩, ⟨pb, rfl, tb⟩, ba, bb, q⟩ := h
  refine ⟨_, (pss_one (ps_ret (pe_cmpR (op_lt) (pe_op op_mulW (pe_ix (r := rIxT K) ix_tup (pv 0) pe_int (fun _ _ => rfl)) (pe_ix (r := rIxT K) ix_tup (pv 1) pe_int (fun _ _ => rfl))) (pe_op op_mulW (pe_ix (r := rIxT K) ix_tup (pv 1) pe_int (fun _ _ => rfl)) (pe_ix (r := rIxT K) ix_tup (pv 0) pe_int (fun _ _ => rfl))) (nomark _)))), ?_⟩
  refine ⟨_, rfl, _, _, _, _, rfl, rfl, ta, by rfl, _, rfl, _, _, _, _, rfl, rfl, tb, by rfl, _, _, rfl, rfl, mulW ba.1 bb.2, ?_⟩
  refine ⟨_, rfl, _, _, _, _, rfl, rfl, tb, by rfl, _, rfl, _, _, _, _, rfl, rfl, ta, by rfl, _, _, rfl, rfl, mulW bb.1 ba.2, ?_⟩
  exact ⟨_, _, rfl, rfl, q⟩
theorem near_FB {n : Int} (h0 : 0 ≤ n) (h1 : n ≤ 1000) : FB 16001 (n * n, 1) := ⟨up_lt (n := 20) (by decide) (mul_lt (n := 10) (m := 10) (show n.natAbs < 2 ^ 10 by omega) (show n.natAbs < 2 ^ 10 by omega)), up_lt (n := 1) (by decide) (show (1 : Int).natAbs < 2 ^ 1 by decide)⟩
end
end My

namespace My
open PySem L2 Mth
abbrev s_law_reached : Stmt := topS 92
theorem sc_law_reached : FnScope ["_law_told", "_law_spot_here", "_law_distance"] ["_law_told", "_law_spot_here"] (defScope s_law_reached) := ⟨rfl, rfl, rfl, by decide +kernel, rfl, by decide +kernel, by decide +kernel⟩
section
variable {P : Program} {w : World} {K : PySem.W.Frag} {mg : Str → Option Value} {base : Heap}
theorem nn10 {n : Int} (h0 : 0 ≤ n) (h1 : n ≤ 1000) : CMulW n n := mulW (a := 9) (b := 9) (show n.natAbs < 2 ^ 10 by omega) (show n.natAbs < 2 ^ 10 by omega)
def sp_reached (K : PySem.W.Frag) : Sp := fun vs H Q _ => ∃ v a vz z, vs = [v, vz] ∧ IsB K H v a ∧ AmOk a ∧ B 1000 a.pole ∧ IsT K H vz z ∧ Ok z ∧ B 2900 z ∧ ∀ H', Same H H' → Q (.bl (rch a z)) H'
theorem ok_law_reached {f : Addr} {fd : FuncData} (d_law_size : D P w K mg base "_law_size" 4 (sp_size K)) (d_law_minus : D P w K mg base "_law_minus" 4 (sp_two K minus)) (d_law_less : D P w K mg base "_law_less" 1 (sp_lless K)) (F : Fun K "_law_reached" "_law_reached" s_law_reached f fd) : FnOk P w K mg base CX0 5 f fd ["_law_told", "_law_spot_here"] (sp_reached K) := by
  refine F.ok sc_law_reached (fun vs H Q E h => ?_) (fun cdv A outer s H vs Q E hr h => ?_)
  · obtain ⟨v, a, vz, z, rfl, _⟩ := h
    rfl
  obtain ⟨v, a, vz, z, rfl, ⟨p, u, t, rfl, h1, h2, h3⟩, oa, bp, iz, oz, bz, q⟩ := h
  refine ⟨_, (pss_cons (ps_set (i := 2) sc_law_reached.nd rfl (by first | exact Or.inl rfl | exact Or.inr rfl) (pc d_law_size (hr.mono (by decide)) (pa_cons (pc d_law_minus (hr.mono (by decide)) (pa_cons (pv 1) (pa_cons (pe_ix (r := rIxT K) ix_tup (pv 0) pe_int (fun _ _ => rfl)) pa_nil))) pa_nil)))
    (pss_one (ps_ret (pe_and (pe_not (pc d_law_less (hr.mono (by decide)) (pa_cons (pv 2) (pa_cons (pe_tup (pa_cons (pe_op op_mulW (pe_ix (r := rIxT K) ix_tup (pv 0) pe_int (fun _ _ => rfl)) (pe_ix (r := rIxT K) ix_tup (pv 0) pe_int (fun _ _ => rfl))) (pa_cons pe_int pa_nil))) pa_nil)))) (pe_one (pe_not (pc d_law_less (hr.mono (by decide)) (pa_cons (pe_tup (pa_cons (pe_op op_mulW (pe_ix (r := rIxT K) ix_tup (pv 0) pe_int (fun _ _ => rfl)) (pe_ix (r := rIxT K) ix_tup (pv 0) pe_int (fun _ _ => rfl))) (pa_cons pe_int pa_nil))) (pa_cons (pv 2) pa_nil))))))))), ?_⟩
  refine ⟨_, rfl, _, rfl, p, _, _, _, rfl, rfl, h1, by rfl, _, _, _, _, rfl, iz, ⟨_, rfl, h2⟩, oz, oa.p, bz.mono (by decide), bp.mono (by decide), fun H1 r1 s1 i1 => ?_⟩
  have om := minus_ok oz oa.p
  have bm : B 3901 (minus z a.pole) := minus_B oz oa.p bz bp
  refine ⟨_, _, rfl, i1, om, bm.mono (by decide), fun H2 r2 s2 i2 => ?_⟩
  have s12 := s1.trans s2
  have gb : FB 16001 (gr (minus z a.pole)) := (gr_FB om bm).mono (by decide)
  have lo := oa.lo
  have mi := oa.mi
  have hi := oa.hi
  refine ⟨_, rfl, _, rfl, p, _, _, _, rfl, rfl, same_T s12 h1, by rfl, _, rfl, p, _, _, _, rfl, rfl, same_T s12 h1, by rfl, _, _, rfl, rfl, nn10 lo (by omega), (by show 2 ≤ sizeLine; decide), fun p3 hp3 => ?_⟩
  have s3 := same_new hp3 (.tup [.int (a.near * a.near), .int 1])
  refine ⟨_, _, _, (a.near * a.near, 1), rfl, i2.same s3, IsF.new, gb, near_FB lo (by omega), _, rfl, ?_⟩
  have q : ∀ H', Same H H' → Q (.bl (!lessF (gr (minus z a.pole)) (a.near * a.near, 1) && !lessF (a.far * a.far, 1) (gr (minus z a.pole)))) H' := q
  refine ⟨_, rfl, ?_⟩
  cases c1 : lessF (gr (minus z a.pole)) (a.near * a.near, 1) with
  | true =>
    rw [c1] at q
    exact iteF (q _ (s12.trans s3))
  | false =>
    rw [c1] at q
    refine iteT ?_
    have s13 := s12.trans s3
    refine ⟨_, rfl, p, _, _, _, rfl, rfl, same_T s13 h1, by rfl, _, rfl, p, _, _, _, rfl, rfl, same_T s13 h1, by rfl, _, _, rfl, rfl, nn10 (by omega) hi, (by show 2 ≤ sizeLine; decide), fun p4 hp4 => ?_⟩
    have s4 := same_new hp4 (.tup [.int (a.far * a.far), .int 1])
    exact ⟨_, rfl, _, _, (a.far * a.far, 1), _, rfl, IsF.new, (i2.same s3).same s4, near_FB (by omega) hi, gb, _, rfl, q _ (s13.trans s4)⟩
end
end My

namespace My
open PySem L2 Mth
abbrev s_law_moved : Stmt := topS 99
theorem sc_law_moved : FnScope ["_law_told", "_law_strokes", "_law_found", "_law_stroke", "_law_spot_here"] ["_law_told", "_law_strokes"] (defScope s_law_moved) := ⟨rfl, rfl, rfl, by decide +kernel, rfl, by decide +kernel, by decide +kernel⟩
section
variable {P : Program} {w : World} {K : PySem.W.Frag} {mg : Str → Option Value} {base : Heap}
/-! ### the law's strokes, moved -/
def sp_lmoved (K : PySem.W.Frag) : Sp := fun vs H Q _ => ∃ vt c t us zss, vs = [vt, .ref t] ∧ IsD K H vt c ∧ CpOk c ∧ BC 1000 c ∧ SqT K H t us ∧ AllSt K H us zss ∧ zss.length ≤ 100 ∧ (∀ zs ∈ zss, StOk zs) ∧ (∀ z ∈ zss.flatten, B 1000 z) ∧
  ∀ H' p ws, Same H H' → SqT K H' p ws → AllSt K H' ws (zss.map fun zs => zs.map (ap c)) → Q (.ref p) H'
theorem ok_law_moved {f : Addr} {fd : FuncData} (b_tuple : mg "tuple" = none) (d_law_carried : D P w K mg base "_law_carried" 4 (sp_lcar K)) (F : Fun K "_law_moved" "_law_moved" s_law_moved f fd) : FnOk P w K mg base CX0 5 f fd ["_law_told", "_law_strokes"] (sp_lmoved K) := by
  refine F.ok sc_law_moved (fun vs H Q E h => ?_) (fun cdv A outer s H vs Q E hr h => ?_)
  · obtain ⟨vt, c, t, us, zss, rfl, _⟩ := h
    rfl
  obtain ⟨vt, c, t, us, zss, rfl, ic, oc, bc, hT, hA, hl, ok, bd, q⟩ := h
  refine ⟨_, (pss_cons (ps_set (i := 2) sc_law_moved.nd rfl (by first | exact Or.inl rfl | exact Or.inr rfl) (pe_lst pa_nil))
    (pss_cons (ps_for PassesOwn.never rfl (pi_tup (pv 1)) (pg_name (i := 3) sc_law_moved.nd rfl (by first | exact Or.inl rfl | exact Or.inr rfl)) (pss_one (ps_expr (pe_bm PySem.F.plainAttrs_list PySem.F.slot_list_append PySem.F.type_list_append mt_append (pv 2) (pa_cons (pe_callTy call_tuple_of (by rfl) b_tuple (by decide +kernel) (pa_cons (pe_lc (own := [("_law_spot_here", 4)]) (g := gName 4) (tt := tYes) (by rfl) sc_law_moved.nd (pi_tup (pv 3)) (blkOk_by (own := [("_law_spot_here", 4)]) (N := ["_law_told", "_law_strokes", "_law_found", "_law_stroke", "_law_spot_here"]) (sc := defScope s_law_moved) (by decide +kernel)) (fun _ _ _ _ _ => (pg_name (i := 4) sc_law_moved.nd rfl (by first | exact Or.inl rfl | exact Or.inr rfl))) (fun _ _ _ _ _ => pts_nil) (fun _ _ _ _ _ => (pc d_law_carried (hr.mono (by decide)) (pa_cons (pv 0) (pa_cons (pv 4) pa_nil))))) pa_nil)) pa_nil)))))
    (pss_one (ps_ret (pe_callTy call_tuple_of (by rfl) b_tuple (by decide +kernel) (pa_cons (pv 2) pa_nil)))))), ?_⟩
  have hlu := Paired.length hA
  refine ⟨(by show 0 ≤ sizeLine; decide), fun D hD => ?_⟩
  refine ⟨_, rfl, t, rfl, ⟨_, same_T (same_new hD _) hT⟩, for_tup (K := K) (a := t) (xs := us) (fun i σ H' => ∃ x acc, σ = [some vt, some (.ref t), some (.ref D), x, none] ∧ Same H H' ∧ H' D = some (.lst acc) ∧ AllSt K H' acc ((zss.take i).map fun zs => zs.map (ap c))) ⟨none, [], rfl, same_new hD _, upd_same, .nil⟩ ?_ ?_ ?_⟩
  · rintro i σ H' _ ⟨x, acc, rfl, s', _⟩
    exact same_T s' hT
  · rintro i y σ H' hy ⟨x, acc, rfl, s', hb, ha⟩
    obtain ⟨zs, ez, tx, ux, rfl, hx1, hx2⟩ := pgt hA hy
    have hz := List.mem_of_getElem? ez
    have sk := ok zs hz
    have kl := Paired.length hx2
    have kh := sk.hi
    have la := Paired.length ha
    have li := (List.getElem?_eq_some_iff.mp ez).1
    rw [List.length_map, List.length_take] at la
    refine ⟨_, rfl, .inl ⟨rfl, _, .inl (.inl hb)⟩, ?_⟩
    refine ⟨_, rfl, tx, rfl, ⟨_, same_T s' hx1⟩, fun L hL => lc_tup (K := K) (a := tx) (xs := ux) (fun j H2 => ∃ bcc : List V, Same H' H2 ∧ H2 L = some (.lst bcc) ∧ Paired (IsT K H2) bcc ((zs.take j).map (ap c))) ⟨[], same_new hL _, upd_same, .nil⟩ ?_ ?_ ?_⟩
    · rintro j H2 hj ⟨bcc, s2, _⟩
      exact same_T (s'.trans s2) hx1
    · rintro j y H2 hy ⟨bcc, s2, hb2, ha2⟩
      obtain ⟨z, ez2, pz, rfl, iz⟩ := pgt hx2 hy
      have mz := List.mem_of_getElem? ez2
      have lb := Paired.length ha2
      have lj := (List.getElem?_eq_some_iff.mp ez2).1
      rw [List.length_map, List.length_take] at lb
      have s02 := s'.trans s2
      refine ⟨rfl, yes_of ?_⟩
      refine ⟨_, rfl, _, rfl, vt, c, _, z, rfl, ic.same s02, oc, ⟨bc.1.mono (by decide), bc.2.mono (by decide)⟩, ⟨_, rfl, same_T s02 iz⟩, sk.ok z mz, (bd z (List.mem_flatten.mpr ⟨zs, hz, mz⟩)).mono (by decide), fun H3 r3 s3 i3 => ?_⟩
      have hb3 := s3 _ _ hb2
      have k3 := keep_upd (d := L) (H := H3) (o := .lst (bcc ++ [r3]))
      refine ⟨bcc, hb3, small1000 (by omega), bcc ++ [r3], fun b o e => ?_, upd_same, ?_⟩
      · rw [upd_ne (ne_of_none e hL)]
        exact s3 _ _ (s2 _ _ e)
      · rw [take_more ez2, List.map_append]
        exact papp (pimp (fun _ _ i => (i.same s3).keep hb3 k3) ha2) (.cons (i3.keep hb3 k3) .nil)
    rintro H2 ⟨bcc, s2, hb2, ha2⟩
    rw [kl, List.take_length] at ha2
    refine ⟨L, bcc, rfl, .inl ⟨.inl (.inl hb2), fun T2 hT2 => ?_⟩⟩
    have sn := same_new hT2 (.tup bcc)
    have s02 := s2.trans sn
    have hb3 := s02 _ _ hb
    generalize eH : upd H2 T2 (.tup bcc) = H3 at *
    have iT : SqT K H3 T2 bcc := .inl (.inl (by rw [← eH]; exact upd_same))
    have k3 := keep_upd (d := D) (H := H3) (o := .lst (acc ++ [.ref T2]))
    refine ⟨D, acc, .ref T2, rfl, rfl, hb3, small1000 (by omega), _, acc ++ [.ref T2], rfl, fun b o e => ?_, upd_same, ?_⟩
    · rw [upd_ne (ne_of_none e hD)]
      exact s02 _ _ (s' _ _ e)
    · rw [take_more ez, List.map_append]
      exact papp (pimp (fun _ _ i => (i.same s02).keep hb3 k3) ha) (.cons (IsSt.keep ⟨T2, bcc, rfl, iT, pimp (fun _ _ i => i.same sn) ha2⟩ hb3 k3) .nil)
  · rintro σ H' ⟨x, acc, rfl, s', hb, ha⟩
    rw [hlu, List.take_length] at ha
    refine ⟨_, rfl, D, acc, rfl, .inl ⟨.inl (.inl hb), fun T hT => ?_⟩⟩
    have sn := same_new hT (.tup acc)
    exact q _ T acc (s'.trans sn) (.inl (.inl upd_same)) (ha.same sn)
end
end My

namespace My
open PySem L2 Mth
abbrev s_law_near : Stmt := topS 95
theorem sc_law_near : FnScope ["_law_pole", "_law_one", "_law_other", "_law_way", "_law_here", "_law_along", "_law_length", "_law_ends"] ["_law_pole", "_law_one", "_law_other"] (defScope s_law_near) := ⟨rfl, rfl, rfl, by decide +kernel, rfl, by decide +kernel, by decide +kernel⟩
abbrev s_law_traced : Stmt := topS 96
theorem sc_law_traced : FnScope ["_law_told", "_law_stroke", "_law_k", "_law_least_far"] ["_law_told", "_law_stroke"] (defScope s_law_traced) := ⟨rfl, rfl, rfl, by decide +kernel, rfl, by decide +kernel, by decide +kernel⟩
section
variable {P : Program} {w : World} {K : PySem.W.Frag} {mg : Str → Option Value} {base : Heap}
/-! ### what the law says of tracing -/
structure P3n (z u v : T3) : Prop where
  oz : Ok z
  ou : Ok u
  ov : Ok v
  bz : B 600 z
  bu : B 600 u
  bv : B 600 v
theorem P3n.wide {z u v : T3} (k : P3n z u v) : P3 z u v := ⟨k.oz, k.ou, k.ov, k.bz.mono (by decide), k.bu, k.bv⟩
def sp_lnear (K : PySem.W.Frag) : Sp := fun vs H Q _ => ∃ vz vu vv z u v, vs = [vz, vu, vv] ∧ IsT K H vz z ∧ IsT K H vu u ∧ IsT K H vv v ∧ P3n z u v ∧ ∀ H' r, Same H H' → IsF K H' r (lnr z u v) → FB 16001 (lnr z u v) → Q r H'
theorem near_ends {vz vu vv vw vh va vl : V} {x : Option V} {z v t : T3} {D : Ends} {H : Hp} (iz : IsT K H vz z) (iv : IsT K H vv v) (it : IsT K H vh t) (oz : Ok z) (ov : Ok v) (ot : Ok t) (bz : B 600 z) (bv : B 600 v) (bt : B 1201 t)
    (q : ∀ H' r, Same H H' → IsF K H' r (mnF (gr t) (gr (minus z v))) → D.rt r H') :
    (tSeq (tAsg (tLst (tCons (tCl (sp_size K) (tCons (tVar 4) tNil)) (tCons (tCl (sp_size K) (tCons (tCl (sp_two K minus) (tCons (tVar 0) (tCons (tVar 2) tNil))) tNil)) tNil))) (gName 7))
      (tRet (tIf (tB (tCl (sp_lless K) (tCons (tOp (rIxL K) (tVar 7) (tC (V.int 1))) (tCons (tOp (rIxL K) (tVar 7) (tC (V.int 0))) tNil)))) (tOp (rIxL K) (tVar 7) (tC (V.int 1))) (tOp (rIxL K) (tVar 7) (tC (V.int 0))))))
      D [some vz, some vu, some vv, some vw, some vh, some va, some vl, x] H := by
  have om := minus_ok oz ov
  have bm : B 1201 (minus z v) := minus_B oz ov bz bv
  refine ⟨_, rfl, _, t, rfl, it, ot, bt.mono (by decide), fun H1 r1 s1 i1 => ?_⟩
  refine ⟨_, rfl, _, rfl, _, _, _, _, rfl, iz.same s1, iv.same s1, oz, ov, bz.mono (by decide), bv.mono (by decide), fun H2 r2 s2 i2 => ?_⟩
  refine ⟨_, _, rfl, i2, om, bm.mono (by decide), fun H3 r3 s3 i3 => ?_⟩
  refine ⟨(by show 2 ≤ sizeLine; decide), fun L hL => gn_of ?_⟩
  have sn := same_new hL (.lst [r1, r3])
  have s14 := s1.trans (s2.trans (s3.trans sn))
  have j1 := i1.same (s2.trans (s3.trans sn))
  have j3 := i3.same sn
  have hl : SqL K (upd H3 L (.lst [r1, r3])) L [r1, r3] := .inl (.inl upd_same)
  refine ⟨_, rfl, L, _, 1, _, rfl, rfl, hl, rfl, _, rfl, L, _, 0, _, rfl, rfl, hl, rfl, _, _, _, _, rfl, j3, j1, (gr_FB om bm).mono (by decide), (gr_FB ot bt).mono (by decide), _, rfl, ?_⟩
  unfold mnF at q
  cases c : lessF (gr (minus z v)) (gr t) with
  | true =>
    rw [c] at q
    exact iteT ⟨_, rfl, L, _, 1, _, rfl, rfl, hl, rfl, q _ _ s14 j3⟩
  | false =>
    rw [c] at q
    exact iteF ⟨_, rfl, L, _, 0, _, rfl, rfl, hl, rfl, q _ _ s14 j1⟩
theorem ok_law_near {f : Addr} {fd : FuncData} (d_law_minus : D P w K mg base "_law_minus" 4 (sp_two K minus)) (d_law_times : D P w K mg base "_law_times" 3 (sp_two K times)) (d_law_over : D P w K mg base "_law_over" 1 (sp_one K over)) (d_law_size : D P w K mg base "_law_size" 4 (sp_size K)) (d_law_less : D P w K mg base "_law_less" 1 (sp_lless K)) (d_law_ratio : D P w K mg base "_law_ratio" 3 (sp_ratio K))
    (F : Fun K "_law_near" "_law_near" s_law_near f fd) : FnOk P w K mg base CX0 5 f fd ["_law_pole", "_law_one", "_law_other"] (sp_lnear K) := by
  refine F.ok sc_law_near (fun vs H Q E h => ?_) (fun cdv A outer s H vs Q E hr h => ?_)
  · obtain ⟨vz, vu, vv, z, u, v, rfl, _⟩ := h
    rfl
  obtain ⟨vz, vu, vv, z, u, v, rfl, iz, iu, iv, k, q⟩ := h
  refine ⟨_, (pss_cons (ps_par (i := 3) (j := 4) (by rfl) sc_law_near.nd rfl rfl (by decide) rfl rfl (pa_cons (pc d_law_minus (hr.mono (by decide)) (pa_cons (pv 2) (pa_cons (pv 1) pa_nil))) (pa_cons (pc d_law_minus (hr.mono (by decide)) (pa_cons (pv 0) (pa_cons (pv 1) pa_nil))) pa_nil)) (by rfl))
    (pss_cons (ps_set (i := 5) sc_law_near.nd rfl (by first | exact Or.inl rfl | exact Or.inr rfl) (pc d_law_times (hr.mono (by decide)) (pa_cons (pv 4) (pa_cons (pc d_law_over (hr.mono (by decide)) (pa_cons (pv 3) pa_nil)) pa_nil))))
    (pss_cons (ps_set (i := 6) sc_law_near.nd rfl (by first | exact Or.inl rfl | exact Or.inr rfl) (pc d_law_size (hr.mono (by decide)) (pa_cons (pv 3) pa_nil)))
    (pss_cons (ps_if (PW.pt (pw_or (pt_cmpR (op_le) (pe_ix (r := rIxT K) ix_tup (pv 5) pe_int (fun _ _ => rfl)) pe_int (nomark _)) (pw_or1 (pt_not (pt_val (pc d_law_less (hr.mono (by decide)) (pa_cons (pe_tup (pa_cons (pe_ix (r := rIxT K) ix_tup (pv 5) pe_int (fun _ _ => rfl)) (pa_cons (pe_ix (r := rIxT K) ix_tup (pv 5) pe_int (fun _ _ => rfl)) pa_nil))) (pa_cons (pv 6) pa_nil)))))))) (pss_cons (ps_set (i := 7) sc_law_near.nd rfl (by first | exact Or.inl rfl | exact Or.inr rfl) (pe_lst (pa_cons (pc d_law_size (hr.mono (by decide)) (pa_cons (pv 4) pa_nil)) (pa_cons (pc d_law_size (hr.mono (by decide)) (pa_cons (pc d_law_minus (hr.mono (by decide)) (pa_cons (pv 0) (pa_cons (pv 2) pa_nil))) pa_nil)) pa_nil))))
    (pss_one (ps_ret (pe_ifExp (pt_val (pc d_law_less (hr.mono (by decide)) (pa_cons (pe_ix (r := rIxL K) ix_list (pv 7) pe_int (fun _ _ => rfl)) (pa_cons (pe_ix (r := rIxL K) ix_list (pv 7) pe_int (fun _ _ => rfl)) pa_nil)))) (pe_ix (r := rIxL K) ix_list (pv 7) pe_int (fun _ _ => rfl)) (pe_ix (r := rIxL K) ix_list (pv 7) pe_int (fun _ _ => rfl)))))) pss_nil)
    (pss_one (ps_ret (pc d_law_ratio (hr.mono (by decide)) (pa_cons (pe_op op_mulW (pe_op op_mulW (pe_ix (r := rIxT K) ix_tup (pv 5) pe_int (fun _ _ => rfl)) (pe_ix (r := rIxT K) ix_tup (pv 5) pe_int (fun _ _ => rfl))) (pe_ix (r := rIxT K) ix_tup (pv 6) pe_int (fun _ _ => rfl))) (pa_cons (pe_op op_mulW (pe_op op_mulW (pe_ix (r := rIxT K) ix_tup (pv 5) pe_int (fun _ _ => rfl)) (pe_ix (r := rIxT K) ix_tup (pv 5) pe_int (fun _ _ => rfl))) (pe_ix (r := rIxT K) ix_tup (pv 6) pe_int (fun _ _ => rfl))) pa_nil))))))))), ?_⟩
  have ow := minus_ok k.ov k.ou
  have ot := minus_ok k.oz k.ou
  have om := minus_ok k.oz k.ov
  have bw : B 1201 (minus v u) := minus_B k.ov k.ou k.bv k.bu
  have bt : B 1201 (minus z u) := minus_B k.oz k.ou k.bz k.bu
  have bm : B 1201 (minus z v) := minus_B k.oz k.ov k.bz k.bv
  have oa : Ok (alg z u v) := times_ok ot (over_ok ow)
  have ba : B 2403 (alg z u v) := times_B ot (over_ok ow) bt (over_B bw)
  have gw : FB 2403 (gr (minus v u)) := gr_FB ow bw
  refine ⟨_, rfl, _, rfl, _, _, _, _, rfl, iv, iu, k.ov, k.ou, k.bv.mono (by decide), k.bu.mono (by decide), fun H1 r1 s1 i1 => ?_⟩
  refine ⟨_, rfl, _, rfl, _, _, _, _, rfl, iz.same s1, iu.same s1, k.oz, k.ou, k.bz.mono (by decide), k.bu.mono (by decide), fun H2 r2 s2 i2 => ?_⟩
  have i1 := i1.same s2
  refine ⟨_, _, rfl, ?_⟩
  refine ⟨_, rfl, _, rfl, _, _, rfl, i1, fun H3 r3 s3 i3 => ⟨_, _, _, _, rfl, i2.same s3, i3, ot, over_ok ow, bt.mono (by decide), (over_B bw).mono (by decide), fun H4 r4 s4 i4 => gn_of ?_⟩⟩
  have i4 : IsT K H4 r4 (alg z u v) := i4
  obtain ⟨p4, rfl, t4⟩ := i4
  refine ⟨_, rfl, _, _, rfl, i1.same (s3.trans s4), ow, bw.mono (by decide), fun H5 r5 s5 i5 => gn_of ?_⟩
  have s25 := s3.trans (s4.trans s5)
  have s05 := (s1.trans s2).trans s25
  have t4 := same_T s5 t4
  have fm : FB 16001 (mnF (gr (minus z u)) (gr (minus z v))) := by
    unfold mnF
    split
    · exact (gr_FB om bm).mono (by decide)
    · exact (gr_FB ot bt).mono (by decide)
  obtain ⟨a1, a2, a3⟩ := ba
  refine ⟨_, rfl, p4, _, 0, _, rfl, rfl, t4, rfl, _, _, rfl, rfl, ?_⟩
  by_cases c1 : (alg z u v).1 ≤ 0
  · refine ⟨true, congrArg V.bl (decide_eq_true c1), iteT (iteT ?_)⟩
    have eL : lnr z u v = mnF (gr (minus z u)) (gr (minus z v)) := if_pos (.inl c1)
    rw [eL] at q
    exact near_ends (iz.same s05) (iv.same s05) (i2.same s25) k.oz k.ov ot k.bz k.bv bt fun H' r s' i' => q H' r (s05.trans s') i' fm
  · refine ⟨false, congrArg V.bl (decide_eq_false c1), iteF ?_⟩
    refine ⟨_, rfl, p4, _, 0, _, rfl, rfl, t4, rfl, _, rfl, p4, _, 2, _, rfl, rfl, t4, rfl, (by show 2 ≤ sizeLine; decide), fun p6 hp6 => ?_⟩
    have sn := same_new hp6 (.tup [.int (alg z u v).1, .int (alg z u v).2.2])
    refine ⟨_, rfl, _, _, ((alg z u v).1, (alg z u v).2.2), _, rfl, IsF.new, i5.same sn, FB.mono (n := 2403) ⟨a1, a3⟩ (by decide), gw.mono (by decide), _, rfl, ?_⟩
    cases c2 : lessF ((alg z u v).1, (alg z u v).2.2) (gr (minus v u)) with
    | false =>
      refine iteT ?_
      have eL : lnr z u v = mnF (gr (minus z u)) (gr (minus z v)) := if_pos (.inr c2)
      rw [eL] at q
      have s06 := s05.trans sn
      exact near_ends (iz.same s06) (iv.same s06) (i2.same (s25.trans sn)) k.oz k.ov ot k.bz k.bv bt fun H' r s' i' => q H' r (s06.trans s') i' fm
    | true =>
      refine iteF ?_
      have eL : lnr z u v = fr ((alg z u v).2.1 * (alg z u v).2.1 * (gr (minus v u)).2) ((alg z u v).2.2 * (alg z u v).2.2 * (gr (minus v u)).1) := if_neg (by rintro (h | h); exact c1 h; rw [c2] at h; cases h)
      rw [eL] at q
      have g0 : (gr (minus v u)).1 ≠ 0 := fun zz => by
        rw [lessF_iff (a := ((alg z u v).1, (alg z u v).2.2)) (b := gr (minus v u)) oa.1 (gr_p2 ow), decide_eq_true_eq, val_re] at c2
        have := re_pos oa
        have e0 : val (gr (minus v u)) = 0 := by unfold val; rw [zz, show ((0 : Int) : Rat) = 0 from rfl]; grind
        rw [e0] at c2
        exact c1 (this.mpr (by grind))
      have qn := mul_ne (mul_ne oa.ne oa.ne) g0
      have qb : ((alg z u v).2.2 * (alg z u v).2.2 * (gr (minus v u)).1).natAbs < 2 ^ 7209 := mul_lt (n := 4806) (m := 2403) (mul_lt (n := 2403) (m := 2403) a3 a3) gw.1
      have pb : ((alg z u v).2.1 * (alg z u v).2.1 * (gr (minus v u)).2).natAbs < 2 ^ 7209 := mul_lt (n := 4806) (m := 2403) (mul_lt (n := 2403) (m := 2403) a2 a2) gw.2
      obtain ⟨p5, rfl, t5⟩ := i5.same sn
      have t4 := same_T sn t4
      refine ⟨_, rfl, p4, _, 1, _, rfl, rfl, t4, rfl, _, rfl, p4, _, 1, _, rfl, rfl, t4, rfl, _, _, rfl, rfl, mulW a2 a2, _, rfl, p5, _, 1, _, rfl, rfl, t5, rfl, _, _, rfl, rfl, mulW (a := 4805) (mul_lt (n := 2403) (m := 2403) a2 a2) gw.2, ?_⟩
      refine ⟨_, rfl, p4, _, 2, _, rfl, rfl, t4, rfl, _, rfl, p4, _, 2, _, rfl, rfl, t4, rfl, _, _, rfl, rfl, mulW a3 a3, _, rfl, p5, _, 0, _, rfl, rfl, t5, rfl, _, _, rfl, rfl, mulW (a := 4805) (mul_lt (n := 2403) (m := 2403) a3 a3) gw.1, ?_⟩
      exact ⟨_, _, rfl, qn, up_lt (by decide) qb, fun H7 r7 s7 i7 => q _ _ (s05.trans (sn.trans s7)) i7 ((fr_FB qn pb qb).mono (by decide))⟩
theorem first_or {α : Type} (f : α → Bool) : ∀ l : List α, (∀ q ∈ l, f q = true) ∨ ∃ (j : Nat) (q : α), l[j]? = some q ∧ f q = false ∧ ∀ (j' : Nat) q', j' < j → l[j']? = some q' → f q' = true
  | [] => .inl fun q h => by cases h
  | x :: l => by
    cases c : f x with
    | false => exact .inr ⟨0, x, rfl, c, fun j' q' h => by omega⟩
    | true =>
      rcases first_or f l with h | ⟨j, q, e, c', b⟩
      · refine .inl fun q hq => ?_
        rcases List.mem_cons.mp hq with rfl | hq
        · exact c
        · exact h q hq
      · refine .inr ⟨j + 1, q, e, c', fun j' q' lt e' => ?_⟩
        cases j' with
        | zero =>
          cases e'
          exact c
        | succ n => exact b n q' (by omega) e'
theorem ctr_dot {a : Am} {z : T3} (ha : AmOk a) (hz : Ok z) : ctr a z z = rch a z := by
  have ow := minus_ok hz hz
  have ot := minus_ok ha.p hz
  have oa : Ok (alg a.pole z z) := times_ok ot (over_ok ow)
  have e0 : re (minus z z) = 0 ∧ im (minus z z) = 0 := by rw [re_minus hz hz, im_minus hz hz]; grind
  have er : re (alg a.pole z z) = 0 := by unfold alg; rw [re_times ot (over_ok ow), re_over, im_over, e0.1, e0.2]; grind
  have c1 : (alg a.pole z z).1 ≤ 0 := (re_pos oa).mpr (by rw [er]; grind)
  have eL : lnr a.pole z z = gr (minus z a.pole) := by
    unfold lnr
    rw [if_pos (.inl c1), gr_sym ha.p hz]
    unfold mnF
    split <;> rfl
  unfold ctr
  rw [eL]
  unfold rch inF
  cases lessF (gr (minus z a.pole)) (a.near * a.near, 1) <;> cases lessF (a.far * a.far, 1) (gr (minus z a.pole)) <;> rfl
structure TrSt (a : Am) (zs : List T3) : Prop where
  ok : AmOk a
  bp : B 600 a.pole
  st : StOk zs
  bd : ∀ z ∈ zs, B 600 z
def sp_ltraced (K : PySem.W.Frag) : Sp := fun vs H Q _ => ∃ vt a v zs, vs = [vt, v] ∧ IsB K H vt a ∧ IsSt K H v zs ∧ TrSt a zs ∧ (Trs a zs → ∀ H', Same H H' → Q .non H') ∧ (∀ (j : Nat) (q : T3 × T3), (tps zs)[j]? = some q → ctr a q.1 q.2 = false → (∀ (j' : Nat) q', j' < j → (tps zs)[j']? = some q' → ctr a q'.1 q'.2 = true) → ∀ H', Same H H' → Q (.int (j : Nat)) H')
theorem ok_law_traced {f : Addr} {fd : FuncData} (b_len : mg "len" = none) (b_range : mg "range" = none) (d_law_near : D P w K mg base "_law_near" 5 (sp_lnear K)) (d_law_reached : D P w K mg base "_law_reached" 5 (sp_reached K)) (d_law_less : D P w K mg base "_law_less" 1 (sp_lless K))
    (F : Fun K "_law_traced" "_law_traced" s_law_traced f fd) : FnOk P w K mg base CX0 6 f fd ["_law_told", "_law_stroke"] (sp_ltraced K) := by
  refine F.ok sc_law_traced (fun vs H Q E h => ?_) (fun cdv A outer s H vs Q E hr h => ?_)
  · obtain ⟨vt, a, v, zs, rfl, _⟩ := h
    rfl
  obtain ⟨vt, a, v, zs, rfl, ib, ⟨t, us, rfl, hT, hP⟩, ts, q0, q⟩ := h
  refine ⟨_, (pss_cons (ps_if (pt_cmpR (op_eq) (pe_callB call_len_seq (by rfl) b_len PySem.boot_len (pa_cons (pv 1) pa_nil)) pe_int (nomark _)) (pss_one (ps_ret (pe_ifExp (pt_val (pc d_law_reached (hr.mono (by decide)) (pa_cons (pv 0) (pa_cons (pe_ix (r := rIxT K) ix_tup (pv 1) pe_int (fun _ _ => rfl)) pa_nil)))) pe_non pe_int))) pss_nil)
    (pss_cons (ps_for PassesOwn.never rfl (pi_range1 (by rfl) b_range (pa_cons (pe_op op_sub (pe_callB call_len_seq (by rfl) b_len PySem.boot_len (pa_cons (pv 1) pa_nil)) pe_int) pa_nil)) (pg_name (i := 2) sc_law_traced.nd rfl (by first | exact Or.inl rfl | exact Or.inr rfl)) (pss_cons (ps_set (i := 3) sc_law_traced.nd rfl (by first | exact Or.inl rfl | exact Or.inr rfl) (pc d_law_near (hr.mono (by decide)) (pa_cons (pe_ix (r := rIxT K) ix_tup (pv 0) pe_int (fun _ _ => rfl)) (pa_cons (pe_ix (r := rIxT K) ix_tup (pv 1) (pv 2) (fun _ _ => rfl)) (pa_cons (pe_ix (r := rIxT K) ix_tup (pv 1) (pe_op op_add (pv 2) pe_int) (fun _ _ => rfl)) pa_nil)))))
    (pss_cons (ps_if (PW.pt (pw_or (pt_not (pt_val (pc d_law_reached (hr.mono (by decide)) (pa_cons (pv 0) (pa_cons (pe_ix (r := rIxT K) ix_tup (pv 1) (pv 2) (fun _ _ => rfl)) pa_nil))))) (pw_or1 (pt_not (pt_val (pc d_law_reached (hr.mono (by decide)) (pa_cons (pv 0) (pa_cons (pe_ix (r := rIxT K) ix_tup (pv 1) (pe_op op_add (pv 2) pe_int) (fun _ _ => rfl)) pa_nil)))))))) (pss_one (ps_ret (pv 2))) pss_nil)
    (pss_one (ps_if (pt_val (pc d_law_less (hr.mono (by decide)) (pa_cons (pv 3) (pa_cons (pe_tup (pa_cons (pe_op op_mulW (pe_ix (r := rIxT K) ix_tup (pv 0) pe_int (fun _ _ => rfl)) (pe_ix (r := rIxT K) ix_tup (pv 0) pe_int (fun _ _ => rfl))) (pa_cons pe_int pa_nil))) pa_nil)))) (pss_one (ps_ret (pv 2))) pss_nil)))))
    (pss_one (ps_ret pe_non)))), ?_⟩
  have hl := Paired.length hP
  have lo := ts.st.lo
  refine ⟨_, rfl, t, us, rfl, .inr hT, rfl, ?_⟩
  by_cases h1 : us.length = 1
  · refine ⟨true, congrArg V.bl (decide_eq_true (congrArg V.int (by omega))), iteT ?_⟩
    obtain ⟨z, rfl⟩ : ∃ z, zs = [z] := by
      match zs, (by omega : zs.length = 1) with
      | [z], _ => exact ⟨z, rfl⟩
    obtain ⟨x, rfl⟩ : ∃ x, us = [x] := by
      match us, h1 with
      | [x], _ => exact ⟨x, rfl⟩
    obtain ⟨z', e, ix⟩ := pgt hP (i := 0) (p := x) rfl
    cases e
    have oz := ts.st.ok z (.head _)
    have ec := ctr_dot ts.ok oz
    refine ⟨_, rfl, _, rfl, t, _, 0, _, rfl, rfl, hT, rfl, vt, a, x, z, rfl, ib, ts.ok, ts.bp.mono (by decide), ix, oz, (ts.bd z (.head _)).mono (by decide), fun H1 s1 => ?_⟩
    refine ⟨_, rfl, ?_⟩
    cases c : rch a z with
    | true =>
      refine iteT (q0 (fun q hq => ?_) H1 s1)
      have hq : q ∈ [(z, z)] := hq
      simp only [List.mem_cons, List.mem_nil_iff, or_false] at hq
      subst hq
      rw [ec, c]
    | false => exact iteF (q 0 (z, z) rfl (by rw [ec, c]) (fun j' q' h => by omega) H1 s1)
  · refine ⟨false, congrArg V.bl (decide_eq_false fun z => h1 (by injection z; omega)), iteF ?_⟩
    have e : tps zs = zs.zip (zs.drop 1) := by
      match zs, (by omega : zs.length ≠ 1) with
      | [], _ => rfl
      | [_], h => exact absurd rfl h
      | _ :: _ :: _, _ => rfl
    have lt : (tps zs).length = us.length - 1 := by rw [e, List.length_zip, List.length_drop]; omega
    have hi := ts.st.hi
    refine ⟨_, rfl, t, us, rfl, .inr hT, _, _, rfl, rfl, ?_⟩
    refine ⟨_, rfl, by omega, by omega, ?_⟩
    refine for_range (lo := 0) (n := ((us.length : Int) - 1).toNat) (fun i σ H' => ∃ x y, σ = [some vt, some (.ref t), x, y] ∧ Same H H' ∧ ∀ (j' : Nat) q', j' < i → (tps zs)[j']? = some q' → ctr a q'.1 q'.2 = true) ⟨none, none, rfl, Same.refl _, fun j' q' h => by omega⟩ ?_ ?_
    · rintro i σ H' hi' ⟨x, y, rfl, s', hb⟩
      rw [Int.zero_add]
      have li : i + 1 < us.length := by omega
      obtain ⟨u1, eu1⟩ : ∃ u1, us[i]? = some u1 := ⟨us[i]'(by omega), by simp⟩
      obtain ⟨u2, eu2⟩ : ∃ u2, us[i + 1]? = some u2 := ⟨us[i + 1]'(by omega), by simp⟩
      obtain ⟨z1, ez1, i1⟩ := pgt hP eu1
      obtain ⟨z2, ez2, i2⟩ := pgt hP eu2
      have m1 := List.mem_of_getElem? ez1
      have m2 := List.mem_of_getElem? ez2
      have o1 := ts.st.ok z1 m1
      have o2 := ts.st.ok z2 m2
      have eq : (tps zs)[i]? = some (z1, z2) := by rw [e, List.getElem?_zip_eq_some, List.getElem?_drop, Nat.add_comm]; exact ⟨ez1, ez2⟩
      have k : P3n a.pole z1 z2 := ⟨ts.ok.p, o1, o2, ts.bp, ts.bd z1 m1, ts.bd z2 m2⟩
      have hT' := same_T s' hT
      have a1 := atI_nat eu1
      have a2 : atI us ((i : Int) + 1) = some u2 := atI_nat (j := i + 1) eu2
      obtain ⟨p, uu, zz, rfl, g1, g2, g3⟩ := ib.same s'
      refine gn_of ?_
      refine ⟨_, rfl, p, _, 0, _, rfl, rfl, g1, rfl, _, rfl, _, rfl, t, us, _, _, rfl, rfl, hT', a1, _, rfl, _, rfl, _, _, rfl, rfl, t, us, _, _, rfl, rfl, hT', a2, ?_⟩
      refine ⟨_, _, _, a.pole, z1, z2, rfl, ⟨uu, rfl, g2⟩, i1.same s', i2.same s', k, fun H1 r1 s1 ir fb => gn_of ?_⟩
      have s2 := s'.trans s1
      have lo' := ts.ok.lo
      have mi' := ts.ok.mi
      have hi2 := ts.ok.hi
      refine ⟨_, rfl, _, rfl, _, rfl, t, us, _, _, rfl, rfl, same_T s1 hT', a1, _, a, _, z1, rfl, ib.same s2, ts.ok, ts.bp.mono (by decide), i1.same s2, o1, (ts.bd z1 m1).mono (by decide), fun H2 s3 => ⟨_, rfl, ?_⟩⟩
      have s23 := s2.trans s3
      cases c1 : rch a z1 with
      | false =>
        refine iteT (iteT ?_)
        exact ⟨_, rfl, q i (z1, z2) eq (by unfold ctr; rw [c1]; rfl) hb H2 s23⟩
      | true =>
        refine iteF ?_
        refine ⟨_, rfl, _, rfl, _, rfl, _, _, rfl, rfl, t, us, _, _, rfl, rfl, same_T (s1.trans s3) hT', a2, _, a, _, z2, rfl, ib.same s23, ts.ok, ts.bp.mono (by decide), i2.same s23, o2, (ts.bd z2 m2).mono (by decide), fun H3 s4 => ⟨_, rfl, ?_⟩⟩
        have s24 := s23.trans s4
        cases c2 : rch a z2 with
        | false =>
          refine iteT ?_
          exact ⟨_, rfl, q i (z1, z2) eq (by unfold ctr; rw [c1, c2]; rfl) hb H3 s24⟩
        | true =>
          refine iteF ?_
          have g1' := same_T (s1.trans (s3.trans s4)) g1
          refine ⟨_, rfl, _, rfl, p, _, 2, _, rfl, rfl, g1', rfl, _, rfl, p, _, 2, _, rfl, rfl, g1', rfl, _, _, rfl, rfl, nn10 lo' (by omega), (by show 2 ≤ sizeLine; decide), fun p5 hp5 => ?_⟩
          have sn := same_new hp5 (.tup [.int (a.near * a.near), .int 1])
          refine ⟨_, _, _, (a.near * a.near, 1), rfl, (ir.same (s3.trans s4)).same sn, IsF.new, fb, near_FB lo' (by omega), _, rfl, ?_⟩
          have s25 := s24.trans sn
          cases c3 : lessF (lnr a.pole z1 z2) (a.near * a.near, 1) with
          | true => exact iteT ⟨_, rfl, q i (z1, z2) eq (by unfold ctr; rw [c1, c2, c3]; rfl) hb _ s25⟩
          | false =>
            refine iteF ⟨_, _, rfl, s25, fun j' q' hj e' => ?_⟩
            by_cases ej : j' = i
            · subst ej
              rw [eq] at e'
              cases e'
              unfold ctr
              rw [c1, c2, c3]
              rfl
            · exact hb j' q' (by omega) e'
    · rintro σ H' ⟨x, y, rfl, s', hb⟩
      refine q0 (fun q hq => ?_) H' s'
      obtain ⟨j, hj, rfl⟩ := List.mem_iff_getElem.mp hq
      exact hb j _ (by omega) (by simp)
end
end My

namespace My
open PySem L2 Mth
abbrev s_law_missed : Stmt := topS 100
theorem sc_law_missed : FnScope ["_law_tolds", "_law_strokes", "_law_number", "_law_index", "_law_part", "_law_told"] ["_law_tolds", "_law_strokes"] (defScope s_law_missed) := ⟨rfl, rfl, rfl, by decide +kernel, rfl, by decide +kernel, by decide +kernel⟩
section
variable {P : Program} {w : World} {K : PySem.W.Frag} {mg : Str → Option Value} {base : Heap}
/-! ### what the law says of arms one after another -/
def sp_lmissed (K : PySem.W.Frag) : Sp := fun vs H Q _ => ∃ l vts as t us zss, vs = [.ref l, .ref t] ∧ H l = some (.lst vts) ∧ Paired (IsB K H) vts as ∧ SqT K H t us ∧ AllSt K H us zss ∧ as.length ≤ 100 ∧ (∀ n a, as[n]? = some a → TrIn a (mvs as n zss) ∧ B 1000 a.t ∧ B 600 a.pole) ∧
  (∀ (n i j : Nat) a, as[n]? = some a → Miss a (mvs as n zss) i j → (∀ n' a', n' < n → as[n']? = some a' → ∀ zs ∈ mvs as n' zss, Trs a' zs) → ∀ H' p m e, Same H H' → SqT K H' p [.ref m, e] → SqT K H' m [.int (n : Nat), .int (i : Nat), .int (j : Nat)] → Q (.ref p) H') ∧
  ((∀ n a, as[n]? = some a → ∀ zs ∈ mvs as n zss, Trs a zs) → ∀ H' p t' ws, Same H H' → SqT K H' p [.non, .ref t'] → SqT K H' t' ws → AllSt K H' ws (mvs as as.length zss) → Q (.ref p) H')
theorem ok_law_missed {f : Addr} {fd : FuncData} (b_len : mg "len" = none) (b_range : mg "range" = none) (d_law_traced : D P w K mg base "_law_traced" 6 (sp_ltraced K)) (d_law_about : D P w K mg base "_law_about" 5 (sp_labout K)) (d_law_moved : D P w K mg base "_law_moved" 5 (sp_lmoved K))
    (F : Fun K "_law_missed" "_law_missed" s_law_missed f fd) : FnOk P w K mg base CX0 7 f fd ["_law_tolds", "_law_strokes"] (sp_lmissed K) := by
  refine F.ok sc_law_missed (fun vs H Q E h => ?_) (fun cdv A outer s H vs Q E hr h => ?_)
  · obtain ⟨l, vts, as, t, us, zss, rfl, _⟩ := h
    rfl
  obtain ⟨l, vts, as, t, us, zss, rfl, hL, hB, hT, hA, hn, ti, q, q0⟩ := h
  refine ⟨_, (pss_cons (ps_for PassesOwn.never rfl (pi_range1 (by rfl) b_range (pa_cons (pe_callB call_len_seq (by rfl) b_len PySem.boot_len (pa_cons (pv 0) pa_nil)) pa_nil)) (pg_name (i := 2) sc_law_missed.nd rfl (by first | exact Or.inl rfl | exact Or.inr rfl)) (pss_cons (ps_for PassesOwn.never rfl (pi_range1 (by rfl) b_range (pa_cons (pe_callB call_len_seq (by rfl) b_len PySem.boot_len (pa_cons (pv 1) pa_nil)) pa_nil)) (pg_name (i := 3) sc_law_missed.nd rfl (by first | exact Or.inl rfl | exact Or.inr rfl)) (pss_cons (ps_set (i := 4) sc_law_missed.nd rfl (by first | exact Or.inl rfl | exact Or.inr rfl) (pc d_law_traced (hr.mono (by decide)) (pa_cons (pe_ix (r := rIxL K) ix_list (pv 0) (pv 2) (fun _ _ => rfl)) (pa_cons (pe_ix (r := rIxT K) ix_tup (pv 1) (pv 3) (fun _ _ => rfl)) pa_nil))))
    (pss_one (ps_if (pt_cmpR (op_notN) (pv 4) pe_non (nomark _)) (pss_one (ps_ret (pe_tup (pa_cons (pe_tup (pa_cons (pv 2) (pa_cons (pv 3) (pa_cons (pv 4) pa_nil)))) (pa_cons (pe_tup pa_nil) pa_nil))))) pss_nil))))
    (pss_cons (ps_set (i := 5) sc_law_missed.nd rfl (by first | exact Or.inl rfl | exact Or.inr rfl) (pc d_law_about (hr.mono (by decide)) (pa_cons (pe_ix (r := rIxL K) ix_list (pv 0) (pv 2) (fun _ _ => rfl)) pa_nil)))
    (pss_one (ps_set (i := 1) sc_law_missed.nd rfl (by first | exact Or.inl rfl | exact Or.inr rfl) (pc d_law_moved (hr.mono (by decide)) (pa_cons (pv 5) (pa_cons (pv 1) pa_nil))))))))
    (pss_one (ps_ret (pe_tup (pa_cons pe_non (pa_cons (pv 1) pa_nil)))))), ?_⟩
  have hl := Paired.length hB
  refine ⟨_, rfl, l, vts, rfl, .inl (.inl (.inl hL)), ?_⟩
  refine ⟨_, rfl, by omega, by omega, ?_⟩
  refine for_range (lo := 0) (n := (vts.length : Int).toNat) (fun n σ H' => ∃ t' ws x y z u, σ = [some (.ref l), some (.ref t'), x, y, z, u] ∧ Same H H' ∧ SqT K H' t' ws ∧ AllSt K H' ws (mvs as n zss) ∧ ∀ n' a', n' < n → as[n']? = some a' → ∀ zs ∈ mvs as n' zss, Trs a' zs) ⟨t, us, none, none, none, none, rfl, Same.refl _, hT, hA, fun n' a' h => by omega⟩ ?_ ?_
  · rintro n σ H1 hn1 ⟨t1, ws, x, y, z, u, rfl, s1, hT1, hA1, hb⟩
    rw [Int.zero_add]
    obtain ⟨vn, evn⟩ : ∃ vn, vts[n]? = some vn := ⟨vts[n]'(by omega), by simp⟩
    obtain ⟨a, ea, ib⟩ := pgt hB evn
    obtain ⟨tn, bt, bp6⟩ := ti n a ea
    have hlw := Paired.length hA1
    have hd := tn.dr.len
    refine gn_of ?_
    refine ⟨_, rfl, t1, ws, rfl, .inr hT1, ?_⟩
    refine ⟨_, rfl, by omega, by omega, ?_⟩
    refine for_range (lo := 0) (n := (ws.length : Int).toNat) (fun i σ H' => ∃ y z, σ = [some (.ref l), some (.ref t1), some (.int (n : Nat)), y, z, u] ∧ Same H H' ∧ Same H1 H' ∧ ∀ i' zs', i' < i → (mvs as n zss)[i']? = some zs' → Trs a zs') ⟨y, z, rfl, s1, Same.refl _, fun i' a' h => by omega⟩ ?_ ?_
    · rintro i σ H2 hi ⟨y, z, rfl, s2, s12, hbi⟩
      rw [Int.zero_add]
      obtain ⟨vi, evi⟩ : ∃ vi, ws[i]? = some vi := ⟨ws[i]'(by omega), by simp⟩
      obtain ⟨zs, ez, iz⟩ := pgt hA1 evi
      have mz := List.mem_of_getElem? ez
      refine gn_of ?_
      refine ⟨_, rfl, _, rfl, l, vts, _, _, rfl, rfl, .inl (.inl (s2 _ _ hL)), atI_nat evn, _, rfl, _, rfl, t1, ws, _, _, rfl, rfl, same_T s12 hT1, atI_nat evi, ?_⟩
      refine ⟨_, a, _, zs, rfl, ib.same s2, iz.same s12, ⟨tn.ok, bp6, tn.dr.ok zs mz, fun z hz => tn.bd z (List.mem_flatten.mpr ⟨zs, mz, hz⟩)⟩, fun tr H3 s3 => gn_of ?_, fun j qq ej cj cb H3 s3 => gn_of ?_⟩
      · refine ⟨_, rfl, rfl, false, rfl, iteF ?_⟩
        refine ⟨_, _, rfl, s2.trans s3, s12.trans s3, fun i' zs' hi' e' => ?_⟩
        by_cases ei : i' = i
        · subst ei
          rw [ez] at e'
          cases e'
          exact tr
        · exact hbi i' zs' (by omega) e'
      · refine ⟨_, rfl, rfl, true, rfl, iteT ?_⟩
        refine ⟨_, rfl, _, rfl, _, rfl, (by show 3 ≤ sizeLine; decide), fun m hm => ?_⟩
        have sm := same_new hm (.tup [.int (n : Nat), .int (i : Nat), .int (j : Nat)])
        refine ⟨(by show 0 ≤ sizeLine; decide), fun e he => ⟨(by show 2 ≤ sizeLine; decide), fun p hp => ?_⟩⟩
        have se := same_new he (.tup [])
        have sp := same_new hp (.tup [.ref m, .ref e])
        refine q n i j a ea ⟨⟨zs, qq, ez, ej, cj, cb⟩, hbi⟩ hb _ p m (.ref e) ((s2.trans s3).trans (sm.trans (se.trans sp))) (.inl (.inl upd_same)) (same_T (se.trans sp) (.inl (.inl upd_same)))
    · rintro σ H2 ⟨y, z, rfl, s2, s12, hbi⟩
      refine ⟨_, rfl, _, rfl, l, vts, _, _, rfl, rfl, .inl (.inl (s2 _ _ hL)), atI_nat evn, ?_⟩
      refine ⟨_, a, rfl, ib.same s2, tn.ok, bp6.mono (by decide), bt, fun H3 r3 s3 i3 => gn_of ?_⟩
      refine ⟨_, rfl, _, rfl, _, about a, t1, ws, _, rfl, i3, about_ok tn.ok, tn.bc, same_T (s12.trans s3) hT1, hA1.same (s12.trans s3), by omega, tn.dr.ok, fun z hz => (tn.bd z hz).mono (by decide), fun H4 p4 ws4 s4 hT4 hA4 => gn_of ?_⟩
      refine ⟨p4, ws4, _, _, _, _, rfl, s2.trans (s3.trans s4), hT4, by rw [mvs_succ ea]; exact hA4, fun n' a' hn' e' zs' hz' => ?_⟩
      by_cases en : n' = n
      · subst en
        rw [ea] at e'
        cases e'
        obtain ⟨i', hi', rfl⟩ := List.mem_iff_getElem.mp hz'
        exact hbi i' _ (by omega) (by simp)
      · exact hb n' a' (by omega) e' zs' hz'
  · rintro σ H1 ⟨t1, ws, x, y, z, u, rfl, s1, hT1, hA1, hb⟩
    have en : (vts.length : Int).toNat = as.length := by omega
    rw [en] at hA1 hb
    refine ⟨_, rfl, (by show 2 ≤ sizeLine; decide), fun p hp => ?_⟩
    have sp := same_new hp (.tup [.non, .ref t1])
    refine q0 (fun n a ea => hb n a (List.getElem?_eq_some_iff.mp ea).1 ea) _ p t1 ws (s1.trans sp) (.inl (.inl upd_same)) (same_T sp hT1) (hA1.same sp)
end
end My

namespace My
open PySem L2 Mth LamX
/-! ### how great what is drawn may become -/
theorem mv1_B {a : Am} {zss : List (List T3)} {n m : Nat} (ha : AmOk a) (hb : BC m (about a)) (ok : DrOk zss) (h : ∀ z ∈ zss.flatten, B n z) : ∀ z ∈ (mv1 a zss).flatten, B (m + n + 1 + m + 1) z := by
  intro z hz
  obtain ⟨zs, h1, h2⟩ := List.mem_flatten.mp hz
  obtain ⟨ws, h3, rfl⟩ := List.mem_map.mp h1
  obtain ⟨y, h4, rfl⟩ := List.mem_map.mp h2
  have o := about_ok ha
  exact car_B o.t o.s ((ok.ok ws h3).ok y h4) hb.1 hb.2 (h y (List.mem_flatten.mpr ⟨ws, h3, h4⟩))
theorem mvs_dr {as : List Am} {zss : List (List T3)} (h : ∀ a ∈ as, AmOk a) (ok : DrOk zss) : ∀ n, DrOk (mvs as n zss)
  | 0 => ok
  | n + 1 => by
    cases e : as[n]? with
    | none =>
      have hl := List.getElem?_eq_none_iff.mp e
      unfold mvs
      rw [List.take_of_length_le (by omega)]
      have := mvs_dr h ok n
      unfold mvs at this
      rw [List.take_of_length_le hl] at this
      exact this
    | some a =>
      rw [mvs_succ e]
      exact dr_map (about_ok (h a (List.mem_of_getElem? e))) (mvs_dr h ok n)
theorem mvs_B {as : List Am} {zss : List (List T3)} {k m : Nat} (h : ∀ a ∈ as, AmOk a ∧ BC m (about a)) (ok : DrOk zss) (hb : ∀ z ∈ zss.flatten, B k z) : ∀ n, ∀ z ∈ (mvs as n zss).flatten, B (k + n * (2 * m + 2)) z
  | 0 => fun z hz => (hb z hz).mono (by omega)
  | n + 1 => by
    cases e : as[n]? with
    | none =>
      have hl := List.getElem?_eq_none_iff.mp e
      intro z hz
      have := mvs_B h ok hb n z
      unfold mvs at this hz
      rw [List.take_of_length_le hl] at this
      rw [List.take_of_length_le (by omega)] at hz
      exact (this hz).mono (by have := Nat.add_mul n 1 (2 * m + 2); omega)
    | some a =>
      rw [mvs_succ e]
      obtain ⟨h1, h2⟩ := h a (List.mem_of_getElem? e)
      intro z hz
      exact (mv1_B h1 h2 (mvs_dr (fun a ha => (h a ha).1) ok n) (mvs_B h ok hb n) z hz).mono (by have := Nat.add_mul n 1 (2 * m + 2); omega)
theorem tr_all {as : List Am} {zss : List (List T3)} {k : Nat} (h : ∀ a ∈ as, ArmIn a) (hl : as.length ≤ 12) (ok : DrOk zss) (hb : ∀ z ∈ zss.flatten, B k z) (hk : k ≤ 200) : ∀ n a, as[n]? = some a → TrIn a (mvs as n zss) := by
  intro n a e
  have ai := h a (List.mem_of_getElem? e)
  have ln := (List.getElem?_eq_some_iff.mp e).1
  have bab : BC 11 (about a) := about_BC ai.ok ai.bp ai.bt
  refine ⟨ai.ok, ai.bp.mono (by decide), ⟨bab.1.mono (by decide), bab.2.mono (by decide)⟩, mvs_dr (fun a ha => (h a ha).ok) ok n, fun z hz => ?_⟩
  exact (mvs_B (m := 11) (fun a ha => ⟨(h a ha).ok, about_BC (h a ha).ok (h a ha).bp (h a ha).bt⟩) ok hb n z hz).mono (by omega)
end My

namespace My
open PySem L2 Mth LamX
section
variable {K : PySem.W.Frag}
/-! ### tables and what is told while one list changes -/
theorem tabs_keep {T : List (Addr × Str)} {H H' : Hp} {d : Addr} {ys : List V} (h : Tabs T H) (hd : H d = some (.lst ys)) (k : Keep d H H') : Tabs T H' := fun p hp => TabS.keep (h p hp) hd k
theorem ExtN.upd_new {H H1 : Hp} {D : Addr} {o : HO} (hD : H D = none) (e : ExtN H H1) : ExtN H (upd H1 D o) := fun b ob h n => by
  rw [upd_ne (ne_of_none h hD)]
  exact e b ob h n
theorem IsB.extN {H H' : Hp} {v : V} {a : Am} (h : IsB K H v a) (e : ExtN H H') : IsB K H' v a := by
  obtain ⟨q1, q2, q3, rfl, x1, x2, x3⟩ := h
  exact ⟨q1, q2, q3, rfl, extN_T x1 e, extN_T x2 e, extN_T x3 e⟩
theorem AllB.extN {H H' : Hp} {us : List V} {as : List Am} (h : AllB K H us as) (e : ExtN H H') : AllB K H' us as := pimp (fun _ _ i => i.extN e) h
theorem AllSt.extN {H H' : Hp} {us : List V} {zss : List (List T3)} (h : AllSt K H us zss) (e : ExtN H H') : AllSt K H' us zss := pimp (fun _ _ i => i.extN e) h
theorem IsP.keep {H H' : Hp} {vv : V} {u v : T3} {d : Addr} {ys : List V} (h : IsP K H vv u v) (hd : H d = some (.lst ys)) (k : Keep d H H') : IsP K H' vv u v := by
  obtain ⟨p, a, b, rfl, h1, h2, h3⟩ := h
  exact ⟨p, a, b, rfl, keep_T h1 hd k, h2.keep hd k, h3.keep hd k⟩
end
end My

namespace My
open PySem L2 Mth
theorem pgu {α β : Type} {R : α → β → Prop} {ps : List α} {ts : List β} (h : Paired R ps ts) {i : Nat} {t : β} (e : ts[i]? = some t) : ∃ p, ps[i]? = some p ∧ R p t := by
  have hl := Paired.length h
  have li := (List.getElem?_eq_some_iff.mp e).1
  obtain ⟨u, eu⟩ : ∃ u, ps[i]? = some u := ⟨ps[i]'(by omega), by simp⟩
  obtain ⟨t', et, r⟩ := pgt h eu
  rw [e] at et
  cases et
  exact ⟨u, eu, r⟩
end My

namespace My
open PySem L2 Mth LamX
section
/-! ### making and adding that raise; == with an int -/
def tMakeSX (K : PySem.W.Frag) (C : Addr) (sp : Sp) (E : XK) (te : TE) : TE := fun σ H Q => te σ H fun y H1 => ∃ a xs, y = V.ref a ∧ (SqT K H1 a xs ∨ SqL K H1 a xs) ∧ ∀ x dx, H1 x = none → H1 dx = none → dx ≠ x → sp (.ref x :: xs) (upd (upd H1 dx (.own x)) x (.ins C dx [])) (fun v H2 => v = .non ∧ Q (.ref x) H2) E
theorem pe_makeSX {X : Cx} {k : Nat} {f C : Addr} {sp : Sp} {E : XK} {x : Str} {p pos sp_ : Pos} {e : Expr} {te : TE} (M : Mk X.K C f) (F : FnR X.prog X.w X.K X.mg X.base (L2.CX X.prog X.w) k f sp) (hr : Room (k + 1) X.A) (hg : Gl X x) (hm : X.mg x = some (.ref C)) (hx : Passes (L2.CX X.prog X.w) X E) (he : PE X e te) (hdb : (x == ("__debug__" : Str)) = false := by decide)
    (hst : starEach [.Starred e sp_] X.env = [(true, eval e X.env)] := by rfl) : PE X (.Call (.Name x p) [.Starred e sp_] [] pos) (tMakeSX X.K C sp E te) := by
  refine ⟨fun pins s σ H Q I h => ?_⟩
  refine wpAny_Call_Name_kw (ld_glob I hg hm ?_ hdb)
  refine PySem.W.callWith_S (h₀ := X.base) I.ok.mod.kin M.kp (thn (he.run pins s σ H _ I h) fun v s1 ⟨y, H1, I1, ry, a, xs, ey, hxs, q⟩ => ?_) hst
  subst ey
  obtain rfl : v = Value.ref a := ry
  exact StX.star_any I1 hxs fun us s2 I2 rv => ⟨I2.kIn, StX.run_makeR M F hr hx I2 rv q⟩
def rOwn2X (C : Addr) (sp : Sp) (E : XK) : R2 := fun x y H Q => ∃ a b dx fs dy gs, x = .ref a ∧ y = .ref b ∧ H a = some (.ins C dx fs) ∧ H b = some (.ins C dy gs) ∧ sp [.ref a, .ref b] H Q E
def rOwnI (C : Addr) (sp : Sp) : R2 := fun x y H Q => ∃ a dx fs i, x = .ref a ∧ y = .int i ∧ H a = some (.ins C dx fs) ∧ sp [.ref a, .int i] H Q E0
end
end My

namespace My
open PySem L2 Mth
abbrev s_Chain___getitem__ : Stmt := inClass (topS 69) 4
theorem sc_Chain___getitem__ : FnScope ["self", "at"] ["self", "at"] (defScope s_Chain___getitem__) := ⟨rfl, rfl, rfl, by decide +kernel, rfl, by decide +kernel, by decide +kernel⟩
abbrev s_Chain___len__ : Stmt := inClass (topS 69) 3
theorem sc_Chain___len__ : FnScope ["self"] ["self"] (defScope s_Chain___len__) := ⟨rfl, rfl, rfl, by decide +kernel, rfl, by decide +kernel, by decide +kernel⟩
section
variable {P : Program} {w : World} {K : PySem.W.Frag} {mg : Str → Option Value} {base : Heap}
/-! ### len and items of chains -/
def sp_hlen (K : PySem.W.Frag) (C CA CH : Addr) : Sp := fun vs H Q _ => ∃ va as, vs = [va] ∧ IsH K C CA CH H va as ∧ Q (.int (as.length : Nat)) H
theorem ok_hlen {f C CA CH : Addr} {fd : FuncData} (T : HTxt K CH) (b_len : mg "len" = none) (F : Fun K "__len__" "Chain.__len__" s_Chain___len__ f fd) : FnOk P w K mg base CX0 1 f fd ["self"] (sp_hlen K C CA CH) := by
  refine F.ok sc_Chain___len__ (fun vs H Q E h => ?_) (fun cdv A outer s H vs Q E hr h => ?_)
  · obtain ⟨va, as, rfl, _⟩ := h
    rfl
  obtain ⟨va, as, rfl, ⟨p, dx, t, c, us, rfl, h1, h2, h3, h4⟩, q⟩ := h
  refine ⟨_, (pss_one (ps_ret (pe_callB call_len_seq (by rfl) b_len PySem.boot_len (pa_cons (pe_fld (pv 0) rfl) pa_nil)))), ?_⟩
  refine ⟨_, rfl, p, CH, dx, _, _, rfl, h1, T.cl, T.nK, hf_links, t, us, rfl, .inr h2, ?_⟩
  rw [Paired.length h3]
  exact q
def sp_hget (K : PySem.W.Frag) (C CA CH : Addr) : Sp := fun vs H Q _ => ∃ va i as a, vs = [va, .int i] ∧ IsH K C CA CH H va as ∧ atI as i = some a ∧ ∀ v, IsA K C CA H v a → Q v H
theorem ok_hget {f C CA CH : Addr} {fd : FuncData} (T : HTxt K CH) (F : Fun K "__getitem__" "Chain.__getitem__" s_Chain___getitem__ f fd) : FnOk P w K mg base CX0 1 f fd ["self", "at"] (sp_hget K C CA CH) := by
  refine F.ok sc_Chain___getitem__ (fun vs H Q E h => ?_) (fun cdv A outer s H vs Q E hr h => ?_)
  · obtain ⟨va, i, as, a, rfl, _⟩ := h
    rfl
  obtain ⟨va, i, as, a, rfl, ⟨p, dx, t, c, us, rfl, h1, h2, h3, h4⟩, e, q⟩ := h
  refine ⟨_, (pss_one (ps_ret (pe_ix (r := rIxT K) ix_tup (pe_fld (pv 0) rfl) (pv 1) (fun _ _ => rfl)))), ?_⟩
  obtain ⟨u, eu, iu⟩ := pairedI h3 e
  exact ⟨_, rfl, p, CH, dx, _, _, rfl, h1, T.cl, T.nK, hf_links, _, rfl, t, us, i, u, rfl, rfl, h2, eu, q u iu⟩
end
end My

namespace My
open PySem L2 Mth
section
variable {P : Program} {w : World} {K : PySem.W.Frag} {mg : Str → Option Value} {base : Heap}
/-! ### len and items of chains, for their users -/
structure MHl (P : Program) (w : World) (K : PySem.W.Frag) (mg : Str → Option Value) (base : Heap) (C CA CH : Addr) : Prop where
  ex : ∃ f, FnR P w K mg base CX0 1 f (sp_hlen K C CA CH) ∧ PySem.W.findIn K (.ref CH) "__len__" = some (some (.ref f)) ∧ PySem.W.isFn K (.ref f) = true
theorem cr_hlen {X : Cx} {C CA CH : Addr} (M : MHl X.prog X.w X.K X.mg X.base C CA CH) (hr : Room 2 X.A) : CallR X (.builtin "len") (rLenO CH (sp_hlen X.K C CA CH)) := by
  obtain ⟨f, F, h1, h2⟩ := M.ex
  exact cr_lenO F hr h1 h2
theorem hlen_of {C CA CH : Addr} {H : Hp} {Q : VK} {v : V} {as : List Am} (i : IsH K C CA CH H v as) (h : as.length ≤ 1000) (q : Q (.int (as.length : Nat)) H) : rLenO CH (sp_hlen K C CA CH) [v] H Q := by
  obtain ⟨p, dx, _, _, _, rfl, h1, _⟩ := id i
  exact ⟨p, dx, _, rfl, h1, _, as, rfl, i, _, rfl, by omega, by omega, q⟩
structure MHg (P : Program) (w : World) (K : PySem.W.Frag) (mg : Str → Option Value) (base : Heap) (C CA CH : Addr) : Prop where
  ex : ∃ f, FnR P w K mg base CX0 1 f (sp_hget K C CA CH) ∧ PySem.W.findIn K (.ref CH) "__getitem__" = some (some (.ref f)) ∧ PySem.W.isFn K (.ref f) = true ∧ PySem.W.fnIn K f = true
theorem pe_hget {X : Cx} {C CA CH : Addr} {a b : Expr} {ta tb : TE} {pos : Pos} (hK : X.K = K) (M : MHg X.prog X.w X.K X.mg X.base C CA CH) (hr : Room 2 X.A) (ha : PE X a ta) (hb : PE X b tb)
    (hsl : ∀ o i, subscripted b true o i = runValue (.builtin "lifetime.subscript" ⟨[o, i], []⟩) := by intro _ _; rfl) : PE X (.Subscript a b pos) (tOp (rIxO CH (sp_hget K C CA CH)) ta tb) := by
  subst hK
  obtain ⟨f, F, h1, h2, h3⟩ := M.ex
  exact pe_ixO F hr h1 h2 h3 ha hb hsl
theorem hget_of {C CA CH : Addr} {H : Hp} {Q : VK} {v : V} {as : List Am} {a : Am} {i : Int} (ih : IsH K C CA CH H v as) (e : atI as i = some a) (q : ∀ u, IsA K C CA H u a → Q u H) : rIxO CH (sp_hget K C CA CH) v (.int i) H Q := by
  obtain ⟨p, dx, _, _, _, rfl, h1, _⟩ := id ih
  exact ⟨p, dx, _, i, rfl, rfl, h1, _, i, as, a, rfl, ih, e, q⟩
end
end My

namespace My
open PySem L2 Mth LamX
section
variable {P : Program} {w : World} {K : PySem.W.Frag} {mg : Str → Option Value} {base : Heap}
/-! ### draw, for its users -/
theorem hf_no {t c : Addr} {x : Str} (h1 : (x == ("links" : Str)) = false) (h2 : (x == ("pen" : Str)) = false) : (hf t c).lookup x = none := by
  unfold hf
  simp only [List.lookup, h1, h2]
structure MHd (P : Program) (w : World) (K : PySem.W.Frag) (mg : Str → Option Value) (base : Heap) (C CA CH CW : Addr) (T : List (Addr × Str)) : Prop where
  cl : Cls K CH
  ex : ∃ f fd, FnOk P w K mg base CX0 9 f fd ["self", "drawing"] (sp_hdraw K C CA CH CW T) ∧ Binds K fd ["self", "drawing"] [] ∧ Meth K CH "draw" f
theorem pe_hdraw {X : Cx} {C CA CH CW : Addr} {T : List (Addr × Str)} {o e : Expr} {to : TE} {t : TA} {apos pos : Pos} {pl : Sem Bool} (M : MHd X.prog X.w X.K X.mg X.base C CA CH CW T) (hr : Room 9 X.A) (ho : PE X o to) (ha : PA X [e] t)
    (hs1 : starEach [e] X.env = (false, eval e X.env) :: starEach [] X.env := by rfl) (hs2 : (backTo pos (starEach [] X.env)).any (·.1) = false := by rfl)
    (ht : eval (.Call (.Attribute o "draw" apos) [e] [] pos) X.env = (do
      let ov ← eval o X.env
      standAt apos.atName
      let (g, first) ← holding [ov] (getMethod ov "draw" pl)
      callWith pos g first (backTo pos (starEach [e] X.env)) (backToKw pos (keywordEach [] X.env))) := by rfl) :
    PE X (.Call (.Attribute o "draw" apos) [e] [] pos) (tMeth CH "draw" (sp_hdraw X.K C CA CH CW T) [] E0 to t) := by
  obtain ⟨f, fd, F, b, m⟩ := M.ex
  exact pe_meth ho M.cl m F hr b .nil pass0 ha hs1 hs2 ht
theorem hdraw_of {C CA CH CW : Addr} {T : List (Addr × Str)} {H : Hp} {Q : VK} {v : V} {as : List Am} (i : IsH K C CA CH H v as) {t : TA} {σ : L2.St} (q : t σ H fun vs H2 => sp_hdraw K C CA CH CW T (v :: (vs ++ [])) H2 Q E0) : ∃ a dx fs, v = .ref a ∧ H a = some (.ins CH dx fs) ∧ fs.lookup ("draw" : Str) = none ∧ t σ H fun vs H2 => sp_hdraw K C CA CH CW T (v :: (vs ++ [])) H2 Q E0 := by
  obtain ⟨p, dx, a, b, us, rfl, h1, _⟩ := i
  exact ⟨p, dx, _, rfl, h1, hf_no (by decide +kernel) (by decide +kernel), q⟩
end
end My

namespace My
open PySem L2 Mth LamX
section
variable {P : Program} {w : World} {K : PySem.W.Frag} {mg : Str → Option Value} {base : Heap}
structure MHdX (P : Program) (w : World) (K : PySem.W.Frag) (mg : Str → Option Value) (base : Heap) (C CA CH CW C7 : Addr) (T : List (Addr × Str)) : Prop where
  cl : Cls K CH
  ex : ∃ f fd, FnOk P w K mg base (L2.CX P w) 9 f fd ["self", "drawing"] (sp_hdrawX K C CA CH CW C7 T) ∧ Binds K fd ["self", "drawing"] [] ∧ Meth K CH "draw" f
theorem pe_hdrawX {X : Cx} {C CA CH CW C7 : Addr} {T : List (Addr × Str)} {E : XK} {o e : Expr} {to : TE} {t : TA} {apos pos : Pos} {pl : Sem Bool} (M : MHdX X.prog X.w X.K X.mg X.base C CA CH CW C7 T) (hr : Room 9 X.A) (hx : Passes (L2.CX X.prog X.w) X E) (ho : PE X o to) (ha : PA X [e] t)
    (hs1 : starEach [e] X.env = (false, eval e X.env) :: starEach [] X.env := by rfl) (hs2 : (backTo pos (starEach [] X.env)).any (·.1) = false := by rfl)
    (ht : eval (.Call (.Attribute o "draw" apos) [e] [] pos) X.env = (do
      let ov ← eval o X.env
      standAt apos.atName
      let (g, first) ← holding [ov] (getMethod ov "draw" pl)
      callWith pos g first (backTo pos (starEach [e] X.env)) (backToKw pos (keywordEach [] X.env))) := by rfl) :
    PE X (.Call (.Attribute o "draw" apos) [e] [] pos) (tMeth CH "draw" (sp_hdrawX X.K C CA CH CW C7 T) [] E to t) := by
  obtain ⟨f, fd, F, b, m⟩ := M.ex
  exact pe_meth ho M.cl m F hr b .nil hx ha hs1 hs2 ht
end
end My

namespace My
open PySem L2 Mth LamX
abbrev s_can_draw : Stmt := topS 75
theorem sc_can_draw : FnScope ["chain", "drawing"] ["chain", "drawing"] (defScope s_can_draw) := ⟨rfl, rfl, rfl, by decide +kernel, rfl, by decide +kernel, by decide +kernel⟩
section
variable {P : Program} {w : World} {K : PySem.W.Frag} {mg : Str → Option Value} {base : Heap}
/-! ### whether a chain can draw -/
theorem first_by {p : Nat → Prop} (h : ∃ n, p n) : ∃ n, p n ∧ ∀ m, m < n → ¬ p m := by
  obtain ⟨n, hn⟩ := h
  induction n using Nat.strongRecOn with
  | ind n ih =>
    by_cases c : ∃ m, m < n ∧ p m
    · obtain ⟨m, hm, pm⟩ := c
      exact ih m hm pm
    · exact ⟨n, hn, fun m hm pm => c ⟨m, hm, pm⟩⟩
theorem miss_of {a : Am} {zss : List (List T3)} (h : ¬ ∀ zs ∈ zss, Trs a zs) : ∃ i j, Miss a zss i j := by
  have h1 : ∃ i, ∃ zs, zss[i]? = some zs ∧ ¬ Trs a zs := Classical.byContradiction fun c => h fun zs hz => Classical.byContradiction fun n => by
    obtain ⟨i, hi, rfl⟩ := List.mem_iff_getElem.mp hz
    exact c ⟨i, _, List.getElem?_eq_getElem hi, n⟩
  obtain ⟨i, ⟨zs, ez, nz⟩, bi⟩ := first_by h1
  have h2 : ∃ j, ∃ q : T3 × T3, (tps zs)[j]? = some q ∧ ctr a q.1 q.2 = false := Classical.byContradiction fun c => nz fun (q : T3 × T3) hq => Classical.byContradiction fun n => by
    obtain ⟨j, hj, rfl⟩ := List.mem_iff_getElem.mp hq
    exact c ⟨j, _, List.getElem?_eq_getElem hj, by simpa using n⟩
  obtain ⟨j, ⟨q, eq, cq⟩, bj⟩ := first_by h2
  refine ⟨i, j, ⟨zs, q, ez, eq, cq, fun j' q' hj e => ?_⟩, fun i' zs' hi e => ?_⟩
  · have := bj j' hj
    cases c : ctr a q'.1 q'.2 with
    | true => rfl
    | false => exact absurd ⟨q', e, c⟩ this
  · exact Classical.byContradiction fun n => bi i' hi ⟨zs', e, n⟩
/-- all arms of a chain trace what comes to them -/
def cdr (as : List Am) (zss : List (List T3)) : Prop := ∀ n a, as[n]? = some a → ∀ zs ∈ mvs as n zss, Trs a zs
structure Missed (as : List Am) (zss : List (List T3)) (n i j : Nat) : Prop where
  ex : ∃ a, as[n]? = some a ∧ Miss a (mvs as n zss) i j
  be : ∀ n' a', n' < n → as[n']? = some a' → ∀ zs ∈ mvs as n' zss, Trs a' zs
theorem cdr_or (as : List Am) (zss : List (List T3)) : cdr as zss ∨ ∃ n i j, Missed as zss n i j := by
  by_cases h : cdr as zss
  · exact .inl h
  · refine .inr ?_
    have h1 : ∃ n, ∃ a, as[n]? = some a ∧ ¬ ∀ zs ∈ mvs as n zss, Trs a zs := Classical.byContradiction fun c => h fun n a e zs hz => Classical.byContradiction fun nt => c ⟨n, a, e, fun k => nt (k zs hz)⟩
    obtain ⟨n, ⟨a, ea, na⟩, bn⟩ := first_by h1
    obtain ⟨i, j, m⟩ := miss_of na
    exact ⟨n, i, j, ⟨a, ea, m⟩, fun n' a' hn e => Classical.byContradiction fun c => bn n' hn ⟨a', e, c⟩⟩
theorem Missed.not {as : List Am} {zss : List (List T3)} {n i j : Nat} (h : Missed as zss n i j) : ¬ cdr as zss := fun c => by
  obtain ⟨a, ea, ⟨⟨zs, q, ez, eq, cq, _⟩, _⟩⟩ := h.ex
  have := c n a ea zs (List.mem_of_getElem? ez) q (List.mem_of_getElem? eq)
  rw [this] at cq
  cases cq
def sp_hdrawB (K : PySem.W.Frag) (C CA CH CW C7 : Addr) (T : List (Addr × Str)) : Sp := fun vs H Q E => sp_hdraw K C CA CH CW T vs H Q E ∨ sp_hdrawX K C CA CH CW C7 T vs H Q E
structure MHdB (P : Program) (w : World) (K : PySem.W.Frag) (mg : Str → Option Value) (base : Heap) (C CA CH CW C7 : Addr) (T : List (Addr × Str)) : Prop where
  cl : Cls K CH
  ex : ∃ f fd, FnOk P w K mg base (L2.CX P w) 9 f fd ["self", "drawing"] (sp_hdrawB K C CA CH CW C7 T) ∧ Binds K fd ["self", "drawing"] [] ∧ Meth K CH "draw" f
theorem pe_hdrawBS {X : Cx} {C CA CH CW C7 : Addr} {T : List (Addr × Str)} {E : L2.St → XK} {o e : Expr} {to : TE} {t : TA} {apos pos : Pos} {pl : Sem Bool} (M : MHdB X.prog X.w X.K X.mg X.base C CA CH CW C7 T) (hr : Room 9 X.A) (hx : ∀ σ, PassesAt (L2.CX X.prog X.w) X σ (E σ)) (ho : PE X o to) (ha : PA X [e] t)
    (hs1 : starEach [e] X.env = (false, eval e X.env) :: starEach [] X.env := by rfl) (hs2 : (backTo pos (starEach [] X.env)).any (·.1) = false := by rfl)
    (ht : eval (.Call (.Attribute o "draw" apos) [e] [] pos) X.env = (do
      let ov ← eval o X.env
      standAt apos.atName
      let (g, first) ← holding [ov] (getMethod ov "draw" pl)
      callWith pos g first (backTo pos (starEach [e] X.env)) (backToKw pos (keywordEach [] X.env))) := by rfl) :
    PE X (.Call (.Attribute o "draw" apos) [e] [] pos) (tMethS CH "draw" (sp_hdrawB X.K C CA CH CW C7 T) E to t) := by
  obtain ⟨f, fd, F, b, m⟩ := M.ex
  exact pe_methS ho M.cl m F hr b hx ha hs1 hs2 ht
def sp_cdr (K : PySem.W.Frag) (C CA CH CW : Addr) (T : List (Addr × Str)) : Sp := fun vs H Q _ => ∃ vh as vd zss, vs = [vh, vd] ∧ IsH K C CA CH H vh as ∧ IsW K CW H vd zss ∧ (∀ n a, as[n]? = some a → TrIn a (mvs as n zss)) ∧ Tabs T H ∧ ∀ H' b, ExtN H H' → Tabs T H' → (b = true ↔ cdr as zss) → Q (.bl b) H'
theorem ok_can_draw {f C CA CH CW C7 : Addr} {fd : FuncData} {T : List (Addr × Str)} (m_hdB : MHdB P w K mg base C CA CH CW C7 T) (gP : mg "OutOfReach" = some (.ref C7)) (xs7 : PySem.W.exmOne K (.ref C7) (.ref C7) = some true)
    (F : Fun K "can_draw" "can_draw" s_can_draw f fd) : FnOk P w K mg base CX0 10 f fd ["chain", "drawing"] (sp_cdr K C CA CH CW T) := by
  refine F.ok sc_can_draw (fun vs H Q E h => ?_) (fun cdv A outer s H vs Q E hr h => ?_)
  · obtain ⟨vh, as, vd, zss, rfl, _⟩ := h
    rfl
  obtain ⟨vh, as, vd, zss, rfl, ih, iw, ti, hT, q⟩ := h
  refine ⟨_, pss_cons (ps_try_only (tb := fun W D σ H => tMethS CH "draw" (sp_hdrawB K C CA CH CW C7 T) (WE W) (tVar 0) (tCons (tVar 1) tNil) σ H (fun _ H1 => D.nx σ H1)) (ts := fun a cls d D σ H => D.rt (.bl false) H) (c := .ref C7) rfl rfl ⟨rfl, by decide, .inl gP⟩ LamX.takes0 (fun W pn xe tk _ => pss_one (ps_expr (pe_hdrawBS m_hdB (hr.mono (by decide)) (fun σ => passAt tk σ) (pv 0) (pa_cons (pv 1) pa_nil)) (by rfl))) (fun a oe cls d pn _ _ => pss_one (ps_ret pe_bl))) (pss_one (ps_ret pe_bl)), ?_⟩
  obtain ⟨p, dx, a, b, us, rfl, h1, _⟩ := id ih
  refine ⟨_, rfl, p, dx, _, rfl, h1, hf_no (by decide +kernel) (by decide +kernel), _, rfl, ?_⟩
  rcases cdr_or as zss with hc | ⟨n, i, j, hm⟩
  · exact .inl ⟨_, as, _, zss, rfl, ih, iw, ti, hc, hT, fun H' r e' T' _ => q H' true e' T' ⟨fun _ => hc, fun _ => rfl⟩⟩
  · exact .inr ⟨_, as, _, zss, n, i, j, rfl, ih, iw, ti, hm.ex, hm.be, hT, fun H' d e' T' hd => ⟨true, xs7, fun _ a _ => q H' false e' T' ⟨fun z => (by cases z), fun z => absurd z hm.not⟩, fun z => (by cases z)⟩⟩
end
end My

namespace My
open PySem L2 Mth
abbrev s_check_limit : Stmt := topS 32
theorem sc_check_limit : FnScope ["limit"] ["limit"] (defScope s_check_limit) := ⟨rfl, rfl, rfl, by decide +kernel, rfl, by decide +kernel, by decide +kernel⟩
abbrev s_is_in_all : Stmt := topS 74
theorem sc_is_in_all : FnScope ["spot", "rings", "centre", "near", "far"] ["spot", "rings"] (defScope s_is_in_all) := ⟨rfl, rfl, rfl, by decide +kernel, rfl, by decide +kernel, by decide +kernel⟩
abbrev s_reachable_spots : Stmt := topS 73
theorem sc_reachable_spots : FnScope ["chain", "limit", "rings", "numbers", "x", "y"] ["chain", "limit"] (defScope s_reachable_spots) := ⟨rfl, rfl, rfl, by decide +kernel, rfl, by decide +kernel, by decide +kernel⟩
section
variable {P : Program} {w : World} {K : PySem.W.Frag} {mg : Str → Option Value} {base : Heap}
/-! ### spots in reach -/
theorem smallN {n : Nat} (h : n ≤ 100000) : n < sizeLine := Nat.lt_of_le_of_lt h (by decide)
def sp_clim : Sp := fun vs H Q _ => ∃ n : Int, vs = [.int n] ∧ 0 ≤ n ∧ n ≤ 20 ∧ Q .non H
theorem ok_check_limit {f : Addr} {fd : FuncData} {tk : Tok} (m_MOST_LIMIT : mg "MOST_LIMIT" = some (.int 20 tk)) (d_is_whole : D P w K mg base "is_whole" 1 sp_whole) (F : Fun K "check_limit" "check_limit" s_check_limit f fd) : FnOk P w K mg base CX0 2 f fd ["limit"] sp_clim := by
  refine F.ok sc_check_limit (fun vs H Q E h => ?_) (fun cdv A outer s H vs Q E hr h => ?_)
  · obtain ⟨n, rfl, _⟩ := h
    rfl
  obtain ⟨n, rfl, n0, n1, q⟩ := h
  refine ⟨_, (pss_one (ps_if (PW.pt (pw_or (pt_not (pt_val (pc d_is_whole (hr.mono (by decide)) (pa_cons (pv 0) pa_nil)))) (pw_or1 (pt_not (pt_chain op_le op_le pe_int (pv 0) (pe_glob (v := .int 20) (by rfl) m_MOST_LIMIT ⟨_, rfl⟩)))))) (pss_one (ps_never)) pss_nil)), ?_⟩
  refine ⟨_, rfl, n, rfl, _, rfl, iteF ?_⟩
  refine ⟨_, rfl, _, _, rfl, rfl, true, congrArg V.bl (decide_eq_true n0), iteT ?_⟩
  exact ⟨_, _, rfl, rfl, true, congrArg V.bl (decide_eq_true n1), iteF q⟩
/-- a zone whose numbers are not too great -/
structure ZOk (z : Zn) : Prop where
  oc : Ok z.ctr
  bc : B 1900 z.ctr
  lo : FB 16001 z.lo
  hi : FB 16001 z.hi
def inZ (zs : List Zn) (z : T3) : Bool := zs.all fun ζ => inF (gr (minus ζ.ctr z)) ζ.lo ζ.hi
def sp_iia (K : PySem.W.Frag) : Sp := fun vs H Q _ => ∃ vz z L us zs, vs = [vz, .ref L] ∧ IsT K H vz z ∧ Ok z ∧ B 1900 z ∧ H L = some (.lst us) ∧ AllZ K H us zs ∧ (∀ ζ ∈ zs, ZOk ζ) ∧ zs.length ≤ 100 ∧ ∀ H', Same H H' → Q (.bl (inZ zs z)) H'
theorem ok_is_in_all {f : Addr} {fd : FuncData} (b_all : mg "all" = none) (d_square_between : D P w K mg base "square_between" 5 (sp_sqb K)) (d_is_from_to : D P w K mg base "is_from_to" 1 (sp_ft K)) (F : Fun K "is_in_all" "is_in_all" s_is_in_all f fd) : FnOk P w K mg base CX0 6 f fd ["spot", "rings"] (sp_iia K) := by
  refine F.ok sc_is_in_all (fun vs H Q E h => ?_) (fun cdv A outer s H vs Q E hr h => ?_)
  · obtain ⟨vz, z, L, us, zs, rfl, _⟩ := h
    rfl
  obtain ⟨vz, z, L, us, zs, rfl, iz, oz, bz, hL, hZ, zo, l100, q⟩ := h
  refine ⟨_, (pss_one (ps_ret (pe_callB (cr_all rfl) (by rfl) b_all (by decide +kernel) (pa_cons (pe_lc (own := [("centre", 2), ("near", 3), ("far", 4)]) (g := gTup K 3 (gCons (gName 2) (gCons (gName 3) (gCons (gName 4) gNil)))) (tt := tYes) (by rfl) sc_is_in_all.nd (pi_list (pv 1)) (blkOk_by (own := [("centre", 2), ("near", 3), ("far", 4)]) (N := ["spot", "rings", "centre", "near", "far"]) (sc := defScope s_is_in_all) (by decide +kernel)) (fun _ _ _ _ _ => (pg_tup rfl (pgs_cons (pg_name (i := 2) sc_is_in_all.nd rfl (by first | exact Or.inl rfl | exact Or.inr rfl)) (pgs_cons (pg_name (i := 3) sc_is_in_all.nd rfl (by first | exact Or.inl rfl | exact Or.inr rfl)) (pgs_cons (pg_name (i := 4) sc_is_in_all.nd rfl (by first | exact Or.inl rfl | exact Or.inr rfl)) pgs_nil))))) (fun _ _ _ _ _ => pts_nil) (fun _ _ _ _ _ => (pc d_is_from_to (hr.mono (by decide)) (pa_cons (pc d_square_between (hr.mono (by decide)) (pa_cons (pv 2) (pa_cons (pv 0) pa_nil))) (pa_cons (pv 3) (pa_cons (pv 4) pa_nil)))))) pa_nil)))), ?_⟩
  have hlu := Paired.length hZ
  refine ⟨_, rfl, L, rfl, ⟨_, .inl (.inl hL)⟩, fun D hD => lc_list (K := K) (a := L) (xs := us) (fun i H' => ∃ acc : List V, Same H H' ∧ H' D = some (.lst acc) ∧ acc = ((zs.take i).map fun ζ => inF (gr (minus ζ.ctr z)) ζ.lo ζ.hi).map V.bl) ⟨[], same_new hD _, upd_same, rfl⟩ ?_ ?_ ?_⟩
  · rintro i H' hi ⟨acc, s', _⟩
    exact .inl (.inl (s' _ _ hL))
  · rintro i x H' hx ⟨acc, s', hb, ea⟩
    obtain ⟨ζ, eζ, iζ⟩ := pgt hZ hx
    have mζ := zo ζ (List.mem_of_getElem? eζ)
    have lu := (List.getElem?_eq_some_iff.mp eζ).1
    obtain ⟨p, a, b, e, rfl, g1, g2, g3, g4⟩ := iζ.same s'
    refine ⟨p, _, rfl, g1, rfl, _, _, rfl, _, _, rfl, _, _, rfl, rfl, rfl, yes_of ?_⟩
    refine ⟨_, rfl, _, rfl, _, _, ζ.ctr, z, rfl, ⟨a, rfl, g2⟩, iz.same s', mζ.oc, oz, mζ.bc, bz, fun H2 r2 s2 i2 => ?_⟩
    have fb : FB 16001 (gr (minus ζ.ctr z)) := (gr_FB (minus_ok mζ.oc oz) (minus_B mζ.oc oz mζ.bc bz)).mono (by decide)
    refine ⟨_, rfl, _, rfl, _, _, _, gr (minus ζ.ctr z), ζ.lo, ζ.hi, rfl, i2, ⟨b, rfl, same_T s2 g3⟩, ⟨e, rfl, same_T s2 g4⟩, fb, mζ.lo, mζ.hi, ?_⟩
    have la : acc.length = i := by rw [ea, List.length_map, List.length_map, List.length_take]; omega
    refine ⟨acc, s2 _ _ hb, small1000 (by omega), acc ++ [.bl (inF (gr (minus ζ.ctr z)) ζ.lo ζ.hi)], fun b o e => ?_, upd_same, ?_⟩
    · rw [upd_ne (ne_of_none e hD)]
      exact s2 _ _ (s' _ _ e)
    · rw [take_more eζ, List.map_append, List.map_append, ea]
      rfl
  rintro H1 ⟨acc, s1, hb, ea⟩
  rw [hlu, List.take_length] at ea
  refine ⟨D, zs.map fun ζ => inF (gr (minus ζ.ctr z)) ζ.lo ζ.hi, rfl, .inl (.inl (by rw [← ea]; exact hb)), ?_⟩
  have e : (zs.map fun ζ => inF (gr (minus ζ.ctr z)) ζ.lo ζ.hi).all id = inZ zs z := by
    unfold inZ
    rw [List.all_map]
    rfl
  rw [e]
  exact q H1 s1
/-- the whole numbers up to a limit -/
def nums (n : Int) : List Int := (List.range (2 * n + 1).toNat).map fun k => -n + (k : Nat)
def grid (n : Int) : List T3 := (nums n).flatMap fun x => (nums n).map fun y => (x, y, 1)
theorem nums_v {n : Int} (h : 0 ≤ n) : rgV (-n) (n + 1) = (nums n).map V.int := by
  unfold rgV nums
  rw [List.map_map, show (n + 1 - -n).toNat = (2 * n + 1).toNat by omega]
  rfl
theorem nums_mem {n x : Int} (h0 : 0 ≤ n) (h : x ∈ nums n) : -n ≤ x ∧ x ≤ n := by
  obtain ⟨k, hk, rfl⟩ := List.mem_map.mp h
  have := List.mem_range.mp hk
  omega
theorem nums_len {n : Int} (h0 : 0 ≤ n) (h1 : n ≤ 20) : (nums n).length ≤ 41 := by
  unfold nums
  rw [List.length_map, List.length_range]
  omega
theorem ok_grid (x y : Int) : Ok (x, y, 1) := ⟨by show (0 : Int) < 1; decide, by show g3 x y 1 = 1; unfold g3; simp⟩
theorem B_grid {x y n : Int} (n1 : n ≤ 20) (hx : -n ≤ x ∧ x ≤ n) (hy : -n ≤ y ∧ y ≤ n) : B 5 (x, y, 1) := ⟨by show x.natAbs < 2 ^ 5; omega, by show y.natAbs < 2 ^ 5; omega, by show (1 : Int).natAbs < 2 ^ 5; decide⟩
def rch2 (as : List Am) (n : Int) : List T3 := (grid n).filter (inZ (zns as))
def sp_rspots (K : PySem.W.Frag) (C CA CH : Addr) : Sp := fun vs H Q _ => ∃ vh as n, vs = [vh, .int n] ∧ IsH K C CA CH H vh as ∧ as.length ≤ 6 ∧ (∀ a ∈ as, AmOk a ∧ BC 11 (about a) ∧ B 3 a.pole) ∧ 0 ≤ n ∧ n ≤ 20 ∧ ∀ H' L us, Same H H' → H' L = some (.lst us) → Paired (IsT K H') us (rch2 as n) → Q (.ref L) H'
theorem zns_ok {as : List Am} (h : ∀ a ∈ as, AmOk a ∧ BC 11 (about a) ∧ B 3 a.pole) (hl : as.length ≤ 6) : ∀ ζ ∈ zns as, ZOk ζ := by
  intro ζ hζ
  obtain ⟨i, hi, rfl⟩ := List.mem_iff_getElem.mp hζ
  have hi' : i < as.length := by rw [zns_len] at hi; exact hi
  have ea : as[i]? = some as[i] := List.getElem?_eq_getElem hi'
  have e := zns_at ea
  rw [List.getElem?_eq_getElem hi] at e
  have e := Option.some.inj e
  rw [e]
  obtain ⟨oa, ba, bp⟩ := h _ (List.mem_of_getElem? ea)
  obtain ⟨oc, bc⟩ := jall11 (as := as) (fun a ha => ⟨(h a ha).1, (h a ha).2.1⟩) hl i
  have ob := bk_ok oc
  have bb := bk_BC oc bc
  have lo := oa.lo
  have mi := oa.mi
  have hi2 := oa.hi
  have z : ∀ n : Int, 0 ≤ n → n ≤ 1000 → FB 16001 (zfr (jall (as.take i)) n) := fun n n0 n1 => by
    have g := gr_FB oc.t bc.1
    have gp := gr_pos oc.t oc.n
    have b : (n * n).natAbs < 2 ^ (10 + 10) := mul_lt (show n.natAbs < 2 ^ 10 by omega) (show n.natAbs < 2 ^ 10 by omega)
    exact (fr_FB (n := 10 + 10 + (147 + 147 + 1)) (by omega) (mul_lt b g.2) (up_lt (by omega) g.1)).mono (by decide)
  exact ⟨ap_ok ob oa.p, (car_B ob.t ob.s oa.p bb.1 bb.2 bp).mono (by decide), z _ lo (by omega), z _ (by omega) hi2⟩
theorem ok_reachable_spots {f C CA CH : Addr} {fd : FuncData} (b_list : mg "list" = none) (b_range : mg "range" = none) (d_check_limit : D P w K mg base "check_limit" 2 sp_clim) (d_zones : D P w K mg base "zones" 7 (sp_zones K C CA CH)) (d_is_in_all : D P w K mg base "is_in_all" 6 (sp_iia K))
    (F : Fun K "reachable_spots" "reachable_spots" s_reachable_spots f fd) : FnOk P w K mg base CX0 8 f fd ["chain", "limit"] (sp_rspots K C CA CH) := by
  refine F.ok sc_reachable_spots (fun vs H Q E h => ?_) (fun cdv A outer s H vs Q E hr h => ?_)
  · obtain ⟨vh, as, n, rfl, _⟩ := h
    rfl
  obtain ⟨vh, as, n, rfl, ih, l6, hin, n0, n1, q⟩ := h
  refine ⟨_, (pss_cons (ps_expr (pc d_check_limit (hr.mono (by decide)) (pa_cons (pv 1) pa_nil)))
    (pss_cons (ps_set (i := 2) sc_reachable_spots.nd rfl (by first | exact Or.inl rfl | exact Or.inr rfl) (pc d_zones (hr.mono (by decide)) (pa_cons (pv 0) pa_nil)))
    (pss_cons (ps_set (i := 3) sc_reachable_spots.nd rfl (by first | exact Or.inl rfl | exact Or.inr rfl) (pe_listRg rfl (by rfl) b_list (prg_2 (by rfl) b_range (pe_un un_neg (pv 1)) (pe_op op_add (pv 1) pe_int))))
    (pss_one (ps_ret (pe_lc2 (wi1 := iList K (tVar 3)) (own := [("x", 4), ("y", 5)]) (vs1 := [5]) (g := gName 4) (g1 := gName 5) (tt := tYes) (by rfl) sc_reachable_spots.nd (pi_list (pv 3)) (blkOk_by (own := [("x", 4), ("y", 5)]) (N := ["chain", "limit", "rings", "numbers", "x", "y"]) (sc := defScope s_reachable_spots) (by decide +kernel)) (by decide) (fun _ _ _ _ _ => (pg_name (i := 4) sc_reachable_spots.nd rfl (by first | exact Or.inl rfl | exact Or.inr rfl))) (fun _ _ _ _ _ => pts_nil) (fun _ _ _ _ _ => (pi_list (pv 3))) (fun _ _ _ _ _ => (pg_name (i := 5) sc_reachable_spots.nd rfl (by first | exact Or.inl rfl | exact Or.inr rfl))) (fun _ _ _ _ _ => (pts_one (pt_val (pc d_is_in_all (hr.mono (by decide)) (pa_cons (pe_tup (pa_cons (pv 4) (pa_cons (pv 5) (pa_cons pe_int pa_nil)))) (pa_cons (pv 2) pa_nil)))))) (fun _ _ _ _ _ => (pe_tup (pa_cons (pv 4) (pa_cons (pv 5) (pa_cons pe_int pa_nil))))))))))), ?_⟩
  refine ⟨_, rfl, n, rfl, n0, n1, ?_⟩
  refine ⟨_, rfl, _, as, rfl, ih, l6, hin, fun H1 Lz uz s1 nz hz az => gn_of ?_⟩
  refine ⟨_, rfl, _, rfl, _, rfl, _, _, rfl, rfl, _, _, rfl, rfl, ⟨by omega, by omega, by omega, by omega, by omega⟩, fun Ln hLn => gn_of ?_⟩
  rw [nums_v n0]
  have sn := same_new hLn (.lst ((nums n).map V.int))
  have hn : upd H1 Ln (.lst ((nums n).map V.int)) Ln = some (.lst ((nums n).map V.int)) := upd_same
  have hz2 := sn _ _ hz
  have az2 := az.same sn
  have s2 := s1.trans sn
  generalize upd H1 Ln (.lst ((nums n).map V.int)) = H2 at *
  have ln := nums_len n0 n1
  have zo := zns_ok hin l6
  have tk : ∀ i x, (nums n)[i]? = some x → (nums n).take (i + 1) = (nums n).take i ++ [x] := fun i x e => take_more e
  refine ⟨_, rfl, Ln, rfl, ⟨_, .inl (.inl hn)⟩, fun D hD => lc2_list (K := K) (a := Ln) (xs := (nums n).map V.int) (fun i H' => ∃ acc, Same H2 H' ∧ H' D = some (.lst acc) ∧ Paired (IsT K H') acc ((((nums n).take i).flatMap fun x => (nums n).map fun y => ((x, y, 1) : T3)).filter (inZ (zns as)))) ⟨[], same_new hD _, upd_same, .nil⟩ ?_ ?_ ?_⟩
  · rintro i H' hi ⟨acc, s', _⟩
    exact .inl (.inl (s' _ _ hn))
  · rintro i vx H' hx ⟨acc, s', hb, ha⟩
    obtain ⟨x, ex, rfl⟩ : ∃ x, (nums n)[i]? = some x ∧ V.int x = vx := by
      rw [List.getElem?_map] at hx
      cases e : (nums n)[i]? with
      | none => rw [e] at hx; cases hx
      | some x => rw [e] at hx; cases hx; exact ⟨x, rfl, rfl⟩
    have mx := nums_mem n0 (List.mem_of_getElem? ex)
    refine ⟨rfl, yes_of ?_⟩
    refine ⟨_, rfl, Ln, rfl, ⟨_, .inl (.inl (s' _ _ hn))⟩, in_list (K := K) (b := Ln) (ys := (nums n).map V.int) (fun j H' => ∃ acc, Same H2 H' ∧ H' D = some (.lst acc) ∧ Paired (IsT K H') acc (((((nums n).take i).flatMap fun x => (nums n).map fun y => ((x, y, 1) : T3)) ++ ((nums n).take j).map fun y => ((x, y, 1) : T3)).filter (inZ (zns as)))) ⟨acc, s', hb, by rw [List.take_zero, List.map_nil, List.append_nil]; exact ha⟩ ?_ ?_ ?_⟩
    · rintro j H' hj ⟨acc, s', _⟩
      exact .inl (.inl (s' _ _ hn))
    · rintro j vy H3 hy ⟨acc, s3, hb3, ha3⟩
      obtain ⟨y, ey, rfl⟩ : ∃ y, (nums n)[j]? = some y ∧ V.int y = vy := by
        rw [List.getElem?_map] at hy
        cases e : (nums n)[j]? with
        | none => rw [e] at hy; cases hy
        | some y => rw [e] at hy; cases hy; exact ⟨y, rfl, rfl⟩
      have my := nums_mem n0 (List.mem_of_getElem? ey)
      have l3 := Paired.length ha3
      have bnd : acc.length ≤ 1722 := by
        rw [l3]
        refine Nat.le_trans (List.length_filter_le _ _) ?_
        rw [List.length_append, List.length_map, List.length_take, List.length_flatMap]
        have e : (List.map (fun x => ((nums n).map fun y => ((x, y, 1) : T3)).length) ((nums n).take i)).sum ≤ 41 * 41 := by
          simp only [List.length_map]
          rw [List.map_const', List.sum_replicate_nat, List.length_take]
          exact Nat.mul_le_mul (by omega) ln
        omega
      refine ⟨rfl, ?_⟩
      refine ⟨_, rfl, _, rfl, (by show 3 ≤ sizeLine; decide), fun pz hpz => ?_⟩
      have sz := same_new hpz (.tup [.int x, .int y, .int 1])
      have s4 := s3.trans sz
      refine ⟨_, rfl, _, (x, y, 1), Lz, uz, zns as, rfl, ⟨pz, rfl, .inl (.inl upd_same)⟩, ok_grid x y, (B_grid n1 mx my).mono (by decide), s4 _ _ hz2, az2.same s4, zo, by rw [zns_len]; omega, fun H5 s5 => ⟨_, rfl, ?_⟩⟩
      have s45 := s4.trans s5
      have tkj : (nums n).take (j + 1) = (nums n).take j ++ [y] := tk j y ey
      cases c : inZ (zns as) (x, y, 1) with
      | false =>
        refine iteF ⟨acc, s45, (sz.trans s5) _ _ hb3, ?_⟩
        rw [tkj, List.map_append, ← List.append_assoc, List.filter_append, show List.filter (inZ (zns as)) (List.map (fun y => ((x, y, 1) : T3)) [y]) = [] by simp [c], List.append_nil]
        exact pimp (fun _ _ i => i.same (sz.trans s5)) ha3
      | true =>
        refine iteT ?_
        refine ⟨_, rfl, _, rfl, (by show 3 ≤ sizeLine; decide), fun p6 hp6 => ?_⟩
        have s6 := same_new hp6 (.tup [.int x, .int y, .int 1])
        have s36 := (sz.trans s5).trans s6
        have hb6 := s36 _ _ hb3
        have i6 : IsT K (upd H5 p6 (.tup [.int x, .int y, .int 1])) (.ref p6) (x, y, 1) := ⟨p6, rfl, .inl (.inl upd_same)⟩
        have ha6 := pimp (fun _ _ i => IsT.same i s36) ha3
        have s26 := s45.trans s6
        generalize upd H5 p6 (.tup [.int x, .int y, .int 1]) = H6 at *
        have k6 := keep_upd (d := D) (H := H6) (o := .lst (acc ++ [.ref p6]))
        refine ⟨acc, hb6, smallN (by omega), acc ++ [.ref p6], fun b o e => ?_, upd_same, ?_⟩
        · rw [upd_ne (ne_of_none e hD)]
          exact s26 _ _ e
        · rw [tkj, List.map_append, ← List.append_assoc, List.filter_append, show List.filter (inZ (zns as)) (List.map (fun y => ((x, y, 1) : T3)) [y]) = [(x, y, 1)] by simp [c]]
          exact papp (pimp (fun _ _ i => i.keep hb6 k6) ha6) (.cons (i6.keep hb6 k6) .nil)
    · rintro H3 ⟨acc, s3, hb3, ha3⟩
      rw [List.length_map, List.take_length] at ha3
      refine ⟨acc, s3, hb3, ?_⟩
      rw [tk i x ex, List.flatMap_append]
      have e : List.flatMap (fun x => (nums n).map fun y => ((x, y, 1) : T3)) [x] = (nums n).map fun y => ((x, y, 1) : T3) := by simp
      rw [e]
      exact ha3
  · rintro H' ⟨acc, s', hb, ha⟩
    rw [List.length_map, List.take_length] at ha
    exact q H' D acc (s2.trans s') hb ha
end
end My

namespace My
open PySem L2 Mth LamX

section
variable {P : Program} {w : World} {K : PySem.W.Frag} {mg : Str → Option Value} {base : Heap}
/-! ### limits out of range -/
def BadL (v : V) : Prop := NotW v ∨ ∃ n : Int, v = .int n ∧ ¬ (0 ≤ n ∧ n ≤ 20)
def sp_climX (C9 : Addr) : Sp := fun vs H Q E => ∃ v, vs = [v] ∧ BadL v ∧ ∀ H', Same H H' → E (.ref C9) none H'
theorem ok_check_limitX {f C9 : Addr} {fd : FuncData} {tk : Tok} (m_MOST_LIMIT : mg "MOST_LIMIT" = some (.int 20 tk)) (XZ : ExX K mg "InvalidSize" C9) (d_is_whole : D P w K mg base "is_whole" 1 sp_wholeA) (F : Fun K "check_limit" "check_limit" s_check_limit f fd) : FnOk P w K mg base (L2.CX P w) 2 f fd ["limit"] (sp_climX C9) := by
  refine F.okX sc_check_limit (fun vs H Q E h => ?_) (fun cdv A outer s H vs Q E hr h => ?_)
  · obtain ⟨v, rfl, _⟩ := h
    rfl
  obtain ⟨v, rfl, bad, q⟩ := h
  refine ⟨_, (pss_one (ps_if (PW.pt (pw_or (pt_not (pt_val (pc d_is_whole (hr.mono (by decide)) (pa_cons (pv 0) pa_nil)))) (pw_or1 (pt_not (pt_chain op_le op_le pe_int (pv 0) (pe_glob (v := .int 20) (by rfl) m_MOST_LIMIT ⟨_, rfl⟩)))))) (pss_one (ps_raise rfl (takes_of rfl rfl rfl rfl) (pmk_own PySem.F.excBase_ValueError XZ.q XZ.g XZ.k (raises_own XZ.b XZ.t) (by rfl)))) pss_nil)), ?_⟩
  rcases bad with nw | ⟨n, rfl, hn⟩
  · exact ⟨_, rfl, _, rfl, .inr ⟨nw, _, rfl, iteT (iteT (q _ (Same.refl _)))⟩⟩
  · refine ⟨_, rfl, _, rfl, .inl ⟨n, rfl, _, rfl, iteF ?_⟩⟩
    by_cases h0 : 0 ≤ n
    · refine ⟨_, rfl, _, _, rfl, rfl, true, congrArg V.bl (decide_eq_true h0), iteT ?_⟩
      exact ⟨_, _, rfl, rfl, false, congrArg V.bl (decide_eq_false (by omega)), iteT (q _ (Same.refl _))⟩
    · exact ⟨_, rfl, _, _, rfl, rfl, false, congrArg V.bl (decide_eq_false h0), iteF ⟨_, rfl, iteT (q _ (Same.refl _))⟩⟩
def sp_rspotsX (C9 : Addr) : Sp := fun vs H Q E => ∃ vh v, vs = [vh, v] ∧ BadL v ∧ ∀ H', Same H H' → E (.ref C9) none H'
theorem ok_reachable_spotsX {f C9 : Addr} {fd : FuncData} (d_check_limitX : DX P w K mg base "check_limit" 2 (sp_climX C9)) (F : Fun K "reachable_spots" "reachable_spots" s_reachable_spots f fd) : FnOk P w K mg base (L2.CX P w) 8 f fd ["chain", "limit"] (sp_rspotsX C9) := by
  refine F.okX sc_reachable_spots (fun vs H Q E h => ?_) (fun cdv A outer s H vs Q E hr h => ?_)
  · obtain ⟨vh, v, rfl, _⟩ := h
    rfl
  obtain ⟨vh, v, rfl, bad, q⟩ := h
  refine ⟨_, (pss_cons (ps_expr (pcX d_check_limitX (hr.mono (by decide)) (passes_call (takes_of rfl rfl rfl rfl) (fun _ _ _ _ h => h)) (pa_cons (pv 1) pa_nil)))
    pss_never), ?_⟩
  exact ⟨_, rfl, v, rfl, bad, q⟩
end
end My

namespace My
open PySem L2 Mth LamX
/-! ### spots traced as dots, and zones -/
theorem ctr_dot2 {a : Am} {z : T3} (ha : AmOk a) (hz : Ok z) : ctr a z z = rch a z := by
  unfold ctr
  rw [lnr_same ha.p hz, gr_sym ha.p hz]
  unfold rch inF
  cases lessF (gr (minus z a.pole)) (a.near * a.near, 1) <;> cases lessF (a.far * a.far, 1) (gr (minus z a.pole)) <;> rfl
theorem mvs_dot {as : List Am} (h : ∀ a ∈ as, AmOk a) {z : T3} (hz : Ok z) : ∀ n, mvs as n [[z]] = [[ap (jall (as.take n)) z]]
  | 0 => by
    show [[z]] = [[ap (jall (as.take 0)) z]]
    rw [List.take_zero, show jall [] = still from rfl, ap_still hz]
  | n + 1 => by
    cases e : as[n]? with
    | none =>
      have hl := List.getElem?_eq_none_iff.mp e
      have e1 : as.take (n + 1) = as.take n := by rw [List.take_of_length_le (by omega), List.take_of_length_le hl]
      have ih := mvs_dot h hz n
      unfold mvs at ih ⊢
      rw [e1]
      exact ih
    | some a =>
      have oa := h a (List.mem_of_getElem? e)
      have oj : CpOk (jall (as.take n)) := jall_ok fun b hb => h b (List.mem_of_mem_take hb)
      rw [mvs_succ e, mvs_dot h hz n, jall_take e, jn_ap oj (about_ok oa) hz]
      rfl
theorem inZ_at {as : List Am} (h : ∀ a ∈ as, AmOk a) {z : T3} (hz : Ok z) : inZ (zns as) z = true ↔ ∀ n a, as[n]? = some a → rch a (ap (jall (as.take n)) z) = true := by
  have one : ∀ n a, as[n]? = some a → inF (gr (minus (zn (jall (as.take n)) a).ctr z)) (zn (jall (as.take n)) a).lo (zn (jall (as.take n)) a).hi = rch a (ap (jall (as.take n)) z) := fun n a e => by
    have oa := h a (List.mem_of_getElem? e)
    have oj : CpOk (jall (as.take n)) := jall_ok fun b hb => h b (List.mem_of_mem_take hb)
    have oc : Ok (zctr (jall (as.take n)) a) := ap_ok (bk_ok oj) oa.p
    show inF (gr (minus (zctr (jall (as.take n)) a) z)) (zfr (jall (as.take n)) a.near) (zfr (jall (as.take n)) a.far) = _
    rw [gr_sym oc hz, zone_in oj oa hz]
  unfold inZ
  rw [List.all_eq_true]
  constructor
  · intro k n a e
    rw [← one n a e]
    exact k _ (List.mem_of_getElem? (zns_at e))
  · intro k ζ hζ
    obtain ⟨n, hn, rfl⟩ := List.mem_iff_getElem.mp hζ
    have hn' : n < as.length := by rw [zns_len] at hn; exact hn
    have ea : as[n]? = some as[n] := List.getElem?_eq_getElem hn'
    have e := zns_at ea
    rw [List.getElem?_eq_getElem hn] at e
    rw [Option.some.inj e, one n _ ea]
    exact k n _ ea
theorem cdr_dot {as : List Am} (h : ∀ a ∈ as, AmOk a) {z : T3} (hz : Ok z) : cdr as [[z]] ↔ inZ (zns as) z = true := by
  rw [inZ_at h hz]
  have step : ∀ n a, as[n]? = some a → ((∀ zs ∈ mvs as n [[z]], Trs a zs) ↔ rch a (ap (jall (as.take n)) z) = true) := fun n a e => by
    have oa := h a (List.mem_of_getElem? e)
    have oj : CpOk (jall (as.take n)) := jall_ok fun b hb => h b (List.mem_of_mem_take hb)
    rw [mvs_dot h hz n, ← ctr_dot2 oa (ap_ok oj hz)]
    constructor
    · intro k
      exact k _ (.head _) (ap (jall (as.take n)) z, ap (jall (as.take n)) z) (.head _)
    · intro k zs hzs q hq
      rw [List.mem_singleton.mp hzs] at hq
      rw [List.mem_singleton.mp hq]
      exact k
  exact ⟨fun k n a e => (step n a e).mp (k n a e), fun k n a e => (step n a e).mpr (k n a e)⟩
theorem mvs_map (as : List Am) (zss : List (List T3)) (n : Nat) : mvs as n zss = zss.map fun zs => zs.map fun z => (as.take n).foldl (fun z a => ap (about a) z) z := by
  unfold mvs
  induction as.take n generalizing zss with
  | nil => simp
  | cons a l ih =>
    rw [List.foldl_cons, ih]
    unfold mv1
    rw [List.map_map]
    refine List.map_congr_left fun zs _ => ?_
    show List.map _ (List.map _ zs) = _
    rw [List.map_map]
    rfl
/-- a drawing can be drawn just if each of its strokes can -/
theorem cdr_each {as : List Am} {zss : List (List T3)} (h : ∀ zs ∈ zss, cdr as [zs]) : cdr as zss := by
  intro n a e ws hws
  rw [mvs_map] at hws
  obtain ⟨zs, hz, rfl⟩ := List.mem_map.mp hws
  refine h zs hz n a e _ ?_
  rw [mvs_map]
  exact .head _
end My

namespace My
open PySem L2 Mth
abbrev s_Arm_reaches : Stmt := inClass (topS 61) 8
theorem sc_Arm_reaches : FnScope ["self", "spot", "square"] ["self", "spot"] (defScope s_Arm_reaches) := ⟨rfl, rfl, rfl, by decide +kernel, rfl, by decide +kernel, by decide +kernel⟩
section
variable {P : Program} {w : World} {K : PySem.W.Frag} {mg : Str → Option Value} {base : Heap}
/-! ### what an arm reaches -/
def sp_reaches (K : PySem.W.Frag) (C CA : Addr) : Sp := fun vs H Q _ => ∃ va a vz z, vs = [va, vz] ∧ IsA K C CA H va a ∧ AmOk a ∧ B 1300 a.pole ∧ IsT K H vz z ∧ Ok z ∧ B 1900 z ∧ ∀ H', Same H H' → Q (.bl (rch a z)) H'
theorem ok_reaches {f C CA : Addr} {fd : FuncData} (T : ATxt K CA) (d_check_spot : D P w K mg base "check_spot" 3 (sp_check K)) (d_square_between : D P w K mg base "square_between" 5 (sp_sqb K)) (d_is_from_to : D P w K mg base "is_from_to" 1 (sp_ft K)) (F : Fun K "reaches" "Arm.reaches" s_Arm_reaches f fd) :
    FnOk P w K mg base CX0 6 f fd ["self", "spot"] (sp_reaches K C CA) := by
  refine F.ok sc_Arm_reaches (fun vs H Q E h => ?_) (fun cdv A outer s H vs Q E hr h => ?_)
  · obtain ⟨va, a, vz, z, rfl, _⟩ := h
    rfl
  obtain ⟨va, a, vz, z, rfl, ⟨p, dx, u, t, c, rfl, h1, h2, h3, h4⟩, ok, bp, iz, oz, bz, q⟩ := h
  refine ⟨_, (pss_cons (ps_expr (pc d_check_spot (hr.mono (by decide)) (pa_cons (pv 1) pa_nil)))
    (pss_cons (ps_set (i := 2) sc_Arm_reaches.nd rfl (by first | exact Or.inl rfl | exact Or.inr rfl) (pc d_square_between (hr.mono (by decide)) (pa_cons (pe_fld (pv 0) rfl) (pa_cons (pv 1) pa_nil))))
    (pss_one (ps_ret (pc d_is_from_to (hr.mono (by decide)) (pa_cons (pv 2) (pa_cons (pe_tup (pa_cons (pe_op op_mulW (pe_fld (pv 0) rfl) (pe_fld (pv 0) rfl)) (pa_cons pe_int pa_nil))) (pa_cons (pe_tup (pa_cons (pe_op op_mulW (pe_fld (pv 0) rfl) (pe_fld (pv 0) rfl)) (pa_cons pe_int pa_nil))) pa_nil)))))))), ?_⟩
  refine ⟨_, rfl, _, _, rfl, iz, oz, fun H1 s1 => ?_⟩
  refine ⟨_, rfl, p, CA, dx, _, _, rfl, s1 _ _ h1, T.cl, T.nC, af_centre, _, rfl, _, _, _, _, rfl, ⟨u, rfl, same_T s1 h2⟩, iz.same s1, ok.p, oz, bp.mono (by decide), bz, fun H2 r2 s2 i2 => ?_⟩
  have s12 := s1.trans s2
  have om := minus_ok ok.p oz
  have bm : B 3201 (minus a.pole z) := minus_B ok.p oz bp bz
  have gb : FB 16001 (gr (minus a.pole z)) := (gr_FB om bm).mono (by decide)
  have lo := ok.lo
  have mi := ok.mi
  have hi := ok.hi
  refine ⟨_, rfl, _, rfl, p, CA, dx, _, _, rfl, s12 _ _ h1, T.cl, T.nE, af_least, _, rfl, p, CA, dx, _, _, rfl, s12 _ _ h1, T.cl, T.nE, af_least, _, _, rfl, rfl, nn10' lo (by omega), (by show 2 ≤ sizeLine; decide), fun p3 hp3 => ?_⟩
  have s3 := same_new hp3 (.tup [.int (a.near * a.near), .int 1])
  have s13 := s12.trans s3
  refine ⟨_, rfl, p, CA, dx, _, _, rfl, s13 _ _ h1, T.cl, T.nM, af_most, _, rfl, p, CA, dx, _, _, rfl, s13 _ _ h1, T.cl, T.nM, af_most, _, _, rfl, rfl, nn10' (by omega) hi, (by show 2 ≤ sizeLine; decide), fun p4 hp4 => ?_⟩
  have s4 := same_new hp4 (.tup [.int (a.far * a.far), .int 1])
  refine ⟨_, _, _, _, (a.near * a.near, 1), (a.far * a.far, 1), rfl, i2.same (s3.trans s4), IsF.same IsF.new s4, IsF.new, gb, near_FB' lo (by omega), near_FB' (by omega) hi, ?_⟩
  have e : inF (gr (minus a.pole z)) (a.near * a.near, 1) (a.far * a.far, 1) = rch a z := by unfold rch; rw [gr_sym ok.p oz]
  rw [e]
  exact q _ (s13.trans s4)
structure MAr (P : Program) (w : World) (K : PySem.W.Frag) (mg : Str → Option Value) (base : Heap) (C CA : Addr) : Prop where
  cl : Cls K CA
  ex : ∃ f fd, FnOk P w K mg base CX0 6 f fd ["self", "spot"] (sp_reaches K C CA) ∧ Binds K fd ["self", "spot"] [] ∧ Meth K CA "reaches" f
open PyProof.Rows PySem.Spec in
theorem pe_reaches {X : Cx} {C CA : Addr} {o e : Expr} {to : TE} {t : TA} {apos pos : Pos} {pl : Sem Bool} (M : MAr X.prog X.w X.K X.mg X.base C CA) (hr : Room 6 X.A) (ho : PE X o to) (ha : PA X [e] t)
    (hs1 : starEach [e] X.env = (false, eval e X.env) :: starEach [] X.env := by rfl) (hs2 : (backTo pos (starEach [] X.env)).any (·.1) = false := by rfl)
    (ht : eval (.Call (.Attribute o "reaches" apos) [e] [] pos) X.env = (do
      let ov ← eval o X.env
      standAt apos.atName
      let (g, first) ← holding [ov] (getMethod ov "reaches" pl)
      callWith pos g first (backTo pos (starEach [e] X.env)) (backToKw pos (keywordEach [] X.env))) := by rfl) :
    PE X (.Call (.Attribute o "reaches" apos) [e] [] pos) (tMeth CA "reaches" (sp_reaches X.K C CA) [] E0 to t) := by
  obtain ⟨f, fd, F, b, m⟩ := M.ex
  exact pe_meth ho M.cl m F hr b .nil pass0 ha hs1 hs2 ht
end
end My

namespace My
open PySem L2 Mth
abbrev s_law_drawing : Stmt := topS 102
theorem sc_law_drawing : FnScope ["_law_strokes", "_law_drawing_here", "_law_stroke"] ["_law_strokes"] (defScope s_law_drawing) := ⟨rfl, rfl, rfl, by decide +kernel, rfl, by decide +kernel, by decide +kernel⟩
end My

namespace My
open PySem L2 Mth

section
variable {P : Program} {w : World} {K : PySem.W.Frag} {mg : Str → Option Value} {base : Heap}
/-! ### a drawing of a list of strokes; tuples joined -/
def sp_ldrawingL (K : PySem.W.Frag) (CW : Addr) : Sp := fun vs H Q _ => ∃ (t : Addr) (us : List V) (zss : List (List T3)), vs = [.ref t] ∧ H t = some (.lst us) ∧ AllSt K H us zss ∧ DrOk zss ∧ ∀ H' r, Same H H' → IsW K CW H' r zss → Q r H'
theorem ok_law_drawingL {f fI CW : Addr} {fd : FuncData} (TW : DrawI P w K mg base CW fI) (m_wadd : MWa P w K mg base CW) (F : Fun K "_law_drawing" "_law_drawing" s_law_drawing f fd) : FnOk P w K mg base CX0 8 f fd ["_law_strokes"] (sp_ldrawingL K CW) := by
  refine F.ok sc_law_drawing (fun vs H Q E h => ?_) (fun cdv A outer s H vs Q E hr h => ?_)
  · obtain ⟨t, us, zss, rfl, _⟩ := h
    rfl
  obtain ⟨t, us, zss, rfl, hT, hA, ok, q⟩ := h
  refine ⟨_, (pss_cons (ps_set (i := 1) sc_law_drawing.nd rfl (by first | exact Or.inl rfl | exact Or.inr rfl) (pe_makeR0 TW.mkC TW.ok (hr.mono (by decide)) (by rfl) TW.mgC))
    (pss_cons (ps_for PassesOwn.never rfl (pi_list (pv 0)) (pg_name (i := 2) sc_law_drawing.nd rfl (by first | exact Or.inl rfl | exact Or.inr rfl)) (pss_one (ps_set (i := 1) sc_law_drawing.nd rfl (by first | exact Or.inl rfl | exact Or.inr rfl) (pe_op (op_wadd m_wadd (hr.mono (by decide))) (pv 1) (StX.pe_makeR TW.mkC TW.ok (hr.mono (by decide)) (by rfl) TW.mgC pass0 (pa_cons (pv 2) pa_nil))))))
    (pss_one (ps_ret (pv 1))))), ?_⟩
  have hl := Paired.length hA
  refine mkw_of2 (K := K) (us := []) (zss := []) .nil drNil fun H1 x1 s1 i1 => ⟨rfl, ?_⟩
  refine ⟨_, rfl, t, rfl, ⟨_, .inl (.inl (s1 _ _ hT))⟩, for_list (K := K) (a := t) (xs := us) (fun i σ H' => ∃ r x, σ = [some (.ref t), some r, x] ∧ Same H H' ∧ IsW K CW H' r (zss.take i)) ⟨.ref x1, none, rfl, s1, i1⟩ ?_ ?_ ?_⟩
  · rintro i σ H' _ ⟨r, x, rfl, s', _⟩
    exact .inl (.inl (s' _ _ hT))
  · rintro i y σ H' hy ⟨r, x, rfl, s', i'⟩
    obtain ⟨zs, ez, iz⟩ := pgt hA hy
    have hz := List.mem_of_getElem? ez
    have d1 : DrOk [zs] := ⟨(by show 1 ≤ 12; decide), fun z h => by rw [List.mem_singleton.mp h]; exact ok.ok zs hz⟩
    have d2 : DrOk (zss.take i ++ [zs]) := by
      rw [← take_more ez]
      exact ⟨by have := ok.len; rw [List.length_take]; omega, fun z h => ok.ok z (List.mem_of_mem_take h)⟩
    refine ⟨_, rfl, _, rfl, ?_⟩
    refine mkw_of2 (K := K) (us := [y]) (zss := [zs]) (.cons (iz.same s') .nil) d1 fun H2 x2 s2 i2 => ⟨rfl, ?_⟩
    refine wadd_of (i'.same s2) i2 d2 fun H3 r3 s3 i3 => gn_of ?_
    rw [← take_more ez] at i3
    exact ⟨r3, _, rfl, (s'.trans s2).trans s3, i3⟩
  · rintro σ H' ⟨r, x, rfl, s', i'⟩
    rw [hl, List.take_length] at i'
    exact ⟨_, rfl, q _ _ s' i'⟩
theorem catT_of {H : Hp} {Q : VK} {t1 t2 : Addr} {us ws : List V} (h1 : SqT K H t1 us) (h2 : SqT K H t2 ws) (hl : us.length + ws.length ≤ 1000) (q : ∀ H' p, Same H H' → SqT K H' p (us ++ ws) → Q (.ref p) H') : rCatA K (.ref t1) (.ref t2) H Q := by
  refine ⟨t1, t2, us, ws, rfl, rfl, h1, h2, small hl, fun e => ?_, fun e1 e2 => ?_, fun _ _ p hp => q _ p (same_new hp _) (.inl (.inl upd_same))⟩
  · subst e
    exact q H t2 (Same.refl _) h2
  · subst e2
    exact q H t1 (Same.refl _) (by rw [List.append_nil]; exact h1)
end
end My

namespace My
open PySem L2 Mth LamX
abbrev s_law_error_of : Stmt := topS 103
theorem sc_law_error_of : FnScope ["_law_call", "e", "_law_kinds", "_law_names", "_law_name"] ["_law_call"] (defScope s_law_error_of) := ⟨rfl, rfl, rfl, by decide +kernel, rfl, by decide +kernel, by decide +kernel⟩
def eCls : List Str := ["InvalidSpot", "InvalidTurn", "InvalidTimes", "TooFew", "InvalidStroke", "OpenStroke", "InvalidReach", "OutOfReach", "TooMany", "InvalidSize", "InvalidBox", "Contradiction", "BadText", "BadRow", "UnknownName", "InvalidName", "InvalidCode", "UnknownArm", "NotFree", "InvalidOperation"]
def eNms : List Str := ["spot", "turn", "times", "few", "stroke", "open", "reach", "out", "many", "size", "box", "contra", "text", "row", "unknown", "name", "code", "arm", "free", "operation"]
/-- the errors at the places Is of the list, none with a value of its own -/
structure Errs (K : PySem.W.Frag) (mg : Str → Option Value) (CB : Addr) (Cs : Nat → Addr) (Is : List Nat) : Prop where
  mg : ∀ j x, eCls[j]? = some x → mg x = some (.ref (Cs j))
  ec : ∀ n, n ∈ Is → ExcC K (Cs n)
  kit : ∀ n j, n ∈ Is → j < 20 → PySem.W.kitOne K (.ref (Cs n)) (.ref (Cs j)) = some (decide (j = n))
  val : ∀ n, n ∈ Is → PySem.W.kitOne K (.ref (Cs n)) (.type "ValueError") = some true
  exm : ∀ n, n ∈ Is → PySem.W.exmOne K (.ref (Cs n)) (.ref CB) = some true
  pln : ∀ n, n ∈ Is → n ∈ [0, 1, 2, 3, 5, 6, 8, 9, 10, 11, 14, 15, 17, 18]
abbrev errSuite : List Stmt := match defBody s_law_error_of with
  | .Try _ [.ExceptHandler _ _ b _] _ _ _ :: _ => b
  | _ => []
theorem kinds_step {a : Addr} {bs cs : List Bool} {l : Addr} {H : Hp} {D : Ends} {x0 x3 x4 : Option V} (h : H l = some (.lst (cs.map V.bl))) (hn : cs.length + bs.length ≤ 20)
    (k : ∀ H2 p, Same H H2 → H2 p = some (.lst ((cs ++ bs).map V.bl)) → D.nx [x0, some (.ref a), some (.ref p), x3, x4] H2) :
    tAsg (tOp rCat (tVar 2) (tLst (tIs a 1 bs))) (gName 2) D [x0, some (.ref a), some (.ref l), x3, x4] H := by
  refine ⟨_, rfl, rfl, ?_, fun l2 hl2 => ?_⟩
  · exact small (by rw [List.length_map]; omega)
  have s2 := same_new hl2 (.lst (bs.map V.bl))
  refine ⟨l, l2, _, _, rfl, rfl, s2 _ _ h, upd_same, small (by rw [List.length_map, List.length_map]; omega), fun p hp => ?_⟩
  refine k _ p (s2.trans (same_new hp _)) ?_
  rw [List.map_append]
  exact upd_same
def tw (n : Nat) : List Bool := (List.range 20).map fun j => decide (j = n)
theorem tw_flat (n : Nat) : ((tw n).map V.bl).all flatV = true := by
  rw [List.all_eq_true]
  intro x hx
  obtain ⟨b, _, rfl⟩ := List.mem_map.mp hx
  rfl
theorem tw_count : ∀ n, n ∈ [0, 1, 2, 3, 5, 6, 8, 9, 10, 11, 14, 15, 17, 18] → ((tw n).map V.bl).countP (fun z => eqV z (.bl true)) = 1 := by decide +kernel
theorem tw_at : ∀ n, n ∈ [0, 1, 2, 3, 5, 6, 8, 9, 10, 11, 14, 15, 17, 18] → ((tw n).map V.bl)[n]? = some (.bl true) := by
  decide +kernel
theorem nm_at : ∀ n, n ∈ [0, 1, 2, 3, 5, 6, 8, 9, 10, 11, 14, 15, 17, 18] → atI (eNms.map V.str) ((n : Nat) : Int) = some (.str (eNms.getD n Str.empty)) := by
  decide +kernel
theorem nm_ne : ∀ n, n ∈ [0, 1, 2, 3, 5, 6, 8, 9, 10, 11, 14, 15, 17, 18] → ∀ x : Str, x ∈ [("stroke" : Str), "out", "text", "row"] → ¬ decide (V.str (eNms.getD n Str.empty) = V.str x) = true := by
  decide +kernel
theorem nm_in : ∀ n, n ∈ [0, 1, 2, 3, 5, 6, 8, 9, 10, 11, 14, 15, 17, 18] → ¬ (if false = true then !inV (V.str (eNms.getD n Str.empty)) [V.str "code", V.str "operation"] else inV (V.str (eNms.getD n Str.empty)) [V.str "code", V.str "operation"]) = true := by
  decide +kernel
theorem tw_no {n m : Nat} {z : V} (h : m < n) (hz : ((tw n).map V.bl)[m]? = some z) : eqV z (.bl true) = false := by
  unfold tw at hz
  rw [List.map_map, List.getElem?_map] at hz
  obtain ⟨w', h1, h2⟩ := Option.map_eq_some_iff.mp hz
  have h3 : w' = m := by
    obtain ⟨h4, h5⟩ := List.getElem?_eq_some_iff.mp h1
    rw [List.getElem_range] at h5
    exact h5.symm
  subst h3
  rw [← h2]
  show (decide (w' = n) == true) = false
  rw [decide_eq_false (by omega)]
  rfl
section
variable {X : Cx} {CB : Addr} {Cs : Nat → Addr} {Is : List Nat}
abbrev ZC (X : Cx) (g : Addr) (cdg : Value) (s : Shared) (H : Hp) : Cx := (cxOf C8.CX0 X.prog X.w X.K X.mg X.base ["_law_call", "e", "_law_kinds", "_law_names", "_law_name"] "_law_error_of" (defScope s_law_error_of) g cdg X.A X.stack s H C8.E0).nox
theorem err_suite {a g : Addr} {cdg : Value} {s : Shared} {H0 : Hp} {oe : Obj} {pn : List (Addr × Obj)} {n : Nat} (b_isinstance : X.mg "isinstance" = none) (b_ValueError : X.mg "ValueError" = none) (ER : Errs X.K X.mg CB Cs Is) (hn : n ∈ Is) (hz : Zc (.ref (Cs n)) none oe) (hf : ∃ vs, oe.data = .fields vs) :
    ∃ t, PSs ((ZC X g cdg s H0).suite a ((a, oe) :: pn)) errSuite t ∧ ∀ (D : Ends) (σ : L2.St) (H : Hp), σ.length = 5 → σ[1]? = some (some (.ref a)) → (∀ H' p, Same H H' → H' p = some (.tup [.str (eNms.getD n Str.empty), .int 0]) → D.rt (.ref p) H') → t D σ H := by
  have EC := ER.ec n hn
  refine ⟨_, (pss_cons (ps_set (i := 2) sc_law_error_of.nd rfl (by first | exact Or.inl rfl | exact Or.inr rfl) (pe_lst (paIs (C := Cs 0) (n := "e") (i := 1) EC hz hf (ER.kit n 0 hn (by decide)) (ER.mg 0 "InvalidSpot" rfl) b_isinstance (by rfl) (by rfl) (by decide) (by rfl) (Or.inl (by rfl)) (by decide) (by decide) (paIs (C := Cs 1) (n := "e") (i := 1) EC hz hf (ER.kit n 1 hn (by decide)) (ER.mg 1 "InvalidTurn" rfl) b_isinstance (by rfl) (by rfl) (by decide) (by rfl) (Or.inl (by rfl)) (by decide) (by decide) (paIs (C := Cs 2) (n := "e") (i := 1) EC hz hf (ER.kit n 2 hn (by decide)) (ER.mg 2 "InvalidTimes" rfl) b_isinstance (by rfl) (by rfl) (by decide) (by rfl) (Or.inl (by rfl)) (by decide) (by decide) paIs0)))))
    (pss_cons (ps_set (i := 2) sc_law_error_of.nd rfl (by first | exact Or.inl rfl | exact Or.inr rfl) (pe_op op_cat (pv 2) (pe_lst (paIs (C := Cs 3) (n := "e") (i := 1) EC hz hf (ER.kit n 3 hn (by decide)) (ER.mg 3 "TooFew" rfl) b_isinstance (by rfl) (by rfl) (by decide) (by rfl) (Or.inl (by rfl)) (by decide) (by decide) (paIs (C := Cs 4) (n := "e") (i := 1) EC hz hf (ER.kit n 4 hn (by decide)) (ER.mg 4 "InvalidStroke" rfl) b_isinstance (by rfl) (by rfl) (by decide) (by rfl) (Or.inl (by rfl)) (by decide) (by decide) (paIs (C := Cs 5) (n := "e") (i := 1) EC hz hf (ER.kit n 5 hn (by decide)) (ER.mg 5 "OpenStroke" rfl) b_isinstance (by rfl) (by rfl) (by decide) (by rfl) (Or.inl (by rfl)) (by decide) (by decide) paIs0))))))
    (pss_cons (ps_set (i := 2) sc_law_error_of.nd rfl (by first | exact Or.inl rfl | exact Or.inr rfl) (pe_op op_cat (pv 2) (pe_lst (paIs (C := Cs 6) (n := "e") (i := 1) EC hz hf (ER.kit n 6 hn (by decide)) (ER.mg 6 "InvalidReach" rfl) b_isinstance (by rfl) (by rfl) (by decide) (by rfl) (Or.inl (by rfl)) (by decide) (by decide) (paIs (C := Cs 7) (n := "e") (i := 1) EC hz hf (ER.kit n 7 hn (by decide)) (ER.mg 7 "OutOfReach" rfl) b_isinstance (by rfl) (by rfl) (by decide) (by rfl) (Or.inl (by rfl)) (by decide) (by decide) (paIs (C := Cs 8) (n := "e") (i := 1) EC hz hf (ER.kit n 8 hn (by decide)) (ER.mg 8 "TooMany" rfl) b_isinstance (by rfl) (by rfl) (by decide) (by rfl) (Or.inl (by rfl)) (by decide) (by decide) paIs0))))))
    (pss_cons (ps_set (i := 2) sc_law_error_of.nd rfl (by first | exact Or.inl rfl | exact Or.inr rfl) (pe_op op_cat (pv 2) (pe_lst (paIs (C := Cs 9) (n := "e") (i := 1) EC hz hf (ER.kit n 9 hn (by decide)) (ER.mg 9 "InvalidSize" rfl) b_isinstance (by rfl) (by rfl) (by decide) (by rfl) (Or.inl (by rfl)) (by decide) (by decide) (paIs (C := Cs 10) (n := "e") (i := 1) EC hz hf (ER.kit n 10 hn (by decide)) (ER.mg 10 "InvalidBox" rfl) b_isinstance (by rfl) (by rfl) (by decide) (by rfl) (Or.inl (by rfl)) (by decide) (by decide) (paIs (C := Cs 11) (n := "e") (i := 1) EC hz hf (ER.kit n 11 hn (by decide)) (ER.mg 11 "Contradiction" rfl) b_isinstance (by rfl) (by rfl) (by decide) (by rfl) (Or.inl (by rfl)) (by decide) (by decide) paIs0))))))
    (pss_cons (ps_set (i := 2) sc_law_error_of.nd rfl (by first | exact Or.inl rfl | exact Or.inr rfl) (pe_op op_cat (pv 2) (pe_lst (paIs (C := Cs 12) (n := "e") (i := 1) EC hz hf (ER.kit n 12 hn (by decide)) (ER.mg 12 "BadText" rfl) b_isinstance (by rfl) (by rfl) (by decide) (by rfl) (Or.inl (by rfl)) (by decide) (by decide) (paIs (C := Cs 13) (n := "e") (i := 1) EC hz hf (ER.kit n 13 hn (by decide)) (ER.mg 13 "BadRow" rfl) b_isinstance (by rfl) (by rfl) (by decide) (by rfl) (Or.inl (by rfl)) (by decide) (by decide) (paIs (C := Cs 14) (n := "e") (i := 1) EC hz hf (ER.kit n 14 hn (by decide)) (ER.mg 14 "UnknownName" rfl) b_isinstance (by rfl) (by rfl) (by decide) (by rfl) (Or.inl (by rfl)) (by decide) (by decide) paIs0))))))
    (pss_cons (ps_set (i := 2) sc_law_error_of.nd rfl (by first | exact Or.inl rfl | exact Or.inr rfl) (pe_op op_cat (pv 2) (pe_lst (paIs (C := Cs 15) (n := "e") (i := 1) EC hz hf (ER.kit n 15 hn (by decide)) (ER.mg 15 "InvalidName" rfl) b_isinstance (by rfl) (by rfl) (by decide) (by rfl) (Or.inl (by rfl)) (by decide) (by decide) (paIs (C := Cs 16) (n := "e") (i := 1) EC hz hf (ER.kit n 16 hn (by decide)) (ER.mg 16 "InvalidCode" rfl) b_isinstance (by rfl) (by rfl) (by decide) (by rfl) (Or.inl (by rfl)) (by decide) (by decide) (paIs (C := Cs 17) (n := "e") (i := 1) EC hz hf (ER.kit n 17 hn (by decide)) (ER.mg 17 "UnknownArm" rfl) b_isinstance (by rfl) (by rfl) (by decide) (by rfl) (Or.inl (by rfl)) (by decide) (by decide) paIs0))))))
    (pss_cons (ps_set (i := 2) sc_law_error_of.nd rfl (by first | exact Or.inl rfl | exact Or.inr rfl) (pe_op op_cat (pv 2) (pe_lst (paIs (C := Cs 18) (n := "e") (i := 1) EC hz hf (ER.kit n 18 hn (by decide)) (ER.mg 18 "NotFree" rfl) b_isinstance (by rfl) (by rfl) (by decide) (by rfl) (Or.inl (by rfl)) (by decide) (by decide) (paIs (C := Cs 19) (n := "e") (i := 1) EC hz hf (ER.kit n 19 hn (by decide)) (ER.mg 19 "InvalidOperation" rfl) b_isinstance (by rfl) (by rfl) (by decide) (by rfl) (Or.inl (by rfl)) (by decide) (by decide) paIs0)))))
    (pss_cons (ps_if (PW.pt (pw_or (pt_cmpR (op_ne) (pe_bm PySem.F.plainAttrs_list PySem.F.slot_list_count PySem.F.type_list_count mt_count (pv 2) (pa_cons pe_bl pa_nil)) pe_int (nomark _)) (pw_or1 (pt_not (pt_val (pe_callB (call_isE (X := ZC X g cdg s H0) EC hz hf) (by rfl) b_isinstance (by decide +kernel) (pa_cons (pv 1) (pa_cons (pe_bltn (v := .ty "ValueError") (by rfl) b_ValueError (by decide +kernel) rfl) pa_nil)))))))) (pss_one (ps_ret (pe_tup (pa_cons pe_str (pa_cons pe_int pa_nil))))) pss_nil)
    (pss_cons (ps_set (i := 3) sc_law_error_of.nd rfl (by first | exact Or.inl rfl | exact Or.inr rfl) (pe_lst (pa_cons pe_str (pa_cons pe_str (pa_cons pe_str (pa_cons pe_str (pa_cons pe_str (pa_cons pe_str (pa_cons pe_str (pa_cons pe_str (pa_cons pe_str (pa_cons pe_str (pa_cons pe_str (pa_cons pe_str pa_nil))))))))))))))
    (pss_cons (ps_set (i := 3) sc_law_error_of.nd rfl (by first | exact Or.inl rfl | exact Or.inr rfl) (pe_op op_cat (pv 3) (pe_lst (pa_cons pe_str (pa_cons pe_str (pa_cons pe_str (pa_cons pe_str (pa_cons pe_str (pa_cons pe_str (pa_cons pe_str (pa_cons pe_str pa_nil)))))))))))
    (pss_cons (ps_set (i := 4) sc_law_error_of.nd rfl (by first | exact Or.inl rfl | exact Or.inr rfl) (pe_ix (r := rIxL X.K) ix_list (pv 3) (pe_bm PySem.F.plainAttrs_list PySem.F.slot_list_index PySem.F.type_list_index mt_index (pv 2) (pa_cons pe_bl pa_nil)) (fun _ _ => rfl)))
    (pss_cons (ps_if (pt_cmpR (op_eq) (pv 4) pe_str (nomark _)) (pss_one (ps_never)) pss_nil)
    (pss_cons (ps_if (pt_cmpR (op_eq) (pv 4) pe_str (nomark _)) (pss_one (ps_never)) pss_nil)
    (pss_cons (ps_if (pt_cmpR (op_eq) (pv 4) pe_str (nomark _)) (pss_one (ps_never)) pss_nil)
    (pss_cons (ps_if (pt_cmpR (op_eq) (pv 4) pe_str (nomark _)) (pss_one (ps_never)) pss_nil)
    (pss_one (ps_ret (pe_tup (pa_cons (pv 4) (pa_cons (pe_ifExp (pt_cmpR (op_in_seq) (pv 4) (pe_lst (pa_cons pe_str (pa_cons pe_str pa_nil))) (by rfl)) (pe_nev) pe_int) pa_nil)))))))))))))))))))), ?_⟩
  intro D σ H hl h1 q
  obtain ⟨x0, x2, x3, x4, rfl⟩ : ∃ x0 x2 x3 x4, σ = [x0, some (.ref a), x2, x3, x4] := by
    match σ, hl, h1 with
    | [y0, y1, y2, y3, y4], _, h => exact ⟨y0, y2, y3, y4, by rw [show y1 = some (.ref a) from Option.some.inj h]⟩
  have pl := ER.pln n hn
  refine ⟨rfl, (by show 3 ≤ sizeLine; decide), fun l1 hl1 => gn_of ?_⟩
  have s1 := same_new hl1 (.lst ([decide (0 = n), decide (1 = n), decide (2 = n)].map V.bl))
  refine kinds_step upd_same (by show 6 ≤ 20; decide) fun H2 p2 s2 k2 => ?_
  refine kinds_step k2 (by show 9 ≤ 20; decide) fun H3 p3 s3 k3 => ?_
  refine kinds_step k3 (by show 12 ≤ 20; decide) fun H4 p4 s4 k4 => ?_
  refine kinds_step k4 (by show 15 ≤ 20; decide) fun H5 p5 s5 k5 => ?_
  refine kinds_step k5 (by show 18 ≤ 20; decide) fun H6 p6 s6 k6 => ?_
  refine kinds_step k6 (by show 20 ≤ 20; decide) fun H7 p7 s7 k7 => ?_
  have sx := s1.trans (s2.trans (s3.trans (s4.trans (s5.trans (s6.trans s7)))))
  have k8 : H7 p7 = some (.lst ((tw n).map V.bl)) := k7
  clear k7 k6 k5 k4 k3 k2
  have sq : SqL X.K H7 p7 ((tw n).map V.bl) := .inl (.inl k8)
  refine ⟨_, rfl, .inl ⟨rfl, _, sq⟩, p7, _, _, rfl, rfl, sq, rfl, tw_flat n, ?_⟩
  rw [tw_count n pl]
  refine ⟨rfl, _, rfl, ?_⟩
  refine (if_neg (by decide)).mpr ?_
  refine ⟨_, rfl, .ty "ValueError", .type "ValueError", true, rfl, fun u r => r, ER.val n hn, true, rfl, ?_⟩
  refine iteF ?_
  refine ⟨(by show 12 ≤ sizeLine; decide), fun l9 hl9 => gn_of ?_⟩
  have s9 := same_new hl9 (.lst ((eNms.take 12).map V.str))
  refine ⟨_, rfl, (by show 8 ≤ sizeLine; decide), fun l10 hl10 => ?_⟩
  have s10 := same_new hl10 (.lst ((eNms.drop 12).map V.str))
  refine ⟨l9, l10, _, _, rfl, rfl, s10 _ _ upd_same, upd_same, (by show 20 ≤ sizeLine; decide), fun l11 hl11 => gn_of ?_⟩
  have s11 := same_new hl11 (.lst (eNms.map V.str))
  have k11 := s11 _ _ (s10 _ _ (s9 _ _ k8))
  have s7x := s9.trans (s10.trans s11)
  have kn : upd (upd (upd H7 l9 (.lst ((eNms.take 12).map V.str))) l10 (.lst ((eNms.drop 12).map V.str))) l11 (.lst (eNms.map V.str)) l11 = some (.lst (eNms.map V.str)) := upd_same
  refine ⟨_, rfl, _, rfl, .inl ⟨rfl, _, .inl (.inl k11)⟩, p7, _, _, n, .bl true, rfl, rfl, .inl (.inl k11), rfl, tw_flat n, tw_at n pl, rfl, fun m z hm hz => tw_no hm hz, l11, _, _, _, rfl, rfl, .inl (.inl upd_same), nm_at n pl, gn_of ?_⟩
  refine ⟨_, rfl, rfl, _, rfl, (if_neg (nm_ne n pl _ (.head _))).mpr ?_⟩
  refine ⟨_, rfl, rfl, _, rfl, (if_neg (nm_ne n pl _ (.tail _ (.head _)))).mpr ?_⟩
  refine ⟨_, rfl, rfl, _, rfl, (if_neg (nm_ne n pl _ (.tail _ (.tail _ (.head _))))).mpr ?_⟩
  refine ⟨_, rfl, rfl, _, rfl, (if_neg (nm_ne n pl _ (.tail _ (.tail _ (.tail _ (.head _)))))).mpr ?_⟩
  refine ⟨_, rfl, _, rfl, (by show 2 ≤ sizeLine; decide), fun l12 hl12 => ?_⟩
  have s12 := same_new hl12 (.lst [V.str "code", V.str "operation"])
  refine ⟨l12, _, rfl, .inl (.inl (.inl upd_same)), rfl, rfl, _, rfl, (if_neg (nm_in n pl)).mpr ?_⟩
  refine ⟨(by show 2 ≤ sizeLine; decide), fun p13 hp13 => ?_⟩
  exact q _ _ (sx.trans (s7x.trans (s12.trans (same_new hp13 _)))) upd_same
/-- what is made of the lambda's reading: nothing for a call that ends, the error's name otherwise -/
def TErr (Cs : Nat → Addr) (Is : List Nat) : (XK → Hp → VK → Prop) → Hp → VK → Prop := fun tl H Q =>
  tl (fun cls d H' => ∃ n, n ∈ Is ∧ cls = .ref (Cs n) ∧ d = none ∧ ∀ H'' p, Same H' H'' → H'' p = some (.tup [.str (eNms.getD n Str.empty), .int 0]) → Q (.ref p) H'') H (fun _ H' => Q .non H')
theorem err_gives {g : Addr} {cdg : Value} {q : Str} (b_isinstance : X.mg "isinstance" = none) (b_ValueError : X.mg "ValueError" = none) (m_B : X.mg "CopyError" = some (.ref CB)) (ER : Errs X.K X.mg CB Cs Is) :
    GivesTo X ["_law_call", "e", "_law_kinds", "_law_names", "_law_name"] "_law_error_of" (defScope s_law_error_of) g cdg (defBody s_law_error_of) "_law_call" q (TErr Cs Is) := by
  intro f c' s H Q tl act hc h
  refine ⟨_, pss_cons (ps_try_as (X := ZC X g cdg s H) (n := "e") (i := 1) (c := .ref CB)
      (tb := fun W D σ H => ∃ Ech : XK, (∀ cls d σ' H', Ech cls d H' → W cls d σ' H') ∧ σ[0]? = some (some (.ref f)) ∧ H c' = some (CodeO c' q) ∧ tl Ech H (fun _ H1 => D.nx σ H1))
      (ts := fun a cls d D σ H => σ.length = 5 → ∃ n, n ∈ Is ∧ cls = .ref (Cs n) ∧ d = none ∧ σ[1]? = some (some (.ref a)) ∧ ∀ H'' p, Same H H'' → H'' p = some (.tup [.str (eNms.getD n Str.empty), .int 0]) → D.rt (.ref p) H'')
      rfl rfl sc_law_error_of.nd (by rfl) (by rfl) ⟨by rfl, by decide, .inl m_B⟩ LamX.takes0 (fun W pn xe tk _ => ?_) (fun a oe cls d pn hz hf => ?_)) (pss_one (ps_ret pe_non)), ?_⟩
  · refine ⟨fun pins s' σ H' D I h' => ?_⟩
    obtain ⟨Ech, hW, h1, h2, h3⟩ := h'
    exact PSs.run (pss_one (ps_expr (act W pn xe Ech _ _ tk hW) (by rfl))) pins s' σ H' D I ⟨h1, h2, h3⟩
  · refine ⟨fun pins s' σ H' D I h' => ?_⟩
    obtain ⟨n, hn, rfl, rfl, h1, h2⟩ := h' I.len
    obtain ⟨t, ht, hq⟩ := err_suite (X := X) (g := g) (cdg := cdg) (s := s) (H0 := H) (a := a) (pn := pn) b_isinstance b_ValueError ER hn hz hf
    exact ht.run pins s' σ H' D I (hq D σ H' I.len h1 h2)
  · refine ⟨_, ?_, rfl, hc, h⟩
    rintro cls d σ' H' ⟨n, hn, rfl, rfl, h2⟩
    refine ⟨true, ER.exm n hn, fun _ a _ hl => ⟨n, hn, rfl, rfl, ?_, h2⟩, fun z => by cases z⟩
    rw [List.length_set] at hl
    rw [List.getElem?_set_self (by omega)]
end
end My

namespace My
open PySem L2 Mth LamX
abbrev s_law : Stmt := topS 104
theorem sc_law : FnScope ["_law_script", "_law_d", "_law_tolds", "_law_k", "_law_chain_here", "_law_limit", "_law_found", "_law_due", "_law_x", "_law_y", "_law_missed_here", "_law_drawn", "_law_spot_here", "_law_wide", "_law_odd"] ["_law_script"] (defScope s_law) := ⟨rfl, rfl, rfl, by decide +kernel, rfl, by decide +kernel, by decide +kernel⟩
section
variable {P : Program} {w : World} {K : PySem.W.Frag} {mg : Str → Option Value} {base : Heap}
def spLaw (K : PySem.W.Frag) (T : List (Addr × Str)) : Sp := fun vs H Q _ => ∃ (a : Addr) (ns : List Int), vs = [.ref a] ∧ SqL K H a (ns.map V.int) ∧ ns.length ≤ 63 ∧ Tabs T H ∧ ∀ H', Q (.bl true) H'
abbrev qL : Str := ("law" ++ ".<locals>." : Str) ++ ("<lambda>" : Str)
theorem sig_of {t : St → Hp → Prop} {σ σ' : St} {H : Hp} (e : σ = σ') (h : t σ' H) : t σ H := e ▸ h
theorem huA {PA PL : Addr} (ne : (PL == PA) = false) : ∀ p ∈ [(PA, qA), (PL, qL)], p.1 = PA → p.2 = qA := fun p hp e => by
  simp only [List.mem_cons, List.mem_nil_iff, or_false] at hp
  rcases hp with rfl | rfl
  · rfl
  · have e : PL = PA := e
    rw [e] at ne
    simp at ne
theorem huB {PA PL : Addr} (ne : (PL == PA) = false) : ∀ p ∈ [(PA, qA), (PL, qL)], p.1 = PL → p.2 = qL := fun p hp e => by
  simp only [List.mem_cons, List.mem_nil_iff, or_false] at hp
  rcases hp with rfl | rfl
  · have e : PA = PL := e
    rw [e] at ne
    simp at ne
  · rfl
theorem cut_take {us : List V} {k : Nat} (h : k ≤ us.length) : cutV us none (some (k : Int)) = us.take k := by
  unfold cutV
  rw [HT.sIx_none, HT.sIx_nat, List.drop_zero, Nat.sub_zero, Nat.min_eq_left h]
structure S20 (K : PySem.W.Frag) (C CA CH : Addr) (T : List (Addr × Str)) (L d : Addr) (us : List V) (as : List Am) (vh : V) (st : Src) (H : Hp) : Prop where
  hl : H L = some (.lst us)
  ab : AllB K H us as
  ih : IsH K C CA CH H vh as
  tb : Tabs T H
  hd : H d = some (.lst (encD st))
theorem S20.same {C CA CH L d : Addr} {T : List (Addr × Str)} {us : List V} {as : List Am} {vh : V} {st : Src} {H H' : Hp} (h : S20 K C CA CH T L d us as vh st H) (s : Same H H') : S20 K C CA CH T L d us as vh st H' :=
  ⟨s _ _ h.hl, h.ab.same s, h.ih.same s, h.tb.ext s, s _ _ h.hd⟩
theorem S20.extN {C CA CH L d : Addr} {T : List (Addr × Str)} {us : List V} {as : List Am} {vh : V} {st : Src} {H H' : Hp} (h : S20 K C CA CH T L d us as vh st H) (e : ExtN H H') (t : Tabs T H') : S20 K C CA CH T L d us as vh st H' :=
  ⟨extN_L h.hl e, AllB.extN h.ab e, h.ih.extN e, t, extN_L h.hd e⟩
theorem deep_d3L {zs : List T3} (h : zs.length ≤ 1000) : Deep 6 (.list (zs.map d3)) := by
  refine ⟨by rw [List.length_map]; exact h, fun x hx => ?_⟩
  obtain ⟨z, _, rfl⟩ := List.mem_map.mp hx
  exact deep3 3 z
theorem sh_d3L (zs : List T3) : SeqAt.shaped (.list (zs.map d3)) = true := by
  show (PyData.canLayAll0 (zs.map d3) && decide (PyData.depthAll (zs.map d3) + 1 ≤ 64)) = true
  rw [canAll (xs := zs.map d3) (fun x hx => by obtain ⟨z, _, rfl⟩ := List.mem_map.mp hx; rfl), decide_eq_true (by
    have := depAll (n := 5) (xs := zs.map d3) (fun x hx => by
      obtain ⟨z, _, rfl⟩ := List.mem_map.mp hx
      show PyData.depth (d3 z) ≤ 5
      simp [d3, PyData.depth, PyData.depthAll])
    omega)]
  rfl
theorem eqv_nilL (zs : List T3) : PyData.eqv (.list (zs.map d3)) (.list []) = decide (zs = []) := by
  cases zs with
  | nil => rfl
  | cons a l => rfl
theorem rch2_ok {as : List Am} {n : Int} (h0 : 0 ≤ n) (h1 : n ≤ 20) : ∀ z ∈ rch2 as n, Ok z ∧ B 5 z ∧ inZ (zns as) z = true := fun z hz => by
  obtain ⟨h2, h3⟩ := List.mem_filter.mp hz
  obtain ⟨x, hx, hz2⟩ := List.mem_flatMap.mp h2
  obtain ⟨y, hy, rfl⟩ := List.mem_map.mp hz2
  exact ⟨ok_grid x y, B_grid h1 (nums_mem h0 hx) (nums_mem h0 hy), h3⟩
theorem af_reaches {a0 a1 : Addr} {a2 a3 : Int} {a4 : Bool} {a5 : Addr} : (af a0 a1 a2 a3 a4 a5).lookup ("reaches" : Str) = none := by
  unfold af
  simp only [List.lookup, show (("reaches" : Str) == "centre") = false by decide +kernel, show (("reaches" : Str) == "factor") = false by decide +kernel, show (("reaches" : Str) == "least") = false by decide +kernel, show (("reaches" : Str) == "most") = false by decide +kernel, show (("reaches" : Str) == "flips") = false by decide +kernel, show (("reaches" : Str) == "pen") = false by decide +kernel]
abbrev wA : Am := ⟨(0, 0, 1), (1, 0, 1), 0, 20, false⟩
def dZ : PyData := .tuple [.str "size", .int 0]
theorem shZ : SeqAt.shaped dZ = true := by decide +kernel
theorem eqvZ : PyData.eqv dZ dZ = true := by simp [dZ, PyData.eqv, PyData.eqvAll]
theorem wA_ok : AmOk wA := ⟨ok_grid 0 0, ok_1, by decide, by decide, by decide, by decide⟩
theorem wA_bc : BC 11 (about wA) := about_BC (n := 3) wA_ok (by decide) (by decide)
theorem rch2_nil : rch2 [] 20 = grid 20 := by
  unfold rch2
  rw [show zns [] = [] from List.length_eq_zero_iff.mp (zns_len [])]
  exact List.filter_eq_self.mpr fun z _ => rfl
theorem grid_ok {z : T3} (h : z ∈ grid 20) : Ok z ∧ B 5 z := by
  have := rch2_ok (as := []) (n := 20) (by decide) (by decide) z (by rw [rch2_nil]; exact h)
  exact ⟨this.1, this.2.1⟩
theorem grid_len : (grid 20).length ≤ 1681 := by
  unfold grid
  rw [List.length_flatMap]
  simp only [List.length_map]
  rw [List.map_const', List.sum_replicate_nat]
  have := nums_len (n := 20) (by decide) (by decide)
  exact Nat.mul_le_mul this this
theorem rch2_wide : rch2 [wA] 20 = (rch2 [] 20).filter (rch wA) := by
  rw [rch2_nil]
  unfold rch2
  refine List.filter_congr fun z hz => ?_
  obtain ⟨oz, _⟩ := grid_ok hz
  have ok1 : ∀ a ∈ [wA], AmOk a := fun a ha => by rw [List.mem_singleton.mp ha]; exact wA_ok
  rw [Bool.eq_iff_iff, inZ_at ok1 oz]
  constructor
  · intro h
    have := h 0 wA rfl
    rw [List.take_zero, show jall [] = still from rfl, ap_still oz] at this
    exact this
  · intro h n a e
    match n, e with
    | 0, e =>
      cases e
      rw [List.take_zero, show jall [] = still from rfl, ap_still oz]
      exact h
theorem st_dot {z : T3} (h : Ok z) : StOk [z] := ⟨by show 1 ≤ 1; decide, by show 1 ≤ 12; decide, fun y hy => by rw [List.mem_singleton.mp hy]; exact h, fun j x y ex ey => by simp at ey⟩
theorem dr_dot {z : T3} (h : Ok z) : DrOk [[z]] := ⟨by show 1 ≤ 12; decide, fun zs hz => by rw [List.mem_singleton.mp hz]; exact st_dot h⟩
theorem ok_law {f CB PL cL g C CA CH CW fH fA : Addr} {fdA' : FuncData} {mvA dsA : List Value} {T : List (Addr × Str)} {Cs : Nat → Addr} {oc kV doc pm ct oc' kV' doc' pm' ct' cdv' : Value} {od an od' an' : Option Addr} {osl osl' : Array (Option Value)}
    (TH : ChainI P w K mg base C CA CH fH) (TA : ArmI P w K mg base C CA fA fdA' mvA dsA) (m_hget : MHg P w K mg base C CA CH) (m_rch : MAr P w K mg base C CA)
    (b_isinstance : mg "isinstance" = none) (b_ValueError : mg "ValueError" = none) (b_len : mg "len" = none) (b_range : mg "range" = none) (b_int : mg "int" = none)
    (m_B : mg "CopyError" = some (.ref CB)) (ER : Errs K mg CB Cs [9]) (m_E : mg "_law_error_of" = some (.ref g)) (k_E : PySem.W.keepIn K (.ref g) = true)
    (l_E : K.lookup g = some ⟨oc', od', .func (PySem.W.fnOf "_law_error_of" "_law_error_of" (defArgs s_law_error_of) (defBody s_law_error_of) (defScope s_law_error_of) .none kV' doc' pm' an' cdv' ct'), osl'⟩) (c_E : PySem.W.codeIn K cdv' "_law_error_of" = true)
    (b_E : Binds K (PySem.W.fnOf "_law_error_of" "_law_error_of" (defArgs s_law_error_of) (defBody s_law_error_of) (defScope s_law_error_of) .none kV' doc' pm' an' cdv' ct') ["_law_call"] [])
    (d_law_random : D P w K mg base "_law_random" 1 (sp_random K)) (d_law_below : D P w K mg base "_law_below" 1 sp_below) (d_law_arm_told : D P w K mg base "_law_arm_told" 4 (sp_draw fun H r => ∃ a, IsB K H r a ∧ ArmIn a)) (d_law_drawingL : D P w K mg base "_law_drawing" 8 (sp_ldrawingL K CW))
    (d_law_chain : D P w K mg base "_law_chain" 11 (sp_lchain K C CA CH)) (d_law_missed : D P w K mg base "_law_missed" 7 (sp_lmissed K)) (d_law_equal : D P w K mg base "_law_equal" 6 (sp_equal K 6)) (d_can_draw : D P w K mg base "can_draw" 10 (sp_cdr K C CA CH CW T))
    (d_reachable_spots : D P w K mg base "reachable_spots" 8 (sp_rspots K C CA CH)) (d_reachable_spotsX : DX P w K mg base "reachable_spots" 8 (sp_rspotsX (Cs 9)))
    (hmL : (PL, qL) ∈ T) (huL : ∀ p ∈ T, p.1 = PL → p.2 = qL)
    (TBL : TabB base mg cL PL) (lk : K.lookup f = some ⟨oc, od, .func (PySem.W.fnOf "law" "law" (defArgs s_law) (defBody s_law) (defScope s_law) .none kV doc pm an (.ref cL) ct), osl⟩) (hcd : PySem.W.codeIn K (.ref cL) "law" = true) :
    FnOk P w K mg base CX0 15 f (PySem.W.fnOf "law" "law" (defArgs s_law) (defBody s_law) (defScope s_law) .none kV doc pm an (.ref cL) ct) ["_law_script"] (spLaw K T) := by
  refine fn_of lk hcd sc_law (fun vs H Q E h => ?_) (fun A outer s H vs Q E hr h => ?_)
  · obtain ⟨a, ns, rfl, _⟩ := h
    rfl
  obtain ⟨a, ns, rfl, hS, h63, hT, q⟩ := h
  refine (?_ : ∃ t, PSs (cxOf CX0 P w K mg base _ _ _ f (.ref cL) A outer s H E).nox _ t ∧ _).imp fun t h => ⟨h.1.nox, h.2⟩
  refine ⟨_, (pss_cons (ps_set (i := 1) sc_law.nd rfl (by first | exact Or.inl rfl | exact Or.inr rfl) (pc d_law_random (hr.mono (by decide)) (pa_cons (pv 0) (pa_cons pe_int pa_nil))))
    (pss_cons (ps_setLc (i := 2) (own := [("_law_k", 3)]) (g := gName 3) (tt := tYes) (by rfl) sc_law.nd rfl rfl (sw_true rfl rfl rfl (by decide +kernel)) (pi_range1 (by rfl) b_range (pa_cons (pc d_law_below (hr.mono (by decide)) (pa_cons (pv 1) (pa_cons pe_int pa_nil))) pa_nil)) (blkOk_by (own := [("_law_k", 3)]) (N := ["_law_script", "_law_d", "_law_tolds", "_law_k", "_law_chain_here", "_law_limit", "_law_found", "_law_due", "_law_x", "_law_y", "_law_missed_here", "_law_drawn", "_law_spot_here", "_law_wide", "_law_odd"]) (sc := defScope s_law) (by decide +kernel)) (fun _ _ _ _ _ => (pg_name (i := 3) sc_law.nd rfl (by first | exact Or.inl rfl | exact Or.inr rfl))) (fun _ _ _ _ _ => pts_nil) (fun _ _ _ _ _ => (pc d_law_arm_told (hr.mono (by decide)) (pa_cons (pv 1) pa_nil))))
    (pss_cons (ps_asg (pe_tup (pa_cons (pc d_law_chain (hr.mono (by decide)) (pa_cons (pv 2) pa_nil)) (pa_cons (pc d_law_below (hr.mono (by decide)) (pa_cons (pv 1) (pa_cons pe_int pa_nil))) pa_nil))) (pg_tup rfl (pgs_cons (pg_name (i := 4) sc_law.nd rfl (by first | exact Or.inl rfl | exact Or.inr rfl)) (pgs_cons (pg_name (i := 5) sc_law.nd rfl (by first | exact Or.inl rfl | exact Or.inr rfl)) pgs_nil))))
    (pss_cons (ps_par (i := 6) (j := 7) (by rfl) sc_law.nd rfl rfl (by decide) rfl rfl (pa_cons (pc d_reachable_spots (hr.mono (by decide)) (pa_cons (pv 4) (pa_cons (pv 5) pa_nil))) (pa_cons (pe_lst pa_nil) pa_nil)) (by rfl))
    (pss_cons (ps_for PassesOwn.never rfl (pi_range2 (by rfl) b_range (pa_cons (pe_op op_sub pe_int (pv 5)) (pa_cons (pe_op op_add (pv 5) pe_int) pa_nil))) (pg_name (i := 8) sc_law.nd rfl (by first | exact Or.inl rfl | exact Or.inr rfl)) (pss_one (ps_for PassesOwn.never rfl (pi_range2 (by rfl) b_range (pa_cons (pe_op op_sub pe_int (pv 5)) (pa_cons (pe_op op_add (pv 5) pe_int) pa_nil))) (pg_name (i := 9) sc_law.nd rfl (by first | exact Or.inl rfl | exact Or.inr rfl)) (pss_cons (ps_asg (pc d_law_missed (hr.mono (by decide)) (pa_cons (pv 2) (pa_cons (pe_tup (pa_cons (pe_tup (pa_cons (pe_tup (pa_cons (pv 8) (pa_cons (pv 9) (pa_cons pe_int pa_nil)))) pa_nil)) pa_nil)) pa_nil))) (pg_tup rfl (pgs_cons (pg_name (i := 10) sc_law.nd rfl (by first | exact Or.inl rfl | exact Or.inr rfl)) (pgs_cons (pg_name (i := 11) sc_law.nd rfl (by first | exact Or.inl rfl | exact Or.inr rfl)) pgs_nil))))
    (pss_one (ps_set (i := 7) sc_law.nd rfl (by first | exact Or.inl rfl | exact Or.inr rfl) (pe_op op_cat (pv 7) (pe_op op_rep (pe_lst (pa_cons (pe_tup (pa_cons (pv 8) (pa_cons (pv 9) (pa_cons pe_int pa_nil)))) pa_nil)) (pe_callTy call_int1 (by rfl) b_int (by decide +kernel) (pa_cons (pe_cmpR (op_isN) (pv 10) pe_non (nomark _)) pa_nil))))))))))
    (pss_cons (ps_if (pt_not (pt_val (pc d_law_equal (hr.mono (by decide)) (pa_cons (pv 6) (pa_cons (pv 7) pa_nil))))) (pss_one (ps_ret pe_bl)) pss_nil)
    (pss_cons (ps_if (PW.pt (pw_and (pt_cmpR (r := rNeD K) (op_neD hr.units) (pv 7) (pe_lst pa_nil) (nomark _)) (pw_and1 (pt_not (pt_val (pc d_can_draw (hr.mono (by decide)) (pa_cons (pv 4) (pa_cons (pc d_law_drawingL (hr.mono (by decide)) (pa_cons (pe_lc (own := [("_law_spot_here", 12)]) (g := gName 12) (tt := tYes) (by rfl) sc_law.nd (pi_list (pe_slice (r := rSlL K) sl_list (pv 7) po_none (po_some pe_int))) (blkOk_by (own := [("_law_spot_here", 12)]) (N := ["_law_script", "_law_d", "_law_tolds", "_law_k", "_law_chain_here", "_law_limit", "_law_found", "_law_due", "_law_x", "_law_y", "_law_missed_here", "_law_drawn", "_law_spot_here", "_law_wide", "_law_odd"]) (sc := defScope s_law) (by decide +kernel)) (fun _ _ _ _ _ => (pg_name (i := 12) sc_law.nd rfl (by first | exact Or.inl rfl | exact Or.inr rfl))) (fun _ _ _ _ _ => pts_nil) (fun _ _ _ _ _ => (pe_tup (pa_cons (pv 12) pa_nil)))) pa_nil)) pa_nil)))))))) (pss_one (ps_ret pe_bl)) pss_nil)
    (pss_cons (ps_set (i := 13) sc_law.nd rfl (by first | exact Or.inl rfl | exact Or.inr rfl) (StX.pe_makeR TH.mkC TH.ok (hr.mono (by decide)) (by rfl) TH.mgC pass0 (pa_cons (pe_make TA.mkC TA.ok (hr.mono (by decide)) (by rfl) TA.mgC TA.bd TA.bv pass0 (pa_cons (pe_tup (pa_cons pe_int (pa_cons pe_int (pa_cons pe_int pa_nil)))) (pa_cons (pe_tup (pa_cons pe_int (pa_cons pe_int (pa_cons pe_int pa_nil)))) (pa_cons pe_int (pa_cons pe_int pa_nil))))) pa_nil)))
    (pss_cons (ps_if (pt_cmpR (op_ne) (pe_callB call_len_seq (by rfl) b_len PySem.boot_len (pa_cons (pc d_reachable_spots (hr.mono (by decide)) (pa_cons (pv 13) (pa_cons pe_int pa_nil))) pa_nil)) (pe_callB call_len_seq (by rfl) b_len PySem.boot_len (pa_cons (pe_lc (own := [("_law_spot_here", 12)]) (g := gName 12) (tt := tB (tMeth CA "reaches" (sp_reaches K C CA) [] E0 (tOp (rIxO CH (sp_hget K C CA CH)) (tVar 13) (tC (.int 0))) (tCons (tVar 12) tNil))) (by rfl) sc_law.nd (pi_list (pc d_reachable_spots (hr.mono (by decide)) (pa_cons (pe_makeR0 TH.mkC TH.ok (hr.mono (by decide)) (by rfl) TH.mgC) (pa_cons pe_int pa_nil)))) (blkOk_by (own := [("_law_spot_here", 12)]) (N := ["_law_script", "_law_d", "_law_tolds", "_law_k", "_law_chain_here", "_law_limit", "_law_found", "_law_due", "_law_x", "_law_y", "_law_missed_here", "_law_drawn", "_law_spot_here", "_law_wide", "_law_odd"]) (sc := defScope s_law) (by decide +kernel)) (fun _ _ _ _ _ => (pg_name (i := 12) sc_law.nd rfl (by first | exact Or.inl rfl | exact Or.inr rfl))) (fun _ _ _ _ _ => (pts_one (pt_val (pe_reaches m_rch (hr.mono (by decide)) (pe_hget (K := K) rfl m_hget (hr.mono (by decide)) (pv 13) pe_int) (pa_cons (pv 12) pa_nil))))) (fun _ _ _ _ _ => (pv 12))) pa_nil)) (nomark _)) (pss_one (ps_ret pe_bl)) pss_nil)
    (pss_cons (ps_set (i := 14) sc_law.nd rfl (by first | exact Or.inl rfl | exact Or.inr rfl) (pe_ix (r := rIxL K) ix_list (pe_lst (pa_cons (pe_op op_sub pe_int pe_int) (pa_cons pe_int (pa_cons pe_non (pa_cons pe_bl (pa_cons pe_str pa_nil)))))) (pc d_law_below (hr.mono (by decide)) (pa_cons (pv 1) (pa_cons pe_int pa_nil))) (fun _ _ => rfl)))
    (pss_one (ps_ret (pe_cmpR (r := rEqD K) (op_eqD hr.units) (pe_lamcall (T := T) (TT := TErr Cs [9]) (k := 8) (t := fun E => tClX (sp_rspotsX (Cs 9)) E (tCons (tVar 4) (tCons (tVar 14) tNil))) (by rfl) m_E k_E l_E c_E b_E sc_law_error_of (by rfl) (Or.inl (by rfl)) (err_gives b_isinstance b_ValueError m_B ER) TBL (by rfl) hmL huL (hr.mono (by decide)) (show LamS (defScope s_law) _ from lamS_by (by decide +kernel)) (by rfl) (fun _ _ _ _ _ => by rfl) (fun A outer s H E f c' hr' => pcX d_reachable_spotsX (hr'.mono (by decide)) (passes_call (takes_of rfl rfl rfl rfl) (fun _ _ _ _ h => h)) (pa_cons (pv 4) (pa_cons (pv 14) pa_nil)))) (pe_tup (pa_cons pe_str (pa_cons pe_int pa_nil))) (nomark _)))))))))))))), ?_⟩
  refine ⟨_, rfl, a, ns, 20, rfl, hS, h63, by decide, by decide, fun H1 d st1 s1 hd1 ok1 => ?_⟩
  have T1 := hT.ext s1
  refine ⟨_, rfl, d, _, st1, rfl, by decide, by decide, hd1, ok1, fun st2 r ok2 r0 r4 => ?_⟩
  have k2 := keep_upd (d := d) (H := H1) (o := .lst (encD st2))
  have hd2 := upd_same (H := H1) (a := d) (o := .lst (encD st2))
  generalize upd H1 d (.lst (encD st2)) = H2 at *
  have T2 : Tabs T H2 := fun p hp => TabS.keep (T1 p hp) hd1 k2
  refine ⟨r, rfl, by omega, by omega, fun L hL => lc_range (lo := 0) (n := r.toNat) (fun i H' => DrawnG (IsB K) ArmIn d L H2 H' i) (drawnG_start hd2 ok2 hL) ?_ ?_⟩
  · rintro i H6 hi ⟨st, vs, xs, k6, hd6, ok6, hl6, hn, a6, g6⟩
    refine ⟨rfl, ?_⟩
    refine yes_of ?_
    refine ⟨_, rfl, d, st, rfl, hd6, ok6, fun H7 st7 r7 k7 hd7 ok7 ⟨z, iz, nz⟩ => ?_⟩
    have hld : L ≠ d := (ne_of_none hd2 hL).symm
    exact ⟨_, k7 _ _ hld hl6, by rw [hn]; exact small1000 (by omega), drawnG_more keepsB hL hld k6 hd6 hl6 hn a6 g6 k7 hd7 ok7 iz nz⟩
  rintro H3 ⟨st3, us, as, k3, hd3, ok3, hl3, hn3, a3, g3⟩
  have hLd : L ≠ d := (ne_of_none hd2 hL).symm
  have l3 := Paired.length a3
  have las : as.length ≤ 3 := by omega
  have T3' : Tabs T H3 := tabs_keep T2 hd2 k3
  clear k2 hd2 ok2 hL T2 T1 hd1 ok1 s1 hS hT k3
  have oks : ∀ a ∈ as, AmOk a := fun a ha => (g3 a ha).ok
  have zin : ∀ a ∈ as, AmOk a ∧ BC 11 (about a) ∧ B 3 a.pole := fun a ha => ⟨(g3 a ha).ok, (g3 a ha).bc, (g3 a ha).bp⟩
  refine gn_of ?_
  refine ⟨_, rfl, L, us, as, rfl, .inl (.inl hl3), a3, by omega, g3, fun H4 vh s4 ih4 => ?_⟩
  have hd4 := s4 _ _ hd3
  refine ⟨_, rfl, d, _, st3, rfl, by decide, by decide, hd4, ok3, fun st5 n ok5 n0 n6 => ?_⟩
  have k5 := keep_upd (d := d) (H := H4) (o := .lst (encD st5))
  have hd5 := upd_same (H := H4) (a := d) (o := .lst (encD st5))
  have ih5 := ih4.keep hd4 k5
  have aB5 := (AllB.same a3 s4).keep hd4 k5
  have hL5 := k5 _ _ hLd (s4 _ _ hl3)
  have T5 := tabs_keep (T3'.ext s4) hd4 k5
  have S5 : S20 K C CA CH T L d us as vh st5 (upd H4 d (.lst (encD st5))) := ⟨hL5, aB5, ih5, T5, hd5⟩
  generalize upd H4 d (.lst (encD st5)) = H5 at *
  clear ih4 s4 hd3 ok3 hl3 a3 T3' hd4 k5 hd5 ih5 aB5 hL5 T5
  refine ⟨(by show 2 ≤ sizeLine; decide), fun p7 hp7 => ⟨p7, _, rfl, .inl (.inl upd_same), rfl, _, _, rfl, _, _, rfl, rfl, ?_⟩⟩
  have S7 := S5.same (same_new hp7 (.tup [vh, .int n]))
  generalize upd H5 p7 (.tup [vh, .int n]) = H7 at *
  clear S5 hp7
  refine ⟨_, rfl, _, rfl, _, as, n, rfl, S7.ih, by omega, zin, n0, by omega, fun H8 Lf uf s8 hf8 hP8 => ⟨(by show 0 ≤ sizeLine; decide), fun Ld hLd8 => ⟨_, _, rfl, ?_⟩⟩⟩
  have sn := same_new hLd8 (.lst [])
  have hLd9 : upd H8 Ld (.lst []) Ld = some (.lst []) := upd_same
  have S9 := S7.same (s8.trans sn)
  have hf9 := sn _ _ hf8
  have hP9 : Paired (IsT K (upd H8 Ld (.lst []))) uf (rch2 as n) := pimp (fun _ _ i => i.same sn) hP8
  generalize upd H8 Ld (.lst []) = H9 at *
  clear sn S7 s8 hf8 hP8 hLd8
  have lus : us.length = as.length := Paired.length S9.ab
  have tn : (n + 1 - (0 - n)).toNat = (2 * n + 1).toNat := by omega
  have nl : (nums n).length = (2 * n + 1).toNat := by unfold nums; rw [List.length_map, List.length_range]
  have nat_ : ∀ i, i < (2 * n + 1).toNat → (nums n)[i]? = some (0 - n + (i : Nat)) := fun i hi => by
    unfold nums
    rw [List.getElem?_map, List.getElem?_range hi]
    show some (-n + (i : Int)) = _
    congr 1
    omega
  have ti1 : ∀ z : T3, Ok z → B 5 z → ∀ m a, as[m]? = some a → TrIn a (mvs as m [[z]]) := fun z oz bz => tr_all g3 (by omega) (dr_dot oz) (k := 5) (fun y hy => by
    have hy : y ∈ [z] := by simpa using hy
    rw [List.mem_singleton.mp hy]
    exact bz) (by decide)
  refine sig_of (σ' := [some (.ref a), some (.ref d), some (.ref L), none, some vh, some (.int n), some (.ref Lf), some (.ref Ld), none, none, none, none, none, none, none]) rfl ?_
  refine ⟨_, rfl, _, _, rfl, rfl, _, rfl, _, _, rfl, rfl, _, _, rfl, ⟨by omega, by omega, by omega, by omega⟩, ?_⟩
  refine for_range (lo := 0 - n) (n := (n + 1 - (0 - n)).toNat) (fun i σ H' => ∃ Le x8 x9 x10 x11 acc, σ = [some (.ref a), some (.ref d), some (.ref L), none, some vh, some (.int n), some (.ref Lf), some (.ref Le), x8, x9, x10, x11, none, none, none] ∧ Same H9 H' ∧ H' Le = some (.lst acc) ∧ Paired (IsT K H') acc ((((nums n).take i).flatMap fun x => (nums n).map fun y => ((x, y, 1) : T3)).filter (inZ (zns as)))) ⟨Ld, none, none, none, none, [], rfl, Same.refl _, hLd9, .nil⟩ ?_ ?_
  · rintro i σ H1 hi ⟨Le, x8, x9, x10, x11, acc, rfl, s1, hb, ha⟩
    rw [tn] at hi
    have ex := nat_ i hi
    generalize (0 - n + (i : Int) : Int) = x at *
    have mx := nums_mem n0 (List.mem_of_getElem? ex)
    refine gn_of ?_
    refine ⟨_, rfl, _, _, rfl, rfl, _, rfl, _, _, rfl, rfl, _, _, rfl, ⟨by omega, by omega, by omega, by omega⟩, ?_⟩
    refine for_range (lo := 0 - n) (n := (n + 1 - (0 - n)).toNat) (fun j σ H' => ∃ Le x9 x10 x11 acc, σ = [some (.ref a), some (.ref d), some (.ref L), none, some vh, some (.int n), some (.ref Lf), some (.ref Le), some (.int x), x9, x10, x11, none, none, none] ∧ Same H9 H' ∧ H' Le = some (.lst acc) ∧ Paired (IsT K H') acc (((((nums n).take i).flatMap fun x => (nums n).map fun y => ((x, y, 1) : T3)) ++ ((nums n).take j).map fun y => ((x, y, 1) : T3)).filter (inZ (zns as)))) ⟨Le, x9, x10, x11, acc, rfl, s1, hb, by rw [List.take_zero, List.map_nil, List.append_nil]; exact ha⟩ ?_ ?_
    · rintro j σ H2 hj ⟨Le, x9, x10, x11, acc, rfl, s2, hb, ha⟩
      rw [tn] at hj
      have ey := nat_ j hj
      generalize (0 - n + (j : Int) : Int) = y at *
      have my := nums_mem n0 (List.mem_of_getElem? ey)
      have oz := ok_grid x y
      have bz := B_grid (n := n) (by omega) mx my
      have l3 := Paired.length ha
      have bnd : acc.length ≤ 132 := by
        rw [l3]
        refine Nat.le_trans (List.length_filter_le _ _) ?_
        rw [List.length_append, List.length_map, List.length_take, List.length_flatMap]
        have e : (List.map (fun x => ((nums n).map fun y => ((x, y, 1) : T3)).length) ((nums n).take i)).sum ≤ 11 * 11 := by
          simp only [List.length_map]
          rw [List.map_const', List.sum_replicate_nat, List.length_take]
          exact Nat.mul_le_mul (by omega) (by omega)
        omega
      refine gn_of ?_
      dsimp only
      refine seq_join (fun σ' H' => ∃ v10 v11, σ' = [some (.ref a), some (.ref d), some (.ref L), none, some vh, some (.int n), some (.ref Lf), some (.ref Le), some (.int x), some (.int y), some v10, some v11, none, none, none] ∧ Same H2 H' ∧ (v10 = V.non ↔ inZ (zns as) (x, y, 1) = true)) ?_ ?_
      rotate_left
      · intro D' _ hD
        refine ⟨_, rfl, _, rfl, _, rfl, (by show 3 ≤ sizeLine; decide), fun pz hpz => ⟨(by show 1 ≤ sizeLine; decide), fun ps hps => ⟨(by show 1 ≤ sizeLine; decide), fun pt hpt => ?_⟩⟩⟩
        have sz := same_new hpz (.tup [.int x, .int y, .int 1])
        have ss := same_new hps (.tup [.ref pz])
        have st := same_new hpt (.tup [.ref ps])
        have s3 := sz.trans (ss.trans st)
        have S3 := S9.same (s2.trans s3)
        have hA : AllSt K (upd (upd (upd H2 pz (.tup [.int x, .int y, .int 1])) ps (.tup [.ref pz])) pt (.tup [.ref ps])) [.ref ps] [[(x, y, 1)]] := .cons ⟨ps, [.ref pz], rfl, same_T st (.inl (.inl upd_same)), .cons ⟨pz, rfl, same_T (ss.trans st) (.inl (.inl upd_same))⟩ .nil⟩ .nil
        refine ⟨L, us, as, pt, [.ref ps], [[(x, y, 1)]], rfl, S3.hl, S3.ab, .inl (.inl upd_same), hA, by omega, fun m a e => ⟨ti1 _ oz bz m a e, (g3 a (List.mem_of_getElem? e)).bt.mono (by decide), (g3 a (List.mem_of_getElem? e)).bp.mono (by decide)⟩, fun m i j b eb ms be H33 p33 m33 e33 s33 t33 u33 => ?_, fun tr H33 p33 t33 ws33 s33 hp33 ht33 hA33 => ?_⟩
        · exact ⟨p33, _, rfl, t33, rfl, _, _, rfl, _, _, rfl, rfl, hD _ _ ⟨_, _, rfl, s3.trans s33, (fun z => by cases z), fun z => absurd ((cdr_dot oks oz).mpr z) (Missed.not ⟨⟨b, eb, ms⟩, be⟩)⟩⟩
        · exact ⟨p33, _, rfl, hp33, rfl, _, _, rfl, _, _, rfl, rfl, hD _ _ ⟨_, _, rfl, s3.trans s33, (fun _ => (cdr_dot oks oz).mp tr), fun _ => rfl⟩⟩
      rintro σ H3 ⟨v10, v11, rfl, s23, h10⟩
      have hb3 := s23 _ _ hb
      refine ⟨_, rfl, _, rfl, _, rfl, (by show 3 ≤ sizeLine; decide), fun p6 hp6 => ⟨(by show 1 ≤ sizeLine; decide), fun L7 hL7 => ⟨_, rfl, rfl, .inr ⟨_, rfl, ?_⟩⟩⟩⟩
      have s6 := same_new hp6 (.tup [.int x, .int y, .int 1])
      have s7 := same_new hL7 (.lst [.ref p6])
      have e10 : (decide (v10 = V.non)) = inZ (zns as) (x, y, 1) := by rw [Bool.eq_iff_iff, decide_eq_true_eq]; exact h10
      rw [e10]
      refine ⟨L7, _, [.ref p6], rfl, rfl, upd_same, by split <;> omega, by split <;> omega, small (by show 1 * _ ≤ 1000; split <;> decide), fun Lr hLr => ?_⟩
      generalize eR : (List.replicate (if inZ (zns as) (x, y, 1) = true then (1 : Int) else 0).toNat [V.ref p6]).flatten = rs at *
      have eR' : rs = if inZ (zns as) (x, y, 1) = true then [V.ref p6] else [] := by
        rw [← eR]
        split <;> rfl
      have lr : rs.length ≤ 1 := by rw [eR']; split <;> simp
      have sr := same_new hLr (.lst rs)
      have s67 := s6.trans (s7.trans sr)
      refine ⟨Le, Lr, acc, rs, rfl, rfl, s67 _ _ hb3, upd_same, small (by omega), fun Lk hLk => gn_of ?_⟩
      have sk := same_new hLk (.lst (acc ++ rs))
      have s3k := s67.trans sk
      have i6 : IsT K (upd (upd (upd (upd H3 p6 (.tup [.int x, .int y, .int 1])) L7 (.lst [.ref p6])) Lr (.lst rs)) Lk (.lst (acc ++ rs))) (.ref p6) (x, y, 1) := ⟨p6, rfl, same_T (s7.trans (sr.trans sk)) (.inl (.inl upd_same))⟩
      have ha6 := pimp (fun _ _ i => IsT.same i (s23.trans s3k)) ha
      have hk : upd (upd (upd (upd H3 p6 (.tup [.int x, .int y, .int 1])) L7 (.lst [.ref p6])) Lr (.lst rs)) Lk (.lst (acc ++ rs)) Lk = some (.lst (acc ++ rs)) := upd_same
      have sK := s2.trans (s23.trans s3k)
      generalize upd (upd (upd (upd H3 p6 (.tup [.int x, .int y, .int 1])) L7 (.lst [.ref p6])) Lr (.lst rs)) Lk (.lst (acc ++ rs)) = Hk at *
      refine ⟨Lk, _, _, _, acc ++ rs, rfl, sK, hk, ?_⟩
      rw [take_more ey, List.map_append, ← List.append_assoc, List.filter_append]
      refine papp ha6 ?_
      rw [eR']
      cases c : inZ (zns as) (x, y, 1) with
      | false =>
        rw [show List.filter (inZ (zns as)) (List.map (fun y => ((x, y, 1) : T3)) [y]) = [] by simp [c]]
        exact .nil
      | true =>
        rw [show List.filter (inZ (zns as)) (List.map (fun y => ((x, y, 1) : T3)) [y]) = [(x, y, 1)] by simp [c]]
        exact .cons i6 .nil
    · rintro σ H' ⟨Le, x9, x10, x11, acc, rfl, s', hb, ha⟩
      rw [tn, ← nl, List.take_length] at ha
      refine ⟨Le, _, x9, x10, x11, acc, rfl, s', hb, ?_⟩
      rw [take_more ex, List.flatMap_append]
      have e : List.flatMap (fun x => (nums n).map fun y => ((x, y, 1) : T3)) [x] = (nums n).map fun y => ((x, y, 1) : T3) := by simp
      rw [e]
      exact ha
  rintro σ H10 ⟨Le, x8, x9, x10, x11, acc, rfl, s10, hb, ha⟩
  rw [tn, ← nl, List.take_length] at ha
  have ha : Paired (IsT K H10) acc (rch2 as n) := ha
  have S10 := S9.same s10
  have hf10 := s10 _ _ hf9
  have hP10 : Paired (IsT K H10) uf (rch2 as n) := pimp (fun _ _ i => i.same s10) hP9
  clear S9 hf9 hP9 s10 hLd9
  have la := Paired.length ha
  have gl : (rch2 as n).length ≤ 1000 := by
    unfold rch2
    refine Nat.le_trans (List.length_filter_le _ _) ?_
    unfold grid
    rw [List.length_flatMap]
    simp only [List.length_map]
    rw [List.map_const', List.sum_replicate_nat]
    exact Nat.le_trans (Nat.mul_le_mul (show (nums n).length ≤ 11 by omega) (show (nums n).length ≤ 11 by omega)) (by decide)
  have ro := rch2_ok (as := as) n0 (show n ≤ 20 by omega)
  refine ⟨_, rfl, _, rfl, _, _, .list ((rch2 as n).map d3), rfl, .lst (.inl (.inl hf10)) (dps3 hP10), .lst (.inl (.inl hb)) (dps3 ha), deep_d3L gl, fun H11 s11 => ⟨_, rfl, iteF ?_⟩⟩
  have S11 := S10.same s11
  have hb11 := s11 _ _ hb
  have ha11 : Paired (IsT K H11) acc (rch2 as n) := pimp (fun _ _ i => i.same s11) ha
  clear S10 hf10 hP10 hb ha s11
  dsimp only [tNext]
  refine seq_join (fun σ' H' => ∃ x12, σ' = [some (.ref a), some (.ref d), some (.ref L), none, some vh, some (.int n), some (.ref Lf), some (.ref Le), x8, x9, x10, x11, x12, none, none] ∧ ExtN H11 H' ∧ Tabs T H') ?_ ?_
  rotate_left
  · intro D' _ hD
    refine ⟨_, rfl, (by show 0 ≤ sizeLine; decide), fun Lz hLz => ?_⟩
    have sz := same_new hLz (.lst [])
    refine ⟨.list ((rch2 as n).map d3), .list [], .lst (.inl (.inl (sz _ _ hb11))) (dps3 (pimp (fun _ _ i => i.same sz) ha11)), .lst (.inl (.inl upd_same)) .nil, sh_d3L _, by decide, _, rfl, ?_⟩
    rw [eqv_nilL]
    by_cases en : rch2 as n = []
    · rw [decide_eq_true en]
      exact iteF (iteF (hD _ _ ⟨_, rfl, ExtN.of sz, (S11.same sz).tb⟩))
    · rw [decide_eq_false en]
      refine iteT ?_
      have Sz := S11.same sz
      have hbz := sz _ _ hb11
      have haz : Paired (IsT K (upd H11 Lz (.lst []))) acc (rch2 as n) := pimp (fun _ _ i => i.same sz) ha11
      have sz0 := sz
      generalize upd H11 Lz (.lst []) = Hz at *
      generalize ez12 : (rch2 as n).take 12 = z12
      generalize eu12 : acc.take 12 = u12
      have l12 : z12.length ≤ 12 := by rw [← ez12, List.length_take]; omega
      have p12 : Paired (IsT K Hz) u12 z12 := by rw [← ez12, ← eu12]; exact ptake haz 12
      have lu12 := Paired.length p12
      have m12 : ∀ z ∈ z12, Ok z ∧ B 5 z ∧ inZ (zns as) z = true := fun z hz => ro z (List.mem_of_mem_take (by rw [ez12]; exact hz))
      have ec : cutV acc none (some (12 : Int)) = u12 := by
        rw [← eu12]
        show cutV acc none (some ((12 : Nat) : Int)) = _
        unfold cutV
        rw [HT.sIx_none, HT.sIx_nat, List.drop_zero, Nat.sub_zero]
        by_cases h : 12 ≤ acc.length
        · rw [Nat.min_eq_left h]
        · rw [Nat.min_eq_right (by omega), List.take_length, List.take_of_length_le (by omega)]
      refine ⟨_, rfl, ?_⟩
      refine ⟨_, rfl, _, rfl, Le, acc, rfl, .inl (.inl hbz), fun Lc hLc => ?_⟩
      rw [ec]
      have sc := same_new hLc (.lst u12)
      have hc : upd Hz Lc (.lst u12) Lc = some (.lst u12) := upd_same
      have pc12 : Paired (IsT K (upd Hz Lc (.lst u12))) u12 z12 := pimp (fun _ _ i => i.same sc) p12
      have Sc := Sz.same sc
      generalize upd Hz Lc (.lst u12) = Hc at *
      refine ⟨Lc, rfl, ⟨_, .inl (.inl hc)⟩, fun Dl hDl => lc_list (K := K) (a := Lc) (xs := u12) (fun i H' => ∃ acc', Same Hc H' ∧ H' Dl = some (.lst acc') ∧ AllSt K H' acc' ((z12.take i).map fun z => [z])) ⟨[], same_new hDl _, upd_same, .nil⟩ ?_ ?_ ?_⟩
      · rintro i H' hi ⟨acc', s', _⟩
        exact .inl (.inl (s' _ _ hc))
      · rintro i x H' hx ⟨acc', s', hb', ha'⟩
        obtain ⟨z, ez, iz⟩ := pget pc12 hx
        refine ⟨rfl, yes_of ?_⟩
        refine ⟨_, rfl, (by show 1 ≤ sizeLine; decide), fun pt hpt => ?_⟩
        have s3 := same_new hpt (.tup [x])
        have la' := Paired.length ha'
        rw [List.length_map, List.length_take] at la'
        refine ⟨acc', s3 _ _ hb', small (by omega), acc' ++ [.ref pt], fun b o e => ?_, upd_same, ?_⟩
        · rw [upd_ne (ne_of_none e hDl)]
          exact s3 _ _ (s' _ _ e)
        · rw [take_more ez, List.map_append]
          have it : IsSt K (upd H' pt (.tup [x])) (.ref pt) [z] := ⟨pt, [x], rfl, .inl (.inl upd_same), .cons ((iz.same s').same s3) .nil⟩
          have ha3 := ha'.same s3
          have hb3 := s3 _ _ hb'
          generalize upd H' pt (.tup [x]) = H3 at *
          have k6 := keep_upd (d := Dl) (H := H3) (o := .lst (acc' ++ [.ref pt]))
          exact papp (ha3.keep hb3 k6) (.cons (it.keep hb3 k6) .nil)
      rintro H13 ⟨acc', s', hb', ha'⟩
      rw [lu12, List.take_length] at ha'
      have dr : DrOk (z12.map fun z => [z]) := ⟨by rw [List.length_map]; exact l12, fun zs hzs => by
        obtain ⟨z, hz, rfl⟩ := List.mem_map.mp hzs
        exact st_dot (m12 z hz).1⟩
      refine ⟨Dl, acc', _, rfl, hb', ha', dr, fun H14 r14 s14 i14 => ?_⟩
      have S14 := (Sc.same s').same s14
      have e14 : ExtN H11 H14 := ExtN.of (sz0.trans (sc.trans (s'.trans s14)))
      refine ⟨vh, as, r14, _, rfl, S14.ih, i14, ?_, S14.tb, fun H15 b15 e15 t15 hb15 => ?_⟩
      · exact tr_all g3 (by omega) dr (k := 5) (fun y hy => by
          obtain ⟨zs, hzs, hy⟩ := List.mem_flatten.mp hy
          obtain ⟨z, hz, rfl⟩ := List.mem_map.mp hzs
          rw [List.mem_singleton.mp hy]
          exact (m12 z hz).2.1) (by decide)
      have yes : b15 = true := hb15.mpr (cdr_each fun zs hzs => by
        obtain ⟨z, hz, rfl⟩ := List.mem_map.mp hzs
        exact (cdr_dot oks (m12 z hz).1).mpr (m12 z hz).2.2)
      subst yes
      exact ⟨true, rfl, iteF (hD _ _ ⟨_, rfl, e14.trans e15, t15⟩)⟩
  rintro σ H12 ⟨x12, rfl, e12, T12⟩
  have S12 := S11.extN e12 T12
  clear S11 hb11 ha11 e12 T12
  refine ⟨(by show 3 ≤ sizeLine; decide), fun p1 hp1 => ⟨(by show 3 ≤ sizeLine; decide), fun p2 hp2 => ?_⟩⟩
  have s1 := same_new hp1 (.tup [.int 0, .int 0, .int 1])
  have s2 := same_new hp2 (.tup [.int 1, .int 0, .int 1])
  refine mka_of2 (K := K) (C := C) (z := (0, 0, 1)) (t := (1, 0, 1)) (n := 0) (f := 20) (m := false) ⟨p1, rfl, same_T s2 (.inl (.inl upd_same))⟩ ⟨p2, rfl, .inl (.inl upd_same)⟩ wA_ok (by decide) (by decide) fun H13 x13 s13 i13 => ⟨rfl, ?_⟩
  refine mkh_of2 (K := K) (us := [.ref x13]) (as := [wA]) (.cons i13 .nil) ⟨by show 1 ≤ 6; decide, (fun b hb => by rw [List.mem_singleton.mp hb]; exact wA_ok), (fun b hb => by rw [List.mem_singleton.mp hb]; exact wA_bc.mono (by decide))⟩ fun H14 x14 s14 i14 => ⟨rfl, ?_⟩
  have S14 := S12.same (s1.trans (s2.trans (s13.trans s14)))
  clear S12 s1 s2 hp1 hp2 i13 s13 s14
  refine gn_of ?_
  dsimp only [tNext]
  have hw : ∀ b ∈ [wA], AmOk b ∧ BC 11 (about b) ∧ B 3 b.pole := fun b hb => by rw [List.mem_singleton.mp hb]; exact ⟨wA_ok, wA_bc, by decide⟩
  refine ⟨_, rfl, _, _, _, rfl, i14, (by show 1 ≤ 6; decide), hw, by decide, by decide, fun H15 L15 u15 s15 h15 a15 => ⟨L15, u15, rfl, .inl (.inl (.inl h15)), ?_⟩⟩
  refine mkh_of2 (K := K) (us := []) (as := []) .nil armsNil fun H16 x16 s16 i16 => ⟨rfl, ?_⟩
  refine ⟨_, [], _, rfl, i16, (by show 0 ≤ 6; decide), (fun b hb => by cases hb), by decide, by decide, fun H17 L17 u17 s17 h17 a17 => ⟨L17, rfl, ⟨_, .inl (.inl h17)⟩, fun D hD => lc_list (K := K) (a := L17) (xs := u17) (fun i H' => ∃ acc', Same H17 H' ∧ H' D = some (.lst acc') ∧ acc'.length = (((rch2 [] 20).take i).filter (rch wA)).length) ⟨[], same_new hD _, upd_same, rfl⟩ ?_ ?_ ?_⟩⟩
  · rintro i H' hi ⟨acc', s', _⟩
    exact .inl (.inl (s' _ _ h17))
  · rintro i x H' hx ⟨acc', s', hb', la'⟩
    obtain ⟨z, ez, iz⟩ := pget a17 hx
    have mz := grid_ok (by rw [← rch2_nil]; exact List.mem_of_getElem? ez)
    refine ⟨rfl, ?_⟩
    refine ⟨_, rfl, hget_of ((i14.same (s15.trans (s16.trans s17))).same s') (a := wA) rfl fun u iu => ?_⟩
    obtain ⟨pu, du, u1, t1, c1, rfl, g1, _⟩ := id iu
    refine ⟨pu, _, _, rfl, g1, af_reaches, _, rfl, _, wA, _, z, rfl, iu, wA_ok, by decide, iz.same s', mz.1, mz.2.mono (by decide), fun H18 s18 => ⟨_, rfl, ?_⟩⟩
    have l17 : u17.length ≤ 1681 := by
      rw [Paired.length a17, rch2_nil]
      exact grid_len
    have i17 := (List.getElem?_eq_some_iff.mp hx).1
    have b1 : acc'.length ≤ 1681 := by
      rw [la']
      refine Nat.le_trans (List.length_filter_le _ _) ?_
      rw [List.length_take, ← Paired.length a17]
      omega
    have hb18 := s18 _ _ hb'
    rw [take_more ez, List.filter_append, List.length_append, ← la']
    cases c : rch wA z with
    | false =>
      refine iteF ⟨acc', s'.trans s18, hb18, ?_⟩
      simp [c]
    | true =>
      refine iteT ⟨_, rfl, acc', hb18, smallN (by omega), acc' ++ [x], fun b o e => ?_, upd_same, ?_⟩
      · rw [upd_ne (ne_of_none e hD)]
        exact s18 _ _ (s' _ _ e)
      · simp [c]
  rintro H18 ⟨acc', s18, hb18, la18⟩
  rw [Paired.length a17, List.take_length, ← rch2_wide, ← Paired.length a15] at la18
  refine ⟨D, acc', rfl, .inl (.inl (.inl hb18)), ?_⟩
  have S18 := S14.same (s15.trans (s16.trans (s17.trans s18)))
  refine ⟨rfl, _, rfl, ?_⟩
  rw [show (!decide ((V.int (u15.length : Nat) : V) = V.int (acc'.length : Nat))) = false by rw [la18]; simp]
  refine iteF ?_
  clear S14 h15 a15 i16 s16 h17 a17 s17 s15 i14 s18 hb18
  dsimp only [tNext]
  refine ⟨_, _, rfl, rfl, (by show 5 ≤ sizeLine; decide), fun p19 hp19 => ?_⟩
  have s19 := same_new hp19 (.lst [.int (0 - 1), .int 21, .non, .bl true, .str "3"])
  have S19 := S18.same s19
  have nd : d ≠ p19 := ne_of_none S18.hd hp19
  have h19 : upd H18 p19 (.lst [.int (0 - 1), .int 21, .non, .bl true, .str "3"]) p19 = some (.lst [.int (0 - 1), .int 21, .non, .bl true, .str "3"]) := upd_same
  generalize upd H18 p19 (.lst [.int (0 - 1), .int 21, .non, .bl true, .str "3"]) = H19 at *
  refine ⟨_, rfl, d, _, st5, rfl, by decide, by decide, S19.hd, ok5, fun st6 r6 ok6 r60 r65 => ?_⟩
  have k20 := keep_upd (d := d) (H := H19) (o := .lst (encD st6))
  have h20 : upd H19 d (.lst (encD st6)) p19 = some (.lst [.int (0 - 1), .int 21, .non, .bl true, .str "3"]) := by rw [upd_ne (fun z => nd z.symm)]; exact h19
  have T20 : Tabs T (upd H19 d (.lst (encD st6))) := tabs_keep S19.tb S19.hd k20
  have ih20 := S19.ih.keep S19.hd k20
  generalize upd H19 d (.lst (encD st6)) = H20 at *
  obtain ⟨v, ev, bad⟩ : ∃ v, atI ([.int (0 - 1), .int 21, .non, .bl true, .str "3"] : List V) r6 = some v ∧ BadL v := by
    obtain ⟨m, rfl⟩ : ∃ m : Nat, r6 = m := ⟨r6.toNat, by omega⟩
    match m with
    | 0 => exact ⟨_, rfl, .inr ⟨_, rfl, by omega⟩⟩
    | 1 => exact ⟨_, rfl, .inr ⟨_, rfl, by omega⟩⟩
    | 2 => exact ⟨_, rfl, .inl (.inl rfl)⟩
    | 3 => exact ⟨_, rfl, .inl (.inr (.inl ⟨_, rfl⟩))⟩
    | 4 => exact ⟨_, rfl, .inl (.inr (.inr ⟨_, rfl⟩))⟩
    | m + 5 => omega
  refine ⟨p19, _, r6, v, rfl, rfl, .inl (.inl h20), ev, gn_of ?_⟩
  dsimp only [tNext]
  refine ⟨T20, fun H21 e21 T21 => ?_⟩
  refine ⟨_, rfl, _, rfl, vh, v, rfl, bad, fun H22 s22 => ⟨9, .head _, rfl, rfl, fun H23 p23 s23 h23 => ?_⟩⟩
  have h23 : H23 p23 = some (.tup [.str "size", .int 0]) := h23
  refine ⟨(by show 2 ≤ sizeLine; decide), fun p24 hp24 => ?_⟩
  have s24 := same_new hp24 (.tup [.str "size", .int 0])
  refine ⟨dZ, dZ, .tup (.inl (.inl (s24 _ _ h23))) (.cons (.str _) (.cons (.int _) .nil)), .tup (.inl (.inl upd_same)) (.cons (.str _) (.cons (.int _) .nil)), shZ, shZ, ?_⟩
  rw [eqvZ]
  exact q _
end
end My

namespace My
open PySem L2 Mth
/-! ### what is asked of the class of an error that has a value, as one question -/
def oexB (K : PySem.W.Frag) (C : Addr) : Bool := match K.lookup C with
  | some ⟨.type "type", _, .cls cd, sl⟩ => (match cd.mro, sl.toList with
    | .ref C' :: bm, [_, _, _, _, some (.builtin n), _] => C' == C && (n == "ValueError.__new__" && (!cd.hasDel && (cd.hasDict && PySem.HandSPX.refsVE bm)))
    | _, _ => false)
  | _ => false
theorem oex_of {K : PySem.W.Frag} {C : Addr} (q : oexB K C = true) (sa : PySem.W.findIn K (.ref C) "__setattr__" = some (some (.builtin "object.__setattr__"))) (exC : PySem.W.subIn K (.ref C) (.type "BaseException") = some true) (tyC : PySem.W.typeIn K (.ref C) = some (.type "type")) (kC : PySem.W.keepIn K (.ref C) = true) : OexC K C := by
  refine ⟨?_, sa, exC, tyC, kC⟩
  unfold oexB at q
  split at q
  · rename_i dd cd sl ho
    split at q
    · rename_i C' bm k0 k1 k2 k3 n k5 hm hs
      simp only [Bool.and_eq_true, beq_iff_eq, Bool.not_eq_true'] at q
      obtain ⟨rfl, rfl, hdel, hdict, ht⟩ := q
      obtain ⟨nm, bs, mro, ns, qn, hd, sn, sub, ab, col, del⟩ := cd
      dsimp only at hm hdel hdict
      subst hm hdel hdict
      have hsl : sl = #[k0, k1, k2, k3, some (.builtin "ValueError.__new__"), k5] := by
        obtain ⟨l⟩ := sl
        simp only at hs
        rw [hs]
      subst hsl
      exact ⟨nm, qn, ns, bs, bm, sn, sub, ab, col, dd, k0, k1, k2, k3, k5, ho, ht⟩
    · cases q
  · cases q
end My

namespace My
open PySem L2 Mth
abbrev s_Drawing_strokes : Stmt := inClass (topS 55) 1
theorem sc_Drawing_strokes : FnScope ["self"] ["self"] (defScope s_Drawing_strokes) := ⟨rfl, rfl, rfl, by decide +kernel, rfl, by decide +kernel, by decide +kernel⟩
theorem ok_Drawing_strokes {P : Program} {w : World} {K : PySem.W.Frag} {mg : Str → Option Value} {base : Heap} {f C : Addr} {fd : FuncData} (cl : Cls K C) (n : NoAttr K C "held") (F : Fun K "strokes" "Drawing.strokes" s_Drawing_strokes f fd) : FnOk P w K mg base CX0 1 f fd ["self"] (getSp C "held") := by
  refine F.ok sc_Drawing_strokes (fun vs H Q E h => ?_) (fun cdv A outer s H vs Q E hr h => ?_)
  · obtain ⟨a, dx, fs, v, rfl, _⟩ := h
    rfl
  obtain ⟨a, dx, fs, v, rfl, ea, l, q⟩ := h
  exact ⟨_, pss_one (ps_ret (pe_fld (pv 0) rfl)), _, rfl, a, C, dx, fs, v, rfl, ea, cl, n, l, q⟩
end My
namespace My
open PySem L2 Mth
abbrev s_Arm_pole : Stmt := inClass (topS 61) 1
theorem sc_Arm_pole : FnScope ["self"] ["self"] (defScope s_Arm_pole) := ⟨rfl, rfl, rfl, by decide +kernel, rfl, by decide +kernel, by decide +kernel⟩
theorem ok_Arm_pole {P : Program} {w : World} {K : PySem.W.Frag} {mg : Str → Option Value} {base : Heap} {f C : Addr} {fd : FuncData} (cl : Cls K C) (n : NoAttr K C "centre") (F : Fun K "pole" "Arm.pole" s_Arm_pole f fd) : FnOk P w K mg base CX0 1 f fd ["self"] (getSp C "centre") := by
  refine F.ok sc_Arm_pole (fun vs H Q E h => ?_) (fun cdv A outer s H vs Q E hr h => ?_)
  · obtain ⟨a, dx, fs, v, rfl, _⟩ := h
    rfl
  obtain ⟨a, dx, fs, v, rfl, ea, l, q⟩ := h
  exact ⟨_, pss_one (ps_ret (pe_fld (pv 0) rfl)), _, rfl, a, C, dx, fs, v, rfl, ea, cl, n, l, q⟩
end My
namespace My
open PySem L2 Mth
abbrev s_Arm_near : Stmt := inClass (topS 61) 3
theorem sc_Arm_near : FnScope ["self"] ["self"] (defScope s_Arm_near) := ⟨rfl, rfl, rfl, by decide +kernel, rfl, by decide +kernel, by decide +kernel⟩
theorem ok_Arm_near {P : Program} {w : World} {K : PySem.W.Frag} {mg : Str → Option Value} {base : Heap} {f C : Addr} {fd : FuncData} (cl : Cls K C) (n : NoAttr K C "least") (F : Fun K "near" "Arm.near" s_Arm_near f fd) : FnOk P w K mg base CX0 1 f fd ["self"] (getSp C "least") := by
  refine F.ok sc_Arm_near (fun vs H Q E h => ?_) (fun cdv A outer s H vs Q E hr h => ?_)
  · obtain ⟨a, dx, fs, v, rfl, _⟩ := h
    rfl
  obtain ⟨a, dx, fs, v, rfl, ea, l, q⟩ := h
  exact ⟨_, pss_one (ps_ret (pe_fld (pv 0) rfl)), _, rfl, a, C, dx, fs, v, rfl, ea, cl, n, l, q⟩
end My
namespace My
open PySem L2 Mth
abbrev s_Arm_far : Stmt := inClass (topS 61) 4
theorem sc_Arm_far : FnScope ["self"] ["self"] (defScope s_Arm_far) := ⟨rfl, rfl, rfl, by decide +kernel, rfl, by decide +kernel, by decide +kernel⟩
theorem ok_Arm_far {P : Program} {w : World} {K : PySem.W.Frag} {mg : Str → Option Value} {base : Heap} {f C : Addr} {fd : FuncData} (cl : Cls K C) (n : NoAttr K C "most") (F : Fun K "far" "Arm.far" s_Arm_far f fd) : FnOk P w K mg base CX0 1 f fd ["self"] (getSp C "most") := by
  refine F.ok sc_Arm_far (fun vs H Q E h => ?_) (fun cdv A outer s H vs Q E hr h => ?_)
  · obtain ⟨a, dx, fs, v, rfl, _⟩ := h
    rfl
  obtain ⟨a, dx, fs, v, rfl, ea, l, q⟩ := h
  exact ⟨_, pss_one (ps_ret (pe_fld (pv 0) rfl)), _, rfl, a, C, dx, fs, v, rfl, ea, cl, n, l, q⟩
end My
namespace My
open PySem L2 Mth
abbrev s_Arm_effect : Stmt := inClass (topS 61) 6
theorem sc_Arm_effect : FnScope ["self"] ["self"] (defScope s_Arm_effect) := ⟨rfl, rfl, rfl, by decide +kernel, rfl, by decide +kernel, by decide +kernel⟩
theorem ok_Arm_effect {P : Program} {w : World} {K : PySem.W.Frag} {mg : Str → Option Value} {base : Heap} {f C : Addr} {fd : FuncData} (cl : Cls K C) (n : NoAttr K C "pen") (F : Fun K "effect" "Arm.effect" s_Arm_effect f fd) : FnOk P w K mg base CX0 1 f fd ["self"] (getSp C "pen") := by
  refine F.ok sc_Arm_effect (fun vs H Q E h => ?_) (fun cdv A outer s H vs Q E hr h => ?_)
  · obtain ⟨a, dx, fs, v, rfl, _⟩ := h
    rfl
  obtain ⟨a, dx, fs, v, rfl, ea, l, q⟩ := h
  exact ⟨_, pss_one (ps_ret (pe_fld (pv 0) rfl)), _, rfl, a, C, dx, fs, v, rfl, ea, cl, n, l, q⟩
end My
namespace My
open PySem L2 Mth
abbrev s_Chain_arms : Stmt := inClass (topS 69) 1
theorem sc_Chain_arms : FnScope ["self"] ["self"] (defScope s_Chain_arms) := ⟨rfl, rfl, rfl, by decide +kernel, rfl, by decide +kernel, by decide +kernel⟩
theorem ok_Chain_arms {P : Program} {w : World} {K : PySem.W.Frag} {mg : Str → Option Value} {base : Heap} {f C : Addr} {fd : FuncData} (cl : Cls K C) (n : NoAttr K C "links") (F : Fun K "arms" "Chain.arms" s_Chain_arms f fd) : FnOk P w K mg base CX0 1 f fd ["self"] (getSp C "links") := by
  refine F.ok sc_Chain_arms (fun vs H Q E h => ?_) (fun cdv A outer s H vs Q E hr h => ?_)
  · obtain ⟨a, dx, fs, v, rfl, _⟩ := h
    rfl
  obtain ⟨a, dx, fs, v, rfl, ea, l, q⟩ := h
  exact ⟨_, pss_one (ps_ret (pe_fld (pv 0) rfl)), _, rfl, a, C, dx, fs, v, rfl, ea, cl, n, l, q⟩
end My
namespace My
open PySem L2 Mth
abbrev s_Chain_effect : Stmt := inClass (topS 69) 2
theorem sc_Chain_effect : FnScope ["self"] ["self"] (defScope s_Chain_effect) := ⟨rfl, rfl, rfl, by decide +kernel, rfl, by decide +kernel, by decide +kernel⟩
theorem ok_Chain_effect {P : Program} {w : World} {K : PySem.W.Frag} {mg : Str → Option Value} {base : Heap} {f C : Addr} {fd : FuncData} (cl : Cls K C) (n : NoAttr K C "pen") (F : Fun K "effect" "Chain.effect" s_Chain_effect f fd) : FnOk P w K mg base CX0 1 f fd ["self"] (getSp C "pen") := by
  refine F.ok sc_Chain_effect (fun vs H Q E h => ?_) (fun cdv A outer s H vs Q E hr h => ?_)
  · obtain ⟨a, dx, fs, v, rfl, _⟩ := h
    rfl
  obtain ⟨a, dx, fs, v, rfl, ea, l, q⟩ := h
  exact ⟨_, pss_one (ps_ret (pe_fld (pv 0) rfl)), _, rfl, a, C, dx, fs, v, rfl, ea, cl, n, l, q⟩
end My
namespace My
open PySem L2 Mth LamX
theorem all_mk {l : PySem.W.OpenLaw} {w : World} {K : PySem.W.Frag} {h : Heap} {mg : Str → Option Value} {fa : Addr} (X : K.In h) (G : h.Ns mainGlobals mg) (hfa : mg "law" = some (.ref fa)) (bl : Blank K mg ["ascending_fractions", "law"] h)
    {a_tMIDDLE : Addr} {dd_MIDDLE : Option Addr} {t1_MIDDLE t2_MIDDLE t3_MIDDLE : Tok} {n_MIDDLE : Nat} {sl_tMIDDLE : Array (Option Value)}
    {a_tONE : Addr} {dd_ONE : Option Addr} {t1_ONE t2_ONE t3_ONE : Tok} {n_ONE : Nat} {sl_tONE : Array (Option Value)}
    {tk_MOST_SPOTS : Tok}
    {tk_MOST_STROKES : Tok}
    {tk_MOST_REACH : Tok}
    {tk_MOST_ARMS : Tok}
    {tk_MOST_LIMIT : Tok}
    {CB : Addr} {e0 e1 e2 e3 e4 e5 e6 e7 e8 e9 e10 e11 e12 e13 e14 e15 e16 e17 e18 e19 : Addr}
    {f_law_error_of : Addr} {od_law_error_of an_law_error_of : Option Addr} {sl_law_error_of : Array (Option Value)} {oc_law_error_of kV_law_error_of dc_law_error_of pm_law_error_of cd_law_error_of ct_law_error_of : Value}
    {f_OutOfReach___init__ : Addr} {od_OutOfReach___init__ an_OutOfReach___init__ : Option Addr} {sl_OutOfReach___init__ : Array (Option Value)} {oc_OutOfReach___init__ kV_OutOfReach___init__ dc_OutOfReach___init__ pm_OutOfReach___init__ cd_OutOfReach___init__ ct_OutOfReach___init__ : Value}
    {f_common_divisor : Addr} {od_common_divisor an_common_divisor : Option Addr} {sl_common_divisor : Array (Option Value)} {oc_common_divisor kV_common_divisor dc_common_divisor pm_common_divisor cd_common_divisor ct_common_divisor : Value}
    {f_is_whole : Addr} {od_is_whole an_is_whole : Option Addr} {sl_is_whole : Array (Option Value)} {oc_is_whole kV_is_whole dc_is_whole pm_is_whole cd_is_whole ct_is_whole : Value}
    {f_is_spot : Addr} {od_is_spot an_is_spot : Option Addr} {sl_is_spot : Array (Option Value)} {oc_is_spot kV_is_spot dc_is_spot pm_is_spot cd_is_spot ct_is_spot : Value}
    {f_check_spot : Addr} {od_check_spot an_check_spot : Option Addr} {sl_check_spot : Array (Option Value)} {oc_check_spot kV_check_spot dc_check_spot pm_check_spot cd_check_spot ct_check_spot : Value}
    {f_check_turn : Addr} {od_check_turn an_check_turn : Option Addr} {sl_check_turn : Array (Option Value)} {oc_check_turn kV_check_turn dc_check_turn pm_check_turn cd_check_turn ct_check_turn : Value}
    {f_check_limit : Addr} {od_check_limit an_check_limit : Option Addr} {sl_check_limit : Array (Option Value)} {oc_check_limit kV_check_limit dc_check_limit pm_check_limit cd_check_limit ct_check_limit : Value}
    {f_spot_at : Addr} {od_spot_at an_spot_at : Option Addr} {sl_spot_at : Array (Option Value)} {oc_spot_at kV_spot_at dc_spot_at pm_spot_at cd_spot_at ct_spot_at : Value}
    {f_fraction : Addr} {od_fraction an_fraction : Option Addr} {sl_fraction : Array (Option Value)} {oc_fraction kV_fraction dc_fraction pm_fraction cd_fraction ct_fraction : Value}
    {f_plus : Addr} {od_plus an_plus : Option Addr} {sl_plus : Array (Option Value)} {oc_plus kV_plus dc_plus pm_plus cd_plus ct_plus : Value}
    {f_negative : Addr} {od_negative an_negative : Option Addr} {sl_negative : Array (Option Value)} {oc_negative kV_negative dc_negative pm_negative cd_negative ct_negative : Value}
    {f_minus : Addr} {od_minus an_minus : Option Addr} {sl_minus : Array (Option Value)} {oc_minus kV_minus dc_minus pm_minus cd_minus ct_minus : Value}
    {f_product : Addr} {od_product an_product : Option Addr} {sl_product : Array (Option Value)} {oc_product kV_product dc_product pm_product cd_product ct_product : Value}
    {f_inverse : Addr} {od_inverse an_inverse : Option Addr} {sl_inverse : Array (Option Value)} {oc_inverse kV_inverse dc_inverse pm_inverse cd_inverse ct_inverse : Value}
    {f_faced : Addr} {od_faced an_faced : Option Addr} {sl_faced : Array (Option Value)} {oc_faced kV_faced dc_faced pm_faced cd_faced ct_faced : Value}
    {f_carried : Addr} {od_carried an_carried : Option Addr} {sl_carried : Array (Option Value)} {oc_carried kV_carried dc_carried pm_carried cd_carried ct_carried : Value}
    {f_parting_scale : Addr} {od_parting_scale an_parting_scale : Option Addr} {sl_parting_scale : Array (Option Value)} {oc_parting_scale kV_parting_scale dc_parting_scale pm_parting_scale cd_parting_scale ct_parting_scale : Value}
    {f_ascending_fractions : Addr} {od_ascending_fractions an_ascending_fractions : Option Addr} {sl_ascending_fractions : Array (Option Value)} {oc_ascending_fractions kV_ascending_fractions dc_ascending_fractions pm_ascending_fractions ct_ascending_fractions : Value}
    {cc_ascending_fractions PP_ascending_fractions : Addr} {oq_ascending_fractions : Value} {dq_ascending_fractions : Option Addr} {vq_ascending_fractions : Array Value} {sq_ascending_fractions : Array (Option Value)}
    {f_parts_of : Addr} {od_parts_of an_parts_of : Option Addr} {sl_parts_of : Array (Option Value)} {oc_parts_of kV_parts_of dc_parts_of pm_parts_of cd_parts_of ct_parts_of : Value}
    {f_is_stroke : Addr} {od_is_stroke an_is_stroke : Option Addr} {sl_is_stroke : Array (Option Value)} {oc_is_stroke kV_is_stroke dc_is_stroke pm_is_stroke cd_is_stroke ct_is_stroke : Value}
    {f_check_strokes : Addr} {od_check_strokes an_check_strokes : Option Addr} {sl_check_strokes : Array (Option Value)} {oc_check_strokes kV_check_strokes dc_check_strokes pm_check_strokes cd_check_strokes ct_check_strokes : Value}
    {f_square_between : Addr} {od_square_between an_square_between : Option Addr} {sl_square_between : Array (Option Value)} {oc_square_between kV_square_between dc_square_between pm_square_between cd_square_between ct_square_between : Value}
    {f_is_from_to : Addr} {od_is_from_to an_is_from_to : Option Addr} {sl_is_from_to : Array (Option Value)} {oc_is_from_to kV_is_from_to dc_is_from_to pm_is_from_to cd_is_from_to ct_is_from_to : Value}
    {f_square_beside : Addr} {od_square_beside an_square_beside : Option Addr} {sl_square_beside : Array (Option Value)} {oc_square_beside kV_square_beside dc_square_beside pm_square_beside cd_square_beside ct_square_beside : Value}
    {f_squares_along : Addr} {od_squares_along an_squares_along : Option Addr} {sl_squares_along : Array (Option Value)} {oc_squares_along kV_squares_along dc_squares_along pm_squares_along cd_squares_along ct_squares_along : Value}
    {C : Addr}
    {kD_Copy___init__ : Addr}
    {f_Copy___init__ : Addr} {od_Copy___init__ an_Copy___init__ : Option Addr} {sl_Copy___init__ : Array (Option Value)} {oc_Copy___init__ dc_Copy___init__ pm_Copy___init__ cd_Copy___init__ ct_Copy___init__ : Value}
    {f_Copy___rshift__ : Addr} {od_Copy___rshift__ an_Copy___rshift__ : Option Addr} {sl_Copy___rshift__ : Array (Option Value)} {oc_Copy___rshift__ kV_Copy___rshift__ dc_Copy___rshift__ pm_Copy___rshift__ cd_Copy___rshift__ ct_Copy___rshift__ : Value}
    {f_Copy___invert__ : Addr} {od_Copy___invert__ an_Copy___invert__ : Option Addr} {sl_Copy___invert__ : Array (Option Value)} {oc_Copy___invert__ kV_Copy___invert__ dc_Copy___invert__ pm_Copy___invert__ cd_Copy___invert__ ct_Copy___invert__ : Value}
    {f_Copy___call__ : Addr} {od_Copy___call__ an_Copy___call__ : Option Addr} {sl_Copy___call__ : Array (Option Value)} {oc_Copy___call__ kV_Copy___call__ dc_Copy___call__ pm_Copy___call__ cd_Copy___call__ ct_Copy___call__ : Value}
    {q_Copy_growth : Addr} {rs_Copy_growth : List Value}
    {f_Copy_growth : Addr} {od_Copy_growth an_Copy_growth : Option Addr} {sl_Copy_growth : Array (Option Value)} {oc_Copy_growth kV_Copy_growth dc_Copy_growth pm_Copy_growth cd_Copy_growth ct_Copy_growth : Value}
    {CW : Addr}
    {f_Drawing___init__ : Addr} {od_Drawing___init__ an_Drawing___init__ : Option Addr} {sl_Drawing___init__ : Array (Option Value)} {oc_Drawing___init__ kV_Drawing___init__ dc_Drawing___init__ pm_Drawing___init__ cd_Drawing___init__ ct_Drawing___init__ : Value}
    {q_Drawing_strokes : Addr} {rs_Drawing_strokes : List Value}
    {f_Drawing_strokes : Addr} {od_Drawing_strokes an_Drawing_strokes : Option Addr} {sl_Drawing_strokes : Array (Option Value)} {oc_Drawing_strokes kV_Drawing_strokes dc_Drawing_strokes pm_Drawing_strokes cd_Drawing_strokes ct_Drawing_strokes : Value}
    {f_Drawing___add__ : Addr} {od_Drawing___add__ an_Drawing___add__ : Option Addr} {sl_Drawing___add__ : Array (Option Value)} {oc_Drawing___add__ kV_Drawing___add__ dc_Drawing___add__ pm_Drawing___add__ cd_Drawing___add__ ct_Drawing___add__ : Value}
    {f_Drawing_copied : Addr} {od_Drawing_copied an_Drawing_copied : Option Addr} {sl_Drawing_copied : Array (Option Value)} {oc_Drawing_copied kV_Drawing_copied dc_Drawing_copied pm_Drawing_copied cd_Drawing_copied ct_Drawing_copied : Value}
    {f_still_copy : Addr} {od_still_copy an_still_copy : Option Addr} {sl_still_copy : Array (Option Value)} {oc_still_copy kV_still_copy dc_still_copy pm_still_copy cd_still_copy ct_still_copy : Value}
    {f_check_reach : Addr} {od_check_reach an_check_reach : Option Addr} {sl_check_reach : Array (Option Value)} {oc_check_reach kV_check_reach dc_check_reach pm_check_reach cd_check_reach ct_check_reach : Value}
    {f_copy_around : Addr} {od_copy_around an_copy_around : Option Addr} {sl_copy_around : Array (Option Value)} {oc_copy_around kV_copy_around dc_copy_around pm_copy_around cd_copy_around ct_copy_around : Value}
    {CA : Addr}
    {kD_Arm___init__ : Addr}
    {f_Arm___init__ : Addr} {od_Arm___init__ an_Arm___init__ : Option Addr} {sl_Arm___init__ : Array (Option Value)} {oc_Arm___init__ dc_Arm___init__ pm_Arm___init__ cd_Arm___init__ ct_Arm___init__ : Value}
    {q_Arm_pole : Addr} {rs_Arm_pole : List Value}
    {f_Arm_pole : Addr} {od_Arm_pole an_Arm_pole : Option Addr} {sl_Arm_pole : Array (Option Value)} {oc_Arm_pole kV_Arm_pole dc_Arm_pole pm_Arm_pole cd_Arm_pole ct_Arm_pole : Value}
    {q_Arm_near : Addr} {rs_Arm_near : List Value}
    {f_Arm_near : Addr} {od_Arm_near an_Arm_near : Option Addr} {sl_Arm_near : Array (Option Value)} {oc_Arm_near kV_Arm_near dc_Arm_near pm_Arm_near cd_Arm_near ct_Arm_near : Value}
    {q_Arm_far : Addr} {rs_Arm_far : List Value}
    {f_Arm_far : Addr} {od_Arm_far an_Arm_far : Option Addr} {sl_Arm_far : Array (Option Value)} {oc_Arm_far kV_Arm_far dc_Arm_far pm_Arm_far cd_Arm_far ct_Arm_far : Value}
    {q_Arm_effect : Addr} {rs_Arm_effect : List Value}
    {f_Arm_effect : Addr} {od_Arm_effect an_Arm_effect : Option Addr} {sl_Arm_effect : Array (Option Value)} {oc_Arm_effect kV_Arm_effect dc_Arm_effect pm_Arm_effect cd_Arm_effect ct_Arm_effect : Value}
    {f_Arm_reaches : Addr} {od_Arm_reaches an_Arm_reaches : Option Addr} {sl_Arm_reaches : Array (Option Value)} {oc_Arm_reaches kV_Arm_reaches dc_Arm_reaches pm_Arm_reaches cd_Arm_reaches ct_Arm_reaches : Value}
    {f_joint_copy : Addr} {od_joint_copy an_joint_copy : Option Addr} {sl_joint_copy : Array (Option Value)} {oc_joint_copy kV_joint_copy dc_joint_copy pm_joint_copy cd_joint_copy ct_joint_copy : Value}
    {f_traced_parts : Addr} {od_traced_parts an_traced_parts : Option Addr} {sl_traced_parts : Array (Option Value)} {oc_traced_parts kV_traced_parts dc_traced_parts pm_traced_parts cd_traced_parts ct_traced_parts : Value}
    {f_can_trace : Addr} {od_can_trace an_can_trace : Option Addr} {sl_can_trace : Array (Option Value)} {oc_can_trace kV_can_trace dc_can_trace pm_can_trace cd_can_trace ct_can_trace : Value}
    {f_traced : Addr} {od_traced an_traced : Option Addr} {sl_traced : Array (Option Value)} {oc_traced kV_traced dc_traced pm_traced cd_traced ct_traced : Value}
    {CH : Addr}
    {f_Chain___init__ : Addr} {od_Chain___init__ an_Chain___init__ : Option Addr} {sl_Chain___init__ : Array (Option Value)} {oc_Chain___init__ kV_Chain___init__ dc_Chain___init__ pm_Chain___init__ cd_Chain___init__ ct_Chain___init__ : Value}
    {q_Chain_arms : Addr} {rs_Chain_arms : List Value}
    {f_Chain_arms : Addr} {od_Chain_arms an_Chain_arms : Option Addr} {sl_Chain_arms : Array (Option Value)} {oc_Chain_arms kV_Chain_arms dc_Chain_arms pm_Chain_arms cd_Chain_arms ct_Chain_arms : Value}
    {q_Chain_effect : Addr} {rs_Chain_effect : List Value}
    {f_Chain_effect : Addr} {od_Chain_effect an_Chain_effect : Option Addr} {sl_Chain_effect : Array (Option Value)} {oc_Chain_effect kV_Chain_effect dc_Chain_effect pm_Chain_effect cd_Chain_effect ct_Chain_effect : Value}
    {f_Chain___add__ : Addr} {od_Chain___add__ an_Chain___add__ : Option Addr} {sl_Chain___add__ : Array (Option Value)} {oc_Chain___add__ kV_Chain___add__ dc_Chain___add__ pm_Chain___add__ cd_Chain___add__ ct_Chain___add__ : Value}
    {f_Chain___getitem__ : Addr} {od_Chain___getitem__ an_Chain___getitem__ : Option Addr} {sl_Chain___getitem__ : Array (Option Value)} {oc_Chain___getitem__ kV_Chain___getitem__ dc_Chain___getitem__ pm_Chain___getitem__ cd_Chain___getitem__ ct_Chain___getitem__ : Value}
    {f_Chain_draw : Addr} {od_Chain_draw an_Chain_draw : Option Addr} {sl_Chain_draw : Array (Option Value)} {oc_Chain_draw kV_Chain_draw dc_Chain_draw pm_Chain_draw cd_Chain_draw ct_Chain_draw : Value}
    {f_square_ahead : Addr} {od_square_ahead an_square_ahead : Option Addr} {sl_square_ahead : Array (Option Value)} {oc_square_ahead kV_square_ahead dc_square_ahead pm_square_ahead cd_square_ahead ct_square_ahead : Value}
    {f_zones : Addr} {od_zones an_zones : Option Addr} {sl_zones : Array (Option Value)} {oc_zones kV_zones dc_zones pm_zones cd_zones ct_zones : Value}
    {f_is_in_all : Addr} {od_is_in_all an_is_in_all : Option Addr} {sl_is_in_all : Array (Option Value)} {oc_is_in_all kV_is_in_all dc_is_in_all pm_is_in_all cd_is_in_all ct_is_in_all : Value}
    {f_reachable_spots : Addr} {od_reachable_spots an_reachable_spots : Option Addr} {sl_reachable_spots : Array (Option Value)} {oc_reachable_spots kV_reachable_spots dc_reachable_spots pm_reachable_spots cd_reachable_spots ct_reachable_spots : Value}
    {f_can_draw : Addr} {od_can_draw an_can_draw : Option Addr} {sl_can_draw : Array (Option Value)} {oc_can_draw kV_can_draw dc_can_draw pm_can_draw cd_can_draw ct_can_draw : Value}
    {f_law_random : Addr} {od_law_random an_law_random : Option Addr} {sl_law_random : Array (Option Value)} {oc_law_random kV_law_random dc_law_random pm_law_random cd_law_random ct_law_random : Value}
    {f_law_below : Addr} {od_law_below an_law_below : Option Addr} {sl_law_below : Array (Option Value)} {oc_law_below kV_law_below dc_law_below pm_law_below cd_law_below ct_law_below : Value}
    {f_law_step : Addr} {od_law_step an_law_step : Option Addr} {sl_law_step : Array (Option Value)} {oc_law_step kV_law_step dc_law_step pm_law_step cd_law_step ct_law_step : Value}
    {f_law_turn : Addr} {od_law_turn an_law_turn : Option Addr} {sl_law_turn : Array (Option Value)} {oc_law_turn kV_law_turn dc_law_turn pm_law_turn cd_law_turn ct_law_turn : Value}
    {f_law_common : Addr} {od_law_common an_law_common : Option Addr} {sl_law_common : Array (Option Value)} {oc_law_common kV_law_common dc_law_common pm_law_common cd_law_common ct_law_common : Value}
    {f_law_lowest : Addr} {od_law_lowest an_law_lowest : Option Addr} {sl_law_lowest : Array (Option Value)} {oc_law_lowest kV_law_lowest dc_law_lowest pm_law_lowest cd_law_lowest ct_law_lowest : Value}
    {f_law_spot : Addr} {od_law_spot an_law_spot : Option Addr} {sl_law_spot : Array (Option Value)} {oc_law_spot kV_law_spot dc_law_spot pm_law_spot cd_law_spot ct_law_spot : Value}
    {f_law_arm_told : Addr} {od_law_arm_told an_law_arm_told : Option Addr} {sl_law_arm_told : Array (Option Value)} {oc_law_arm_told kV_law_arm_told dc_law_arm_told pm_law_arm_told cd_law_arm_told ct_law_arm_told : Value}
    {f_law_arm : Addr} {od_law_arm an_law_arm : Option Addr} {sl_law_arm : Array (Option Value)} {oc_law_arm kV_law_arm dc_law_arm pm_law_arm cd_law_arm ct_law_arm : Value}
    {f_law_drawing : Addr} {od_law_drawing an_law_drawing : Option Addr} {sl_law_drawing : Array (Option Value)} {oc_law_drawing kV_law_drawing dc_law_drawing pm_law_drawing cd_law_drawing ct_law_drawing : Value}
    {f_law_chain : Addr} {od_law_chain an_law_chain : Option Addr} {sl_law_chain : Array (Option Value)} {oc_law_chain kV_law_chain dc_law_chain pm_law_chain cd_law_chain ct_law_chain : Value}
    {f_law_equal : Addr} {od_law_equal an_law_equal : Option Addr} {sl_law_equal : Array (Option Value)} {oc_law_equal kV_law_equal dc_law_equal pm_law_equal cd_law_equal ct_law_equal : Value}
    {f_law_over : Addr} {od_law_over an_law_over : Option Addr} {sl_law_over : Array (Option Value)} {oc_law_over kV_law_over dc_law_over pm_law_over cd_law_over ct_law_over : Value}
    {f_law_plus : Addr} {od_law_plus an_law_plus : Option Addr} {sl_law_plus : Array (Option Value)} {oc_law_plus kV_law_plus dc_law_plus pm_law_plus cd_law_plus ct_law_plus : Value}
    {f_law_times : Addr} {od_law_times an_law_times : Option Addr} {sl_law_times : Array (Option Value)} {oc_law_times kV_law_times dc_law_times pm_law_times cd_law_times ct_law_times : Value}
    {f_law_minus : Addr} {od_law_minus an_law_minus : Option Addr} {sl_law_minus : Array (Option Value)} {oc_law_minus kV_law_minus dc_law_minus pm_law_minus cd_law_minus ct_law_minus : Value}
    {f_law_carried : Addr} {od_law_carried an_law_carried : Option Addr} {sl_law_carried : Array (Option Value)} {oc_law_carried kV_law_carried dc_law_carried pm_law_carried cd_law_carried ct_law_carried : Value}
    {f_law_about : Addr} {od_law_about an_law_about : Option Addr} {sl_law_about : Array (Option Value)} {oc_law_about kV_law_about dc_law_about pm_law_about cd_law_about ct_law_about : Value}
    {f_law_ratio : Addr} {od_law_ratio an_law_ratio : Option Addr} {sl_law_ratio : Array (Option Value)} {oc_law_ratio kV_law_ratio dc_law_ratio pm_law_ratio cd_law_ratio ct_law_ratio : Value}
    {f_law_size : Addr} {od_law_size an_law_size : Option Addr} {sl_law_size : Array (Option Value)} {oc_law_size kV_law_size dc_law_size pm_law_size cd_law_size ct_law_size : Value}
    {f_law_less : Addr} {od_law_less an_law_less : Option Addr} {sl_law_less : Array (Option Value)} {oc_law_less kV_law_less dc_law_less pm_law_less cd_law_less ct_law_less : Value}
    {f_law_reached : Addr} {od_law_reached an_law_reached : Option Addr} {sl_law_reached : Array (Option Value)} {oc_law_reached kV_law_reached dc_law_reached pm_law_reached cd_law_reached ct_law_reached : Value}
    {f_law_near : Addr} {od_law_near an_law_near : Option Addr} {sl_law_near : Array (Option Value)} {oc_law_near kV_law_near dc_law_near pm_law_near cd_law_near ct_law_near : Value}
    {f_law_traced : Addr} {od_law_traced an_law_traced : Option Addr} {sl_law_traced : Array (Option Value)} {oc_law_traced kV_law_traced dc_law_traced pm_law_traced cd_law_traced ct_law_traced : Value}
    {f_law_moved : Addr} {od_law_moved an_law_moved : Option Addr} {sl_law_moved : Array (Option Value)} {oc_law_moved kV_law_moved dc_law_moved pm_law_moved cd_law_moved ct_law_moved : Value}
    {f_law_missed : Addr} {od_law_missed an_law_missed : Option Addr} {sl_law_missed : Array (Option Value)} {oc_law_missed kV_law_missed dc_law_missed pm_law_missed cd_law_missed ct_law_missed : Value}
    {f_law : Addr} {od_law an_law : Option Addr} {sl_law : Array (Option Value)} {oc_law kV_law dc_law pm_law ct_law : Value}
    {cc_law PP_law : Addr} {oq_law : Value} {dq_law : Option Addr} {vq_law : Array Value} {sq_law : Array (Option Value)}
    (z_abs : PySem.W.nsIn K mainGlobals "abs" = some none)
    (z_len : PySem.W.nsIn K mainGlobals "len" = some none)
    (z_isinstance : PySem.W.nsIn K mainGlobals "isinstance" = some none)
    (z_int : PySem.W.nsIn K mainGlobals "int" = some none)
    (z_bool : PySem.W.nsIn K mainGlobals "bool" = some none)
    (z_str : PySem.W.nsIn K mainGlobals "str" = some none)
    (z_tuple : PySem.W.nsIn K mainGlobals "tuple" = some none)
    (z_list : PySem.W.nsIn K mainGlobals "list" = some none)
    (z_all : PySem.W.nsIn K mainGlobals "all" = some none)
    (z_range : PySem.W.nsIn K mainGlobals "range" = some none)
    (z_enumerate : PySem.W.nsIn K mainGlobals "enumerate" = some none)
    (z_zip : PySem.W.nsIn K mainGlobals "zip" = some none)
    (z_max : PySem.W.nsIn K mainGlobals "max" = some none)
    (z_sorted : PySem.W.nsIn K mainGlobals "sorted" = some none)
    (z_ValueError : PySem.W.nsIn K mainGlobals "ValueError" = some none)
    (m_MIDDLE : PySem.W.nsIn K mainGlobals "MIDDLE" = some (some (.ref a_tMIDDLE)))
    (u_MIDDLE : K.lookup a_tMIDDLE = some ⟨.type "tuple", dd_MIDDLE, .seq #[.int 0 t1_MIDDLE, .int 0 t2_MIDDLE, .int 1 t3_MIDDLE] n_MIDDLE, sl_tMIDDLE⟩)
    (m_ONE : PySem.W.nsIn K mainGlobals "ONE" = some (some (.ref a_tONE)))
    (u_ONE : K.lookup a_tONE = some ⟨.type "tuple", dd_ONE, .seq #[.int 1 t1_ONE, .int 0 t2_ONE, .int 1 t3_ONE] n_ONE, sl_tONE⟩)
    (mi_MOST_SPOTS : PySem.W.nsIn K mainGlobals "MOST_SPOTS" = some (some (.int 12 tk_MOST_SPOTS)))
    (mi_MOST_STROKES : PySem.W.nsIn K mainGlobals "MOST_STROKES" = some (some (.int 12 tk_MOST_STROKES)))
    (mi_MOST_REACH : PySem.W.nsIn K mainGlobals "MOST_REACH" = some (some (.int 1000 tk_MOST_REACH)))
    (mi_MOST_ARMS : PySem.W.nsIn K mainGlobals "MOST_ARMS" = some (some (.int 6 tk_MOST_ARMS)))
    (mi_MOST_LIMIT : PySem.W.nsIn K mainGlobals "MOST_LIMIT" = some (some (.int 20 tk_MOST_LIMIT)))
    (g_CB : PySem.W.nsIn K mainGlobals "CopyError" = some (some (.ref CB)))
    (ge_0 : PySem.W.nsIn K mainGlobals "InvalidSpot" = some (some (.ref e0)))
    (ge_1 : PySem.W.nsIn K mainGlobals "InvalidTurn" = some (some (.ref e1)))
    (ge_2 : PySem.W.nsIn K mainGlobals "InvalidTimes" = some (some (.ref e2)))
    (ge_3 : PySem.W.nsIn K mainGlobals "TooFew" = some (some (.ref e3)))
    (ge_4 : PySem.W.nsIn K mainGlobals "InvalidStroke" = some (some (.ref e4)))
    (ge_5 : PySem.W.nsIn K mainGlobals "OpenStroke" = some (some (.ref e5)))
    (ge_6 : PySem.W.nsIn K mainGlobals "InvalidReach" = some (some (.ref e6)))
    (ge_7 : PySem.W.nsIn K mainGlobals "OutOfReach" = some (some (.ref e7)))
    (ge_8 : PySem.W.nsIn K mainGlobals "TooMany" = some (some (.ref e8)))
    (ge_9 : PySem.W.nsIn K mainGlobals "InvalidSize" = some (some (.ref e9)))
    (ge_10 : PySem.W.nsIn K mainGlobals "InvalidBox" = some (some (.ref e10)))
    (ge_11 : PySem.W.nsIn K mainGlobals "Contradiction" = some (some (.ref e11)))
    (ge_12 : PySem.W.nsIn K mainGlobals "BadText" = some (some (.ref e12)))
    (ge_13 : PySem.W.nsIn K mainGlobals "BadRow" = some (some (.ref e13)))
    (ge_14 : PySem.W.nsIn K mainGlobals "UnknownName" = some (some (.ref e14)))
    (ge_15 : PySem.W.nsIn K mainGlobals "InvalidName" = some (some (.ref e15)))
    (ge_16 : PySem.W.nsIn K mainGlobals "InvalidCode" = some (some (.ref e16)))
    (ge_17 : PySem.W.nsIn K mainGlobals "UnknownArm" = some (some (.ref e17)))
    (ge_18 : PySem.W.nsIn K mainGlobals "NotFree" = some (some (.ref e18)))
    (ge_19 : PySem.W.nsIn K mainGlobals "InvalidOperation" = some (some (.ref e19)))
    (xc_n : PySem.W.specialIn K (.builtin "object.__class__") "__get__" = some (some (.builtin "getset_descriptor.__get__")))
    (xc_t : PySem.W.takesIn K (.builtin "object.__class__") = some true)
    (xg_9 : PySem.W.findIn K (.ref e9) "__getattribute__" = some (some (.builtin "BaseException.__getattribute__")))
    (xk_9 : PySem.W.findIn K (.ref e9) "__getattr__" = some none)
    (xs_9 : PySem.W.subIn K (.ref e9) (.type "BaseException") = some true)
    (xd_9 : PySem.W.hasDictIn K e9 = true)
    (xa_9 : PySem.W.findIn K (.ref e9) "__class__" = some (some (.builtin "object.__class__")))
    (xm_9 : PySem.W.mroIn K e9 (.type "object") = some true)
    (kt_9_0 : PySem.W.kitOne K (.ref e9) (.ref e0) = some false)
    (kt_9_1 : PySem.W.kitOne K (.ref e9) (.ref e1) = some false)
    (kt_9_2 : PySem.W.kitOne K (.ref e9) (.ref e2) = some false)
    (kt_9_3 : PySem.W.kitOne K (.ref e9) (.ref e3) = some false)
    (kt_9_4 : PySem.W.kitOne K (.ref e9) (.ref e4) = some false)
    (kt_9_5 : PySem.W.kitOne K (.ref e9) (.ref e5) = some false)
    (kt_9_6 : PySem.W.kitOne K (.ref e9) (.ref e6) = some false)
    (kt_9_7 : PySem.W.kitOne K (.ref e9) (.ref e7) = some false)
    (kt_9_8 : PySem.W.kitOne K (.ref e9) (.ref e8) = some false)
    (kt_9_9 : PySem.W.kitOne K (.ref e9) (.ref e9) = some true)
    (kt_9_10 : PySem.W.kitOne K (.ref e9) (.ref e10) = some false)
    (kt_9_11 : PySem.W.kitOne K (.ref e9) (.ref e11) = some false)
    (kt_9_12 : PySem.W.kitOne K (.ref e9) (.ref e12) = some false)
    (kt_9_13 : PySem.W.kitOne K (.ref e9) (.ref e13) = some false)
    (kt_9_14 : PySem.W.kitOne K (.ref e9) (.ref e14) = some false)
    (kt_9_15 : PySem.W.kitOne K (.ref e9) (.ref e15) = some false)
    (kt_9_16 : PySem.W.kitOne K (.ref e9) (.ref e16) = some false)
    (kt_9_17 : PySem.W.kitOne K (.ref e9) (.ref e17) = some false)
    (kt_9_18 : PySem.W.kitOne K (.ref e9) (.ref e18) = some false)
    (kt_9_19 : PySem.W.kitOne K (.ref e9) (.ref e19) = some false)
    (kv_9 : PySem.W.kitOne K (.ref e9) (.type "ValueError") = some true)
    (xx_9 : PySem.W.exmOne K (.ref e9) (.ref CB) = some true)
    (xq_9 : PySem.W.excIn K e9 [.type "ValueError", .type "Exception", .type "BaseException", .type "object"] "ValueError.__new__" = true)
    (xp_9 : PySem.W.keepIn K (.ref e9) = true)
    (xt_9 : PySem.W.typeIn K (.ref e9) = some (.type "type"))
    (a_law_error_of : PySem.W.nsIn K mainGlobals "_law_error_of" = some (some (.ref f_law_error_of)))
    (l_law_error_of : K.lookup f_law_error_of = some ⟨oc_law_error_of, od_law_error_of, .func (PySem.W.fnOf "_law_error_of" "_law_error_of" (defArgs s_law_error_of) (defBody s_law_error_of) (defScope s_law_error_of) .none kV_law_error_of dc_law_error_of pm_law_error_of an_law_error_of cd_law_error_of ct_law_error_of), sl_law_error_of⟩)
    (c_law_error_of : PySem.W.codeIn K cd_law_error_of "_law_error_of" = true)
    (k_law_error_of : PySem.W.keepIn K (.ref f_law_error_of) = true)
    (xs_7 : PySem.W.subIn K (.ref e7) (.type "BaseException") = some true)
    (xp_7 : PySem.W.keepIn K (.ref e7) = true)
    (xt_7 : PySem.W.typeIn K (.ref e7) = some (.type "type"))
    (xo_7 : oexB K e7 = true)
    (xz_7 : PySem.W.findIn K (.ref e7) "__setattr__" = some (some (.builtin "object.__setattr__")))
    (xn_7_0 : PySem.W.findIn K (.ref e7) "arm" = some none)
    (xn_7_1 : PySem.W.findIn K (.ref e7) "stroke" = some none)
    (xn_7_2 : PySem.W.findIn K (.ref e7) "part" = some none)
    (xi_7 : PySem.W.findIn K (.ref e7) "__init__" = some (some (.ref f_OutOfReach___init__)))
    (xj_7 : PySem.W.typeIn K (.ref f_OutOfReach___init__) = some (.type "function"))
    (l_OutOfReach___init__ : K.lookup f_OutOfReach___init__ = some ⟨oc_OutOfReach___init__, od_OutOfReach___init__, .func (PySem.W.fnOf "__init__" "OutOfReach.__init__" (defArgs s_OutOfReach___init__) (defBody s_OutOfReach___init__) (defScope s_OutOfReach___init__) .none kV_OutOfReach___init__ dc_OutOfReach___init__ pm_OutOfReach___init__ an_OutOfReach___init__ cd_OutOfReach___init__ ct_OutOfReach___init__), sl_OutOfReach___init__⟩)
    (c_OutOfReach___init__ : PySem.W.codeIn K cd_OutOfReach___init__ "OutOfReach.__init__" = true)
    (k_OutOfReach___init__ : PySem.W.keepIn K (.ref f_OutOfReach___init__) = true)
    (xx_77 : PySem.W.exmOne K (.ref e7) (.ref e7) = some true)
    (a_common_divisor : PySem.W.nsIn K mainGlobals "common_divisor" = some (some (.ref f_common_divisor)))
    (l_common_divisor : K.lookup f_common_divisor = some ⟨oc_common_divisor, od_common_divisor, .func (PySem.W.fnOf "common_divisor" "common_divisor" (defArgs s_common_divisor) (defBody s_common_divisor) (defScope s_common_divisor) .none kV_common_divisor dc_common_divisor pm_common_divisor an_common_divisor cd_common_divisor ct_common_divisor), sl_common_divisor⟩)
    (c_common_divisor : PySem.W.codeIn K cd_common_divisor "common_divisor" = true)
    (k_common_divisor : PySem.W.keepIn K (.ref f_common_divisor) = true)
    (a_is_whole : PySem.W.nsIn K mainGlobals "is_whole" = some (some (.ref f_is_whole)))
    (l_is_whole : K.lookup f_is_whole = some ⟨oc_is_whole, od_is_whole, .func (PySem.W.fnOf "is_whole" "is_whole" (defArgs s_is_whole) (defBody s_is_whole) (defScope s_is_whole) .none kV_is_whole dc_is_whole pm_is_whole an_is_whole cd_is_whole ct_is_whole), sl_is_whole⟩)
    (c_is_whole : PySem.W.codeIn K cd_is_whole "is_whole" = true)
    (k_is_whole : PySem.W.keepIn K (.ref f_is_whole) = true)
    (a_is_spot : PySem.W.nsIn K mainGlobals "is_spot" = some (some (.ref f_is_spot)))
    (l_is_spot : K.lookup f_is_spot = some ⟨oc_is_spot, od_is_spot, .func (PySem.W.fnOf "is_spot" "is_spot" (defArgs s_is_spot) (defBody s_is_spot) (defScope s_is_spot) .none kV_is_spot dc_is_spot pm_is_spot an_is_spot cd_is_spot ct_is_spot), sl_is_spot⟩)
    (c_is_spot : PySem.W.codeIn K cd_is_spot "is_spot" = true)
    (k_is_spot : PySem.W.keepIn K (.ref f_is_spot) = true)
    (a_check_spot : PySem.W.nsIn K mainGlobals "check_spot" = some (some (.ref f_check_spot)))
    (l_check_spot : K.lookup f_check_spot = some ⟨oc_check_spot, od_check_spot, .func (PySem.W.fnOf "check_spot" "check_spot" (defArgs s_check_spot) (defBody s_check_spot) (defScope s_check_spot) .none kV_check_spot dc_check_spot pm_check_spot an_check_spot cd_check_spot ct_check_spot), sl_check_spot⟩)
    (c_check_spot : PySem.W.codeIn K cd_check_spot "check_spot" = true)
    (k_check_spot : PySem.W.keepIn K (.ref f_check_spot) = true)
    (a_check_turn : PySem.W.nsIn K mainGlobals "check_turn" = some (some (.ref f_check_turn)))
    (l_check_turn : K.lookup f_check_turn = some ⟨oc_check_turn, od_check_turn, .func (PySem.W.fnOf "check_turn" "check_turn" (defArgs s_check_turn) (defBody s_check_turn) (defScope s_check_turn) .none kV_check_turn dc_check_turn pm_check_turn an_check_turn cd_check_turn ct_check_turn), sl_check_turn⟩)
    (c_check_turn : PySem.W.codeIn K cd_check_turn "check_turn" = true)
    (k_check_turn : PySem.W.keepIn K (.ref f_check_turn) = true)
    (a_check_limit : PySem.W.nsIn K mainGlobals "check_limit" = some (some (.ref f_check_limit)))
    (l_check_limit : K.lookup f_check_limit = some ⟨oc_check_limit, od_check_limit, .func (PySem.W.fnOf "check_limit" "check_limit" (defArgs s_check_limit) (defBody s_check_limit) (defScope s_check_limit) .none kV_check_limit dc_check_limit pm_check_limit an_check_limit cd_check_limit ct_check_limit), sl_check_limit⟩)
    (c_check_limit : PySem.W.codeIn K cd_check_limit "check_limit" = true)
    (k_check_limit : PySem.W.keepIn K (.ref f_check_limit) = true)
    (a_spot_at : PySem.W.nsIn K mainGlobals "spot_at" = some (some (.ref f_spot_at)))
    (l_spot_at : K.lookup f_spot_at = some ⟨oc_spot_at, od_spot_at, .func (PySem.W.fnOf "spot_at" "spot_at" (defArgs s_spot_at) (defBody s_spot_at) (defScope s_spot_at) .none kV_spot_at dc_spot_at pm_spot_at an_spot_at cd_spot_at ct_spot_at), sl_spot_at⟩)
    (c_spot_at : PySem.W.codeIn K cd_spot_at "spot_at" = true)
    (k_spot_at : PySem.W.keepIn K (.ref f_spot_at) = true)
    (a_fraction : PySem.W.nsIn K mainGlobals "fraction" = some (some (.ref f_fraction)))
    (l_fraction : K.lookup f_fraction = some ⟨oc_fraction, od_fraction, .func (PySem.W.fnOf "fraction" "fraction" (defArgs s_fraction) (defBody s_fraction) (defScope s_fraction) .none kV_fraction dc_fraction pm_fraction an_fraction cd_fraction ct_fraction), sl_fraction⟩)
    (c_fraction : PySem.W.codeIn K cd_fraction "fraction" = true)
    (k_fraction : PySem.W.keepIn K (.ref f_fraction) = true)
    (a_plus : PySem.W.nsIn K mainGlobals "plus" = some (some (.ref f_plus)))
    (l_plus : K.lookup f_plus = some ⟨oc_plus, od_plus, .func (PySem.W.fnOf "plus" "plus" (defArgs s_plus) (defBody s_plus) (defScope s_plus) .none kV_plus dc_plus pm_plus an_plus cd_plus ct_plus), sl_plus⟩)
    (c_plus : PySem.W.codeIn K cd_plus "plus" = true)
    (k_plus : PySem.W.keepIn K (.ref f_plus) = true)
    (a_negative : PySem.W.nsIn K mainGlobals "negative" = some (some (.ref f_negative)))
    (l_negative : K.lookup f_negative = some ⟨oc_negative, od_negative, .func (PySem.W.fnOf "negative" "negative" (defArgs s_negative) (defBody s_negative) (defScope s_negative) .none kV_negative dc_negative pm_negative an_negative cd_negative ct_negative), sl_negative⟩)
    (c_negative : PySem.W.codeIn K cd_negative "negative" = true)
    (k_negative : PySem.W.keepIn K (.ref f_negative) = true)
    (a_minus : PySem.W.nsIn K mainGlobals "minus" = some (some (.ref f_minus)))
    (l_minus : K.lookup f_minus = some ⟨oc_minus, od_minus, .func (PySem.W.fnOf "minus" "minus" (defArgs s_minus) (defBody s_minus) (defScope s_minus) .none kV_minus dc_minus pm_minus an_minus cd_minus ct_minus), sl_minus⟩)
    (c_minus : PySem.W.codeIn K cd_minus "minus" = true)
    (k_minus : PySem.W.keepIn K (.ref f_minus) = true)
    (a_product : PySem.W.nsIn K mainGlobals "product" = some (some (.ref f_product)))
    (l_product : K.lookup f_product = some ⟨oc_product, od_product, .func (PySem.W.fnOf "product" "product" (defArgs s_product) (defBody s_product) (defScope s_product) .none kV_product dc_product pm_product an_product cd_product ct_product), sl_product⟩)
    (c_product : PySem.W.codeIn K cd_product "product" = true)
    (k_product : PySem.W.keepIn K (.ref f_product) = true)
    (a_inverse : PySem.W.nsIn K mainGlobals "inverse" = some (some (.ref f_inverse)))
    (l_inverse : K.lookup f_inverse = some ⟨oc_inverse, od_inverse, .func (PySem.W.fnOf "inverse" "inverse" (defArgs s_inverse) (defBody s_inverse) (defScope s_inverse) .none kV_inverse dc_inverse pm_inverse an_inverse cd_inverse ct_inverse), sl_inverse⟩)
    (c_inverse : PySem.W.codeIn K cd_inverse "inverse" = true)
    (k_inverse : PySem.W.keepIn K (.ref f_inverse) = true)
    (a_faced : PySem.W.nsIn K mainGlobals "faced" = some (some (.ref f_faced)))
    (l_faced : K.lookup f_faced = some ⟨oc_faced, od_faced, .func (PySem.W.fnOf "faced" "faced" (defArgs s_faced) (defBody s_faced) (defScope s_faced) .none kV_faced dc_faced pm_faced an_faced cd_faced ct_faced), sl_faced⟩)
    (c_faced : PySem.W.codeIn K cd_faced "faced" = true)
    (k_faced : PySem.W.keepIn K (.ref f_faced) = true)
    (a_carried : PySem.W.nsIn K mainGlobals "carried" = some (some (.ref f_carried)))
    (l_carried : K.lookup f_carried = some ⟨oc_carried, od_carried, .func (PySem.W.fnOf "carried" "carried" (defArgs s_carried) (defBody s_carried) (defScope s_carried) .none kV_carried dc_carried pm_carried an_carried cd_carried ct_carried), sl_carried⟩)
    (c_carried : PySem.W.codeIn K cd_carried "carried" = true)
    (k_carried : PySem.W.keepIn K (.ref f_carried) = true)
    (a_parting_scale : PySem.W.nsIn K mainGlobals "parting_scale" = some (some (.ref f_parting_scale)))
    (l_parting_scale : K.lookup f_parting_scale = some ⟨oc_parting_scale, od_parting_scale, .func (PySem.W.fnOf "parting_scale" "parting_scale" (defArgs s_parting_scale) (defBody s_parting_scale) (defScope s_parting_scale) .none kV_parting_scale dc_parting_scale pm_parting_scale an_parting_scale cd_parting_scale ct_parting_scale), sl_parting_scale⟩)
    (c_parting_scale : PySem.W.codeIn K cd_parting_scale "parting_scale" = true)
    (k_parting_scale : PySem.W.keepIn K (.ref f_parting_scale) = true)
    (a_ascending_fractions : PySem.W.nsIn K mainGlobals "ascending_fractions" = some (some (.ref f_ascending_fractions)))
    (l_ascending_fractions : K.lookup f_ascending_fractions = some ⟨oc_ascending_fractions, od_ascending_fractions, .func (PySem.W.fnOf "ascending_fractions" "ascending_fractions" (defArgs s_ascending_fractions) (defBody s_ascending_fractions) (defScope s_ascending_fractions) .none kV_ascending_fractions dc_ascending_fractions pm_ascending_fractions an_ascending_fractions (.ref cc_ascending_fractions) ct_ascending_fractions), sl_ascending_fractions⟩)
    (c_ascending_fractions : PySem.W.codeIn K (.ref cc_ascending_fractions) "ascending_fractions" = true)
    (k_ascending_fractions : PySem.W.keepIn K (.ref f_ascending_fractions) = true)
    (q_ascending_fractions : K.lookup cc_ascending_fractions = some ⟨oq_ascending_fractions, dq_ascending_fractions, .fields vq_ascending_fractions, sq_ascending_fractions⟩)
    (v_ascending_fractions : vq_ascending_fractions[11]? = some (.ref PP_ascending_fractions))
    (n_ascending_fractions : K.lookup PP_ascending_fractions = none)
    (h_ascending_fractions : PySem.W.codeHdIn K cc_ascending_fractions PP_ascending_fractions = true)
    (a_parts_of : PySem.W.nsIn K mainGlobals "parts_of" = some (some (.ref f_parts_of)))
    (l_parts_of : K.lookup f_parts_of = some ⟨oc_parts_of, od_parts_of, .func (PySem.W.fnOf "parts_of" "parts_of" (defArgs s_parts_of) (defBody s_parts_of) (defScope s_parts_of) .none kV_parts_of dc_parts_of pm_parts_of an_parts_of cd_parts_of ct_parts_of), sl_parts_of⟩)
    (c_parts_of : PySem.W.codeIn K cd_parts_of "parts_of" = true)
    (k_parts_of : PySem.W.keepIn K (.ref f_parts_of) = true)
    (a_is_stroke : PySem.W.nsIn K mainGlobals "is_stroke" = some (some (.ref f_is_stroke)))
    (l_is_stroke : K.lookup f_is_stroke = some ⟨oc_is_stroke, od_is_stroke, .func (PySem.W.fnOf "is_stroke" "is_stroke" (defArgs s_is_stroke) (defBody s_is_stroke) (defScope s_is_stroke) .none kV_is_stroke dc_is_stroke pm_is_stroke an_is_stroke cd_is_stroke ct_is_stroke), sl_is_stroke⟩)
    (c_is_stroke : PySem.W.codeIn K cd_is_stroke "is_stroke" = true)
    (k_is_stroke : PySem.W.keepIn K (.ref f_is_stroke) = true)
    (a_check_strokes : PySem.W.nsIn K mainGlobals "check_strokes" = some (some (.ref f_check_strokes)))
    (l_check_strokes : K.lookup f_check_strokes = some ⟨oc_check_strokes, od_check_strokes, .func (PySem.W.fnOf "check_strokes" "check_strokes" (defArgs s_check_strokes) (defBody s_check_strokes) (defScope s_check_strokes) .none kV_check_strokes dc_check_strokes pm_check_strokes an_check_strokes cd_check_strokes ct_check_strokes), sl_check_strokes⟩)
    (c_check_strokes : PySem.W.codeIn K cd_check_strokes "check_strokes" = true)
    (k_check_strokes : PySem.W.keepIn K (.ref f_check_strokes) = true)
    (a_square_between : PySem.W.nsIn K mainGlobals "square_between" = some (some (.ref f_square_between)))
    (l_square_between : K.lookup f_square_between = some ⟨oc_square_between, od_square_between, .func (PySem.W.fnOf "square_between" "square_between" (defArgs s_square_between) (defBody s_square_between) (defScope s_square_between) .none kV_square_between dc_square_between pm_square_between an_square_between cd_square_between ct_square_between), sl_square_between⟩)
    (c_square_between : PySem.W.codeIn K cd_square_between "square_between" = true)
    (k_square_between : PySem.W.keepIn K (.ref f_square_between) = true)
    (a_is_from_to : PySem.W.nsIn K mainGlobals "is_from_to" = some (some (.ref f_is_from_to)))
    (l_is_from_to : K.lookup f_is_from_to = some ⟨oc_is_from_to, od_is_from_to, .func (PySem.W.fnOf "is_from_to" "is_from_to" (defArgs s_is_from_to) (defBody s_is_from_to) (defScope s_is_from_to) .none kV_is_from_to dc_is_from_to pm_is_from_to an_is_from_to cd_is_from_to ct_is_from_to), sl_is_from_to⟩)
    (c_is_from_to : PySem.W.codeIn K cd_is_from_to "is_from_to" = true)
    (k_is_from_to : PySem.W.keepIn K (.ref f_is_from_to) = true)
    (a_square_beside : PySem.W.nsIn K mainGlobals "square_beside" = some (some (.ref f_square_beside)))
    (l_square_beside : K.lookup f_square_beside = some ⟨oc_square_beside, od_square_beside, .func (PySem.W.fnOf "square_beside" "square_beside" (defArgs s_square_beside) (defBody s_square_beside) (defScope s_square_beside) .none kV_square_beside dc_square_beside pm_square_beside an_square_beside cd_square_beside ct_square_beside), sl_square_beside⟩)
    (c_square_beside : PySem.W.codeIn K cd_square_beside "square_beside" = true)
    (k_square_beside : PySem.W.keepIn K (.ref f_square_beside) = true)
    (a_squares_along : PySem.W.nsIn K mainGlobals "squares_along" = some (some (.ref f_squares_along)))
    (l_squares_along : K.lookup f_squares_along = some ⟨oc_squares_along, od_squares_along, .func (PySem.W.fnOf "squares_along" "squares_along" (defArgs s_squares_along) (defBody s_squares_along) (defScope s_squares_along) .none kV_squares_along dc_squares_along pm_squares_along an_squares_along cd_squares_along ct_squares_along), sl_squares_along⟩)
    (c_squares_along : PySem.W.codeIn K cd_squares_along "squares_along" = true)
    (k_squares_along : PySem.W.keepIn K (.ref f_squares_along) = true)
    (aC : PySem.W.nsIn K mainGlobals "Copy" = some (some (.ref C)))
    (inI : PySem.W.findIn K (.ref C) "__init__" = some (some (.ref f_Copy___init__)))
    (l_Copy___init__ : K.lookup f_Copy___init__ = some ⟨oc_Copy___init__, od_Copy___init__, .func (PySem.W.fnOf "__init__" "Copy.__init__" (defArgs s_Copy___init__) (defBody s_Copy___init__) (defScope s_Copy___init__) .none (.ref kD_Copy___init__) dc_Copy___init__ pm_Copy___init__ an_Copy___init__ cd_Copy___init__ ct_Copy___init__), sl_Copy___init__⟩)
    (c_Copy___init__ : PySem.W.codeIn K cd_Copy___init__ "Copy.__init__" = true)
    (k_Copy___init__ : PySem.W.keepIn K (.ref f_Copy___init__) = true)
    (kw_init : PySem.W.nsIn K kD_Copy___init__ "mirrored" = some (some (.bool false)))
    (pg : PySem.W.plainGet K C Str.empty = true)
    (hdC : PySem.W.hasDictIn K C = true)
    (po : PySem.W.plainOver K C = true)
    (sa : PySem.W.findIn K (.ref C) "__setattr__" = some (some (.builtin "object.__setattr__")))
    (mkC : PySem.W.makesIn K C = true)
    (kc : PySem.W.keepIn K (.ref C) = true)
    (isI : PySem.W.isFn K (.ref f_Copy___init__) = true)
    (nF : PySem.W.findIn K (.ref C) "factor" = some none)
    (nO : PySem.W.findIn K (.ref C) "offset" = some none)
    (nL : PySem.W.findIn K (.ref C) "flips" = some none)
    (ha : PySem.W.findIn K (.ref C) "__class__" = some (some (.builtin "object.__class__")))
    (hn : PySem.W.specialIn K (.builtin "object.__class__") "__get__" = some (some (.builtin "getset_descriptor.__get__")))
    (htk : PySem.W.takesIn K (.builtin "object.__class__") = some true)
    (hmo : PySem.W.mroIn K C (.type "object") = some true)
    (sf : PySem.W.selfFirst K C = true)
    (a_Copy___rshift__ : PySem.W.findIn K (.ref C) "__rshift__" = some (some (.ref f_Copy___rshift__)))
    (i_Copy___rshift__ : PySem.W.isFn K (.ref f_Copy___rshift__) = true)
    (l_Copy___rshift__ : K.lookup f_Copy___rshift__ = some ⟨oc_Copy___rshift__, od_Copy___rshift__, .func (PySem.W.fnOf "__rshift__" "Copy.__rshift__" (defArgs s_Copy___rshift__) (defBody s_Copy___rshift__) (defScope s_Copy___rshift__) .none kV_Copy___rshift__ dc_Copy___rshift__ pm_Copy___rshift__ an_Copy___rshift__ cd_Copy___rshift__ ct_Copy___rshift__), sl_Copy___rshift__⟩)
    (c_Copy___rshift__ : PySem.W.codeIn K cd_Copy___rshift__ "Copy.__rshift__" = true)
    (k_Copy___rshift__ : PySem.W.keepIn K (.ref f_Copy___rshift__) = true)
    (a_Copy___invert__ : PySem.W.findIn K (.ref C) "__invert__" = some (some (.ref f_Copy___invert__)))
    (i_Copy___invert__ : PySem.W.isFn K (.ref f_Copy___invert__) = true)
    (l_Copy___invert__ : K.lookup f_Copy___invert__ = some ⟨oc_Copy___invert__, od_Copy___invert__, .func (PySem.W.fnOf "__invert__" "Copy.__invert__" (defArgs s_Copy___invert__) (defBody s_Copy___invert__) (defScope s_Copy___invert__) .none kV_Copy___invert__ dc_Copy___invert__ pm_Copy___invert__ an_Copy___invert__ cd_Copy___invert__ ct_Copy___invert__), sl_Copy___invert__⟩)
    (c_Copy___invert__ : PySem.W.codeIn K cd_Copy___invert__ "Copy.__invert__" = true)
    (k_Copy___invert__ : PySem.W.keepIn K (.ref f_Copy___invert__) = true)
    (a_Copy___call__ : PySem.W.findIn K (.ref C) "__call__" = some (some (.ref f_Copy___call__)))
    (i_Copy___call__ : PySem.W.isFn K (.ref f_Copy___call__) = true)
    (l_Copy___call__ : K.lookup f_Copy___call__ = some ⟨oc_Copy___call__, od_Copy___call__, .func (PySem.W.fnOf "__call__" "Copy.__call__" (defArgs s_Copy___call__) (defBody s_Copy___call__) (defScope s_Copy___call__) .none kV_Copy___call__ dc_Copy___call__ pm_Copy___call__ an_Copy___call__ cd_Copy___call__ ct_Copy___call__), sl_Copy___call__⟩)
    (c_Copy___call__ : PySem.W.codeIn K cd_Copy___call__ "Copy.__call__" = true)
    (k_Copy___call__ : PySem.W.keepIn K (.ref f_Copy___call__) = true)
    (fi_call : PySem.W.fnIn K f_Copy___call__ = true)
    (a_Copy_growth : PySem.W.findIn K (.ref C) "growth" = some (some (.ref q_Copy_growth)))
    (g_Copy_growth : PySem.W.specialIn K (.ref q_Copy_growth) "__get__" = some (some (.builtin "property.__get__")))
    (t_Copy_growth : PySem.W.takesIn K (.ref q_Copy_growth) = some true)
    (r_Copy_growth : PySem.W.recIn K q_Copy_growth "property" = some (.ref f_Copy_growth :: rs_Copy_growth))
    (l_Copy_growth : K.lookup f_Copy_growth = some ⟨oc_Copy_growth, od_Copy_growth, .func (PySem.W.fnOf "growth" "Copy.growth" (defArgs s_Copy_growth) (defBody s_Copy_growth) (defScope s_Copy_growth) .none kV_Copy_growth dc_Copy_growth pm_Copy_growth an_Copy_growth cd_Copy_growth ct_Copy_growth), sl_Copy_growth⟩)
    (c_Copy_growth : PySem.W.codeIn K cd_Copy_growth "Copy.growth" = true)
    (k_Copy_growth : PySem.W.keepIn K (.ref f_Copy_growth) = true)
    (aCW : PySem.W.nsIn K mainGlobals "Drawing" = some (some (.ref CW)))
    (inCW : PySem.W.findIn K (.ref CW) "__init__" = some (some (.ref f_Drawing___init__)))
    (l_Drawing___init__ : K.lookup f_Drawing___init__ = some ⟨oc_Drawing___init__, od_Drawing___init__, .func (PySem.W.fnOf "__init__" "Drawing.__init__" (defArgs s_Drawing___init__) (defBody s_Drawing___init__) (defScope s_Drawing___init__) .none kV_Drawing___init__ dc_Drawing___init__ pm_Drawing___init__ an_Drawing___init__ cd_Drawing___init__ ct_Drawing___init__), sl_Drawing___init__⟩)
    (c_Drawing___init__ : PySem.W.codeIn K cd_Drawing___init__ "Drawing.__init__" = true)
    (k_Drawing___init__ : PySem.W.keepIn K (.ref f_Drawing___init__) = true)
    (pgCW : PySem.W.plainGet K CW Str.empty = true)
    (hdCW : PySem.W.hasDictIn K CW = true)
    (poCW : PySem.W.plainOver K CW = true)
    (saCW : PySem.W.findIn K (.ref CW) "__setattr__" = some (some (.builtin "object.__setattr__")))
    (mkCW : PySem.W.makesIn K CW = true)
    (kcCW : PySem.W.keepIn K (.ref CW) = true)
    (isCW : PySem.W.isFn K (.ref f_Drawing___init__) = true)
    (nCW_held : PySem.W.findIn K (.ref CW) "held" = some none)
    (a_Drawing_strokes : PySem.W.findIn K (.ref CW) "strokes" = some (some (.ref q_Drawing_strokes)))
    (g_Drawing_strokes : PySem.W.specialIn K (.ref q_Drawing_strokes) "__get__" = some (some (.builtin "property.__get__")))
    (t_Drawing_strokes : PySem.W.takesIn K (.ref q_Drawing_strokes) = some true)
    (r_Drawing_strokes : PySem.W.recIn K q_Drawing_strokes "property" = some (.ref f_Drawing_strokes :: rs_Drawing_strokes))
    (l_Drawing_strokes : K.lookup f_Drawing_strokes = some ⟨oc_Drawing_strokes, od_Drawing_strokes, .func (PySem.W.fnOf "strokes" "Drawing.strokes" (defArgs s_Drawing_strokes) (defBody s_Drawing_strokes) (defScope s_Drawing_strokes) .none kV_Drawing_strokes dc_Drawing_strokes pm_Drawing_strokes an_Drawing_strokes cd_Drawing_strokes ct_Drawing_strokes), sl_Drawing_strokes⟩)
    (c_Drawing_strokes : PySem.W.codeIn K cd_Drawing_strokes "Drawing.strokes" = true)
    (k_Drawing_strokes : PySem.W.keepIn K (.ref f_Drawing_strokes) = true)
    (sfCW : PySem.W.selfFirst K CW = true)
    (a_Drawing___add__ : PySem.W.findIn K (.ref CW) "__add__" = some (some (.ref f_Drawing___add__)))
    (i_Drawing___add__ : PySem.W.isFn K (.ref f_Drawing___add__) = true)
    (l_Drawing___add__ : K.lookup f_Drawing___add__ = some ⟨oc_Drawing___add__, od_Drawing___add__, .func (PySem.W.fnOf "__add__" "Drawing.__add__" (defArgs s_Drawing___add__) (defBody s_Drawing___add__) (defScope s_Drawing___add__) .none kV_Drawing___add__ dc_Drawing___add__ pm_Drawing___add__ an_Drawing___add__ cd_Drawing___add__ ct_Drawing___add__), sl_Drawing___add__⟩)
    (c_Drawing___add__ : PySem.W.codeIn K cd_Drawing___add__ "Drawing.__add__" = true)
    (k_Drawing___add__ : PySem.W.keepIn K (.ref f_Drawing___add__) = true)
    (a_Drawing_copied : PySem.W.findIn K (.ref CW) "copied" = some (some (.ref f_Drawing_copied)))
    (i_Drawing_copied : PySem.W.isFn K (.ref f_Drawing_copied) = true)
    (l_Drawing_copied : K.lookup f_Drawing_copied = some ⟨oc_Drawing_copied, od_Drawing_copied, .func (PySem.W.fnOf "copied" "Drawing.copied" (defArgs s_Drawing_copied) (defBody s_Drawing_copied) (defScope s_Drawing_copied) .none kV_Drawing_copied dc_Drawing_copied pm_Drawing_copied an_Drawing_copied cd_Drawing_copied ct_Drawing_copied), sl_Drawing_copied⟩)
    (c_Drawing_copied : PySem.W.codeIn K cd_Drawing_copied "Drawing.copied" = true)
    (k_Drawing_copied : PySem.W.keepIn K (.ref f_Drawing_copied) = true)
    (a_still_copy : PySem.W.nsIn K mainGlobals "still_copy" = some (some (.ref f_still_copy)))
    (l_still_copy : K.lookup f_still_copy = some ⟨oc_still_copy, od_still_copy, .func (PySem.W.fnOf "still_copy" "still_copy" (defArgs s_still_copy) (defBody s_still_copy) (defScope s_still_copy) .none kV_still_copy dc_still_copy pm_still_copy an_still_copy cd_still_copy ct_still_copy), sl_still_copy⟩)
    (c_still_copy : PySem.W.codeIn K cd_still_copy "still_copy" = true)
    (k_still_copy : PySem.W.keepIn K (.ref f_still_copy) = true)
    (a_check_reach : PySem.W.nsIn K mainGlobals "check_reach" = some (some (.ref f_check_reach)))
    (l_check_reach : K.lookup f_check_reach = some ⟨oc_check_reach, od_check_reach, .func (PySem.W.fnOf "check_reach" "check_reach" (defArgs s_check_reach) (defBody s_check_reach) (defScope s_check_reach) .none kV_check_reach dc_check_reach pm_check_reach an_check_reach cd_check_reach ct_check_reach), sl_check_reach⟩)
    (c_check_reach : PySem.W.codeIn K cd_check_reach "check_reach" = true)
    (k_check_reach : PySem.W.keepIn K (.ref f_check_reach) = true)
    (a_copy_around : PySem.W.nsIn K mainGlobals "copy_around" = some (some (.ref f_copy_around)))
    (l_copy_around : K.lookup f_copy_around = some ⟨oc_copy_around, od_copy_around, .func (PySem.W.fnOf "copy_around" "copy_around" (defArgs s_copy_around) (defBody s_copy_around) (defScope s_copy_around) .none kV_copy_around dc_copy_around pm_copy_around an_copy_around cd_copy_around ct_copy_around), sl_copy_around⟩)
    (c_copy_around : PySem.W.codeIn K cd_copy_around "copy_around" = true)
    (k_copy_around : PySem.W.keepIn K (.ref f_copy_around) = true)
    (aCA : PySem.W.nsIn K mainGlobals "Arm" = some (some (.ref CA)))
    (inCA : PySem.W.findIn K (.ref CA) "__init__" = some (some (.ref f_Arm___init__)))
    (l_Arm___init__ : K.lookup f_Arm___init__ = some ⟨oc_Arm___init__, od_Arm___init__, .func (PySem.W.fnOf "__init__" "Arm.__init__" (defArgs s_Arm___init__) (defBody s_Arm___init__) (defScope s_Arm___init__) .none (.ref kD_Arm___init__) dc_Arm___init__ pm_Arm___init__ an_Arm___init__ cd_Arm___init__ ct_Arm___init__), sl_Arm___init__⟩)
    (c_Arm___init__ : PySem.W.codeIn K cd_Arm___init__ "Arm.__init__" = true)
    (k_Arm___init__ : PySem.W.keepIn K (.ref f_Arm___init__) = true)
    (kw_A : PySem.W.nsIn K kD_Arm___init__ "mirrored" = some (some (.bool false)))
    (pgCA : PySem.W.plainGet K CA Str.empty = true)
    (hdCA : PySem.W.hasDictIn K CA = true)
    (poCA : PySem.W.plainOver K CA = true)
    (saCA : PySem.W.findIn K (.ref CA) "__setattr__" = some (some (.builtin "object.__setattr__")))
    (mkCA : PySem.W.makesIn K CA = true)
    (kcCA : PySem.W.keepIn K (.ref CA) = true)
    (isCA : PySem.W.isFn K (.ref f_Arm___init__) = true)
    (nCA_centre : PySem.W.findIn K (.ref CA) "centre" = some none)
    (nCA_factor : PySem.W.findIn K (.ref CA) "factor" = some none)
    (nCA_least : PySem.W.findIn K (.ref CA) "least" = some none)
    (nCA_most : PySem.W.findIn K (.ref CA) "most" = some none)
    (nCA_flips : PySem.W.findIn K (.ref CA) "flips" = some none)
    (nCA_pen : PySem.W.findIn K (.ref CA) "pen" = some none)
    (haA : PySem.W.findIn K (.ref CA) "__class__" = some (some (.builtin "object.__class__")))
    (hmA : PySem.W.mroIn K CA (.type "object") = some true)
    (a_Arm_pole : PySem.W.findIn K (.ref CA) "pole" = some (some (.ref q_Arm_pole)))
    (g_Arm_pole : PySem.W.specialIn K (.ref q_Arm_pole) "__get__" = some (some (.builtin "property.__get__")))
    (t_Arm_pole : PySem.W.takesIn K (.ref q_Arm_pole) = some true)
    (r_Arm_pole : PySem.W.recIn K q_Arm_pole "property" = some (.ref f_Arm_pole :: rs_Arm_pole))
    (l_Arm_pole : K.lookup f_Arm_pole = some ⟨oc_Arm_pole, od_Arm_pole, .func (PySem.W.fnOf "pole" "Arm.pole" (defArgs s_Arm_pole) (defBody s_Arm_pole) (defScope s_Arm_pole) .none kV_Arm_pole dc_Arm_pole pm_Arm_pole an_Arm_pole cd_Arm_pole ct_Arm_pole), sl_Arm_pole⟩)
    (c_Arm_pole : PySem.W.codeIn K cd_Arm_pole "Arm.pole" = true)
    (k_Arm_pole : PySem.W.keepIn K (.ref f_Arm_pole) = true)
    (a_Arm_near : PySem.W.findIn K (.ref CA) "near" = some (some (.ref q_Arm_near)))
    (g_Arm_near : PySem.W.specialIn K (.ref q_Arm_near) "__get__" = some (some (.builtin "property.__get__")))
    (t_Arm_near : PySem.W.takesIn K (.ref q_Arm_near) = some true)
    (r_Arm_near : PySem.W.recIn K q_Arm_near "property" = some (.ref f_Arm_near :: rs_Arm_near))
    (l_Arm_near : K.lookup f_Arm_near = some ⟨oc_Arm_near, od_Arm_near, .func (PySem.W.fnOf "near" "Arm.near" (defArgs s_Arm_near) (defBody s_Arm_near) (defScope s_Arm_near) .none kV_Arm_near dc_Arm_near pm_Arm_near an_Arm_near cd_Arm_near ct_Arm_near), sl_Arm_near⟩)
    (c_Arm_near : PySem.W.codeIn K cd_Arm_near "Arm.near" = true)
    (k_Arm_near : PySem.W.keepIn K (.ref f_Arm_near) = true)
    (a_Arm_far : PySem.W.findIn K (.ref CA) "far" = some (some (.ref q_Arm_far)))
    (g_Arm_far : PySem.W.specialIn K (.ref q_Arm_far) "__get__" = some (some (.builtin "property.__get__")))
    (t_Arm_far : PySem.W.takesIn K (.ref q_Arm_far) = some true)
    (r_Arm_far : PySem.W.recIn K q_Arm_far "property" = some (.ref f_Arm_far :: rs_Arm_far))
    (l_Arm_far : K.lookup f_Arm_far = some ⟨oc_Arm_far, od_Arm_far, .func (PySem.W.fnOf "far" "Arm.far" (defArgs s_Arm_far) (defBody s_Arm_far) (defScope s_Arm_far) .none kV_Arm_far dc_Arm_far pm_Arm_far an_Arm_far cd_Arm_far ct_Arm_far), sl_Arm_far⟩)
    (c_Arm_far : PySem.W.codeIn K cd_Arm_far "Arm.far" = true)
    (k_Arm_far : PySem.W.keepIn K (.ref f_Arm_far) = true)
    (a_Arm_effect : PySem.W.findIn K (.ref CA) "effect" = some (some (.ref q_Arm_effect)))
    (g_Arm_effect : PySem.W.specialIn K (.ref q_Arm_effect) "__get__" = some (some (.builtin "property.__get__")))
    (t_Arm_effect : PySem.W.takesIn K (.ref q_Arm_effect) = some true)
    (r_Arm_effect : PySem.W.recIn K q_Arm_effect "property" = some (.ref f_Arm_effect :: rs_Arm_effect))
    (l_Arm_effect : K.lookup f_Arm_effect = some ⟨oc_Arm_effect, od_Arm_effect, .func (PySem.W.fnOf "effect" "Arm.effect" (defArgs s_Arm_effect) (defBody s_Arm_effect) (defScope s_Arm_effect) .none kV_Arm_effect dc_Arm_effect pm_Arm_effect an_Arm_effect cd_Arm_effect ct_Arm_effect), sl_Arm_effect⟩)
    (c_Arm_effect : PySem.W.codeIn K cd_Arm_effect "Arm.effect" = true)
    (k_Arm_effect : PySem.W.keepIn K (.ref f_Arm_effect) = true)
    (a_Arm_reaches : PySem.W.findIn K (.ref CA) "reaches" = some (some (.ref f_Arm_reaches)))
    (i_Arm_reaches : PySem.W.isFn K (.ref f_Arm_reaches) = true)
    (l_Arm_reaches : K.lookup f_Arm_reaches = some ⟨oc_Arm_reaches, od_Arm_reaches, .func (PySem.W.fnOf "reaches" "Arm.reaches" (defArgs s_Arm_reaches) (defBody s_Arm_reaches) (defScope s_Arm_reaches) .none kV_Arm_reaches dc_Arm_reaches pm_Arm_reaches an_Arm_reaches cd_Arm_reaches ct_Arm_reaches), sl_Arm_reaches⟩)
    (c_Arm_reaches : PySem.W.codeIn K cd_Arm_reaches "Arm.reaches" = true)
    (k_Arm_reaches : PySem.W.keepIn K (.ref f_Arm_reaches) = true)
    (a_joint_copy : PySem.W.nsIn K mainGlobals "joint_copy" = some (some (.ref f_joint_copy)))
    (l_joint_copy : K.lookup f_joint_copy = some ⟨oc_joint_copy, od_joint_copy, .func (PySem.W.fnOf "joint_copy" "joint_copy" (defArgs s_joint_copy) (defBody s_joint_copy) (defScope s_joint_copy) .none kV_joint_copy dc_joint_copy pm_joint_copy an_joint_copy cd_joint_copy ct_joint_copy), sl_joint_copy⟩)
    (c_joint_copy : PySem.W.codeIn K cd_joint_copy "joint_copy" = true)
    (k_joint_copy : PySem.W.keepIn K (.ref f_joint_copy) = true)
    (a_traced_parts : PySem.W.nsIn K mainGlobals "traced_parts" = some (some (.ref f_traced_parts)))
    (l_traced_parts : K.lookup f_traced_parts = some ⟨oc_traced_parts, od_traced_parts, .func (PySem.W.fnOf "traced_parts" "traced_parts" (defArgs s_traced_parts) (defBody s_traced_parts) (defScope s_traced_parts) .none kV_traced_parts dc_traced_parts pm_traced_parts an_traced_parts cd_traced_parts ct_traced_parts), sl_traced_parts⟩)
    (c_traced_parts : PySem.W.codeIn K cd_traced_parts "traced_parts" = true)
    (k_traced_parts : PySem.W.keepIn K (.ref f_traced_parts) = true)
    (a_can_trace : PySem.W.nsIn K mainGlobals "can_trace" = some (some (.ref f_can_trace)))
    (l_can_trace : K.lookup f_can_trace = some ⟨oc_can_trace, od_can_trace, .func (PySem.W.fnOf "can_trace" "can_trace" (defArgs s_can_trace) (defBody s_can_trace) (defScope s_can_trace) .none kV_can_trace dc_can_trace pm_can_trace an_can_trace cd_can_trace ct_can_trace), sl_can_trace⟩)
    (c_can_trace : PySem.W.codeIn K cd_can_trace "can_trace" = true)
    (k_can_trace : PySem.W.keepIn K (.ref f_can_trace) = true)
    (a_traced : PySem.W.nsIn K mainGlobals "traced" = some (some (.ref f_traced)))
    (l_traced : K.lookup f_traced = some ⟨oc_traced, od_traced, .func (PySem.W.fnOf "traced" "traced" (defArgs s_traced) (defBody s_traced) (defScope s_traced) .none kV_traced dc_traced pm_traced an_traced cd_traced ct_traced), sl_traced⟩)
    (c_traced : PySem.W.codeIn K cd_traced "traced" = true)
    (k_traced : PySem.W.keepIn K (.ref f_traced) = true)
    (aCH : PySem.W.nsIn K mainGlobals "Chain" = some (some (.ref CH)))
    (inCH : PySem.W.findIn K (.ref CH) "__init__" = some (some (.ref f_Chain___init__)))
    (l_Chain___init__ : K.lookup f_Chain___init__ = some ⟨oc_Chain___init__, od_Chain___init__, .func (PySem.W.fnOf "__init__" "Chain.__init__" (defArgs s_Chain___init__) (defBody s_Chain___init__) (defScope s_Chain___init__) .none kV_Chain___init__ dc_Chain___init__ pm_Chain___init__ an_Chain___init__ cd_Chain___init__ ct_Chain___init__), sl_Chain___init__⟩)
    (c_Chain___init__ : PySem.W.codeIn K cd_Chain___init__ "Chain.__init__" = true)
    (k_Chain___init__ : PySem.W.keepIn K (.ref f_Chain___init__) = true)
    (pgCH : PySem.W.plainGet K CH Str.empty = true)
    (hdCH : PySem.W.hasDictIn K CH = true)
    (poCH : PySem.W.plainOver K CH = true)
    (saCH : PySem.W.findIn K (.ref CH) "__setattr__" = some (some (.builtin "object.__setattr__")))
    (mkCH : PySem.W.makesIn K CH = true)
    (kcCH : PySem.W.keepIn K (.ref CH) = true)
    (isCH : PySem.W.isFn K (.ref f_Chain___init__) = true)
    (nCH_links : PySem.W.findIn K (.ref CH) "links" = some none)
    (nCH_pen : PySem.W.findIn K (.ref CH) "pen" = some none)
    (a_Chain_arms : PySem.W.findIn K (.ref CH) "arms" = some (some (.ref q_Chain_arms)))
    (g_Chain_arms : PySem.W.specialIn K (.ref q_Chain_arms) "__get__" = some (some (.builtin "property.__get__")))
    (t_Chain_arms : PySem.W.takesIn K (.ref q_Chain_arms) = some true)
    (r_Chain_arms : PySem.W.recIn K q_Chain_arms "property" = some (.ref f_Chain_arms :: rs_Chain_arms))
    (l_Chain_arms : K.lookup f_Chain_arms = some ⟨oc_Chain_arms, od_Chain_arms, .func (PySem.W.fnOf "arms" "Chain.arms" (defArgs s_Chain_arms) (defBody s_Chain_arms) (defScope s_Chain_arms) .none kV_Chain_arms dc_Chain_arms pm_Chain_arms an_Chain_arms cd_Chain_arms ct_Chain_arms), sl_Chain_arms⟩)
    (c_Chain_arms : PySem.W.codeIn K cd_Chain_arms "Chain.arms" = true)
    (k_Chain_arms : PySem.W.keepIn K (.ref f_Chain_arms) = true)
    (a_Chain_effect : PySem.W.findIn K (.ref CH) "effect" = some (some (.ref q_Chain_effect)))
    (g_Chain_effect : PySem.W.specialIn K (.ref q_Chain_effect) "__get__" = some (some (.builtin "property.__get__")))
    (t_Chain_effect : PySem.W.takesIn K (.ref q_Chain_effect) = some true)
    (r_Chain_effect : PySem.W.recIn K q_Chain_effect "property" = some (.ref f_Chain_effect :: rs_Chain_effect))
    (l_Chain_effect : K.lookup f_Chain_effect = some ⟨oc_Chain_effect, od_Chain_effect, .func (PySem.W.fnOf "effect" "Chain.effect" (defArgs s_Chain_effect) (defBody s_Chain_effect) (defScope s_Chain_effect) .none kV_Chain_effect dc_Chain_effect pm_Chain_effect an_Chain_effect cd_Chain_effect ct_Chain_effect), sl_Chain_effect⟩)
    (c_Chain_effect : PySem.W.codeIn K cd_Chain_effect "Chain.effect" = true)
    (k_Chain_effect : PySem.W.keepIn K (.ref f_Chain_effect) = true)
    (sfCH : PySem.W.selfFirst K CH = true)
    (a_Chain___add__ : PySem.W.findIn K (.ref CH) "__add__" = some (some (.ref f_Chain___add__)))
    (i_Chain___add__ : PySem.W.isFn K (.ref f_Chain___add__) = true)
    (l_Chain___add__ : K.lookup f_Chain___add__ = some ⟨oc_Chain___add__, od_Chain___add__, .func (PySem.W.fnOf "__add__" "Chain.__add__" (defArgs s_Chain___add__) (defBody s_Chain___add__) (defScope s_Chain___add__) .none kV_Chain___add__ dc_Chain___add__ pm_Chain___add__ an_Chain___add__ cd_Chain___add__ ct_Chain___add__), sl_Chain___add__⟩)
    (c_Chain___add__ : PySem.W.codeIn K cd_Chain___add__ "Chain.__add__" = true)
    (k_Chain___add__ : PySem.W.keepIn K (.ref f_Chain___add__) = true)
    (a_Chain___getitem__ : PySem.W.findIn K (.ref CH) "__getitem__" = some (some (.ref f_Chain___getitem__)))
    (i_Chain___getitem__ : PySem.W.isFn K (.ref f_Chain___getitem__) = true)
    (l_Chain___getitem__ : K.lookup f_Chain___getitem__ = some ⟨oc_Chain___getitem__, od_Chain___getitem__, .func (PySem.W.fnOf "__getitem__" "Chain.__getitem__" (defArgs s_Chain___getitem__) (defBody s_Chain___getitem__) (defScope s_Chain___getitem__) .none kV_Chain___getitem__ dc_Chain___getitem__ pm_Chain___getitem__ an_Chain___getitem__ cd_Chain___getitem__ ct_Chain___getitem__), sl_Chain___getitem__⟩)
    (c_Chain___getitem__ : PySem.W.codeIn K cd_Chain___getitem__ "Chain.__getitem__" = true)
    (k_Chain___getitem__ : PySem.W.keepIn K (.ref f_Chain___getitem__) = true)
    (fi_hget : PySem.W.fnIn K f_Chain___getitem__ = true)
    (a_Chain_draw : PySem.W.findIn K (.ref CH) "draw" = some (some (.ref f_Chain_draw)))
    (i_Chain_draw : PySem.W.isFn K (.ref f_Chain_draw) = true)
    (l_Chain_draw : K.lookup f_Chain_draw = some ⟨oc_Chain_draw, od_Chain_draw, .func (PySem.W.fnOf "draw" "Chain.draw" (defArgs s_Chain_draw) (defBody s_Chain_draw) (defScope s_Chain_draw) .none kV_Chain_draw dc_Chain_draw pm_Chain_draw an_Chain_draw cd_Chain_draw ct_Chain_draw), sl_Chain_draw⟩)
    (c_Chain_draw : PySem.W.codeIn K cd_Chain_draw "Chain.draw" = true)
    (k_Chain_draw : PySem.W.keepIn K (.ref f_Chain_draw) = true)
    (a_square_ahead : PySem.W.nsIn K mainGlobals "square_ahead" = some (some (.ref f_square_ahead)))
    (l_square_ahead : K.lookup f_square_ahead = some ⟨oc_square_ahead, od_square_ahead, .func (PySem.W.fnOf "square_ahead" "square_ahead" (defArgs s_square_ahead) (defBody s_square_ahead) (defScope s_square_ahead) .none kV_square_ahead dc_square_ahead pm_square_ahead an_square_ahead cd_square_ahead ct_square_ahead), sl_square_ahead⟩)
    (c_square_ahead : PySem.W.codeIn K cd_square_ahead "square_ahead" = true)
    (k_square_ahead : PySem.W.keepIn K (.ref f_square_ahead) = true)
    (a_zones : PySem.W.nsIn K mainGlobals "zones" = some (some (.ref f_zones)))
    (l_zones : K.lookup f_zones = some ⟨oc_zones, od_zones, .func (PySem.W.fnOf "zones" "zones" (defArgs s_zones) (defBody s_zones) (defScope s_zones) .none kV_zones dc_zones pm_zones an_zones cd_zones ct_zones), sl_zones⟩)
    (c_zones : PySem.W.codeIn K cd_zones "zones" = true)
    (k_zones : PySem.W.keepIn K (.ref f_zones) = true)
    (a_is_in_all : PySem.W.nsIn K mainGlobals "is_in_all" = some (some (.ref f_is_in_all)))
    (l_is_in_all : K.lookup f_is_in_all = some ⟨oc_is_in_all, od_is_in_all, .func (PySem.W.fnOf "is_in_all" "is_in_all" (defArgs s_is_in_all) (defBody s_is_in_all) (defScope s_is_in_all) .none kV_is_in_all dc_is_in_all pm_is_in_all an_is_in_all cd_is_in_all ct_is_in_all), sl_is_in_all⟩)
    (c_is_in_all : PySem.W.codeIn K cd_is_in_all "is_in_all" = true)
    (k_is_in_all : PySem.W.keepIn K (.ref f_is_in_all) = true)
    (a_reachable_spots : PySem.W.nsIn K mainGlobals "reachable_spots" = some (some (.ref f_reachable_spots)))
    (l_reachable_spots : K.lookup f_reachable_spots = some ⟨oc_reachable_spots, od_reachable_spots, .func (PySem.W.fnOf "reachable_spots" "reachable_spots" (defArgs s_reachable_spots) (defBody s_reachable_spots) (defScope s_reachable_spots) .none kV_reachable_spots dc_reachable_spots pm_reachable_spots an_reachable_spots cd_reachable_spots ct_reachable_spots), sl_reachable_spots⟩)
    (c_reachable_spots : PySem.W.codeIn K cd_reachable_spots "reachable_spots" = true)
    (k_reachable_spots : PySem.W.keepIn K (.ref f_reachable_spots) = true)
    (a_can_draw : PySem.W.nsIn K mainGlobals "can_draw" = some (some (.ref f_can_draw)))
    (l_can_draw : K.lookup f_can_draw = some ⟨oc_can_draw, od_can_draw, .func (PySem.W.fnOf "can_draw" "can_draw" (defArgs s_can_draw) (defBody s_can_draw) (defScope s_can_draw) .none kV_can_draw dc_can_draw pm_can_draw an_can_draw cd_can_draw ct_can_draw), sl_can_draw⟩)
    (c_can_draw : PySem.W.codeIn K cd_can_draw "can_draw" = true)
    (k_can_draw : PySem.W.keepIn K (.ref f_can_draw) = true)
    (a_law_random : PySem.W.nsIn K mainGlobals "_law_random" = some (some (.ref f_law_random)))
    (l_law_random : K.lookup f_law_random = some ⟨oc_law_random, od_law_random, .func (PySem.W.fnOf "_law_random" "_law_random" (defArgs s_law_random) (defBody s_law_random) (defScope s_law_random) .none kV_law_random dc_law_random pm_law_random an_law_random cd_law_random ct_law_random), sl_law_random⟩)
    (c_law_random : PySem.W.codeIn K cd_law_random "_law_random" = true)
    (k_law_random : PySem.W.keepIn K (.ref f_law_random) = true)
    (a_law_below : PySem.W.nsIn K mainGlobals "_law_below" = some (some (.ref f_law_below)))
    (l_law_below : K.lookup f_law_below = some ⟨oc_law_below, od_law_below, .func (PySem.W.fnOf "_law_below" "_law_below" (defArgs s_law_below) (defBody s_law_below) (defScope s_law_below) .none kV_law_below dc_law_below pm_law_below an_law_below cd_law_below ct_law_below), sl_law_below⟩)
    (c_law_below : PySem.W.codeIn K cd_law_below "_law_below" = true)
    (k_law_below : PySem.W.keepIn K (.ref f_law_below) = true)
    (a_law_step : PySem.W.nsIn K mainGlobals "_law_step" = some (some (.ref f_law_step)))
    (l_law_step : K.lookup f_law_step = some ⟨oc_law_step, od_law_step, .func (PySem.W.fnOf "_law_step" "_law_step" (defArgs s_law_step) (defBody s_law_step) (defScope s_law_step) .none kV_law_step dc_law_step pm_law_step an_law_step cd_law_step ct_law_step), sl_law_step⟩)
    (c_law_step : PySem.W.codeIn K cd_law_step "_law_step" = true)
    (k_law_step : PySem.W.keepIn K (.ref f_law_step) = true)
    (a_law_turn : PySem.W.nsIn K mainGlobals "_law_turn" = some (some (.ref f_law_turn)))
    (l_law_turn : K.lookup f_law_turn = some ⟨oc_law_turn, od_law_turn, .func (PySem.W.fnOf "_law_turn" "_law_turn" (defArgs s_law_turn) (defBody s_law_turn) (defScope s_law_turn) .none kV_law_turn dc_law_turn pm_law_turn an_law_turn cd_law_turn ct_law_turn), sl_law_turn⟩)
    (c_law_turn : PySem.W.codeIn K cd_law_turn "_law_turn" = true)
    (k_law_turn : PySem.W.keepIn K (.ref f_law_turn) = true)
    (a_law_common : PySem.W.nsIn K mainGlobals "_law_common" = some (some (.ref f_law_common)))
    (l_law_common : K.lookup f_law_common = some ⟨oc_law_common, od_law_common, .func (PySem.W.fnOf "_law_common" "_law_common" (defArgs s_law_common) (defBody s_law_common) (defScope s_law_common) .none kV_law_common dc_law_common pm_law_common an_law_common cd_law_common ct_law_common), sl_law_common⟩)
    (c_law_common : PySem.W.codeIn K cd_law_common "_law_common" = true)
    (k_law_common : PySem.W.keepIn K (.ref f_law_common) = true)
    (a_law_lowest : PySem.W.nsIn K mainGlobals "_law_lowest" = some (some (.ref f_law_lowest)))
    (l_law_lowest : K.lookup f_law_lowest = some ⟨oc_law_lowest, od_law_lowest, .func (PySem.W.fnOf "_law_lowest" "_law_lowest" (defArgs s_law_lowest) (defBody s_law_lowest) (defScope s_law_lowest) .none kV_law_lowest dc_law_lowest pm_law_lowest an_law_lowest cd_law_lowest ct_law_lowest), sl_law_lowest⟩)
    (c_law_lowest : PySem.W.codeIn K cd_law_lowest "_law_lowest" = true)
    (k_law_lowest : PySem.W.keepIn K (.ref f_law_lowest) = true)
    (a_law_spot : PySem.W.nsIn K mainGlobals "_law_spot" = some (some (.ref f_law_spot)))
    (l_law_spot : K.lookup f_law_spot = some ⟨oc_law_spot, od_law_spot, .func (PySem.W.fnOf "_law_spot" "_law_spot" (defArgs s_law_spot) (defBody s_law_spot) (defScope s_law_spot) .none kV_law_spot dc_law_spot pm_law_spot an_law_spot cd_law_spot ct_law_spot), sl_law_spot⟩)
    (c_law_spot : PySem.W.codeIn K cd_law_spot "_law_spot" = true)
    (k_law_spot : PySem.W.keepIn K (.ref f_law_spot) = true)
    (a_law_arm_told : PySem.W.nsIn K mainGlobals "_law_arm_told" = some (some (.ref f_law_arm_told)))
    (l_law_arm_told : K.lookup f_law_arm_told = some ⟨oc_law_arm_told, od_law_arm_told, .func (PySem.W.fnOf "_law_arm_told" "_law_arm_told" (defArgs s_law_arm_told) (defBody s_law_arm_told) (defScope s_law_arm_told) .none kV_law_arm_told dc_law_arm_told pm_law_arm_told an_law_arm_told cd_law_arm_told ct_law_arm_told), sl_law_arm_told⟩)
    (c_law_arm_told : PySem.W.codeIn K cd_law_arm_told "_law_arm_told" = true)
    (k_law_arm_told : PySem.W.keepIn K (.ref f_law_arm_told) = true)
    (a_law_arm : PySem.W.nsIn K mainGlobals "_law_arm" = some (some (.ref f_law_arm)))
    (l_law_arm : K.lookup f_law_arm = some ⟨oc_law_arm, od_law_arm, .func (PySem.W.fnOf "_law_arm" "_law_arm" (defArgs s_law_arm) (defBody s_law_arm) (defScope s_law_arm) .none kV_law_arm dc_law_arm pm_law_arm an_law_arm cd_law_arm ct_law_arm), sl_law_arm⟩)
    (c_law_arm : PySem.W.codeIn K cd_law_arm "_law_arm" = true)
    (k_law_arm : PySem.W.keepIn K (.ref f_law_arm) = true)
    (a_law_drawing : PySem.W.nsIn K mainGlobals "_law_drawing" = some (some (.ref f_law_drawing)))
    (l_law_drawing : K.lookup f_law_drawing = some ⟨oc_law_drawing, od_law_drawing, .func (PySem.W.fnOf "_law_drawing" "_law_drawing" (defArgs s_law_drawing) (defBody s_law_drawing) (defScope s_law_drawing) .none kV_law_drawing dc_law_drawing pm_law_drawing an_law_drawing cd_law_drawing ct_law_drawing), sl_law_drawing⟩)
    (c_law_drawing : PySem.W.codeIn K cd_law_drawing "_law_drawing" = true)
    (k_law_drawing : PySem.W.keepIn K (.ref f_law_drawing) = true)
    (a_law_chain : PySem.W.nsIn K mainGlobals "_law_chain" = some (some (.ref f_law_chain)))
    (l_law_chain : K.lookup f_law_chain = some ⟨oc_law_chain, od_law_chain, .func (PySem.W.fnOf "_law_chain" "_law_chain" (defArgs s_law_chain) (defBody s_law_chain) (defScope s_law_chain) .none kV_law_chain dc_law_chain pm_law_chain an_law_chain cd_law_chain ct_law_chain), sl_law_chain⟩)
    (c_law_chain : PySem.W.codeIn K cd_law_chain "_law_chain" = true)
    (k_law_chain : PySem.W.keepIn K (.ref f_law_chain) = true)
    (a_law_equal : PySem.W.nsIn K mainGlobals "_law_equal" = some (some (.ref f_law_equal)))
    (l_law_equal : K.lookup f_law_equal = some ⟨oc_law_equal, od_law_equal, .func (PySem.W.fnOf "_law_equal" "_law_equal" (defArgs s_law_equal) (defBody s_law_equal) (defScope s_law_equal) .none kV_law_equal dc_law_equal pm_law_equal an_law_equal cd_law_equal ct_law_equal), sl_law_equal⟩)
    (c_law_equal : PySem.W.codeIn K cd_law_equal "_law_equal" = true)
    (k_law_equal : PySem.W.keepIn K (.ref f_law_equal) = true)
    (a_law_over : PySem.W.nsIn K mainGlobals "_law_over" = some (some (.ref f_law_over)))
    (l_law_over : K.lookup f_law_over = some ⟨oc_law_over, od_law_over, .func (PySem.W.fnOf "_law_over" "_law_over" (defArgs s_law_over) (defBody s_law_over) (defScope s_law_over) .none kV_law_over dc_law_over pm_law_over an_law_over cd_law_over ct_law_over), sl_law_over⟩)
    (c_law_over : PySem.W.codeIn K cd_law_over "_law_over" = true)
    (k_law_over : PySem.W.keepIn K (.ref f_law_over) = true)
    (a_law_plus : PySem.W.nsIn K mainGlobals "_law_plus" = some (some (.ref f_law_plus)))
    (l_law_plus : K.lookup f_law_plus = some ⟨oc_law_plus, od_law_plus, .func (PySem.W.fnOf "_law_plus" "_law_plus" (defArgs s_law_plus) (defBody s_law_plus) (defScope s_law_plus) .none kV_law_plus dc_law_plus pm_law_plus an_law_plus cd_law_plus ct_law_plus), sl_law_plus⟩)
    (c_law_plus : PySem.W.codeIn K cd_law_plus "_law_plus" = true)
    (k_law_plus : PySem.W.keepIn K (.ref f_law_plus) = true)
    (a_law_times : PySem.W.nsIn K mainGlobals "_law_times" = some (some (.ref f_law_times)))
    (l_law_times : K.lookup f_law_times = some ⟨oc_law_times, od_law_times, .func (PySem.W.fnOf "_law_times" "_law_times" (defArgs s_law_times) (defBody s_law_times) (defScope s_law_times) .none kV_law_times dc_law_times pm_law_times an_law_times cd_law_times ct_law_times), sl_law_times⟩)
    (c_law_times : PySem.W.codeIn K cd_law_times "_law_times" = true)
    (k_law_times : PySem.W.keepIn K (.ref f_law_times) = true)
    (a_law_minus : PySem.W.nsIn K mainGlobals "_law_minus" = some (some (.ref f_law_minus)))
    (l_law_minus : K.lookup f_law_minus = some ⟨oc_law_minus, od_law_minus, .func (PySem.W.fnOf "_law_minus" "_law_minus" (defArgs s_law_minus) (defBody s_law_minus) (defScope s_law_minus) .none kV_law_minus dc_law_minus pm_law_minus an_law_minus cd_law_minus ct_law_minus), sl_law_minus⟩)
    (c_law_minus : PySem.W.codeIn K cd_law_minus "_law_minus" = true)
    (k_law_minus : PySem.W.keepIn K (.ref f_law_minus) = true)
    (a_law_carried : PySem.W.nsIn K mainGlobals "_law_carried" = some (some (.ref f_law_carried)))
    (l_law_carried : K.lookup f_law_carried = some ⟨oc_law_carried, od_law_carried, .func (PySem.W.fnOf "_law_carried" "_law_carried" (defArgs s_law_carried) (defBody s_law_carried) (defScope s_law_carried) .none kV_law_carried dc_law_carried pm_law_carried an_law_carried cd_law_carried ct_law_carried), sl_law_carried⟩)
    (c_law_carried : PySem.W.codeIn K cd_law_carried "_law_carried" = true)
    (k_law_carried : PySem.W.keepIn K (.ref f_law_carried) = true)
    (a_law_about : PySem.W.nsIn K mainGlobals "_law_about" = some (some (.ref f_law_about)))
    (l_law_about : K.lookup f_law_about = some ⟨oc_law_about, od_law_about, .func (PySem.W.fnOf "_law_about" "_law_about" (defArgs s_law_about) (defBody s_law_about) (defScope s_law_about) .none kV_law_about dc_law_about pm_law_about an_law_about cd_law_about ct_law_about), sl_law_about⟩)
    (c_law_about : PySem.W.codeIn K cd_law_about "_law_about" = true)
    (k_law_about : PySem.W.keepIn K (.ref f_law_about) = true)
    (a_law_ratio : PySem.W.nsIn K mainGlobals "_law_ratio" = some (some (.ref f_law_ratio)))
    (l_law_ratio : K.lookup f_law_ratio = some ⟨oc_law_ratio, od_law_ratio, .func (PySem.W.fnOf "_law_ratio" "_law_ratio" (defArgs s_law_ratio) (defBody s_law_ratio) (defScope s_law_ratio) .none kV_law_ratio dc_law_ratio pm_law_ratio an_law_ratio cd_law_ratio ct_law_ratio), sl_law_ratio⟩)
    (c_law_ratio : PySem.W.codeIn K cd_law_ratio "_law_ratio" = true)
    (k_law_ratio : PySem.W.keepIn K (.ref f_law_ratio) = true)
    (a_law_size : PySem.W.nsIn K mainGlobals "_law_size" = some (some (.ref f_law_size)))
    (l_law_size : K.lookup f_law_size = some ⟨oc_law_size, od_law_size, .func (PySem.W.fnOf "_law_size" "_law_size" (defArgs s_law_size) (defBody s_law_size) (defScope s_law_size) .none kV_law_size dc_law_size pm_law_size an_law_size cd_law_size ct_law_size), sl_law_size⟩)
    (c_law_size : PySem.W.codeIn K cd_law_size "_law_size" = true)
    (k_law_size : PySem.W.keepIn K (.ref f_law_size) = true)
    (a_law_less : PySem.W.nsIn K mainGlobals "_law_less" = some (some (.ref f_law_less)))
    (l_law_less : K.lookup f_law_less = some ⟨oc_law_less, od_law_less, .func (PySem.W.fnOf "_law_less" "_law_less" (defArgs s_law_less) (defBody s_law_less) (defScope s_law_less) .none kV_law_less dc_law_less pm_law_less an_law_less cd_law_less ct_law_less), sl_law_less⟩)
    (c_law_less : PySem.W.codeIn K cd_law_less "_law_less" = true)
    (k_law_less : PySem.W.keepIn K (.ref f_law_less) = true)
    (a_law_reached : PySem.W.nsIn K mainGlobals "_law_reached" = some (some (.ref f_law_reached)))
    (l_law_reached : K.lookup f_law_reached = some ⟨oc_law_reached, od_law_reached, .func (PySem.W.fnOf "_law_reached" "_law_reached" (defArgs s_law_reached) (defBody s_law_reached) (defScope s_law_reached) .none kV_law_reached dc_law_reached pm_law_reached an_law_reached cd_law_reached ct_law_reached), sl_law_reached⟩)
    (c_law_reached : PySem.W.codeIn K cd_law_reached "_law_reached" = true)
    (k_law_reached : PySem.W.keepIn K (.ref f_law_reached) = true)
    (a_law_near : PySem.W.nsIn K mainGlobals "_law_near" = some (some (.ref f_law_near)))
    (l_law_near : K.lookup f_law_near = some ⟨oc_law_near, od_law_near, .func (PySem.W.fnOf "_law_near" "_law_near" (defArgs s_law_near) (defBody s_law_near) (defScope s_law_near) .none kV_law_near dc_law_near pm_law_near an_law_near cd_law_near ct_law_near), sl_law_near⟩)
    (c_law_near : PySem.W.codeIn K cd_law_near "_law_near" = true)
    (k_law_near : PySem.W.keepIn K (.ref f_law_near) = true)
    (a_law_traced : PySem.W.nsIn K mainGlobals "_law_traced" = some (some (.ref f_law_traced)))
    (l_law_traced : K.lookup f_law_traced = some ⟨oc_law_traced, od_law_traced, .func (PySem.W.fnOf "_law_traced" "_law_traced" (defArgs s_law_traced) (defBody s_law_traced) (defScope s_law_traced) .none kV_law_traced dc_law_traced pm_law_traced an_law_traced cd_law_traced ct_law_traced), sl_law_traced⟩)
    (c_law_traced : PySem.W.codeIn K cd_law_traced "_law_traced" = true)
    (k_law_traced : PySem.W.keepIn K (.ref f_law_traced) = true)
    (a_law_moved : PySem.W.nsIn K mainGlobals "_law_moved" = some (some (.ref f_law_moved)))
    (l_law_moved : K.lookup f_law_moved = some ⟨oc_law_moved, od_law_moved, .func (PySem.W.fnOf "_law_moved" "_law_moved" (defArgs s_law_moved) (defBody s_law_moved) (defScope s_law_moved) .none kV_law_moved dc_law_moved pm_law_moved an_law_moved cd_law_moved ct_law_moved), sl_law_moved⟩)
    (c_law_moved : PySem.W.codeIn K cd_law_moved "_law_moved" = true)
    (k_law_moved : PySem.W.keepIn K (.ref f_law_moved) = true)
    (a_law_missed : PySem.W.nsIn K mainGlobals "_law_missed" = some (some (.ref f_law_missed)))
    (l_law_missed : K.lookup f_law_missed = some ⟨oc_law_missed, od_law_missed, .func (PySem.W.fnOf "_law_missed" "_law_missed" (defArgs s_law_missed) (defBody s_law_missed) (defScope s_law_missed) .none kV_law_missed dc_law_missed pm_law_missed an_law_missed cd_law_missed ct_law_missed), sl_law_missed⟩)
    (c_law_missed : PySem.W.codeIn K cd_law_missed "_law_missed" = true)
    (k_law_missed : PySem.W.keepIn K (.ref f_law_missed) = true)
    (a_law : PySem.W.nsIn K mainGlobals "law" = some (some (.ref f_law)))
    (l_law : K.lookup f_law = some ⟨oc_law, od_law, .func (PySem.W.fnOf "law" "law" (defArgs s_law) (defBody s_law) (defScope s_law) .none kV_law dc_law pm_law an_law (.ref cc_law) ct_law), sl_law⟩)
    (c_law : PySem.W.codeIn K (.ref cc_law) "law" = true)
    (k_law : PySem.W.keepIn K (.ref f_law) = true)
    (q_law : K.lookup cc_law = some ⟨oq_law, dq_law, .fields vq_law, sq_law⟩)
    (v_law : vq_law[11]? = some (.ref PP_law))
    (n_law : K.lookup PP_law = none)
    (h_law : PySem.W.codeHdIn K cc_law PP_law = true)
    (ne_ascending_fractions : (PP_law == PP_ascending_fractions) = false)
    : LawAtS l w K CX0 15 63 "_law_script" mg fa h := by
  have e := hfa.symm.trans (PySem.W.mg_of X G a_law)
  cases e
  have b_abs := PySem.W.mg_none_of X G z_abs
  have b_len := PySem.W.mg_none_of X G z_len
  have b_isinstance := PySem.W.mg_none_of X G z_isinstance
  have b_int := PySem.W.mg_none_of X G z_int
  have b_bool := PySem.W.mg_none_of X G z_bool
  have b_str := PySem.W.mg_none_of X G z_str
  have b_tuple := PySem.W.mg_none_of X G z_tuple
  have b_list := PySem.W.mg_none_of X G z_list
  have b_all := PySem.W.mg_none_of X G z_all
  have b_range := PySem.W.mg_none_of X G z_range
  have b_enumerate := PySem.W.mg_none_of X G z_enumerate
  have b_zip := PySem.W.mg_none_of X G z_zip
  have b_max := PySem.W.mg_none_of X G z_max
  have b_sorted := PySem.W.mg_none_of X G z_sorted
  have b_ValueError := PySem.W.mg_none_of X G z_ValueError
  have m_MIDDLE := PySem.W.mg_of X G m_MIDDLE
  have t_MIDDLE : ∀ H, SqT K H a_tMIDDLE (v3 (0, 0, 1)) := fun H => .inr ⟨_, _, _, u_MIDDLE, rfl, rfl, (by show 3 ≤ sizeLine; decide), .cons ⟨_, rfl⟩ (.cons ⟨_, rfl⟩ (.cons ⟨_, rfl⟩ .nil))⟩
  have m_ONE := PySem.W.mg_of X G m_ONE
  have t_ONE : ∀ H, SqT K H a_tONE (v3 (1, 0, 1)) := fun H => .inr ⟨_, _, _, u_ONE, rfl, rfl, (by show 3 ≤ sizeLine; decide), .cons ⟨_, rfl⟩ (.cons ⟨_, rfl⟩ (.cons ⟨_, rfl⟩ .nil))⟩
  have m_MOST_SPOTS := PySem.W.mg_of X G mi_MOST_SPOTS
  have m_MOST_STROKES := PySem.W.mg_of X G mi_MOST_STROKES
  have m_MOST_REACH := PySem.W.mg_of X G mi_MOST_REACH
  have m_MOST_ARMS := PySem.W.mg_of X G mi_MOST_ARMS
  have m_MOST_LIMIT := PySem.W.mg_of X G mi_MOST_LIMIT
  have m_B := PySem.W.mg_of X G g_CB
  have ER : Errs K mg CB (fun j => [e0, e1, e2, e3, e4, e5, e6, e7, e8, e9, e10, e11, e12, e13, e14, e15, e16, e17, e18, e19].getD j 0) [9] := ⟨fun j x h => match j, h with
    | 0, h => by cases h; exact PySem.W.mg_of X G ge_0
    | 1, h => by cases h; exact PySem.W.mg_of X G ge_1
    | 2, h => by cases h; exact PySem.W.mg_of X G ge_2
    | 3, h => by cases h; exact PySem.W.mg_of X G ge_3
    | 4, h => by cases h; exact PySem.W.mg_of X G ge_4
    | 5, h => by cases h; exact PySem.W.mg_of X G ge_5
    | 6, h => by cases h; exact PySem.W.mg_of X G ge_6
    | 7, h => by cases h; exact PySem.W.mg_of X G ge_7
    | 8, h => by cases h; exact PySem.W.mg_of X G ge_8
    | 9, h => by cases h; exact PySem.W.mg_of X G ge_9
    | 10, h => by cases h; exact PySem.W.mg_of X G ge_10
    | 11, h => by cases h; exact PySem.W.mg_of X G ge_11
    | 12, h => by cases h; exact PySem.W.mg_of X G ge_12
    | 13, h => by cases h; exact PySem.W.mg_of X G ge_13
    | 14, h => by cases h; exact PySem.W.mg_of X G ge_14
    | 15, h => by cases h; exact PySem.W.mg_of X G ge_15
    | 16, h => by cases h; exact PySem.W.mg_of X G ge_16
    | 17, h => by cases h; exact PySem.W.mg_of X G ge_17
    | 18, h => by cases h; exact PySem.W.mg_of X G ge_18
    | 19, h => by cases h; exact PySem.W.mg_of X G ge_19
    | (k + 20), h => by simp [eCls] at h,
  fun n hn => by
    simp only [List.mem_cons, List.mem_nil_iff, or_false] at hn
    rcases hn with rfl
    · exact ⟨xg_9, xk_9, xs_9, xd_9, xa_9, xc_n, xc_t, xm_9⟩,
  fun n j hn hj => by
    simp only [List.mem_cons, List.mem_nil_iff, or_false] at hn
    rcases hn with rfl
    · exact match j, hj with
      | 0, _ => kt_9_0
      | 1, _ => kt_9_1
      | 2, _ => kt_9_2
      | 3, _ => kt_9_3
      | 4, _ => kt_9_4
      | 5, _ => kt_9_5
      | 6, _ => kt_9_6
      | 7, _ => kt_9_7
      | 8, _ => kt_9_8
      | 9, _ => kt_9_9
      | 10, _ => kt_9_10
      | 11, _ => kt_9_11
      | 12, _ => kt_9_12
      | 13, _ => kt_9_13
      | 14, _ => kt_9_14
      | 15, _ => kt_9_15
      | 16, _ => kt_9_16
      | 17, _ => kt_9_17
      | 18, _ => kt_9_18
      | 19, _ => kt_9_19
      | (k + 20), h => absurd h (by omega),
  fun n hn => by
    simp only [List.mem_cons, List.mem_nil_iff, or_false] at hn
    rcases hn with rfl
    · exact kv_9,
  fun n hn => by
    simp only [List.mem_cons, List.mem_nil_iff, or_false] at hn
    rcases hn with rfl
    · exact xx_9,
  fun n hn => by
    simp only [List.mem_cons, List.mem_nil_iff, or_false] at hn
    rcases hn with rfl
    · decide⟩
  have X_InvalidSize : ExX K mg "InvalidSize" e9 := ⟨xq_9, xp_9, xs_9, xt_9, PySem.W.mg_of X G ge_9⟩
  have F_law_error_of := fun_mk (st := s_law_error_of) l_law_error_of c_law_error_of k_law_error_of
  have B_law_error_of := F_law_error_of.binds (ps := ["_law_call"]) fun _ _ _ _ _ _ us hl => match us, hl with | [_], _ => rfl
  have m_E := PySem.W.mg_of X G a_law_error_of
  have F_OutOfReach___init__ := fun_mk (st := s_OutOfReach___init__) l_OutOfReach___init__ c_OutOfReach___init__ k_OutOfReach___init__
  have B_OutOfReach___init__ := F_OutOfReach___init__.binds (ps := ["self", "arm", "stroke", "part"]) fun _ _ _ _ _ _ us hl => match us, hl with | [_, _, _, _], _ => rfl
  have OX7 := oex_of xo_7 xz_7 xs_7 xt_7 xp_7
  have m_OutOfReach := PySem.W.mg_of X G ge_7
  have F_common_divisor := fun_mk (st := s_common_divisor) l_common_divisor c_common_divisor k_common_divisor
  have B_common_divisor := F_common_divisor.binds (ps := ["one", "other"]) fun _ _ _ _ _ _ us hl => match us, hl with | [_, _], _ => rfl
  have F_is_whole := fun_mk (st := s_is_whole) l_is_whole c_is_whole k_is_whole
  have B_is_whole := F_is_whole.binds (ps := ["value"]) fun _ _ _ _ _ _ us hl => match us, hl with | [_], _ => rfl
  have F_is_spot := fun_mk (st := s_is_spot) l_is_spot c_is_spot k_is_spot
  have B_is_spot := F_is_spot.binds (ps := ["value"]) fun _ _ _ _ _ _ us hl => match us, hl with | [_], _ => rfl
  have F_check_spot := fun_mk (st := s_check_spot) l_check_spot c_check_spot k_check_spot
  have B_check_spot := F_check_spot.binds (ps := ["value"]) fun _ _ _ _ _ _ us hl => match us, hl with | [_], _ => rfl
  have F_check_turn := fun_mk (st := s_check_turn) l_check_turn c_check_turn k_check_turn
  have B_check_turn := F_check_turn.binds (ps := ["value"]) fun _ _ _ _ _ _ us hl => match us, hl with | [_], _ => rfl
  have F_check_limit := fun_mk (st := s_check_limit) l_check_limit c_check_limit k_check_limit
  have B_check_limit := F_check_limit.binds (ps := ["limit"]) fun _ _ _ _ _ _ us hl => match us, hl with | [_], _ => rfl
  have F_spot_at := fun_mk (st := s_spot_at) l_spot_at c_spot_at k_spot_at
  have B_spot_at := F_spot_at.binds (ps := ["x", "y", "d"]) fun _ _ _ _ _ _ us hl => match us, hl with | [_, _, _], _ => rfl
  have F_fraction := fun_mk (st := s_fraction) l_fraction c_fraction k_fraction
  have B_fraction := F_fraction.binds (ps := ["p", "q"]) fun _ _ _ _ _ _ us hl => match us, hl with | [_, _], _ => rfl
  have F_plus := fun_mk (st := s_plus) l_plus c_plus k_plus
  have B_plus := F_plus.binds (ps := ["one", "other"]) fun _ _ _ _ _ _ us hl => match us, hl with | [_, _], _ => rfl
  have F_negative := fun_mk (st := s_negative) l_negative c_negative k_negative
  have B_negative := F_negative.binds (ps := ["number"]) fun _ _ _ _ _ _ us hl => match us, hl with | [_], _ => rfl
  have F_minus := fun_mk (st := s_minus) l_minus c_minus k_minus
  have B_minus := F_minus.binds (ps := ["one", "other"]) fun _ _ _ _ _ _ us hl => match us, hl with | [_, _], _ => rfl
  have F_product := fun_mk (st := s_product) l_product c_product k_product
  have B_product := F_product.binds (ps := ["one", "other"]) fun _ _ _ _ _ _ us hl => match us, hl with | [_, _], _ => rfl
  have F_inverse := fun_mk (st := s_inverse) l_inverse c_inverse k_inverse
  have B_inverse := F_inverse.binds (ps := ["number"]) fun _ _ _ _ _ _ us hl => match us, hl with | [_], _ => rfl
  have F_faced := fun_mk (st := s_faced) l_faced c_faced k_faced
  have B_faced := F_faced.binds (ps := ["number", "mirrored"]) fun _ _ _ _ _ _ us hl => match us, hl with | [_, _], _ => rfl
  have F_carried := fun_mk (st := s_carried) l_carried c_carried k_carried
  have B_carried := F_carried.binds (ps := ["turn", "shift", "mirrored", "spot"]) fun _ _ _ _ _ _ us hl => match us, hl with | [_, _, _, _], _ => rfl
  have F_parting_scale := fun_mk (st := s_parting_scale) l_parting_scale c_parting_scale k_parting_scale
  have B_parting_scale := F_parting_scale.binds (ps := ["divisors"]) fun _ _ _ _ _ _ us hl => match us, hl with | [_], _ => rfl
  have F_ascending_fractions := fun_mk (st := s_ascending_fractions) l_ascending_fractions c_ascending_fractions k_ascending_fractions
  have B_ascending_fractions := F_ascending_fractions.binds (ps := ["fractions"]) fun _ _ _ _ _ _ us hl => match us, hl with | [_], _ => rfl
  have F_parts_of := fun_mk (st := s_parts_of) l_parts_of c_parts_of k_parts_of
  have B_parts_of := F_parts_of.binds (ps := ["stroke"]) fun _ _ _ _ _ _ us hl => match us, hl with | [_], _ => rfl
  have F_is_stroke := fun_mk (st := s_is_stroke) l_is_stroke c_is_stroke k_is_stroke
  have B_is_stroke := F_is_stroke.binds (ps := ["value"]) fun _ _ _ _ _ _ us hl => match us, hl with | [_], _ => rfl
  have F_check_strokes := fun_mk (st := s_check_strokes) l_check_strokes c_check_strokes k_check_strokes
  have B_check_strokes := F_check_strokes.binds (ps := ["strokes"]) fun _ _ _ _ _ _ us hl => match us, hl with | [_], _ => rfl
  have F_square_between := fun_mk (st := s_square_between) l_square_between c_square_between k_square_between
  have B_square_between := F_square_between.binds (ps := ["one", "other"]) fun _ _ _ _ _ _ us hl => match us, hl with | [_, _], _ => rfl
  have F_is_from_to := fun_mk (st := s_is_from_to) l_is_from_to c_is_from_to k_is_from_to
  have B_is_from_to := F_is_from_to.binds (ps := ["value", "least", "most"]) fun _ _ _ _ _ _ us hl => match us, hl with | [_, _, _], _ => rfl
  have F_square_beside := fun_mk (st := s_square_beside) l_square_beside c_square_beside k_square_beside
  have B_square_beside := F_square_beside.binds (ps := ["spot", "part"]) fun _ _ _ _ _ _ us hl => match us, hl with | [_, _], _ => rfl
  have F_squares_along := fun_mk (st := s_squares_along) l_squares_along c_squares_along k_squares_along
  have B_squares_along := F_squares_along.binds (ps := ["spot", "part"]) fun _ _ _ _ _ _ us hl => match us, hl with | [_, _], _ => rfl
  have TX : CTxt K C := ⟨⟨pg, hdC, po, sa⟩, nF, nO, nL, ha, hn, htk, hmo⟩
  have mgC := PySem.W.mg_of X G aC
  have FI : FunD K "__init__" "Copy.__init__" (defArgs s_Copy___init__) (defBody s_Copy___init__) (defScope s_Copy___init__) [] [("mirrored", .bl false)] f_Copy___init__ _ := ⟨⟨_, _, _, _, _, _, _, _, _, _, rfl, l_Copy___init__, c_Copy___init__, .inl ⟨rfl, rfl⟩, .inr ⟨_, rfl, fun q hq => by cases List.mem_singleton.mp hq; exact ⟨_, kw_init, rfl⟩⟩⟩, k_Copy___init__⟩
  obtain ⟨⟨ds, bv, bd⟩, mv, kb⟩ := bind_init FI
  have F_Copy___rshift__ := fun_mk (st := s_Copy___rshift__) l_Copy___rshift__ c_Copy___rshift__ k_Copy___rshift__
  have B_Copy___rshift__ := F_Copy___rshift__.binds (ps := ["self", "other"]) fun _ _ _ _ _ _ us hl => match us, hl with | [_, _], _ => rfl
  have F_Copy___invert__ := fun_mk (st := s_Copy___invert__) l_Copy___invert__ c_Copy___invert__ k_Copy___invert__
  have B_Copy___invert__ := F_Copy___invert__.binds (ps := ["self"]) fun _ _ _ _ _ _ us hl => match us, hl with | [_], _ => rfl
  have F_Copy___call__ := fun_mk (st := s_Copy___call__) l_Copy___call__ c_Copy___call__ k_Copy___call__
  have B_Copy___call__ := F_Copy___call__.binds (ps := ["self", "spot"]) fun _ _ _ _ _ _ us hl => match us, hl with | [_, _], _ => rfl
  have F_Copy_growth := fun_mk (st := s_Copy_growth) l_Copy_growth c_Copy_growth k_Copy_growth
  have B_Copy_growth := F_Copy_growth.binds (ps := ["self"]) fun _ _ _ _ _ _ us hl => match us, hl with | [_], _ => rfl
  have F_Drawing___init__ := fun_mk (st := s_Drawing___init__) l_Drawing___init__ c_Drawing___init__ k_Drawing___init__
  have mgCW := PySem.W.mg_of X G aCW
  have MKCW : Mk K CW f_Drawing___init__ := ⟨mkCW, inCW, isCW, kcCW⟩
  have clCW : Cls K CW := ⟨pgCW, hdCW, poCW, saCW⟩
  have TXW : WTxt K CW := ⟨clCW, nCW_held⟩
  have F_Drawing_strokes := fun_mk (st := s_Drawing_strokes) l_Drawing_strokes c_Drawing_strokes k_Drawing_strokes
  have B_Drawing_strokes := F_Drawing_strokes.binds (ps := ["self"]) fun _ _ _ _ _ _ us hl => match us, hl with | [_], _ => rfl
  have F_Drawing___add__ := fun_mk (st := s_Drawing___add__) l_Drawing___add__ c_Drawing___add__ k_Drawing___add__
  have B_Drawing___add__ := F_Drawing___add__.binds (ps := ["self", "other"]) fun _ _ _ _ _ _ us hl => match us, hl with | [_, _], _ => rfl
  have F_Drawing_copied := fun_mk (st := s_Drawing_copied) l_Drawing_copied c_Drawing_copied k_Drawing_copied
  have B_Drawing_copied := F_Drawing_copied.binds (ps := ["self", "copy"]) fun _ _ _ _ _ _ us hl => match us, hl with | [_, _], _ => rfl
  have F_still_copy := fun_mk (st := s_still_copy) l_still_copy c_still_copy k_still_copy
  have B_still_copy := F_still_copy.binds (ps := []) fun _ _ _ _ _ _ us hl => match us, hl with | [], _ => rfl
  have F_check_reach := fun_mk (st := s_check_reach) l_check_reach c_check_reach k_check_reach
  have B_check_reach := F_check_reach.binds (ps := ["near", "far"]) fun _ _ _ _ _ _ us hl => match us, hl with | [_, _], _ => rfl
  have F_copy_around := fun_mk (st := s_copy_around) l_copy_around c_copy_around k_copy_around
  have B_copy_around := F_copy_around.binds (ps := ["pole", "turn", "mirrored"]) fun _ _ _ _ _ _ us hl => match us, hl with | [_, _, _], _ => rfl
  have mgCA := PySem.W.mg_of X G aCA
  have MKCA : Mk K CA f_Arm___init__ := ⟨mkCA, inCA, isCA, kcCA⟩
  have clCA : Cls K CA := ⟨pgCA, hdCA, poCA, saCA⟩
  have TXA : ATxt K CA := ⟨clCA, nCA_centre, nCA_factor, nCA_least, nCA_most, nCA_flips, nCA_pen, haA, hn, htk, hmA⟩
  have FIA : FunD K "__init__" "Arm.__init__" (defArgs s_Arm___init__) (defBody s_Arm___init__) (defScope s_Arm___init__) [] [("mirrored", .bl false)] f_Arm___init__ _ := ⟨⟨_, _, _, _, _, _, _, _, _, _, rfl, l_Arm___init__, c_Arm___init__, .inl ⟨rfl, rfl⟩, .inr ⟨_, rfl, fun q hq => by cases List.mem_singleton.mp hq; exact ⟨_, kw_A, rfl⟩⟩⟩, k_Arm___init__⟩
  obtain ⟨⟨dsA, bvA, bdA⟩, mvA, kbA⟩ := bind_ainit FIA
  have F_Arm_pole := fun_mk (st := s_Arm_pole) l_Arm_pole c_Arm_pole k_Arm_pole
  have B_Arm_pole := F_Arm_pole.binds (ps := ["self"]) fun _ _ _ _ _ _ us hl => match us, hl with | [_], _ => rfl
  have F_Arm_near := fun_mk (st := s_Arm_near) l_Arm_near c_Arm_near k_Arm_near
  have B_Arm_near := F_Arm_near.binds (ps := ["self"]) fun _ _ _ _ _ _ us hl => match us, hl with | [_], _ => rfl
  have F_Arm_far := fun_mk (st := s_Arm_far) l_Arm_far c_Arm_far k_Arm_far
  have B_Arm_far := F_Arm_far.binds (ps := ["self"]) fun _ _ _ _ _ _ us hl => match us, hl with | [_], _ => rfl
  have F_Arm_effect := fun_mk (st := s_Arm_effect) l_Arm_effect c_Arm_effect k_Arm_effect
  have B_Arm_effect := F_Arm_effect.binds (ps := ["self"]) fun _ _ _ _ _ _ us hl => match us, hl with | [_], _ => rfl
  have F_Arm_reaches := fun_mk (st := s_Arm_reaches) l_Arm_reaches c_Arm_reaches k_Arm_reaches
  have B_Arm_reaches := F_Arm_reaches.binds (ps := ["self", "spot"]) fun _ _ _ _ _ _ us hl => match us, hl with | [_, _], _ => rfl
  have F_joint_copy := fun_mk (st := s_joint_copy) l_joint_copy c_joint_copy k_joint_copy
  have B_joint_copy := F_joint_copy.binds (ps := ["arms"]) fun _ _ _ _ _ _ us hl => match us, hl with | [_], _ => rfl
  have F_traced_parts := fun_mk (st := s_traced_parts) l_traced_parts c_traced_parts k_traced_parts
  have B_traced_parts := F_traced_parts.binds (ps := ["stroke"]) fun _ _ _ _ _ _ us hl => match us, hl with | [_], _ => rfl
  have F_can_trace := fun_mk (st := s_can_trace) l_can_trace c_can_trace k_can_trace
  have B_can_trace := F_can_trace.binds (ps := ["arm", "part"]) fun _ _ _ _ _ _ us hl => match us, hl with | [_, _], _ => rfl
  have F_traced := fun_mk (st := s_traced) l_traced c_traced k_traced
  have B_traced := F_traced.binds (ps := ["arm", "drawing", "index"]) fun _ _ _ _ _ _ us hl => match us, hl with | [_, _, _], _ => rfl
  have F_Chain___init__ := fun_mk (st := s_Chain___init__) l_Chain___init__ c_Chain___init__ k_Chain___init__
  have mgCH := PySem.W.mg_of X G aCH
  have MKCH : Mk K CH f_Chain___init__ := ⟨mkCH, inCH, isCH, kcCH⟩
  have clCH : Cls K CH := ⟨pgCH, hdCH, poCH, saCH⟩
  have TXH : HTxt K CH := ⟨clCH, nCH_links, nCH_pen⟩
  have F_Chain_arms := fun_mk (st := s_Chain_arms) l_Chain_arms c_Chain_arms k_Chain_arms
  have B_Chain_arms := F_Chain_arms.binds (ps := ["self"]) fun _ _ _ _ _ _ us hl => match us, hl with | [_], _ => rfl
  have F_Chain_effect := fun_mk (st := s_Chain_effect) l_Chain_effect c_Chain_effect k_Chain_effect
  have B_Chain_effect := F_Chain_effect.binds (ps := ["self"]) fun _ _ _ _ _ _ us hl => match us, hl with | [_], _ => rfl
  have F_Chain___add__ := fun_mk (st := s_Chain___add__) l_Chain___add__ c_Chain___add__ k_Chain___add__
  have B_Chain___add__ := F_Chain___add__.binds (ps := ["self", "other"]) fun _ _ _ _ _ _ us hl => match us, hl with | [_, _], _ => rfl
  have F_Chain___getitem__ := fun_mk (st := s_Chain___getitem__) l_Chain___getitem__ c_Chain___getitem__ k_Chain___getitem__
  have B_Chain___getitem__ := F_Chain___getitem__.binds (ps := ["self", "at"]) fun _ _ _ _ _ _ us hl => match us, hl with | [_, _], _ => rfl
  have F_Chain_draw := fun_mk (st := s_Chain_draw) l_Chain_draw c_Chain_draw k_Chain_draw
  have B_Chain_draw := F_Chain_draw.binds (ps := ["self", "drawing"]) fun _ _ _ _ _ _ us hl => match us, hl with | [_, _], _ => rfl
  have F_square_ahead := fun_mk (st := s_square_ahead) l_square_ahead c_square_ahead k_square_ahead
  have B_square_ahead := F_square_ahead.binds (ps := ["distance", "growth"]) fun _ _ _ _ _ _ us hl => match us, hl with | [_, _], _ => rfl
  have F_zones := fun_mk (st := s_zones) l_zones c_zones k_zones
  have B_zones := F_zones.binds (ps := ["chain"]) fun _ _ _ _ _ _ us hl => match us, hl with | [_], _ => rfl
  have F_is_in_all := fun_mk (st := s_is_in_all) l_is_in_all c_is_in_all k_is_in_all
  have B_is_in_all := F_is_in_all.binds (ps := ["spot", "rings"]) fun _ _ _ _ _ _ us hl => match us, hl with | [_, _], _ => rfl
  have F_reachable_spots := fun_mk (st := s_reachable_spots) l_reachable_spots c_reachable_spots k_reachable_spots
  have B_reachable_spots := F_reachable_spots.binds (ps := ["chain", "limit"]) fun _ _ _ _ _ _ us hl => match us, hl with | [_, _], _ => rfl
  have F_can_draw := fun_mk (st := s_can_draw) l_can_draw c_can_draw k_can_draw
  have B_can_draw := F_can_draw.binds (ps := ["chain", "drawing"]) fun _ _ _ _ _ _ us hl => match us, hl with | [_, _], _ => rfl
  have F_law_random := fun_mk (st := s_law_random) l_law_random c_law_random k_law_random
  have B_law_random := F_law_random.binds (ps := ["_law_script", "_law_salt"]) fun _ _ _ _ _ _ us hl => match us, hl with | [_, _], _ => rfl
  have F_law_below := fun_mk (st := s_law_below) l_law_below c_law_below k_law_below
  have B_law_below := F_law_below.binds (ps := ["_law_d", "_law_limit"]) fun _ _ _ _ _ _ us hl => match us, hl with | [_, _], _ => rfl
  have F_law_step := fun_mk (st := s_law_step) l_law_step c_law_step k_law_step
  have B_law_step := F_law_step.binds (ps := ["_law_d", "_law_size_now"]) fun _ _ _ _ _ _ us hl => match us, hl with | [_, _], _ => rfl
  have F_law_turn := fun_mk (st := s_law_turn) l_law_turn c_law_turn k_law_turn
  have B_law_turn := F_law_turn.binds (ps := ["_law_d"]) fun _ _ _ _ _ _ us hl => match us, hl with | [_], _ => rfl
  have F_law_common := fun_mk (st := s_law_common) l_law_common c_law_common k_law_common
  have B_law_common := F_law_common.binds (ps := ["_law_one", "_law_other"]) fun _ _ _ _ _ _ us hl => match us, hl with | [_, _], _ => rfl
  have F_law_lowest := fun_mk (st := s_law_lowest) l_law_lowest c_law_lowest k_law_lowest
  have B_law_lowest := F_law_lowest.binds (ps := ["_law_x", "_law_y", "_law_q"]) fun _ _ _ _ _ _ us hl => match us, hl with | [_, _, _], _ => rfl
  have F_law_spot := fun_mk (st := s_law_spot) l_law_spot c_law_spot k_law_spot
  have B_law_spot := F_law_spot.binds (ps := ["_law_d"]) fun _ _ _ _ _ _ us hl => match us, hl with | [_], _ => rfl
  have F_law_arm_told := fun_mk (st := s_law_arm_told) l_law_arm_told c_law_arm_told k_law_arm_told
  have B_law_arm_told := F_law_arm_told.binds (ps := ["_law_d"]) fun _ _ _ _ _ _ us hl => match us, hl with | [_], _ => rfl
  have F_law_arm := fun_mk (st := s_law_arm) l_law_arm c_law_arm k_law_arm
  have B_law_arm := F_law_arm.binds (ps := ["_law_told"]) fun _ _ _ _ _ _ us hl => match us, hl with | [_], _ => rfl
  have F_law_drawing := fun_mk (st := s_law_drawing) l_law_drawing c_law_drawing k_law_drawing
  have B_law_drawing := F_law_drawing.binds (ps := ["_law_strokes"]) fun _ _ _ _ _ _ us hl => match us, hl with | [_], _ => rfl
  have F_law_chain := fun_mk (st := s_law_chain) l_law_chain c_law_chain k_law_chain
  have B_law_chain := F_law_chain.binds (ps := ["_law_tolds"]) fun _ _ _ _ _ _ us hl => match us, hl with | [_], _ => rfl
  have F_law_equal := fun_mk (st := s_law_equal) l_law_equal c_law_equal k_law_equal
  have B_law_equal := F_law_equal.binds (ps := ["_law_actual", "_law_expected"]) fun _ _ _ _ _ _ us hl => match us, hl with | [_, _], _ => rfl
  have F_law_over := fun_mk (st := s_law_over) l_law_over c_law_over k_law_over
  have B_law_over := F_law_over.binds (ps := ["_law_one"]) fun _ _ _ _ _ _ us hl => match us, hl with | [_], _ => rfl
  have F_law_plus := fun_mk (st := s_law_plus) l_law_plus c_law_plus k_law_plus
  have B_law_plus := F_law_plus.binds (ps := ["_law_one", "_law_other"]) fun _ _ _ _ _ _ us hl => match us, hl with | [_, _], _ => rfl
  have F_law_times := fun_mk (st := s_law_times) l_law_times c_law_times k_law_times
  have B_law_times := F_law_times.binds (ps := ["_law_one", "_law_other"]) fun _ _ _ _ _ _ us hl => match us, hl with | [_, _], _ => rfl
  have F_law_minus := fun_mk (st := s_law_minus) l_law_minus c_law_minus k_law_minus
  have B_law_minus := F_law_minus.binds (ps := ["_law_one", "_law_other"]) fun _ _ _ _ _ _ us hl => match us, hl with | [_, _], _ => rfl
  have F_law_carried := fun_mk (st := s_law_carried) l_law_carried c_law_carried k_law_carried
  have B_law_carried := F_law_carried.binds (ps := ["_law_told", "_law_spot_here"]) fun _ _ _ _ _ _ us hl => match us, hl with | [_, _], _ => rfl
  have F_law_about := fun_mk (st := s_law_about) l_law_about c_law_about k_law_about
  have B_law_about := F_law_about.binds (ps := ["_law_told"]) fun _ _ _ _ _ _ us hl => match us, hl with | [_], _ => rfl
  have F_law_ratio := fun_mk (st := s_law_ratio) l_law_ratio c_law_ratio k_law_ratio
  have B_law_ratio := F_law_ratio.binds (ps := ["_law_p", "_law_q"]) fun _ _ _ _ _ _ us hl => match us, hl with | [_, _], _ => rfl
  have F_law_size := fun_mk (st := s_law_size) l_law_size c_law_size k_law_size
  have B_law_size := F_law_size.binds (ps := ["_law_one"]) fun _ _ _ _ _ _ us hl => match us, hl with | [_], _ => rfl
  have F_law_less := fun_mk (st := s_law_less) l_law_less c_law_less k_law_less
  have B_law_less := F_law_less.binds (ps := ["_law_one", "_law_other"]) fun _ _ _ _ _ _ us hl => match us, hl with | [_, _], _ => rfl
  have F_law_reached := fun_mk (st := s_law_reached) l_law_reached c_law_reached k_law_reached
  have B_law_reached := F_law_reached.binds (ps := ["_law_told", "_law_spot_here"]) fun _ _ _ _ _ _ us hl => match us, hl with | [_, _], _ => rfl
  have F_law_near := fun_mk (st := s_law_near) l_law_near c_law_near k_law_near
  have B_law_near := F_law_near.binds (ps := ["_law_pole", "_law_one", "_law_other"]) fun _ _ _ _ _ _ us hl => match us, hl with | [_, _, _], _ => rfl
  have F_law_traced := fun_mk (st := s_law_traced) l_law_traced c_law_traced k_law_traced
  have B_law_traced := F_law_traced.binds (ps := ["_law_told", "_law_stroke"]) fun _ _ _ _ _ _ us hl => match us, hl with | [_, _], _ => rfl
  have F_law_moved := fun_mk (st := s_law_moved) l_law_moved c_law_moved k_law_moved
  have B_law_moved := F_law_moved.binds (ps := ["_law_told", "_law_strokes"]) fun _ _ _ _ _ _ us hl => match us, hl with | [_, _], _ => rfl
  have F_law_missed := fun_mk (st := s_law_missed) l_law_missed c_law_missed k_law_missed
  have B_law_missed := F_law_missed.binds (ps := ["_law_tolds", "_law_strokes"]) fun _ _ _ _ _ _ us hl => match us, hl with | [_, _], _ => rfl
  have F_law := fun_mk (st := s_law) l_law c_law k_law
  have B_law := F_law.binds (ps := ["_law_script"]) fun _ _ _ _ _ _ us hl => match us, hl with | [_], _ => rfl
  refine ⟨PySem.W.fnOf "law" "law" (defArgs s_law) (defBody s_law) (defScope s_law) .none kV_law dc_law pm_law an_law (.ref cc_law) ct_law, [(cc_ascending_fractions, PP_ascending_fractions), (cc_law, PP_law)], spLaw K [(PP_ascending_fractions, qA), (PP_law, qL)], fun p hp => ?_, fun p hp => ?_, fun p hp => ?_, fun s v => .of_eq rfl, fun H a ns hl _ hH hS => ⟨a, ns, rfl, hS, hl, fun p hp => ?_, fun _ => rfl⟩, fun base _ _ TB => ?_⟩
  · simp only [List.mem_cons, List.mem_nil_iff, or_false] at hp; rcases hp with rfl | rfl
    · exact bl "ascending_fractions" (by simp) _ (PySem.W.mg_of X G a_ascending_fractions) cc_ascending_fractions PP_ascending_fractions _ _ _ _ _ _ l_ascending_fractions rfl rfl q_ascending_fractions v_ascending_fractions
    · exact bl "law" (by simp) _ (PySem.W.mg_of X G a_law) cc_law PP_law _ _ _ _ _ _ l_law rfl rfl q_law v_law
  · simp only [List.mem_cons, List.mem_nil_iff, or_false] at hp; rcases hp with rfl | rfl
    · exact n_ascending_fractions
    · exact n_law
  · simp only [List.mem_cons, List.mem_nil_iff, or_false] at hp; rcases hp with rfl | rfl
    · exact PySem.W.codeHd_of_K X h_ascending_fractions
    · exact PySem.W.codeHd_of_K X h_law
  · simp only [List.mem_cons, List.mem_nil_iff, or_false] at hp; rcases hp with rfl | rfl
    · exact TabS.nil (hH (cc_ascending_fractions, PP_ascending_fractions) (by simp))
    · exact TabS.nil (hH (cc_law, PP_law) (by simp))
  have OO : OorS l.prog w K mg base e7 := ⟨OX7, PySem.W.mg_of X G ge_7, _, _, xi_7, xj_7, ok_oor OX7 ⟨xn_7_0, xn_7_1, xn_7_2⟩ F_OutOfReach___init__, B_OutOfReach___init__⟩
  have d_common_divisor : D l.prog w K mg base "common_divisor" 1 sp_gcd := ⟨_, rOf (ok_common_divisor b_abs F_common_divisor) B_common_divisor, k_common_divisor, PySem.W.mg_of X G a_common_divisor⟩
  have d_is_whole : D l.prog w K mg base "is_whole" 1 sp_whole := ⟨_, rOf (ok_is_whole b_isinstance b_int b_bool F_is_whole) B_is_whole, k_is_whole, PySem.W.mg_of X G a_is_whole⟩
  have d_wholeA : D l.prog w K mg base "is_whole" 1 sp_wholeA := ⟨_, rOf (ok_is_wholeA b_isinstance b_int b_bool F_is_whole) B_is_whole, k_is_whole, PySem.W.mg_of X G a_is_whole⟩
  have d_is_spot : D l.prog w K mg base "is_spot" 2 (sp_isspot K) := ⟨_, rOf (ok_is_spot b_isinstance b_tuple b_len b_all d_common_divisor d_is_whole F_is_spot) B_is_spot, k_is_spot, PySem.W.mg_of X G a_is_spot⟩
  have d_check_spot : D l.prog w K mg base "check_spot" 3 (sp_check K) := ⟨_, rOf (ok_check_spot d_is_spot F_check_spot) B_check_spot, k_check_spot, PySem.W.mg_of X G a_check_spot⟩
  have d_check_turn : D l.prog w K mg base "check_turn" 3 (sp_checkT K) := ⟨_, rOf (ok_check_turn d_is_spot m_MIDDLE t_MIDDLE F_check_turn) B_check_turn, k_check_turn, PySem.W.mg_of X G a_check_turn⟩
  have d_check_limit : D l.prog w K mg base "check_limit" 2 sp_clim := ⟨_, rOf (ok_check_limit m_MOST_LIMIT d_is_whole F_check_limit) B_check_limit, k_check_limit, PySem.W.mg_of X G a_check_limit⟩
  have d_check_limitX : DX l.prog w K mg base "check_limit" 2 (sp_climX e9) := ⟨_, rOfX (ok_check_limitX m_MOST_LIMIT X_InvalidSize d_wholeA F_check_limit) B_check_limit, k_check_limit, PySem.W.mg_of X G a_check_limit⟩
  have d_spot_at : D l.prog w K mg base "spot_at" 2 (sp_low K) := ⟨_, rOf (ok_spot_at d_common_divisor F_spot_at) B_spot_at, k_spot_at, PySem.W.mg_of X G a_spot_at⟩
  have d_fraction : D l.prog w K mg base "fraction" 2 (sp_fr K) := ⟨_, rOf (ok_fraction d_common_divisor F_fraction) B_fraction, k_fraction, PySem.W.mg_of X G a_fraction⟩
  have d_plus : D l.prog w K mg base "plus" 3 (sp_two K plus) := ⟨_, rOf (ok_plus d_spot_at F_plus) B_plus, k_plus, PySem.W.mg_of X G a_plus⟩
  have d_negative : D l.prog w K mg base "negative" 1 (sp_one K neg) := ⟨_, rOf (ok_negative F_negative) B_negative, k_negative, PySem.W.mg_of X G a_negative⟩
  have d_minus : D l.prog w K mg base "minus" 4 (sp_two K minus) := ⟨_, rOf (ok_minus d_plus d_negative F_minus) B_minus, k_minus, PySem.W.mg_of X G a_minus⟩
  have d_product : D l.prog w K mg base "product" 3 (sp_two K times) := ⟨_, rOf (ok_product d_spot_at F_product) B_product, k_product, PySem.W.mg_of X G a_product⟩
  have d_inverse : D l.prog w K mg base "inverse" 3 (sp_inv K) := ⟨_, rOf (ok_inverse d_spot_at F_inverse) B_inverse, k_inverse, PySem.W.mg_of X G a_inverse⟩
  have d_faced : D l.prog w K mg base "faced" 1 (sp_face K) := ⟨_, rOf (ok_faced F_faced) B_faced, k_faced, PySem.W.mg_of X G a_faced⟩
  have d_carried : D l.prog w K mg base "carried" 4 (sp_car K) := ⟨_, rOf (ok_carried d_plus d_product d_faced F_carried) B_carried, k_carried, PySem.W.mg_of X G a_carried⟩
  have d_parting_scale : D l.prog w K mg base "parting_scale" 1 (sp_psc K) := ⟨_, rOf (ok_parting_scale b_max F_parting_scale) B_parting_scale, k_parting_scale, PySem.W.mg_of X G a_parting_scale⟩
  have d_ascending_fractions : D l.prog w K mg base "ascending_fractions" 4 (sp_asc K [(PP_ascending_fractions, qA), (PP_law, qL)]) := ⟨_, rOf (ok_ascending_fractions b_sorted d_parting_scale (.head _) (huA ne_ascending_fractions) (TB (cc_ascending_fractions, PP_ascending_fractions) (by simp)) l_ascending_fractions c_ascending_fractions) B_ascending_fractions, k_ascending_fractions, PySem.W.mg_of X G a_ascending_fractions⟩
  have d_parts_of : D l.prog w K mg base "parts_of" 1 (sp_parts K) := ⟨_, rOf (ok_parts_of b_list b_zip F_parts_of) B_parts_of, k_parts_of, PySem.W.mg_of X G a_parts_of⟩
  have d_is_stroke : D l.prog w K mg base "is_stroke" 3 (sp_isst K) := ⟨_, rOf (ok_is_stroke b_isinstance b_tuple b_len b_all m_MOST_SPOTS d_is_spot d_parts_of F_is_stroke) B_is_stroke, k_is_stroke, PySem.W.mg_of X G a_is_stroke⟩
  have d_check_strokes : D l.prog w K mg base "check_strokes" 4 (sp_chk K) := ⟨_, rOf (ok_check_strokes b_enumerate b_len m_MOST_STROKES d_is_stroke F_check_strokes) B_check_strokes, k_check_strokes, PySem.W.mg_of X G a_check_strokes⟩
  have d_square_between : D l.prog w K mg base "square_between" 5 (sp_sqb K) := ⟨_, rOf (ok_square_between d_minus d_fraction F_square_between) B_square_between, k_square_between, PySem.W.mg_of X G a_square_between⟩
  have d_is_from_to : D l.prog w K mg base "is_from_to" 1 (sp_ft K) := ⟨_, rOf (ok_is_from_to F_is_from_to) B_is_from_to, k_is_from_to, PySem.W.mg_of X G a_is_from_to⟩
  have d_square_beside : D l.prog w K mg base "square_beside" 5 (sp_bes K) := ⟨_, rOf (ok_square_beside d_minus d_fraction F_square_beside) B_square_beside, k_square_beside, PySem.W.mg_of X G a_square_beside⟩
  have d_squares_along : D l.prog w K mg base "squares_along" 6 (sp_alo K [(PP_ascending_fractions, qA), (PP_law, qL)]) := ⟨_, rOf (ok_squares_along d_square_between d_square_beside d_ascending_fractions F_squares_along) B_squares_along, k_squares_along, PySem.W.mg_of X G a_squares_along⟩
  have TC : CopyI l.prog w K mg base C f_Copy___init__ _ mv ds := ⟨TX, ⟨mkC, inI, isI, kc⟩, ok_init TX d_check_turn d_check_spot FI, mgC, bv, bd, kb⟩
  have m_ca : MCa l.prog w K mg base C := ⟨⟨_, rOf (ok_call TX d_check_spot d_carried F_Copy___call__) B_Copy___call__, ⟨a_Copy___call__, i_Copy___call__, fi_call⟩⟩⟩
  have m_rs : MRs l.prog w K mg base C := ⟨sf, ⟨_, rOf (ok_rshift TC d_product d_faced d_carried F_Copy___rshift__) B_Copy___rshift__, a_Copy___rshift__, i_Copy___rshift__⟩⟩
  have m_iv : MIv l.prog w K mg base C := ⟨⟨_, rOf (ok_invert TC d_product d_inverse d_negative d_faced F_Copy___invert__) B_Copy___invert__, a_Copy___invert__, i_Copy___invert__⟩⟩
  have m_pg : MPg l.prog w K mg base C := ⟨TX.cl, _, _, _, ok_growth TX d_fraction F_Copy_growth, B_Copy_growth, ⟨a_Copy_growth, g_Copy_growth, t_Copy_growth, ⟨_, r_Copy_growth⟩⟩⟩
  have TW : DrawI l.prog w K mg base CW f_Drawing___init__ := ⟨TXW, MKCW, ok_winit TXW d_check_strokes F_Drawing___init__, mgCW⟩
  have m_W_strokes : MPf l.prog w K mg base CW "strokes" "held" := ⟨clCW, _, _, _, ok_Drawing_strokes clCW nCW_held F_Drawing_strokes, B_Drawing_strokes, ⟨a_Drawing_strokes, g_Drawing_strokes, t_Drawing_strokes, ⟨_, r_Drawing_strokes⟩⟩⟩
  have m_wadd : MWa l.prog w K mg base CW := ⟨sfCW, ⟨_, rOf (ok_wadd TW F_Drawing___add__) B_Drawing___add__, a_Drawing___add__, i_Drawing___add__⟩⟩
  have m_wcop : MWc l.prog w K mg base C CW := ⟨clCW, _, _, ok_wcop TW m_ca b_tuple F_Drawing_copied, B_Drawing_copied, ⟨a_Drawing_copied, i_Drawing_copied, k_Drawing_copied⟩⟩
  have d_still_copy : D l.prog w K mg base "still_copy" 6 (sp_still K C) := ⟨_, rOf (ok_still_copy TC m_ONE t_ONE m_MIDDLE t_MIDDLE F_still_copy) B_still_copy, k_still_copy, PySem.W.mg_of X G a_still_copy⟩
  have d_check_reach : D l.prog w K mg base "check_reach" 2 sp_reach := ⟨_, rOf (ok_check_reach m_MOST_REACH d_is_whole F_check_reach) B_check_reach, k_check_reach, PySem.W.mg_of X G a_check_reach⟩
  have d_copy_around : D l.prog w K mg base "copy_around" 6 (sp_around K C) := ⟨_, rOf (ok_copy_around TC d_minus d_product d_faced F_copy_around) B_copy_around, k_copy_around, PySem.W.mg_of X G a_copy_around⟩
  have TA : ArmI l.prog w K mg base C CA f_Arm___init__ _ mvA dsA := ⟨TXA, MKCA, ok_ainit TXA d_check_turn d_check_spot d_check_reach d_copy_around FIA, mgCA, bvA, bdA, kbA⟩
  have m_A_pole : MPf l.prog w K mg base CA "pole" "centre" := ⟨clCA, _, _, _, ok_Arm_pole clCA nCA_centre F_Arm_pole, B_Arm_pole, ⟨a_Arm_pole, g_Arm_pole, t_Arm_pole, ⟨_, r_Arm_pole⟩⟩⟩
  have m_A_near : MPf l.prog w K mg base CA "near" "least" := ⟨clCA, _, _, _, ok_Arm_near clCA nCA_least F_Arm_near, B_Arm_near, ⟨a_Arm_near, g_Arm_near, t_Arm_near, ⟨_, r_Arm_near⟩⟩⟩
  have m_A_far : MPf l.prog w K mg base CA "far" "most" := ⟨clCA, _, _, _, ok_Arm_far clCA nCA_most F_Arm_far, B_Arm_far, ⟨a_Arm_far, g_Arm_far, t_Arm_far, ⟨_, r_Arm_far⟩⟩⟩
  have m_A_effect : MPf l.prog w K mg base CA "effect" "pen" := ⟨clCA, _, _, _, ok_Arm_effect clCA nCA_pen F_Arm_effect, B_Arm_effect, ⟨a_Arm_effect, g_Arm_effect, t_Arm_effect, ⟨_, r_Arm_effect⟩⟩⟩
  have m_rch : MAr l.prog w K mg base C CA := ⟨clCA, _, _, ok_reaches TXA d_check_spot d_square_between d_is_from_to F_Arm_reaches, B_Arm_reaches, ⟨a_Arm_reaches, i_Arm_reaches, k_Arm_reaches⟩⟩
  have d_joint_copy : D l.prog w K mg base "joint_copy" 7 (sp_joint K C CA) := ⟨_, rOf (ok_joint_copy m_A_effect m_rs d_still_copy F_joint_copy) B_joint_copy, k_joint_copy, PySem.W.mg_of X G a_joint_copy⟩
  have d_traced_parts : D l.prog w K mg base "traced_parts" 2 (sp_tps K) := ⟨_, rOf (ok_traced_parts b_len d_parts_of F_traced_parts) B_traced_parts, k_traced_parts, PySem.W.mg_of X G a_traced_parts⟩
  have d_can_trace : D l.prog w K mg base "can_trace" 7 (sp_ctr K C CA [(PP_ascending_fractions, qA), (PP_law, qL)]) := ⟨_, rOf (ok_can_trace m_A_pole m_A_near m_A_far d_squares_along d_is_from_to F_can_trace) B_can_trace, k_can_trace, PySem.W.mg_of X G a_can_trace⟩
  have d_traced : D l.prog w K mg base "traced" 8 (sp_trd K C CA CW [(PP_ascending_fractions, qA), (PP_law, qL)] fun r => ∃ i, r = [V.int i]) := ⟨_, rOf (ok_traced b_enumerate m_W_strokes m_A_effect m_wcop d_traced_parts d_can_trace F_traced) B_traced, k_traced, PySem.W.mg_of X G a_traced⟩
  have d_tracedX : DX l.prog w K mg base "traced" 8 (sp_trdX K C CA CW e7 [(PP_ascending_fractions, qA), (PP_law, qL)] fun r k => r = [V.int k]) := ⟨_, rOfX (ok_tracedX b_enumerate m_W_strokes m_A_effect m_wcop OO d_traced_parts d_can_trace F_traced) B_traced, k_traced, PySem.W.mg_of X G a_traced⟩
  have TH : ChainI l.prog w K mg base C CA CH f_Chain___init__ := ⟨TXH, MKCH, ok_hinit TXH b_len m_MOST_ARMS d_joint_copy F_Chain___init__, mgCH⟩
  have m_H_arms : MPf l.prog w K mg base CH "arms" "links" := ⟨clCH, _, _, _, ok_Chain_arms clCH nCH_links F_Chain_arms, B_Chain_arms, ⟨a_Chain_arms, g_Chain_arms, t_Chain_arms, ⟨_, r_Chain_arms⟩⟩⟩
  have m_H_effect : MPf l.prog w K mg base CH "effect" "pen" := ⟨clCH, _, _, _, ok_Chain_effect clCH nCH_pen F_Chain_effect, B_Chain_effect, ⟨a_Chain_effect, g_Chain_effect, t_Chain_effect, ⟨_, r_Chain_effect⟩⟩⟩
  have m_hadd : MHa l.prog w K mg base C CA CH := ⟨sfCH, ⟨_, rOf (ok_hadd TH F_Chain___add__) B_Chain___add__, a_Chain___add__, i_Chain___add__⟩⟩
  have m_hget : MHg l.prog w K mg base C CA CH := ⟨⟨_, rOf (ok_hget TXH F_Chain___getitem__) B_Chain___getitem__, a_Chain___getitem__, i_Chain___getitem__, fi_hget⟩⟩
  have m_hdB : MHdB l.prog w K mg base C CA CH CW e7 [(PP_ascending_fractions, qA), (PP_law, qL)] := ⟨clCH, _, _, FnOk.or (ok_hdraw TXH b_enumerate d_traced F_Chain_draw) (ok_hdrawX TXH b_enumerate (DX.or d_traced d_tracedX) F_Chain_draw), B_Chain_draw, ⟨a_Chain_draw, i_Chain_draw, k_Chain_draw⟩⟩
  have d_square_ahead : D l.prog w K mg base "square_ahead" 3 (sp_sqa K) := ⟨_, rOf (ok_square_ahead d_fraction F_square_ahead) B_square_ahead, k_square_ahead, PySem.W.mg_of X G a_square_ahead⟩
  have d_zones : D l.prog w K mg base "zones" 7 (sp_zones K C CA CH) := ⟨_, rOf (ok_zones m_A_effect m_A_pole m_A_near m_A_far m_H_arms m_rs m_iv m_ca m_pg d_still_copy d_square_ahead F_zones) B_zones, k_zones, PySem.W.mg_of X G a_zones⟩
  have d_is_in_all : D l.prog w K mg base "is_in_all" 6 (sp_iia K) := ⟨_, rOf (ok_is_in_all b_all d_square_between d_is_from_to F_is_in_all) B_is_in_all, k_is_in_all, PySem.W.mg_of X G a_is_in_all⟩
  have d_reachable_spots : D l.prog w K mg base "reachable_spots" 8 (sp_rspots K C CA CH) := ⟨_, rOf (ok_reachable_spots b_list b_range d_check_limit d_zones d_is_in_all F_reachable_spots) B_reachable_spots, k_reachable_spots, PySem.W.mg_of X G a_reachable_spots⟩
  have d_reachable_spotsX : DX l.prog w K mg base "reachable_spots" 8 (sp_rspotsX e9) := ⟨_, rOfX (ok_reachable_spotsX d_check_limitX F_reachable_spots) B_reachable_spots, k_reachable_spots, PySem.W.mg_of X G a_reachable_spots⟩
  have d_can_draw : D l.prog w K mg base "can_draw" 10 (sp_cdr K C CA CH CW [(PP_ascending_fractions, qA), (PP_law, qL)]) := ⟨_, rOf (ok_can_draw m_hdB m_OutOfReach xx_77 F_can_draw) B_can_draw, k_can_draw, PySem.W.mg_of X G a_can_draw⟩
  have d_law_random : D l.prog w K mg base "_law_random" 1 (sp_random K) := ⟨_, rOf (ok_law_random b_abs F_law_random) B_law_random, k_law_random, PySem.W.mg_of X G a_law_random⟩
  have d_law_below : D l.prog w K mg base "_law_below" 1 sp_below := ⟨_, rOf (ok_law_below b_len F_law_below) B_law_below, k_law_below, PySem.W.mg_of X G a_law_below⟩
  have d_law_step : D l.prog w K mg base "_law_step" 2 (sp_step K) := ⟨_, rOf (ok_law_step d_law_below F_law_step) B_law_step, k_law_step, PySem.W.mg_of X G a_law_step⟩
  have d_law_turn : D l.prog w K mg base "_law_turn" 2 (sp_draw fun H r => ∃ t, IsT K H r t ∧ TurnIn t) := ⟨_, rOf (ok_law_turn d_law_below F_law_turn) B_law_turn, k_law_turn, PySem.W.mg_of X G a_law_turn⟩
  have d_law_common : D l.prog w K mg base "_law_common" 1 sp_gcd := ⟨_, rOf (ok_law_common b_abs F_law_common) B_law_common, k_law_common, PySem.W.mg_of X G a_law_common⟩
  have d_law_lowest : D l.prog w K mg base "_law_lowest" 2 (sp_low K) := ⟨_, rOf (ok_law_lowest d_law_common F_law_lowest) B_law_lowest, k_law_lowest, PySem.W.mg_of X G a_law_lowest⟩
  have d_law_spot : D l.prog w K mg base "_law_spot" 3 (sp_draw fun H r => ∃ t, IsT K H r t ∧ SpotIn t) := ⟨_, rOf (ok_law_spot d_law_below d_law_lowest F_law_spot) B_law_spot, k_law_spot, PySem.W.mg_of X G a_law_spot⟩
  have d_law_arm_told : D l.prog w K mg base "_law_arm_told" 4 (sp_draw fun H r => ∃ a, IsB K H r a ∧ ArmIn a) := ⟨_, rOf (ok_law_arm_told d_law_below d_law_step d_law_turn d_law_spot F_law_arm_told) B_law_arm_told, k_law_arm_told, PySem.W.mg_of X G a_law_arm_told⟩
  have d_law_arm : D l.prog w K mg base "_law_arm" 9 (sp_armOf K C CA) := ⟨_, rOf (ok_law_arm TA F_law_arm) B_law_arm, k_law_arm, PySem.W.mg_of X G a_law_arm⟩
  have d_law_drawing : D l.prog w K mg base "_law_drawing" 8 (sp_ldrawingL K CW) := ⟨_, rOf (ok_law_drawingL TW m_wadd F_law_drawing) B_law_drawing, k_law_drawing, PySem.W.mg_of X G a_law_drawing⟩
  have d_law_chain : D l.prog w K mg base "_law_chain" 11 (sp_lchain K C CA CH) := ⟨_, rOf (ok_law_chain TH m_hadd d_law_arm F_law_chain) B_law_chain, k_law_chain, PySem.W.mg_of X G a_law_chain⟩
  have d_law_equal_0 : D l.prog w K mg base "_law_equal" 0 (sp_equal K 0) := ⟨_, fun A outer s H us vs Q E hr e0 r h => absurd h (by rintro ⟨_, _, _, _, _, _, z, _⟩; exact z), k_law_equal, PySem.W.mg_of X G a_law_equal⟩
  have d_law_equal_1 : D l.prog w K mg base "_law_equal" 1 (sp_equal K 1) := ⟨_, rOf (ok_law_equal b_isinstance b_int b_bool b_str b_tuple b_list b_len b_all b_range d_law_equal_0 F_law_equal) B_law_equal, k_law_equal, PySem.W.mg_of X G a_law_equal⟩
  have d_law_equal_2 : D l.prog w K mg base "_law_equal" 2 (sp_equal K 2) := ⟨_, rOf (ok_law_equal b_isinstance b_int b_bool b_str b_tuple b_list b_len b_all b_range d_law_equal_1 F_law_equal) B_law_equal, k_law_equal, PySem.W.mg_of X G a_law_equal⟩
  have d_law_equal_3 : D l.prog w K mg base "_law_equal" 3 (sp_equal K 3) := ⟨_, rOf (ok_law_equal b_isinstance b_int b_bool b_str b_tuple b_list b_len b_all b_range d_law_equal_2 F_law_equal) B_law_equal, k_law_equal, PySem.W.mg_of X G a_law_equal⟩
  have d_law_equal_4 : D l.prog w K mg base "_law_equal" 4 (sp_equal K 4) := ⟨_, rOf (ok_law_equal b_isinstance b_int b_bool b_str b_tuple b_list b_len b_all b_range d_law_equal_3 F_law_equal) B_law_equal, k_law_equal, PySem.W.mg_of X G a_law_equal⟩
  have d_law_equal_5 : D l.prog w K mg base "_law_equal" 5 (sp_equal K 5) := ⟨_, rOf (ok_law_equal b_isinstance b_int b_bool b_str b_tuple b_list b_len b_all b_range d_law_equal_4 F_law_equal) B_law_equal, k_law_equal, PySem.W.mg_of X G a_law_equal⟩
  have d_law_equal_6 : D l.prog w K mg base "_law_equal" 6 (sp_equal K 6) := ⟨_, rOf (ok_law_equal b_isinstance b_int b_bool b_str b_tuple b_list b_len b_all b_range d_law_equal_5 F_law_equal) B_law_equal, k_law_equal, PySem.W.mg_of X G a_law_equal⟩
  have d_law_equal := d_law_equal_6
  have d_law_over : D l.prog w K mg base "_law_over" 1 (sp_one K over) := ⟨_, rOf (ok_law_over F_law_over) B_law_over, k_law_over, PySem.W.mg_of X G a_law_over⟩
  have d_law_plus : D l.prog w K mg base "_law_plus" 3 (sp_two K plus) := ⟨_, rOf (ok_law_plus d_law_lowest F_law_plus) B_law_plus, k_law_plus, PySem.W.mg_of X G a_law_plus⟩
  have d_law_times : D l.prog w K mg base "_law_times" 3 (sp_two K times) := ⟨_, rOf (ok_law_times d_law_lowest F_law_times) B_law_times, k_law_times, PySem.W.mg_of X G a_law_times⟩
  have d_law_minus : D l.prog w K mg base "_law_minus" 4 (sp_two K minus) := ⟨_, rOf (ok_law_minus d_law_plus F_law_minus) B_law_minus, k_law_minus, PySem.W.mg_of X G a_law_minus⟩
  have d_law_carried : D l.prog w K mg base "_law_carried" 4 (sp_lcar K) := ⟨_, rOf (ok_law_carried d_law_plus d_law_times d_law_over F_law_carried) B_law_carried, k_law_carried, PySem.W.mg_of X G a_law_carried⟩
  have d_law_about : D l.prog w K mg base "_law_about" 5 (sp_labout K) := ⟨_, rOf (ok_law_about d_law_times d_law_over d_law_minus F_law_about) B_law_about, k_law_about, PySem.W.mg_of X G a_law_about⟩
  have d_law_ratio : D l.prog w K mg base "_law_ratio" 3 (sp_ratio K) := ⟨_, rOf (ok_law_ratio d_law_lowest F_law_ratio) B_law_ratio, k_law_ratio, PySem.W.mg_of X G a_law_ratio⟩
  have d_law_size : D l.prog w K mg base "_law_size" 4 (sp_size K) := ⟨_, rOf (ok_law_size d_law_ratio F_law_size) B_law_size, k_law_size, PySem.W.mg_of X G a_law_size⟩
  have d_law_less : D l.prog w K mg base "_law_less" 1 (sp_lless K) := ⟨_, rOf (ok_law_less F_law_less) B_law_less, k_law_less, PySem.W.mg_of X G a_law_less⟩
  have d_law_reached : D l.prog w K mg base "_law_reached" 5 (sp_reached K) := ⟨_, rOf (ok_law_reached d_law_size d_law_minus d_law_less F_law_reached) B_law_reached, k_law_reached, PySem.W.mg_of X G a_law_reached⟩
  have d_law_near : D l.prog w K mg base "_law_near" 5 (sp_lnear K) := ⟨_, rOf (ok_law_near d_law_minus d_law_times d_law_over d_law_size d_law_less d_law_ratio F_law_near) B_law_near, k_law_near, PySem.W.mg_of X G a_law_near⟩
  have d_law_traced : D l.prog w K mg base "_law_traced" 6 (sp_ltraced K) := ⟨_, rOf (ok_law_traced b_len b_range d_law_near d_law_reached d_law_less F_law_traced) B_law_traced, k_law_traced, PySem.W.mg_of X G a_law_traced⟩
  have d_law_moved : D l.prog w K mg base "_law_moved" 5 (sp_lmoved K) := ⟨_, rOf (ok_law_moved b_tuple d_law_carried F_law_moved) B_law_moved, k_law_moved, PySem.W.mg_of X G a_law_moved⟩
  have d_law_missed : D l.prog w K mg base "_law_missed" 7 (sp_lmissed K) := ⟨_, rOf (ok_law_missed b_len b_range d_law_traced d_law_about d_law_moved F_law_missed) B_law_missed, k_law_missed, PySem.W.mg_of X G a_law_missed⟩
  exact ok_law (Cs := fun j => [e0, e1, e2, e3, e4, e5, e6, e7, e8, e9, e10, e11, e12, e13, e14, e15, e16, e17, e18, e19].getD j 0) TH TA m_hget m_rch b_isinstance b_ValueError b_len b_range b_int m_B ER m_E k_law_error_of l_law_error_of c_law_error_of B_law_error_of d_law_random d_law_below d_law_arm_told d_law_drawing d_law_chain d_law_missed d_law_equal d_can_draw d_reachable_spots d_reachable_spotsX (.tail _ (.head _)) (huB ne_ascending_fractions) (TB (cc_law, PP_law) (by simp)) l_law c_law
end My
open PySem PySem.W PyProof.Rows in
set_option maxRecDepth 100000 in
set_option maxHeartbeats 0 in
theorem PySem.Challenge.cw_copyarms_k20_spots_in_reach_holds : PySem.Challenge.rw_copyarms_k20_spots_in_reach.Holds := by
  w_on; o_law
  refine HandSHeadRun.head_any (r := My.R) (q := My.qv) (H := PySem.W.kHook My.fragHere.heap_1 My.addrs My.addrs_eq) (ob := My.ob) (M := 20000) (loose := My.loose) (d := HandSHeadRun.topDef My.R.prog 104) (kwd := []) My.ob_eq ?e ?f My.run ?hdef ?hp ?hk ?hwr ?k1 ?ok ?hb ?hw ?hc
  case e => kernel_rfl
  case f => intro s; kernel_rfl
  case hdef => kernel_rfl
  case hp => kernel_rfl
  case hk => kernel_rfl
  case hwr => rfl
  case k1 => first | assumption | decide +kernel
  case ok => decide +kernel
  case hb => exact ⟨rfl, rfl, rfl, rfl, rfl, by decide +kernel⟩
  case hw => w_witness2
  case hc =>
    k_fill
    refine My.walk_blank (lw := PySem.Challenge.rw_copyarms_k20_spots_in_reach) (most := 63) (lev := 15) (par := "_law_script") (CQ := fun _ => L2.CX0) ["ascending_fractions", "law"] rfl (by decide) rfl ⟨rfl, by decide, by decide⟩ ?R (fun w h Y => by first | exact PySem.W.km_in_of Y | exact PySem.W.kIn_of Y) ?F (fun _ _ _ _ _ z => z)
    case R => first | rfl | decide +kernel
    case F =>
      intro w mg fa h Y KX G hmg bl
      refine' My.all_mk KX G hmg bl ?z_abs ?z_len ?z_isinstance ?z_int ?z_bool ?z_str ?z_tuple ?z_list ?z_all ?z_range ?z_enumerate ?z_zip ?z_max ?z_sorted ?z_ValueError ?m_MIDDLE ?u_MIDDLE ?m_ONE ?u_ONE ?mi_MOST_SPOTS ?mi_MOST_STROKES ?mi_MOST_REACH ?mi_MOST_ARMS ?mi_MOST_LIMIT ?g_CB ?ge_0 ?ge_1 ?ge_2 ?ge_3 ?ge_4 ?ge_5 ?ge_6 ?ge_7 ?ge_8 ?ge_9 ?ge_10 ?ge_11 ?ge_12 ?ge_13 ?ge_14 ?ge_15 ?ge_16 ?ge_17 ?ge_18 ?ge_19 ?xc_n ?xc_t ?xg_9 ?xk_9 ?xs_9 ?xd_9 ?xa_9 ?xm_9 ?kt_9_0 ?kt_9_1 ?kt_9_2 ?kt_9_3 ?kt_9_4 ?kt_9_5 ?kt_9_6 ?kt_9_7 ?kt_9_8 ?kt_9_9 ?kt_9_10 ?kt_9_11 ?kt_9_12 ?kt_9_13 ?kt_9_14 ?kt_9_15 ?kt_9_16 ?kt_9_17 ?kt_9_18 ?kt_9_19 ?kv_9 ?xx_9 ?xq_9 ?xp_9 ?xt_9 ?a_law_error_of ?l_law_error_of ?c_law_error_of ?k_law_error_of ?xs_7 ?xp_7 ?xt_7 ?xo_7 ?xz_7 ?xn_7_0 ?xn_7_1 ?xn_7_2 ?xi_7 ?xj_7 ?l_OutOfReach___init__ ?c_OutOfReach___init__ ?k_OutOfReach___init__ ?xx_77 ?a_common_divisor ?l_common_divisor ?c_common_divisor ?k_common_divisor ?a_is_whole ?l_is_whole ?c_is_whole ?k_is_whole ?a_is_spot ?l_is_spot ?c_is_spot ?k_is_spot ?a_check_spot ?l_check_spot ?c_check_spot ?k_check_spot ?a_check_turn ?l_check_turn ?c_check_turn ?k_check_turn ?a_check_limit ?l_check_limit ?c_check_limit ?k_check_limit ?a_spot_at ?l_spot_at ?c_spot_at ?k_spot_at ?a_fraction ?l_fraction ?c_fraction ?k_fraction ?a_plus ?l_plus ?c_plus ?k_plus ?a_negative ?l_negative ?c_negative ?k_negative ?a_minus ?l_minus ?c_minus ?k_minus ?a_product ?l_product ?c_product ?k_product ?a_inverse ?l_inverse ?c_inverse ?k_inverse ?a_faced ?l_faced ?c_faced ?k_faced ?a_carried ?l_carried ?c_carried ?k_carried ?a_parting_scale ?l_parting_scale ?c_parting_scale ?k_parting_scale ?a_ascending_fractions ?l_ascending_fractions ?c_ascending_fractions ?k_ascending_fractions ?q_ascending_fractions ?v_ascending_fractions ?n_ascending_fractions ?h_ascending_fractions ?a_parts_of ?l_parts_of ?c_parts_of ?k_parts_of ?a_is_stroke ?l_is_stroke ?c_is_stroke ?k_is_stroke ?a_check_strokes ?l_check_strokes ?c_check_strokes ?k_check_strokes ?a_square_between ?l_square_between ?c_square_between ?k_square_between ?a_is_from_to ?l_is_from_to ?c_is_from_to ?k_is_from_to ?a_square_beside ?l_square_beside ?c_square_beside ?k_square_beside ?a_squares_along ?l_squares_along ?c_squares_along ?k_squares_along ?aC ?inI ?l_Copy___init__ ?c_Copy___init__ ?k_Copy___init__ ?kw_init ?pg ?hdC ?po ?sa ?mkC ?kc ?isI ?nF ?nO ?nL ?ha ?hn ?htk ?hmo ?sf ?a_Copy___rshift__ ?i_Copy___rshift__ ?l_Copy___rshift__ ?c_Copy___rshift__ ?k_Copy___rshift__ ?a_Copy___invert__ ?i_Copy___invert__ ?l_Copy___invert__ ?c_Copy___invert__ ?k_Copy___invert__ ?a_Copy___call__ ?i_Copy___call__ ?l_Copy___call__ ?c_Copy___call__ ?k_Copy___call__ ?fi_call ?a_Copy_growth ?g_Copy_growth ?t_Copy_growth ?r_Copy_growth ?l_Copy_growth ?c_Copy_growth ?k_Copy_growth ?aCW ?inCW ?l_Drawing___init__ ?c_Drawing___init__ ?k_Drawing___init__ ?pgCW ?hdCW ?poCW ?saCW ?mkCW ?kcCW ?isCW ?nCW_held ?a_Drawing_strokes ?g_Drawing_strokes ?t_Drawing_strokes ?r_Drawing_strokes ?l_Drawing_strokes ?c_Drawing_strokes ?k_Drawing_strokes ?sfCW ?a_Drawing___add__ ?i_Drawing___add__ ?l_Drawing___add__ ?c_Drawing___add__ ?k_Drawing___add__ ?a_Drawing_copied ?i_Drawing_copied ?l_Drawing_copied ?c_Drawing_copied ?k_Drawing_copied ?a_still_copy ?l_still_copy ?c_still_copy ?k_still_copy ?a_check_reach ?l_check_reach ?c_check_reach ?k_check_reach ?a_copy_around ?l_copy_around ?c_copy_around ?k_copy_around ?aCA ?inCA ?l_Arm___init__ ?c_Arm___init__ ?k_Arm___init__ ?kw_A ?pgCA ?hdCA ?poCA ?saCA ?mkCA ?kcCA ?isCA ?nCA_centre ?nCA_factor ?nCA_least ?nCA_most ?nCA_flips ?nCA_pen ?haA ?hmA ?a_Arm_pole ?g_Arm_pole ?t_Arm_pole ?r_Arm_pole ?l_Arm_pole ?c_Arm_pole ?k_Arm_pole ?a_Arm_near ?g_Arm_near ?t_Arm_near ?r_Arm_near ?l_Arm_near ?c_Arm_near ?k_Arm_near ?a_Arm_far ?g_Arm_far ?t_Arm_far ?r_Arm_far ?l_Arm_far ?c_Arm_far ?k_Arm_far ?a_Arm_effect ?g_Arm_effect ?t_Arm_effect ?r_Arm_effect ?l_Arm_effect ?c_Arm_effect ?k_Arm_effect ?a_Arm_reaches ?i_Arm_reaches ?l_Arm_reaches ?c_Arm_reaches ?k_Arm_reaches ?a_joint_copy ?l_joint_copy ?c_joint_copy ?k_joint_copy ?a_traced_parts ?l_traced_parts ?c_traced_parts ?k_traced_parts ?a_can_trace ?l_can_trace ?c_can_trace ?k_can_trace ?a_traced ?l_traced ?c_traced ?k_traced ?aCH ?inCH ?l_Chain___init__ ?c_Chain___init__ ?k_Chain___init__ ?pgCH ?hdCH ?poCH ?saCH ?mkCH ?kcCH ?isCH ?nCH_links ?nCH_pen ?a_Chain_arms ?g_Chain_arms ?t_Chain_arms ?r_Chain_arms ?l_Chain_arms ?c_Chain_arms ?k_Chain_arms ?a_Chain_effect ?g_Chain_effect ?t_Chain_effect ?r_Chain_effect ?l_Chain_effect ?c_Chain_effect ?k_Chain_effect ?sfCH ?a_Chain___add__ ?i_Chain___add__ ?l_Chain___add__ ?c_Chain___add__ ?k_Chain___add__ ?a_Chain___getitem__ ?i_Chain___getitem__ ?l_Chain___getitem__ ?c_Chain___getitem__ ?k_Chain___getitem__ ?fi_hget ?a_Chain_draw ?i_Chain_draw ?l_Chain_draw ?c_Chain_draw ?k_Chain_draw ?a_square_ahead ?l_square_ahead ?c_square_ahead ?k_square_ahead ?a_zones ?l_zones ?c_zones ?k_zones ?a_is_in_all ?l_is_in_all ?c_is_in_all ?k_is_in_all ?a_reachable_spots ?l_reachable_spots ?c_reachable_spots ?k_reachable_spots ?a_can_draw ?l_can_draw ?c_can_draw ?k_can_draw ?a_law_random ?l_law_random ?c_law_random ?k_law_random ?a_law_below ?l_law_below ?c_law_below ?k_law_below ?a_law_step ?l_law_step ?c_law_step ?k_law_step ?a_law_turn ?l_law_turn ?c_law_turn ?k_law_turn ?a_law_common ?l_law_common ?c_law_common ?k_law_common ?a_law_lowest ?l_law_lowest ?c_law_lowest ?k_law_lowest ?a_law_spot ?l_law_spot ?c_law_spot ?k_law_spot ?a_law_arm_told ?l_law_arm_told ?c_law_arm_told ?k_law_arm_told ?a_law_arm ?l_law_arm ?c_law_arm ?k_law_arm ?a_law_drawing ?l_law_drawing ?c_law_drawing ?k_law_drawing ?a_law_chain ?l_law_chain ?c_law_chain ?k_law_chain ?a_law_equal ?l_law_equal ?c_law_equal ?k_law_equal ?a_law_over ?l_law_over ?c_law_over ?k_law_over ?a_law_plus ?l_law_plus ?c_law_plus ?k_law_plus ?a_law_times ?l_law_times ?c_law_times ?k_law_times ?a_law_minus ?l_law_minus ?c_law_minus ?k_law_minus ?a_law_carried ?l_law_carried ?c_law_carried ?k_law_carried ?a_law_about ?l_law_about ?c_law_about ?k_law_about ?a_law_ratio ?l_law_ratio ?c_law_ratio ?k_law_ratio ?a_law_size ?l_law_size ?c_law_size ?k_law_size ?a_law_less ?l_law_less ?c_law_less ?k_law_less ?a_law_reached ?l_law_reached ?c_law_reached ?k_law_reached ?a_law_near ?l_law_near ?c_law_near ?k_law_near ?a_law_traced ?l_law_traced ?c_law_traced ?k_law_traced ?a_law_moved ?l_law_moved ?c_law_moved ?k_law_moved ?a_law_missed ?l_law_missed ?c_law_missed ?k_law_missed ?a_law ?l_law ?c_law ?k_law ?q_law ?v_law ?n_law ?h_law ?ne_ascending_fractions
      (case z_abs => k_is)
      (case z_len => k_is)
      (case z_isinstance => k_is)
      (case z_int => k_is)
      (case z_bool => k_is)
      (case z_str => k_is)
      (case z_tuple => k_is)
      (case z_list => k_is)
      (case z_all => k_is)
      (case z_range => k_is)
      (case z_enumerate => k_is)
      (case z_zip => k_is)
      (case z_max => k_is)
      (case z_sorted => k_is)
      (case z_ValueError => k_is)
      (case m_MIDDLE => k_is)
      (case u_MIDDLE => k_is)
      (case m_ONE => k_is)
      (case u_ONE => k_is)
      (case mi_MOST_SPOTS => k_is)
      (case mi_MOST_STROKES => k_is)
      (case mi_MOST_REACH => k_is)
      (case mi_MOST_ARMS => k_is)
      (case mi_MOST_LIMIT => k_is)
      (case g_CB => k_is)
      (case ge_0 => k_is)
      (case ge_1 => k_is)
      (case ge_2 => k_is)
      (case ge_3 => k_is)
      (case ge_4 => k_is)
      (case ge_5 => k_is)
      (case ge_6 => k_is)
      (case ge_7 => k_is)
      (case ge_8 => k_is)
      (case ge_9 => k_is)
      (case ge_10 => k_is)
      (case ge_11 => k_is)
      (case ge_12 => k_is)
      (case ge_13 => k_is)
      (case ge_14 => k_is)
      (case ge_15 => k_is)
      (case ge_16 => k_is)
      (case ge_17 => k_is)
      (case ge_18 => k_is)
      (case ge_19 => k_is)
      (case xc_n => k_is)
      (case xc_t => k_is)
      (case xg_9 => k_is)
      (case xk_9 => k_is)
      (case xs_9 => k_is)
      (case xd_9 => k_is)
      (case xa_9 => k_is)
      (case xm_9 => k_is)
      (case kt_9_0 => first | kernel_rfl | rfl | decide +kernel)
      (case kt_9_1 => first | kernel_rfl | rfl | decide +kernel)
      (case kt_9_2 => first | kernel_rfl | rfl | decide +kernel)
      (case kt_9_3 => first | kernel_rfl | rfl | decide +kernel)
      (case kt_9_4 => first | kernel_rfl | rfl | decide +kernel)
      (case kt_9_5 => first | kernel_rfl | rfl | decide +kernel)
      (case kt_9_6 => first | kernel_rfl | rfl | decide +kernel)
      (case kt_9_7 => first | kernel_rfl | rfl | decide +kernel)
      (case kt_9_8 => first | kernel_rfl | rfl | decide +kernel)
      (case kt_9_9 => first | kernel_rfl | rfl | decide +kernel)
      (case kt_9_10 => first | kernel_rfl | rfl | decide +kernel)
      (case kt_9_11 => first | kernel_rfl | rfl | decide +kernel)
      (case kt_9_12 => first | kernel_rfl | rfl | decide +kernel)
      (case kt_9_13 => first | kernel_rfl | rfl | decide +kernel)
      (case kt_9_14 => first | kernel_rfl | rfl | decide +kernel)
      (case kt_9_15 => first | kernel_rfl | rfl | decide +kernel)
      (case kt_9_16 => first | kernel_rfl | rfl | decide +kernel)
      (case kt_9_17 => first | kernel_rfl | rfl | decide +kernel)
      (case kt_9_18 => first | kernel_rfl | rfl | decide +kernel)
      (case kt_9_19 => first | kernel_rfl | rfl | decide +kernel)
      (case kv_9 => first | kernel_rfl | rfl | decide +kernel)
      (case xx_9 => first | kernel_rfl | rfl | decide +kernel)
      (case xq_9 => k_exc)
      (case xp_9 => k_is)
      (case xt_9 => k_is)
      (case a_law_error_of => k_is)
      (case l_law_error_of => k_is)
      (case c_law_error_of => k_is)
      (case k_law_error_of => k_is)
      (case xs_7 => k_is)
      (case xp_7 => k_is)
      (case xt_7 => k_is)
      (case xo_7 => first | kernel_rfl | rfl | decide +kernel)
      (case xz_7 => k_is)
      (case xn_7_0 => k_is)
      (case xn_7_1 => k_is)
      (case xn_7_2 => k_is)
      (case xi_7 => k_is)
      (case xj_7 => k_is)
      (case l_OutOfReach___init__ => k_is)
      (case c_OutOfReach___init__ => k_is)
      (case k_OutOfReach___init__ => k_is)
      (case xx_77 => first | kernel_rfl | rfl | decide +kernel)
      (case a_common_divisor => k_is)
      (case l_common_divisor => k_is)
      (case c_common_divisor => k_is)
      (case k_common_divisor => k_is)
      (case a_is_whole => k_is)
      (case l_is_whole => k_is)
      (case c_is_whole => k_is)
      (case k_is_whole => k_is)
      (case a_is_spot => k_is)
      (case l_is_spot => k_is)
      (case c_is_spot => k_is)
      (case k_is_spot => k_is)
      (case a_check_spot => k_is)
      (case l_check_spot => k_is)
      (case c_check_spot => k_is)
      (case k_check_spot => k_is)
      (case a_check_turn => k_is)
      (case l_check_turn => k_is)
      (case c_check_turn => k_is)
      (case k_check_turn => k_is)
      (case a_check_limit => k_is)
      (case l_check_limit => k_is)
      (case c_check_limit => k_is)
      (case k_check_limit => k_is)
      (case a_spot_at => k_is)
      (case l_spot_at => k_is)
      (case c_spot_at => k_is)
      (case k_spot_at => k_is)
      (case a_fraction => k_is)
      (case l_fraction => k_is)
      (case c_fraction => k_is)
      (case k_fraction => k_is)
      (case a_plus => k_is)
      (case l_plus => k_is)
      (case c_plus => k_is)
      (case k_plus => k_is)
      (case a_negative => k_is)
      (case l_negative => k_is)
      (case c_negative => k_is)
      (case k_negative => k_is)
      (case a_minus => k_is)
      (case l_minus => k_is)
      (case c_minus => k_is)
      (case k_minus => k_is)
      (case a_product => k_is)
      (case l_product => k_is)
      (case c_product => k_is)
      (case k_product => k_is)
      (case a_inverse => k_is)
      (case l_inverse => k_is)
      (case c_inverse => k_is)
      (case k_inverse => k_is)
      (case a_faced => k_is)
      (case l_faced => k_is)
      (case c_faced => k_is)
      (case k_faced => k_is)
      (case a_carried => k_is)
      (case l_carried => k_is)
      (case c_carried => k_is)
      (case k_carried => k_is)
      (case a_parting_scale => k_is)
      (case l_parting_scale => k_is)
      (case c_parting_scale => k_is)
      (case k_parting_scale => k_is)
      (case a_ascending_fractions => k_is)
      (case l_ascending_fractions => k_is)
      (case c_ascending_fractions => k_is)
      (case k_ascending_fractions => k_is)
      (case q_ascending_fractions => k_is)
      (case v_ascending_fractions => first | exact rfl | (with_unfolding_all exact rfl) | (simp; rfl))
      (case n_ascending_fractions => first | k_is | kernel_rfl | rfl)
      (case h_ascending_fractions => first | kernel_rfl | rfl | decide +kernel)
      (case a_parts_of => k_is)
      (case l_parts_of => k_is)
      (case c_parts_of => k_is)
      (case k_parts_of => k_is)
      (case a_is_stroke => k_is)
      (case l_is_stroke => k_is)
      (case c_is_stroke => k_is)
      (case k_is_stroke => k_is)
      (case a_check_strokes => k_is)
      (case l_check_strokes => k_is)
      (case c_check_strokes => k_is)
      (case k_check_strokes => k_is)
      (case a_square_between => k_is)
      (case l_square_between => k_is)
      (case c_square_between => k_is)
      (case k_square_between => k_is)
      (case a_is_from_to => k_is)
      (case l_is_from_to => k_is)
      (case c_is_from_to => k_is)
      (case k_is_from_to => k_is)
      (case a_square_beside => k_is)
      (case l_square_beside => k_is)
      (case c_square_beside => k_is)
      (case k_square_beside => k_is)
      (case a_squares_along => k_is)
      (case l_squares_along => k_is)
      (case c_squares_along => k_is)
      (case k_squares_along => k_is)
      (case aC => k_is)
      (case inI => k_is)
      (case l_Copy___init__ => k_is)
      (case c_Copy___init__ => k_is)
      (case k_Copy___init__ => k_is)
      (case kw_init => k_is)
      (case pg => k_is)
      (case hdC => k_is)
      (case po => k_is)
      (case sa => k_is)
      (case mkC => k_is)
      (case kc => k_is)
      (case isI => k_is)
      (case nF => k_is)
      (case nO => k_is)
      (case nL => k_is)
      (case ha => k_is)
      (case hn => k_is)
      (case htk => k_is)
      (case hmo => k_is)
      (case sf => k_is)
      (case a_Copy___rshift__ => k_is)
      (case i_Copy___rshift__ => k_is)
      (case l_Copy___rshift__ => k_is)
      (case c_Copy___rshift__ => k_is)
      (case k_Copy___rshift__ => k_is)
      (case a_Copy___invert__ => k_is)
      (case i_Copy___invert__ => k_is)
      (case l_Copy___invert__ => k_is)
      (case c_Copy___invert__ => k_is)
      (case k_Copy___invert__ => k_is)
      (case a_Copy___call__ => k_is)
      (case i_Copy___call__ => k_is)
      (case l_Copy___call__ => k_is)
      (case c_Copy___call__ => k_is)
      (case k_Copy___call__ => k_is)
      (case fi_call => k_is)
      (case a_Copy_growth => k_is)
      (case g_Copy_growth => k_is)
      (case t_Copy_growth => k_is)
      (case r_Copy_growth => k_is)
      (case l_Copy_growth => k_is)
      (case c_Copy_growth => k_is)
      (case k_Copy_growth => k_is)
      (case aCW => k_is)
      (case inCW => k_is)
      (case l_Drawing___init__ => k_is)
      (case c_Drawing___init__ => k_is)
      (case k_Drawing___init__ => k_is)
      (case pgCW => k_is)
      (case hdCW => k_is)
      (case poCW => k_is)
      (case saCW => k_is)
      (case mkCW => k_is)
      (case kcCW => k_is)
      (case isCW => k_is)
      (case nCW_held => k_is)
      (case a_Drawing_strokes => k_is)
      (case g_Drawing_strokes => k_is)
      (case t_Drawing_strokes => k_is)
      (case r_Drawing_strokes => k_is)
      (case l_Drawing_strokes => k_is)
      (case c_Drawing_strokes => k_is)
      (case k_Drawing_strokes => k_is)
      (case sfCW => k_is)
      (case a_Drawing___add__ => k_is)
      (case i_Drawing___add__ => k_is)
      (case l_Drawing___add__ => k_is)
      (case c_Drawing___add__ => k_is)
      (case k_Drawing___add__ => k_is)
      (case a_Drawing_copied => k_is)
      (case i_Drawing_copied => k_is)
      (case l_Drawing_copied => k_is)
      (case c_Drawing_copied => k_is)
      (case k_Drawing_copied => k_is)
      (case a_still_copy => k_is)
      (case l_still_copy => k_is)
      (case c_still_copy => k_is)
      (case k_still_copy => k_is)
      (case a_check_reach => k_is)
      (case l_check_reach => k_is)
      (case c_check_reach => k_is)
      (case k_check_reach => k_is)
      (case a_copy_around => k_is)
      (case l_copy_around => k_is)
      (case c_copy_around => k_is)
      (case k_copy_around => k_is)
      (case aCA => k_is)
      (case inCA => k_is)
      (case l_Arm___init__ => k_is)
      (case c_Arm___init__ => k_is)
      (case k_Arm___init__ => k_is)
      (case kw_A => k_is)
      (case pgCA => k_is)
      (case hdCA => k_is)
      (case poCA => k_is)
      (case saCA => k_is)
      (case mkCA => k_is)
      (case kcCA => k_is)
      (case isCA => k_is)
      (case nCA_centre => k_is)
      (case nCA_factor => k_is)
      (case nCA_least => k_is)
      (case nCA_most => k_is)
      (case nCA_flips => k_is)
      (case nCA_pen => k_is)
      (case haA => k_is)
      (case hmA => k_is)
      (case a_Arm_pole => k_is)
      (case g_Arm_pole => k_is)
      (case t_Arm_pole => k_is)
      (case r_Arm_pole => k_is)
      (case l_Arm_pole => k_is)
      (case c_Arm_pole => k_is)
      (case k_Arm_pole => k_is)
      (case a_Arm_near => k_is)
      (case g_Arm_near => k_is)
      (case t_Arm_near => k_is)
      (case r_Arm_near => k_is)
      (case l_Arm_near => k_is)
      (case c_Arm_near => k_is)
      (case k_Arm_near => k_is)
      (case a_Arm_far => k_is)
      (case g_Arm_far => k_is)
      (case t_Arm_far => k_is)
      (case r_Arm_far => k_is)
      (case l_Arm_far => k_is)
      (case c_Arm_far => k_is)
      (case k_Arm_far => k_is)
      (case a_Arm_effect => k_is)
      (case g_Arm_effect => k_is)
      (case t_Arm_effect => k_is)
      (case r_Arm_effect => k_is)
      (case l_Arm_effect => k_is)
      (case c_Arm_effect => k_is)
      (case k_Arm_effect => k_is)
      (case a_Arm_reaches => k_is)
      (case i_Arm_reaches => k_is)
      (case l_Arm_reaches => k_is)
      (case c_Arm_reaches => k_is)
      (case k_Arm_reaches => k_is)
      (case a_joint_copy => k_is)
      (case l_joint_copy => k_is)
      (case c_joint_copy => k_is)
      (case k_joint_copy => k_is)
      (case a_traced_parts => k_is)
      (case l_traced_parts => k_is)
      (case c_traced_parts => k_is)
      (case k_traced_parts => k_is)
      (case a_can_trace => k_is)
      (case l_can_trace => k_is)
      (case c_can_trace => k_is)
      (case k_can_trace => k_is)
      (case a_traced => k_is)
      (case l_traced => k_is)
      (case c_traced => k_is)
      (case k_traced => k_is)
      (case aCH => k_is)
      (case inCH => k_is)
      (case l_Chain___init__ => k_is)
      (case c_Chain___init__ => k_is)
      (case k_Chain___init__ => k_is)
      (case pgCH => k_is)
      (case hdCH => k_is)
      (case poCH => k_is)
      (case saCH => k_is)
      (case mkCH => k_is)
      (case kcCH => k_is)
      (case isCH => k_is)
      (case nCH_links => k_is)
      (case nCH_pen => k_is)
      (case a_Chain_arms => k_is)
      (case g_Chain_arms => k_is)
      (case t_Chain_arms => k_is)
      (case r_Chain_arms => k_is)
      (case l_Chain_arms => k_is)
      (case c_Chain_arms => k_is)
      (case k_Chain_arms => k_is)
      (case a_Chain_effect => k_is)
      (case g_Chain_effect => k_is)
      (case t_Chain_effect => k_is)
      (case r_Chain_effect => k_is)
      (case l_Chain_effect => k_is)
      (case c_Chain_effect => k_is)
      (case k_Chain_effect => k_is)
      (case sfCH => k_is)
      (case a_Chain___add__ => k_is)
      (case i_Chain___add__ => k_is)
      (case l_Chain___add__ => k_is)
      (case c_Chain___add__ => k_is)
      (case k_Chain___add__ => k_is)
      (case a_Chain___getitem__ => k_is)
      (case i_Chain___getitem__ => k_is)
      (case l_Chain___getitem__ => k_is)
      (case c_Chain___getitem__ => k_is)
      (case k_Chain___getitem__ => k_is)
      (case fi_hget => k_is)
      (case a_Chain_draw => k_is)
      (case i_Chain_draw => k_is)
      (case l_Chain_draw => k_is)
      (case c_Chain_draw => k_is)
      (case k_Chain_draw => k_is)
      (case a_square_ahead => k_is)
      (case l_square_ahead => k_is)
      (case c_square_ahead => k_is)
      (case k_square_ahead => k_is)
      (case a_zones => k_is)
      (case l_zones => k_is)
      (case c_zones => k_is)
      (case k_zones => k_is)
      (case a_is_in_all => k_is)
      (case l_is_in_all => k_is)
      (case c_is_in_all => k_is)
      (case k_is_in_all => k_is)
      (case a_reachable_spots => k_is)
      (case l_reachable_spots => k_is)
      (case c_reachable_spots => k_is)
      (case k_reachable_spots => k_is)
      (case a_can_draw => k_is)
      (case l_can_draw => k_is)
      (case c_can_draw => k_is)
      (case k_can_draw => k_is)
      (case a_law_random => k_is)
      (case l_law_random => k_is)
      (case c_law_random => k_is)
      (case k_law_random => k_is)
      (case a_law_below => k_is)
      (case l_law_below => k_is)
      (case c_law_below => k_is)
      (case k_law_below => k_is)
      (case a_law_step => k_is)
      (case l_law_step => k_is)
      (case c_law_step => k_is)
      (case k_law_step => k_is)
      (case a_law_turn => k_is)
      (case l_law_turn => k_is)
      (case c_law_turn => k_is)
      (case k_law_turn => k_is)
      (case a_law_common => k_is)
      (case l_law_common => k_is)
      (case c_law_common => k_is)
      (case k_law_common => k_is)
      (case a_law_lowest => k_is)
      (case l_law_lowest => k_is)
      (case c_law_lowest => k_is)
      (case k_law_lowest => k_is)
      (case a_law_spot => k_is)
      (case l_law_spot => k_is)
      (case c_law_spot => k_is)
      (case k_law_spot => k_is)
      (case a_law_arm_told => k_is)
      (case l_law_arm_told => k_is)
      (case c_law_arm_told => k_is)
      (case k_law_arm_told => k_is)
      (case a_law_arm => k_is)
      (case l_law_arm => k_is)
      (case c_law_arm => k_is)
      (case k_law_arm => k_is)
      (case a_law_drawing => k_is)
      (case l_law_drawing => k_is)
      (case c_law_drawing => k_is)
      (case k_law_drawing => k_is)
      (case a_law_chain => k_is)
      (case l_law_chain => k_is)
      (case c_law_chain => k_is)
      (case k_law_chain => k_is)
      (case a_law_equal => k_is)
      (case l_law_equal => k_is)
      (case c_law_equal => k_is)
      (case k_law_equal => k_is)
      (case a_law_over => k_is)
      (case l_law_over => k_is)
      (case c_law_over => k_is)
      (case k_law_over => k_is)
      (case a_law_plus => k_is)
      (case l_law_plus => k_is)
      (case c_law_plus => k_is)
      (case k_law_plus => k_is)
      (case a_law_times => k_is)
      (case l_law_times => k_is)
      (case c_law_times => k_is)
      (case k_law_times => k_is)
      (case a_law_minus => k_is)
      (case l_law_minus => k_is)
      (case c_law_minus => k_is)
      (case k_law_minus => k_is)
      (case a_law_carried => k_is)
      (case l_law_carried => k_is)
      (case c_law_carried => k_is)
      (case k_law_carried => k_is)
      (case a_law_about => k_is)
      (case l_law_about => k_is)
      (case c_law_about => k_is)
      (case k_law_about => k_is)
      (case a_law_ratio => k_is)
      (case l_law_ratio => k_is)
      (case c_law_ratio => k_is)
      (case k_law_ratio => k_is)
      (case a_law_size => k_is)
      (case l_law_size => k_is)
      (case c_law_size => k_is)
      (case k_law_size => k_is)
      (case a_law_less => k_is)
      (case l_law_less => k_is)
      (case c_law_less => k_is)
      (case k_law_less => k_is)
      (case a_law_reached => k_is)
      (case l_law_reached => k_is)
      (case c_law_reached => k_is)
      (case k_law_reached => k_is)
      (case a_law_near => k_is)
      (case l_law_near => k_is)
      (case c_law_near => k_is)
      (case k_law_near => k_is)
      (case a_law_traced => k_is)
      (case l_law_traced => k_is)
      (case c_law_traced => k_is)
      (case k_law_traced => k_is)
      (case a_law_moved => k_is)
      (case l_law_moved => k_is)
      (case c_law_moved => k_is)
      (case k_law_moved => k_is)
      (case a_law_missed => k_is)
      (case l_law_missed => k_is)
      (case c_law_missed => k_is)
      (case k_law_missed => k_is)
      (case a_law => k_is)
      (case l_law => k_is)
      (case c_law => k_is)
      (case k_law => k_is)
      (case q_law => k_is)
      (case v_law => first | exact rfl | (with_unfolding_all exact rfl) | (simp; rfl))
      (case n_law => first | k_is | kernel_rfl | rfl)
      (case h_law => first | kernel_rfl | rfl | decide +kernel)
      (case ne_ascending_fractions => first | rfl | decide | kernel_rfl)
#print axioms PySem.Challenge.cw_copyarms_k20_spots_in_reach_holds
