import PyProof.Rows.All
import Wide.All
import OpenK.AllK
import Wide.FinOn
import PyProof.NoPylong
import PyProof.Fits
import Open.SpecLaws
import KE.OsGo
import Flt.Len
import HandS.ForSpec
import HandS.Comp
import PyWideLaws
import HandS.Dict
import HandS.More
import HandS.SetFor
import HandS.WordsDict
import PySem.Challenge.RW_taxirank_s01_answers
set_option Elab.async false
set_option linter.all false
set_option maxRecDepth 100000
set_option maxHeartbeats 2000000
/-! ### rules of my own: great products, // by a divisor of any size, the call of the row with one more fact -/
namespace TR
open PySem PySem.Spec PyProof.Rows L2

/-- two factors of together less than a hundred million bits -/
def CMulB (i j : Int) : Prop := i.natAbs.log2 + j.natAbs.log2 < 100000000
theorem CMulB.ok {i j : Int} (h : CMulB i j) : IntMulOk i j := by
  have bound : ∀ x : Int, Builtin.Int.intBits x ≤ x.natAbs.log2 + 1 := by
    intro x
    unfold Builtin.Int.intBits
    split <;> omega
  have bi := bound i
  have bj := bound j
  have hb : i.natAbs.log2 + j.natAbs.log2 < 100000000 := h
  have line : bitsLine = 134217728 := by decide
  unfold IntMulOk
  intro big
  have big2 := (Bool.and_eq_true_iff.mp big).2
  unfold Builtin.Int.intTooBig at big2
  have big3 := of_decide_eq_true big2
  rw [line] at big3
  omega
section
variable {X : Cx}
theorem op_mulB : OpR X (binaryOp .Mult) (rI CMulB fun i j => .int (i * j)) :=
  opI fun i j t u s Q E hc q => mul_int q hc.ok
/-- what a frame must be like for a division of any size -/
structure Seen (X : Cx) : Prop where
  none : X.base.NoSeer
  tree : X.prog.given.tree = Option.none
  room : X.A.depth + Builtin.pylongFrames < recursionLimit
  stack : X.stack = X.env :: X.outer
  gen : X.env.scope.isGenerator = false
  co : X.env.scope.isCoroutine = false
theorem op_fdivB (S : Seen X) : OpR X (binaryOp .FloorDiv) (rI (fun _ j => 0 < j) fun i j => .int (i / j)) := by
  intro pins s σ H x y v u Q I rx ry want
  obtain ⟨i, j, rfl, rfl, pos, q⟩ := want
  obtain ⟨t1, rfl⟩ := rx
  obtain ⟨t2, rfl⟩ := ry
  have pos' : (0 : Int) < j := pos
  have seer : SeerAt (model X.prog X.w) X.A s.heap :=
    SeerAt.of (env := X.env) (l := X.outer) (S.none.keeps I.bk) S.tree (by rw [I.ok.frames, S.stack]) S.gen S.co I.ok.blt I.ok.glob
  refine floordiv_int (by omega) ?_ (Or.inr (PylongRoom.of I.nolimit S.room seer))
  rw [Int.fdiv_eq_ediv_of_nonneg i (by omega)]
  exact ⟨V.int (i / j), H, I.tok _, ⟨_, rfl⟩, q⟩
end
/-- products by bounds -/
theorem mulB {i j : Int} {a b : Nat} (ha : i.natAbs < 2 ^ a) (hb : j.natAbs < 2 ^ b) (h0 : 0 < a) (h1 : 0 < b) (h : a + b ≤ 100000000) : CMulB i j := by
  have x := PySem.Flt.log2_lt_of h0 ha
  have y := PySem.Flt.log2_lt_of h1 hb
  unfold CMulB
  omega
end TR


set_option linter.all false
namespace TR
open Mu30 (Q frac)

/-! fractions in lowest terms, as numbers -/
def val (q : Q) : Rat := mkRat q.n q.d
structure Ok (q : Q) : Prop where
  nn : 0 ≤ q.n
  dp : 0 < q.d
  cop : Nat.gcd q.n.natAbs q.d = 1

theorem val_def {q : Q} : val q = (q.n : Rat) / ((q.d : Int) : Rat) := by
  unfold val
  rw [Rat.mkRat_eq_div]
  rfl
theorem val_inj {x y : Q} (hx : Ok x) (hy : Ok y) (h : val x = val y) : x = y := by
  unfold val at h
  have h1 := (Rat.mkRat_eq_iff (Nat.ne_of_gt hx.dp) (Nat.ne_of_gt hy.dp)).mp h
  have nx := hx.nn; have ny := hy.nn
  obtain ⟨a, ea⟩ := Int.eq_ofNat_of_zero_le nx
  obtain ⟨b, eb⟩ := Int.eq_ofNat_of_zero_le ny
  have cx := hx.cop; have cy := hy.cop
  rw [ea] at h1 cx; rw [eb] at h1 cy
  have h2 : a * y.d = b * x.d := by exact_mod_cast h1
  have cx' : Nat.gcd a x.d = 1 := by simpa using cx
  have cy' : Nat.gcd b y.d = 1 := by simpa using cy
  have d1 : x.d ∣ y.d := by
    have : x.d ∣ a * y.d := ⟨b, by rw [h2, Nat.mul_comm]⟩
    exact Nat.Coprime.dvd_of_dvd_mul_left (Nat.Coprime.symm cx') this
  have d2 : y.d ∣ x.d := by
    have : y.d ∣ b * x.d := ⟨a, by rw [← h2, Nat.mul_comm]⟩
    exact Nat.Coprime.dvd_of_dvd_mul_left (Nat.Coprime.symm cy') this
  have e : x.d = y.d := Nat.dvd_antisymm d1 d2
  rw [e] at h2
  have e2 : a = b := Nat.eq_of_mul_eq_mul_right hy.dp h2
  cases x; cases y
  simp only at ea eb e
  subst ea eb e e2
  rfl

/-- what frac is, of a number that is not below 0 and one above 0 -/
theorem frac_pos {n d : Nat} (hd : 0 < d) : frac (n : Int) (d : Int) = ⟨((n / Nat.gcd n d : Nat) : Int), d / Nat.gcd n d⟩ := by
  unfold frac
  rw [if_neg (by omega)]
  simp only [Int.natAbs_natCast]
  rw [if_neg (by omega)]
  simp
theorem frac_ok {n d : Int} (hn : 0 ≤ n) (hd : 0 < d) : Ok (frac n d) := by
  obtain ⟨a, rfl⟩ := Int.eq_ofNat_of_zero_le hn
  obtain ⟨b, rfl⟩ := Int.eq_ofNat_of_zero_le (Int.le_of_lt hd)
  have hb : 0 < b := by omega
  have e : frac (a : Int) (b : Int) = _ := frac_pos hb
  have g : 0 < Nat.gcd a b := Nat.gcd_pos_of_pos_right _ hb
  have q : Ok (frac (a : Int) (b : Int)) := by
    rw [e]
    refine ⟨Int.natCast_nonneg _, Nat.div_pos (Nat.le_of_dvd hb (Nat.gcd_dvd_right a b)) g, ?_⟩
    show Nat.gcd (((a / Nat.gcd a b : Nat) : Int)).natAbs (b / Nat.gcd a b) = 1
    rw [Int.natAbs_natCast]
    exact Nat.coprime_div_gcd_div_gcd g
  exact q
theorem val_frac {n d : Int} (hn : 0 ≤ n) (hd : 0 < d) : val (frac n d) = (n : Rat) / (d : Rat) := by
  obtain ⟨a, rfl⟩ := Int.eq_ofNat_of_zero_le hn
  obtain ⟨b, rfl⟩ := Int.eq_ofNat_of_zero_le (Int.le_of_lt hd)
  have hb : 0 < b := by omega
  have e : frac (a : Int) (b : Int) = _ := frac_pos hb
  have g : 0 < Nat.gcd a b := Nat.gcd_pos_of_pos_right _ hb
  have e1 : val (frac (a : Int) (b : Int)) = mkRat (a : Int) b := by
    rw [e]
    unfold val
    rw [Rat.mkRat_eq_iff (Nat.ne_of_gt (Nat.div_pos (Nat.le_of_dvd hb (Nat.gcd_dvd_right a b)) g)) (Nat.ne_of_gt hb)]
    have h1 : a / Nat.gcd a b * b = a * (b / Nat.gcd a b) := by
      obtain ⟨u, hu⟩ := Nat.gcd_dvd_left a b
      obtain ⟨w, hw⟩ := Nat.gcd_dvd_right a b
      generalize Nat.gcd a b = G at *
      subst hu hw
      rw [Nat.mul_div_cancel_left _ g, Nat.mul_div_cancel_left _ g]
      rw [Nat.mul_left_comm, Nat.mul_assoc]
    show ((a / Nat.gcd a b : Nat) : Int) * (b : Int) = (a : Int) * ((b / Nat.gcd a b : Nat) : Int)
    exact_mod_cast h1
  rw [e1, Rat.mkRat_eq_div]
  rfl

theorem whole_ok {n : Int} (h : 0 ≤ n) : Ok (Mu30.whole n) := ⟨h, Nat.one_pos, Nat.gcd_one_right _⟩
theorem val_whole {n : Int} : val (Mu30.whole n) = (n : Rat) := by
  rw [val_def]
  show (n : Rat) / ((1 : Int) : Rat) = _
  grind
theorem val_nat {n : Nat} : val (Mu30.nat n) = ((n : Int) : Rat) := val_whole
theorem nat_ok (n : Nat) : Ok (Mu30.nat n) := whole_ok (Int.natCast_nonneg _)

theorem d_pos {q : Q} (h : Ok q) : (0 : Rat) < ((q.d : Int) : Rat) := by
  have := h.dp
  have h1 : (0 : Int) < (q.d : Int) := by omega
  exact_mod_cast h1
theorem val_nn {q : Q} (h : Ok q) : 0 ≤ val q := by
  rw [val_def]
  have h1 : (0 : Rat) ≤ (q.n : Rat) := Rat.intCast_nonneg.mpr h.nn
  refine Rat.not_lt.mp fun z => ?_
  have := (Rat.div_lt_iff (d_pos h)).mp z
  grind
theorem n_eq {q : Q} (h : Ok q) : (q.n : Rat) = val q * ((q.d : Int) : Rat) := by
  have := d_pos h
  rw [val_def]
  grind

section
variable {x y : Q}
theorem plus_ok (hx : Ok x) (hy : Ok y) : Ok (x.plus y) :=
  frac_ok (Int.add_nonneg (Int.mul_nonneg hx.nn (Int.natCast_nonneg _)) (Int.mul_nonneg hy.nn (Int.natCast_nonneg _))) (Int.mul_pos (by have := hx.dp; omega) (by have := hy.dp; omega))
theorem val_plus (hx : Ok x) (hy : Ok y) : val (x.plus y) = val x + val y := by
  unfold Q.plus
  rw [val_frac (Int.add_nonneg (Int.mul_nonneg hx.nn (Int.natCast_nonneg _)) (Int.mul_nonneg hy.nn (Int.natCast_nonneg _))) (Int.mul_pos (by have := hx.dp; omega) (by have := hy.dp; omega))]
  have h1 := d_pos hx; have h2 := d_pos hy
  simp only [Rat.intCast_add, Rat.intCast_mul]
  rw [val_def, val_def]
  grind
theorem cross_le (hx : Ok x) (hy : Ok y) : (x.n * (y.d : Int) ≤ y.n * (x.d : Int)) ↔ val x ≤ val y := by
  have h1 := d_pos hx; have h2 := d_pos hy
  have e : (x.n * (y.d : Int) ≤ y.n * (x.d : Int)) ↔ ((x.n : Rat) * ((y.d : Int) : Rat) ≤ (y.n : Rat) * ((x.d : Int) : Rat)) := by
    rw [← Rat.intCast_mul, ← Rat.intCast_mul]
    exact Rat.intCast_le_intCast.symm
  rw [e, n_eq hx, n_eq hy]
  generalize ((x.d : Int) : Rat) = a at *
  generalize ((y.d : Int) : Rat) = b at *
  have hab : 0 < a * b := Rat.mul_pos h1 h2
  have e1 : val x * a * b = val x * (a * b) := by grind
  have e2 : val y * b * a = val y * (a * b) := by grind
  rw [e1, e2]
  exact ⟨fun h => Rat.le_of_mul_le_mul_right h hab, fun h => Rat.mul_le_mul_of_nonneg_right h (Rat.le_of_lt hab)⟩
theorem below_iff (hx : Ok x) (hy : Ok y) : x.below y = true ↔ val x < val y := by
  unfold Q.below
  rw [decide_eq_true_iff, ← Int.not_le, cross_le hy hx, Rat.not_le]
theorem less_nn (hx : Ok x) (hy : Ok y) (h : val y ≤ val x) : 0 ≤ x.n * (y.d : Int) - y.n * (x.d : Int) := by
  have := (cross_le hy hx).mpr h
  omega
theorem less_ok (hx : Ok x) (hy : Ok y) (h : val y ≤ val x) : Ok (x.less y) :=
  frac_ok (less_nn hx hy h) (Int.mul_pos (by have := hx.dp; omega) (by have := hy.dp; omega))
theorem val_less (hx : Ok x) (hy : Ok y) (h : val y ≤ val x) : val (x.less y) = val x - val y := by
  unfold Q.less
  rw [val_frac (less_nn hx hy h) (Int.mul_pos (by have := hx.dp; omega) (by have := hy.dp; omega))]
  have h1 := d_pos hx; have h2 := d_pos hy
  simp only [Rat.intCast_sub, Rat.intCast_mul]
  rw [val_def, val_def]
  grind
theorem times_ok (hx : Ok x) (hy : Ok y) : Ok (x.times y) :=
  frac_ok (Int.mul_nonneg hx.nn hy.nn) (Int.mul_pos (by have := hx.dp; omega) (by have := hy.dp; omega))
theorem val_times (hx : Ok x) (hy : Ok y) : val (x.times y) = val x * val y := by
  unfold Q.times
  rw [val_frac (Int.mul_nonneg hx.nn hy.nn) (Int.mul_pos (by have := hx.dp; omega) (by have := hy.dp; omega))]
  have h1 := d_pos hx; have h2 := d_pos hy
  simp only [Rat.intCast_mul]
  rw [val_def, val_def]
  grind
theorem n_pos (hy : Ok y) (h : 0 < val y) : 0 < y.n := by
  have h2 := d_pos hy
  have h3 : (0 : Rat) < (y.n : Rat) := by
    rw [n_eq hy]
    exact Rat.mul_pos h h2
  exact_mod_cast h3
theorem over_ok (hx : Ok x) (hy : Ok y) (h : 0 < val y) : Ok (x.over y) :=
  frac_ok (Int.mul_nonneg hx.nn (Int.natCast_nonneg _)) (Int.mul_pos (by have := hx.dp; omega) (n_pos hy h))
theorem val_over (hx : Ok x) (hy : Ok y) (h : 0 < val y) : val (x.over y) = val x / val y := by
  unfold Q.over
  rw [val_frac (Int.mul_nonneg hx.nn (Int.natCast_nonneg _)) (Int.mul_pos (by have := hx.dp; omega) (n_pos hy h))]
  have h1 := d_pos hx; have h2 := d_pos hy
  have h3 : (0 : Rat) < (y.n : Rat) := by have := n_pos hy h; exact_mod_cast this
  simp only [Rat.intCast_mul]
  rw [val_def, val_def]
  grind
theorem isUp_iff (hx : Ok x) : x.isUp = true ↔ 0 < val x := by
  unfold Q.isUp
  rw [decide_eq_true_iff]
  refine ⟨fun h => ?_, n_pos hx⟩
  have h2 := d_pos hx
  have h3 : (0 : Rat) < (x.n : Rat) := by exact_mod_cast h
  rw [n_eq hx] at h3
  have h4 := val_nn hx
  refine Rat.lt_of_le_of_ne h4 fun e => ?_
  rw [← e] at h3
  grind
end
end TR


set_option linter.all false
namespace TR
open Mu30 (Q frac)

/-! on the grid of the L-ths -/
def Grid (L : Nat) (x : Rat) : Prop := ∃ k : Int, x * ((L : Int) : Rat) = (k : Rat)
theorem Grid.int (L : Nat) (n : Int) : Grid L (n : Rat) := ⟨n * L, by rw [Rat.intCast_mul]⟩
theorem Grid.add {L : Nat} {x y : Rat} (a : Grid L x) (b : Grid L y) : Grid L (x + y) := by
  obtain ⟨k, hk⟩ := a; obtain ⟨j, hj⟩ := b
  exact ⟨k + j, by rw [Rat.intCast_add, ← hk, ← hj]; grind⟩
theorem Grid.sub {L : Nat} {x y : Rat} (a : Grid L x) (b : Grid L y) : Grid L (x - y) := by
  obtain ⟨k, hk⟩ := a; obtain ⟨j, hj⟩ := b
  exact ⟨k - j, by rw [Rat.intCast_sub, ← hk, ← hj]; grind⟩
theorem Grid.mulInt {L : Nat} {x : Rat} (a : Grid L x) (n : Int) : Grid L (x * (n : Rat)) := by
  obtain ⟨k, hk⟩ := a
  exact ⟨k * n, by rw [Rat.intCast_mul, ← hk]; grind⟩
theorem Grid.finer {L : Nat} {x : Rat} (a : Grid L x) (M : Nat) : Grid (L * M) x := by
  obtain ⟨k, hk⟩ := a
  refine ⟨k * M, ?_⟩
  rw [Rat.intCast_mul, ← hk, Int.natCast_mul, Rat.intCast_mul]
  grind
theorem Grid.div {L : Nat} {x : Rat} (a : Grid L x) {M : Nat} (hM : 0 < M) : Grid (L * M) (x / ((M : Int) : Rat)) := by
  obtain ⟨k, hk⟩ := a
  refine ⟨k, ?_⟩
  have h : ((M : Int) : Rat) ≠ 0 := by
    have : (M : Int) ≠ 0 := by omega
    exact_mod_cast this
  rw [← hk, Int.natCast_mul, Rat.intCast_mul]
  grind
theorem Grid.den {L : Nat} {q : Q} (h : Ok q) (g : Grid L (val q)) : q.d ∣ L := by
  obtain ⟨k, hk⟩ := g
  have hd := d_pos h
  have e : ((q.n * (L : Int) : Int) : Rat) = ((k * (q.d : Int) : Int) : Rat) := by
    rw [Rat.intCast_mul, Rat.intCast_mul, ← hk, n_eq h]
    grind
  have e2 : q.n * (L : Int) = k * (q.d : Int) := by exact_mod_cast e
  have e3 : q.d ∣ q.n.natAbs * L := by
    have := congrArg Int.natAbs e2
    rw [Int.natAbs_mul, Int.natAbs_mul, Int.natAbs_natCast, Int.natAbs_natCast] at this
    exact ⟨k.natAbs, by rw [this, Nat.mul_comm]⟩
  exact Nat.Coprime.dvd_of_dvd_mul_left (Nat.Coprime.symm h.cop) e3
theorem Grid.of (q : Q) (h : Ok q) : Grid q.d (val q) := ⟨q.n, (n_eq h).symm⟩

/-! sizes -/
def Sz (k : Nat) (q : Q) : Prop := q.n.natAbs < 2 ^ k ∧ q.d < 2 ^ k
theorem Sz.mono {j k : Nat} {q : Q} (s : Sz j q) (h : j ≤ k) : Sz k q :=
  ⟨Nat.lt_of_lt_of_le s.1 (Nat.pow_le_pow_right (by decide) h), Nat.lt_of_lt_of_le s.2 (Nat.pow_le_pow_right (by decide) h)⟩
/-- a fraction on a grid, and not above a number -/
theorem Sz.grid {L a b : Nat} {q : Q} (h : Ok q) (g : Grid L (val q)) (hL : 0 < L) (h1 : L < 2 ^ a) {N : Nat} (hv : val q ≤ ((N : Int) : Rat)) (hN : N < 2 ^ b) : Sz (a + b) q := by
  have hd := Nat.le_of_dvd hL (g.den h)
  have hdp := d_pos h
  have e : (q.n : Rat) ≤ ((N * q.d : Int) : Rat) := by
    rw [n_eq h, Rat.intCast_mul]
    exact Rat.mul_le_mul_of_nonneg_right hv (Rat.le_of_lt hdp)
  have e2 : q.n ≤ (N : Int) * (q.d : Int) := by exact_mod_cast e
  have nn := h.nn
  have e3 : q.n.natAbs ≤ N * q.d := by
    have : (q.n.natAbs : Int) = q.n := by omega
    have h4 : ((q.n.natAbs : Nat) : Int) ≤ ((N * q.d : Nat) : Int) := by rw [this, Int.natCast_mul]; exact e2
    exact_mod_cast h4
  have l1 : q.d < 2 ^ a := Nat.lt_of_le_of_lt hd h1
  refine ⟨?_, Nat.lt_of_lt_of_le l1 (Nat.pow_le_pow_right (by decide) (Nat.le_add_right _ _))⟩
  refine Nat.lt_of_le_of_lt e3 ?_
  rw [Nat.pow_add, Nat.mul_comm]
  exact Nat.mul_lt_mul'' l1 hN
end TR


set_option linter.all false
namespace TR
open Mu30 (Q frac Tariff Hire)

theorem lt_le {a b c : Rat} (h : a < b) (h' : b ≤ c) : a < c := by grind
theorem rInt {a b : Int} : (a : Rat) ≤ (b : Rat) ↔ a ≤ b := Rat.intCast_le_intCast
theorem rLt {a b : Int} : (a : Rat) < (b : Rat) ↔ a < b := Rat.intCast_lt_intCast

/-! tariffs -/
structure TFine (t : Tariff) : Prop where
  lo : t.lo < 86400
  flag : t.flag ≤ 9999
  m0 : 1 ≤ t.metres0 ∧ t.metres0 ≤ 9999
  s0 : 1 ≤ t.seconds0 ∧ t.seconds0 ≤ 9999
  pr : 1 ≤ t.price ∧ t.price ≤ 9999
  ms : 1 ≤ t.metres ∧ t.metres ≤ 9999
  ss : 1 ≤ t.seconds ∧ t.seconds ≤ 9999
structure TOk (T : List Tariff) : Prop where
  ne : 0 < T.length
  most : T.length ≤ 4
  fine : ∀ t ∈ T, TFine t
  up : Mu30.rising T = true
theorem holds_lt {T : List Tariff} (h : 0 < T.length) (sec : Nat) : Mu30.holds T sec < T.length := by
  unfold Mu30.holds
  split
  · rename_i i e
    have := List.mem_of_find?_eq_some e
    simpa using this
  · omega
theorem tariff_mem {T : List Tariff} {i : Nat} (h : i < T.length) : Mu30.tariff T i ∈ T := by
  unfold Mu30.tariff
  rw [List.getD_eq_getElem?_getD, List.getElem?_eq_getElem h]
  exact List.getElem_mem h
theorem held_fine {T : List Tariff} (h : TOk T) (sec : Nat) : TFine (Mu30.tariff T (Mu30.holds T sec)) := h.fine _ (tariff_mem (holds_lt h.ne sec))
theorem secondAt_lt (h : Hire) : Mu30.secondAt h < 86400 := Nat.mod_lt _ (by decide)
theorem nextLo_pos {T : List Tariff} {sec : Nat} (hs : sec < 86400) : 1 ≤ Mu30.nextLo T sec := by
  unfold Mu30.nextLo
  split
  · rename_i t e
    have h1 : decide (sec < t.lo) = true := List.find?_some (p := fun t : Tariff => decide (sec < t.lo)) e
    have := of_decide_eq_true h1
    omega
  · show 1 ≤ 86400 - sec + _
    omega
theorem nextLo_le {T : List Tariff} (h : TOk T) {sec : Nat} : Mu30.nextLo T sec ≤ 86400 := by
  unfold Mu30.nextLo
  split
  · rename_i t e
    have := (h.fine t (List.mem_of_find?_eq_some e)).lo
    omega
  · rename_i e
    show 86400 - sec + _ ≤ 86400
    cases T with
    | nil => have := h.ne; simp at this
    | cons t l =>
      have h1 := List.find?_eq_none.mp e t List.mem_cons_self
      have h2 : ¬ sec < t.lo := by simpa using h1
      have h3 := (h.fine t List.mem_cons_self).lo
      show 86400 - sec + t.lo ≤ 86400
      omega

/-! rounding down -/
theorem floor_spec {q : Q} (h : Ok q) : ((Mu30.floorOf q : Nat) : Int) = q.n / (q.d : Int) := by
  unfold Mu30.floorOf
  have hd : (0 : Int) ≤ (q.d : Int) := Int.natCast_nonneg _
  rw [Int.fdiv_eq_ediv_of_nonneg _ hd]
  exact Int.toNat_of_nonneg (Int.ediv_nonneg h.nn hd)
theorem floor_le {q : Q} (h : Ok q) : (((Mu30.floorOf q : Nat) : Int) : Rat) ≤ val q := by
  have hd := d_pos h
  rw [floor_spec h]
  refine Rat.le_of_mul_le_mul_right (c := ((q.d : Int) : Rat)) ?_ hd
  rw [← n_eq h, ← Rat.intCast_mul, rInt]
  exact Int.ediv_mul_le _ (by have := h.dp; omega)
theorem lt_floor {q : Q} (h : Ok q) : val q < (((Mu30.floorOf q : Nat) : Int) : Rat) + 1 := by
  have hd := d_pos h
  refine Rat.lt_of_mul_lt_mul_right (c := ((q.d : Int) : Rat)) ?_ (Rat.le_of_lt hd)
  rw [← n_eq h, floor_spec h]
  have e : (((q.n / (q.d : Int) : Int) : Rat) + 1) * ((q.d : Int) : Rat) = (((q.n / (q.d : Int) + 1) * (q.d : Int) : Int) : Rat) := by
    rw [Rat.intCast_mul, Rat.intCast_add]
    rfl
  rw [e, rLt]
  exact Int.lt_ediv_add_one_mul_self _ (by have := h.dp; omega)

/-! a hire -/
structure HInv (h : Hire) : Prop where
  began : h.began < 86400
  gone : Ok h.gone
  part : Ok h.part
  lt1 : val h.part < 1
  first : h.first = h.drops.isEmpty
/-- where another tariff begins to hold, in seconds since the beginning -/
def changeAt (T : List Tariff) (h : Hire) : Nat := Mu30.floorOf h.gone + Mu30.nextLo T (Mu30.secondAt h)
theorem lt_change {T : List Tariff} {h : Hire} (hg : Ok h.gone) : val h.gone < val (Mu30.nat (changeAt T h)) := by
  have h1 := lt_floor hg
  have h2 : 1 ≤ Mu30.nextLo T (Mu30.secondAt h) := nextLo_pos (secondAt_lt h)
  rw [val_nat]
  have h3 : ((Mu30.floorOf h.gone : Int) : Rat) + 1 ≤ ((changeAt T h : Int) : Rat) := by
    have e : ((Mu30.floorOf h.gone : Int) : Rat) + 1 = (((Mu30.floorOf h.gone : Int) + 1 : Int) : Rat) := by rw [Rat.intCast_add]; rfl
    rw [e, rInt]
    unfold changeAt
    omega
  exact lt_le h1 h3
theorem change_le {T : List Tariff} {h : Hire} (hT : TOk T) (hg : Ok h.gone) : val (Mu30.nat (changeAt T h)) ≤ val h.gone + 86400 := by
  have h1 := floor_le hg
  have h2 := nextLo_le hT (sec := Mu30.secondAt h)
  rw [val_nat]
  have h3 : ((changeAt T h : Int) : Rat) ≤ ((Mu30.floorOf h.gone : Int) : Rat) + 86400 := by
    have e : ((Mu30.floorOf h.gone : Int) : Rat) + 86400 = (((Mu30.floorOf h.gone : Int) + 86400 : Int) : Rat) := by rw [Rat.intCast_add]; rfl
    rw [e, rInt]
    unfold changeAt
    omega
  grind
theorem changesIn_eq {T : List Tariff} {h : Hire} : Mu30.changesIn T h = (Mu30.nat (changeAt T h)).less h.gone := rfl

/-! the pace -/
def metresOf (T : List Tariff) (h : Hire) : Nat := if h.first = true then (Mu30.tariff T (Mu30.holds T (Mu30.secondAt h))).metres0 else (Mu30.tariff T (Mu30.holds T (Mu30.secondAt h))).metres
def secondsOf (T : List Tariff) (h : Hire) : Nat := if h.first = true then (Mu30.tariff T (Mu30.holds T (Mu30.secondAt h))).seconds0 else (Mu30.tariff T (Mu30.holds T (Mu30.secondAt h))).seconds
theorem metresOf_b {T : List Tariff} (hT : TOk T) (h : Hire) : 1 ≤ metresOf T h ∧ metresOf T h ≤ 9999 := by
  have := held_fine hT (Mu30.secondAt h)
  unfold metresOf
  split
  · exact this.m0
  · exact this.ms
theorem secondsOf_b {T : List Tariff} (hT : TOk T) (h : Hire) : 1 ≤ secondsOf T h ∧ secondsOf T h ≤ 9999 := by
  have := held_fine hT (Mu30.secondAt h)
  unfold secondsOf
  split
  · exact this.s0
  · exact this.ss
/-- as the program reckons it -/
def paceM (T : List Tariff) (h : Hire) (s m : Nat) : Q :=
  if m * secondsOf T h > s * metresOf T h then frac (m : Int) ((s * metresOf T h : Nat) : Int) else ⟨1, secondsOf T h⟩
theorem one_over_ok {S : Nat} (h : 1 ≤ S) : Ok ⟨1, S⟩ := ⟨(by decide : (0 : Int) ≤ 1), h, Nat.gcd_one_left S⟩
theorem frac_one {S : Nat} (h : 1 ≤ S) : frac 1 (S : Int) = ⟨1, S⟩ := by
  have e := frac_pos (n := 1) (d := S) h
  rw [Nat.gcd_one_left, Nat.div_one, Nat.div_one] at e
  exact e
theorem cast_pos {n : Nat} (h : 1 ≤ n) : (0 : Rat) < ((n : Int) : Rat) := by
  have : (0 : Int) < (n : Int) := by omega
  exact_mod_cast this
theorem speed_ok {s m : Nat} (hs : 1 ≤ s) : Ok (Mu30.speed s m) := frac_ok (Int.natCast_nonneg _) (by omega)
theorem val_speed {s m : Nat} (hs : 1 ≤ s) : val (Mu30.speed s m) = ((m : Int) : Rat) / ((s : Int) : Rat) := val_frac (Int.natCast_nonneg _) (by omega)
theorem paceM_ok {T : List Tariff} (hT : TOk T) (h : Hire) {s m : Nat} (hs : 1 ≤ s) : Ok (paceM T h s m) := by
  have h1 := metresOf_b hT h
  have h2 := secondsOf_b hT h
  unfold paceM
  split
  · refine frac_ok (Int.natCast_nonneg _) ?_
    have : 0 < s * metresOf T h := Nat.mul_pos hs h1.1
    omega
  · exact one_over_ok h2.1
theorem val_one_over {S : Nat} : val ⟨1, S⟩ = 1 / ((S : Int) : Rat) := val_def
theorem way_iff {m s M S : Nat} (hs : 1 ≤ s) (hM : 1 ≤ M) (hS : 1 ≤ S) : m * S > s * M ↔ (1 : Rat) / ((S : Int) : Rat) < ((m : Int) : Rat) / (((s * M : Nat) : Int) : Rat) := by
  have a := cast_pos hS
  have b := cast_pos (n := s * M) (Nat.mul_pos hs hM)
  rw [Rat.lt_div_iff b, show (1 : Rat) / ((S : Int) : Rat) * (((s * M : Nat) : Int) : Rat) = (((s * M : Nat) : Int) : Rat) / ((S : Int) : Rat) by grind, Rat.div_lt_iff a, ← Rat.intCast_mul, rLt, ← Int.natCast_mul]
  omega
theorem pace_eq {T : List Tariff} (hT : TOk T) (h : Hire) {s m : Nat} (hs : 1 ≤ s) : Mu30.pace T h (Mu30.speed s m) = paceM T h s m := by
  have h1 := metresOf_b hT h
  have h2 := secondsOf_b hT h
  have e : Mu30.pace T h (Mu30.speed s m) = Mu30.greatest ((Mu30.speed s m).over (Mu30.nat (metresOf T h))) (frac 1 (secondsOf T h : Int)) := rfl
  have hM := cast_pos h1.1
  have vM : 0 < val (Mu30.nat (metresOf T h)) := by rw [val_nat]; exact hM
  have hsM : 1 ≤ s * metresOf T h := Nat.mul_pos hs h1.1
  have ok1 := over_ok (speed_ok (m := m) hs) (nat_ok (metresOf T h)) vM
  have ok2 := one_over_ok h2.1
  have ok3 : Ok (frac (m : Int) ((s * metresOf T h : Nat) : Int)) := frac_ok (Int.natCast_nonneg _) (by omega)
  have v1 : val ((Mu30.speed s m).over (Mu30.nat (metresOf T h))) = ((m : Int) : Rat) / (((s * metresOf T h : Nat) : Int) : Rat) := by
    rw [val_over (speed_ok hs) (nat_ok _) vM, val_speed hs, val_nat, Int.natCast_mul, Rat.intCast_mul]
    have := cast_pos hs
    grind
  have v3 : val (frac (m : Int) ((s * metresOf T h : Nat) : Int)) = ((m : Int) : Rat) / (((s * metresOf T h : Nat) : Int) : Rat) := val_frac (Int.natCast_nonneg _) (by omega)
  rw [e, frac_one h2.1]
  unfold Mu30.greatest paceM
  by_cases c : ((Mu30.speed s m).over (Mu30.nat (metresOf T h))).below ⟨1, secondsOf T h⟩ = true
  · rw [if_pos c]
    have c' := (below_iff ok1 ok2).mp c
    rw [v1, val_one_over] at c'
    rw [if_neg]
    rw [way_iff hs h1.1 h2.1]
    grind
  · rw [if_neg c]
    have c' : ¬ _ := fun z => c ((below_iff ok1 ok2).mpr z)
    rw [v1, val_one_over] at c'
    by_cases d : m * secondsOf T h > s * metresOf T h
    · rw [if_pos d]
      exact val_inj ok1 ok3 (v1.trans v3.symm)
    · rw [if_neg d]
      refine val_inj ok1 ok2 ?_
      rw [v1, val_one_over]
      rw [way_iff hs h1.1 h2.1] at d
      grind
theorem paceM_ge {T : List Tariff} (hT : TOk T) (h : Hire) {s m : Nat} (hs : 1 ≤ s) : 1 / ((secondsOf T h : Int) : Rat) ≤ val (paceM T h s m) := by
  have h1 := metresOf_b hT h
  have h2 := secondsOf_b hT h
  have hsM : 1 ≤ s * metresOf T h := Nat.mul_pos hs h1.1
  unfold paceM
  by_cases d : m * secondsOf T h > s * metresOf T h
  · rw [if_pos d, val_frac (Int.natCast_nonneg _) (by omega)]
    rw [way_iff hs h1.1 h2.1] at d
    exact Rat.le_of_lt d
  · rw [if_neg d, val_one_over]
    exact Rat.le_refl
theorem inv_pos {S : Nat} (h : 1 ≤ S) : (0 : Rat) < 1 / ((S : Int) : Rat) := by
  rw [Rat.lt_div_iff (cast_pos h)]
  grind
theorem paceM_pos {T : List Tariff} (hT : TOk T) (h : Hire) {s m : Nat} (hs : 1 ≤ s) : 0 < val (paceM T h s m) :=
  lt_le (inv_pos (secondsOf_b hT h).1) (paceM_ge hT h hs)
end TR


set_option linter.all false
namespace TR
open Mu30 (Q frac Tariff Hire)

/-! one stretch, as the program goes it -/
def fallDrop (T : List Tariff) (h : Hire) : Hire :=
  { h with part := Mu30.whole 0, first := false, fare := h.fare + (Mu30.tariff T (Mu30.holds T (Mu30.secondAt h))).price, drops := h.drops ++ [h.gone] }
def fallAt (T : List Tariff) (s m : Nat) (h : Hire) : Q := h.gone.plus (((Mu30.nat 1).less h.part).over (paceM T h s m))
def stretch (T : List Tariff) (s m : Nat) (stop : Q) (h : Hire) : Hire :=
  if stop.below (fallAt T s m h) = true then { h with part := h.part.plus ((paceM T h s m).times (stop.less h.gone)), gone := stop }
  else fallDrop T { h with gone := fallAt T s m h }
def stopOf (T : List Tariff) (e : Q) (h : Hire) : Q := if e.below (Mu30.nat (changeAt T h)) = true then e else Mu30.nat (changeAt T h)

section
variable {T : List Tariff} {s m : Nat} {h : Hire} {stop e : Q}
theorem one_ok : Ok (Mu30.nat 1) := nat_ok 1
theorem val_one : val (Mu30.nat 1) = 1 := val_nat
theorem zero_ok : Ok (Mu30.whole 0) := whole_ok (by decide)
theorem val_zero : val (Mu30.whole 0) = 0 := val_whole
theorem rest_ok (I : HInv h) : Ok ((Mu30.nat 1).less h.part) := less_ok one_ok I.part (by rw [val_one]; exact Rat.le_of_lt I.lt1)
theorem val_rest (I : HInv h) : val ((Mu30.nat 1).less h.part) = 1 - val h.part := by
  rw [val_less one_ok I.part (by rw [val_one]; exact Rat.le_of_lt I.lt1), val_one]
theorem toDrop_ok (hT : TOk T) (I : HInv h) (hs : 1 ≤ s) : Ok (((Mu30.nat 1).less h.part).over (paceM T h s m)) := over_ok (rest_ok I) (paceM_ok hT h hs) (paceM_pos hT h hs)
theorem val_toDrop (hT : TOk T) (I : HInv h) (hs : 1 ≤ s) : val (((Mu30.nat 1).less h.part).over (paceM T h s m)) = (1 - val h.part) / val (paceM T h s m) := by
  rw [val_over (rest_ok I) (paceM_ok hT h hs) (paceM_pos hT h hs), val_rest I]
theorem fallAt_ok (hT : TOk T) (I : HInv h) (hs : 1 ≤ s) : Ok (fallAt T s m h) := plus_ok I.gone (toDrop_ok hT I hs)
theorem val_fallAt (hT : TOk T) (I : HInv h) (hs : 1 ≤ s) : val (fallAt T s m h) = val h.gone + (1 - val h.part) / val (paceM T h s m) := by
  unfold fallAt
  rw [val_plus I.gone (toDrop_ok hT I hs), val_toDrop hT I hs]
theorem div_pos' {a b : Rat} (ha : 0 < a) (hb : 0 < b) : 0 < a / b := by
  rw [Rat.lt_div_iff hb]
  grind
theorem toDrop_pos (hT : TOk T) (I : HInv h) (hs : 1 ≤ s) : 0 < (1 - val h.part) / val (paceM T h s m) :=
  div_pos' (by have := I.lt1; grind) (paceM_pos hT h hs)
theorem fallDrop_inv (I1 : h.began < 86400) (I2 : Ok h.gone) : HInv (fallDrop T h) := by
  refine ⟨I1, I2, zero_ok, ?_, ?_⟩
  · show val (Mu30.whole 0) < 1
    rw [val_zero]
    decide
  · show false = (h.drops ++ [h.gone]).isEmpty
    simp
theorem mid_lt (hT : TOk T) (I : HInv h) (hs : 1 ≤ s) (ho : Ok stop) (hg : val h.gone ≤ val stop) (c : val stop < val (fallAt T s m h)) :
    val h.part + val (paceM T h s m) * (val stop - val h.gone) < 1 := by
  rw [val_fallAt hT I hs] at c
  have hp := paceM_pos (m := m) hT h hs
  have c1 : val stop - val h.gone < (1 - val h.part) / val (paceM T h s m) := by grind
  rw [Rat.lt_div_iff hp] at c1
  grind
theorem mid_ok (hT : TOk T) (I : HInv h) (hs : 1 ≤ s) (ho : Ok stop) (hg : val h.gone ≤ val stop) : Ok (h.part.plus ((paceM T h s m).times (stop.less h.gone))) :=
  plus_ok I.part (times_ok (paceM_ok hT h hs) (less_ok ho I.gone hg))
theorem val_mid (hT : TOk T) (I : HInv h) (hs : 1 ≤ s) (ho : Ok stop) (hg : val h.gone ≤ val stop) :
    val (h.part.plus ((paceM T h s m).times (stop.less h.gone))) = val h.part + val (paceM T h s m) * (val stop - val h.gone) := by
  rw [val_plus I.part (times_ok (paceM_ok hT h hs) (less_ok ho I.gone hg)), val_times (paceM_ok hT h hs) (less_ok ho I.gone hg), val_less ho I.gone hg]
theorem stretch_inv (hT : TOk T) (I : HInv h) (hs : 1 ≤ s) (ho : Ok stop) (hg : val h.gone ≤ val stop) : HInv (stretch T s m stop h) := by
  unfold stretch
  by_cases c : stop.below (fallAt T s m h) = true
  · rw [if_pos c]
    have c' := (below_iff ho (fallAt_ok hT I hs)).mp c
    refine ⟨I.began, ho, mid_ok hT I hs ho hg, ?_, I.first⟩
    show val (h.part.plus ((paceM T h s m).times (stop.less h.gone))) < 1
    rw [val_mid hT I hs ho hg]
    exact mid_lt hT I hs ho hg c'
  · rw [if_neg c]
    exact fallDrop_inv I.began (fallAt_ok hT I hs)
theorem stretch_le (hT : TOk T) (I : HInv h) (hs : 1 ≤ s) (ho : Ok stop) : val (stretch T s m stop h).gone ≤ val stop := by
  unfold stretch
  by_cases c : stop.below (fallAt T s m h) = true
  · rw [if_pos c]
    exact Rat.le_refl
  · rw [if_neg c]
    show val (fallAt T s m h) ≤ val stop
    have c' : ¬ _ := fun z => c ((below_iff ho (fallAt_ok hT I hs)).mpr z)
    exact Rat.not_lt.mp c'
theorem stopOf_ok (he : Ok e) : Ok (stopOf T e h) := by
  unfold stopOf
  split
  · exact he
  · exact nat_ok _
theorem stopOf_gt (I : HInv h) (he : Ok e) (hg : val h.gone < val e) : val h.gone < val (stopOf T e h) := by
  unfold stopOf
  split
  · exact hg
  · exact lt_change I.gone
theorem stopOf_le (he : Ok e) : val (stopOf T e h) ≤ val e := by
  unfold stopOf
  by_cases c : e.below (Mu30.nat (changeAt T h)) = true
  · rw [if_pos c]
    exact Rat.le_refl
  · rw [if_neg c]
    have c' : ¬ _ := fun z => c ((below_iff he (nat_ok _)).mpr z)
    exact Rat.not_lt.mp c'
theorem stopOf_le2 (he : Ok e) : val (stopOf T e h) ≤ val (Mu30.nat (changeAt T h)) := by
  unfold stopOf
  by_cases c : e.below (Mu30.nat (changeAt T h)) = true
  · rw [if_pos c]
    exact Rat.le_of_lt ((below_iff he (nat_ok _)).mp c)
  · rw [if_neg c]
    exact Rat.le_refl

/-! the least of two -/
theorem least_val {a b : Q} (ha : Ok a) (hb : Ok b) : Ok (Mu30.least a b) ∧ val (Mu30.least a b) = if val b < val a then val b else val a := by
  unfold Mu30.least
  by_cases c : b.below a = true
  · rw [if_pos c, if_pos ((below_iff hb ha).mp c)]
    exact ⟨hb, rfl⟩
  · rw [if_neg c, if_neg fun z => c ((below_iff hb ha).mpr z)]
    exact ⟨ha, rfl⟩
theorem bool_not {b : Bool} (h : ¬ b = true) : b = false := by cases b <;> simp_all

/-- one turn of the document's drive is one stretch -/
theorem drive_step (hT : TOk T) (I : HInv h) (hs : 1 ≤ s) (he : Ok e) (hg : val h.gone < val e) (k : Nat) :
    Mu30.drive T (k + 1) (e.less h.gone) (Mu30.speed s m) h =
      Mu30.drive T k (e.less (stretch T s m (stopOf T e h) h).gone) (Mu30.speed s m) (stretch T s m (stopOf T e h) h) := by
  have hle := Rat.le_of_lt hg
  have lo := less_ok he I.gone hle
  have lv := val_less he I.gone hle
  have up : (e.less h.gone).isUp = true := (isUp_iff lo).mpr (by rw [lv]; grind)
  have so : Ok (stopOf T e h) := stopOf_ok he
  have sg := stopOf_gt (T := T) I he hg
  have sle := stopOf_le (T := T) (h := h) he
  have cg := lt_change (T := T) I.gone
  have co := less_ok (nat_ok (changeAt T h)) I.gone (Rat.le_of_lt cg)
  have cv := val_less (nat_ok (changeAt T h)) I.gone (Rat.le_of_lt cg)
  have po := paceM_ok (m := m) hT h hs
  have pp := paceM_pos (m := m) hT h hs
  have to := toDrop_ok (m := m) hT I hs
  have tv := val_toDrop (m := m) hT I hs
  have fo := fallAt_ok (m := m) hT I hs
  have fv := val_fallAt (m := m) hT I hs
  rw [Mu30.drive, if_neg (by rw [up]; decide)]
  simp only [pace_eq hT h hs, changesIn_eq]
  generalize hd : Mu30.least (e.less h.gone) (Mu30.least (((Mu30.nat 1).less h.part).over (paceM T h s m)) ((Mu30.nat (changeAt T h)).less h.gone)) = d
  obtain ⟨o1, v1⟩ := least_val to co
  obtain ⟨o2, v2⟩ := least_val lo o1
  rw [hd] at o2 v2
  have sv : val (stopOf T e h) = if val e < val (Mu30.nat (changeAt T h)) then val e else val (Mu30.nat (changeAt T h)) := by
    unfold stopOf
    by_cases c : e.below (Mu30.nat (changeAt T h)) = true
    · rw [if_pos c, if_pos ((below_iff he (nat_ok _)).mp c)]
    · rw [if_neg c, if_neg fun z => c ((below_iff he (nat_ok _)).mpr z)]
  have gp : Ok (h.part.plus (d.times (paceM T h s m))) := plus_ok I.part (times_ok o2 po)
  have gv : val (h.part.plus (d.times (paceM T h s m))) = val h.part + val d * val (paceM T h s m) := by
    rw [val_plus I.part (times_ok o2 po), val_times o2 po]
  by_cases c : (stopOf T e h).below (fallAt T s m h) = true
  · have c' := (below_iff so fo).mp c
    have dv : val d = val (stopOf T e h) - val h.gone := by
      rw [v2, v1, lv, cv, tv]
      rw [fv] at c'
      rw [sv] at c' ⊢
      grind
    have e1 : h.gone.plus d = stopOf T e h := val_inj (plus_ok I.gone o2) so (by rw [val_plus I.gone o2, dv]; grind)
    have e2 : d = (stopOf T e h).less h.gone := val_inj o2 (less_ok so I.gone (Rat.le_of_lt sg)) (by rw [val_less so I.gone (Rat.le_of_lt sg), dv])
    have e3 : h.part.plus (d.times (paceM T h s m)) = h.part.plus ((paceM T h s m).times ((stopOf T e h).less h.gone)) := by
      refine val_inj gp (mid_ok hT I hs so (Rat.le_of_lt sg)) ?_
      rw [gv, val_mid hT I hs so (Rat.le_of_lt sg), dv]
      grind
    have hm := mid_lt hT I hs so (Rat.le_of_lt sg) c'
    have am : Mu30.atMost (Mu30.nat 1) (h.part.plus (d.times (paceM T h s m))) = false := by
      unfold Mu30.atMost
      rw [(below_iff gp one_ok).mpr (by rw [gv, val_one, dv]; grind)]
      rfl
    rw [am, if_neg Bool.false_ne_true]
    have es : stretch T s m (stopOf T e h) h = { h with part := h.part.plus ((paceM T h s m).times ((stopOf T e h).less h.gone)), gone := stopOf T e h } := if_pos c
    have el : (e.less h.gone).less d = e.less (stopOf T e h) := by
      have hh : val d ≤ val (e.less h.gone) := by rw [lv, dv]; grind
      refine val_inj (less_ok lo o2 hh) (less_ok he so sle) ?_
      rw [val_less lo o2 hh, val_less he so sle, lv, dv]
      grind
    rw [es, el, e1, e3]
  · have c' : ¬ val (stopOf T e h) < val (fallAt T s m h) := fun z => c ((below_iff so fo).mpr z)
    have dv : val d = (1 - val h.part) / val (paceM T h s m) := by
      rw [v2, v1, lv, cv, tv]
      rw [fv] at c'
      rw [sv] at c'
      grind
    have e2 : d = ((Mu30.nat 1).less h.part).over (paceM T h s m) := val_inj o2 to (by rw [tv, dv])
    have e1 : h.gone.plus d = fallAt T s m h := by rw [e2]; rfl
    have am : Mu30.atMost (Mu30.nat 1) (h.part.plus (d.times (paceM T h s m))) = true := by
      unfold Mu30.atMost
      have : ¬ (h.part.plus (d.times (paceM T h s m))).below (Mu30.nat 1) = true := fun z => by
        have := (below_iff gp one_ok).mp z
        rw [gv, val_one, dv, Rat.div_mul_cancel (Rat.ne_of_gt pp)] at this
        grind
      rw [bool_not this]
      rfl
    rw [am, if_pos rfl]
    have es : stretch T s m (stopOf T e h) h = fallDrop T { h with gone := fallAt T s m h } := if_neg c
    have el : (e.less h.gone).less d = e.less (fallAt T s m h) := by
      have h0 : val (fallAt T s m h) ≤ val e := by grind
      have hh : val d ≤ val (e.less h.gone) := by rw [lv, dv]; rw [fv] at h0; grind
      refine val_inj (less_ok lo o2 hh) (less_ok he fo h0) ?_
      rw [val_less lo o2 hh, val_less he fo h0, lv, dv, fv]
      grind
    rw [es, el]
    simp only [e1]
    rfl

/-! the way, and till so many drops -/
def driveM (T : List Tariff) (s m : Nat) (e : Q) : Nat → Hire → Option Hire
  | 0, h => if h.gone.below e = true then none else some h
  | k + 1, h => if h.gone.below e = true then driveM T s m e k (stretch T s m (stopOf T e h) h) else some h
theorem drive_is (hT : TOk T) (hs : 1 ≤ s) (he : Ok e) : ∀ (k : Nat) (h : Hire), HInv h → val h.gone ≤ val e → Mu30.drive T (k + 1) (e.less h.gone) (Mu30.speed s m) h = driveM T s m e k h := by
  intro k
  induction k with
  | zero =>
    intro h I hg
    have lo := less_ok he I.gone hg
    have lv := val_less he I.gone hg
    unfold driveM
    by_cases c : h.gone.below e = true
    · rw [if_pos c]
      have c' := (below_iff I.gone he).mp c
      rw [drive_step hT I hs he c', Mu30.drive]
    · rw [if_neg c]
      have c' : ¬ _ := fun z => c ((below_iff I.gone he).mpr z)
      have up : (e.less h.gone).isUp = false := bool_not fun z => by
        have := (isUp_iff lo).mp z
        rw [lv] at this
        grind
      rw [Mu30.drive, if_pos up]
  | succ k ih =>
    intro h I hg
    have lo := less_ok he I.gone hg
    have lv := val_less he I.gone hg
    unfold driveM
    by_cases c : h.gone.below e = true
    · rw [if_pos c]
      have c' := (below_iff I.gone he).mp c
      rw [drive_step hT I hs he c']
      have so : Ok (stopOf T e h) := stopOf_ok he
      have sg := stopOf_gt (T := T) I he c'
      exact ih _ (stretch_inv hT I hs so (Rat.le_of_lt sg)) (Rat.le_trans (stretch_le hT I hs so) (stopOf_le he))
    · rw [if_neg c]
      have c' : ¬ _ := fun z => c ((below_iff I.gone he).mpr z)
      have up : (e.less h.gone).isUp = false := bool_not fun z => by
        have := (isUp_iff lo).mp z
        rw [lv] at this
        grind
      rw [Mu30.drive, if_pos up]
theorem end_less (I : HInv h) (n : Nat) : (h.gone.plus (Mu30.nat n)).less h.gone = Mu30.nat n := by
  have po := plus_ok I.gone (nat_ok n)
  have pv := val_plus I.gone (nat_ok n)
  have nn := val_nn (nat_ok n)
  have le : val h.gone ≤ val (h.gone.plus (Mu30.nat n)) := by rw [pv]; grind
  refine val_inj (less_ok po I.gone le) (nat_ok n) ?_
  rw [val_less po I.gone le, pv]
  grind
/-- the document's drive is the program's -/
theorem drive_whole (hT : TOk T) (I : HInv h) (hs : 1 ≤ s) (k : Nat) : Mu30.drive T (k + 1) (Mu30.nat s) (Mu30.speed s m) h = driveM T s m (h.gone.plus (Mu30.nat s)) k h := by
  have po := plus_ok I.gone (nat_ok s)
  have pv := val_plus I.gone (nat_ok s)
  have nn := val_nn (nat_ok s)
  rw [← end_less I s]
  have e2 := drive_is (m := m) hT hs po k h I (by rw [pv]; grind)
  rw [end_less I s] at e2 ⊢
  exact e2
def tillM (T : List Tariff) (s m n : Nat) : Nat → Hire → Option Hire
  | 0, h => if n ≤ h.drops.length then some h else none
  | k + 1, h => if n ≤ h.drops.length then some h else tillM T s m n k (stretch T s m (Mu30.nat (changeAt T h)) h)
theorem till_step (hT : TOk T) (I : HInv h) (hs : 1 ≤ s) :
    Mu30.drive T 2 (Mu30.least (((Mu30.nat 1).less h.part).over (Mu30.pace T h (Mu30.speed s m))) (Mu30.changesIn T h)) (Mu30.speed s m) h = some (stretch T s m (Mu30.nat (changeAt T h)) h) := by
  have cg := lt_change (T := T) I.gone
  have co := less_ok (nat_ok (changeAt T h)) I.gone (Rat.le_of_lt cg)
  have cv := val_less (nat_ok (changeAt T h)) I.gone (Rat.le_of_lt cg)
  have to := toDrop_ok (m := m) hT I hs
  have tv := val_toDrop (m := m) hT I hs
  have fo := fallAt_ok (m := m) hT I hs
  have fv := val_fallAt (m := m) hT I hs
  have tp := toDrop_pos (m := m) hT I hs
  rw [pace_eq hT h hs, changesIn_eq]
  obtain ⟨o1, v1⟩ := least_val to co
  generalize Mu30.least (((Mu30.nat 1).less h.part).over (paceM T h s m)) ((Mu30.nat (changeAt T h)).less h.gone) = d at *
  have eo := plus_ok I.gone o1
  have ev := val_plus I.gone o1
  have dp : 0 < val d := by rw [v1, tv, cv]; grind
  have hg : val h.gone < val (h.gone.plus d) := by rw [ev]; grind
  have e0 : (h.gone.plus d).less h.gone = d := by
    refine val_inj (less_ok eo I.gone (Rat.le_of_lt hg)) o1 ?_
    rw [val_less eo I.gone (Rat.le_of_lt hg), ev]
    grind
  have st := drive_step (m := m) hT I hs eo hg 1
  rw [e0] at st
  rw [st]
  have so : Ok (stopOf T (h.gone.plus d) h) := stopOf_ok eo
  -- the stretch to d's end is the stretch to the change
  have same : stretch T s m (stopOf T (h.gone.plus d) h) h = stretch T s m (Mu30.nat (changeAt T h)) h ∧ val (stretch T s m (stopOf T (h.gone.plus d) h) h).gone = val (h.gone.plus d) := by
    by_cases c : (Mu30.nat (changeAt T h)).below (fallAt T s m h) = true
    · have c' := (below_iff (nat_ok _) fo).mp c
      rw [fv] at c'
      have dv : val d = val (Mu30.nat (changeAt T h)) - val h.gone := by rw [v1, tv, cv]; grind
      have e1 : h.gone.plus d = Mu30.nat (changeAt T h) := val_inj eo (nat_ok _) (by rw [ev, dv]; grind)
      have es : stopOf T (h.gone.plus d) h = Mu30.nat (changeAt T h) := by
        rw [e1]
        unfold stopOf
        split <;> rfl
      rw [es]
      refine ⟨rfl, ?_⟩
      unfold stretch
      rw [if_pos c, e1]
    · have c' : ¬ val (Mu30.nat (changeAt T h)) < val (fallAt T s m h) := fun z => c ((below_iff (nat_ok _) fo).mpr z)
      rw [fv] at c'
      have dv : val d = (1 - val h.part) / val (paceM T h s m) := by rw [v1, tv, cv]; grind
      have e1 : val (h.gone.plus d) = val (fallAt T s m h) := by rw [ev, dv, fv]
      have ns : ¬ (stopOf T (h.gone.plus d) h).below (fallAt T s m h) = true := fun z => by
        have z' := (below_iff so fo).mp z
        unfold stopOf at z'
        by_cases c2 : (h.gone.plus d).below (Mu30.nat (changeAt T h)) = true
        · rw [if_pos c2] at z'
          rw [e1] at z'
          exact Rat.lt_irrefl z'
        · rw [if_neg c2, fv] at z'
          exact c' z'
      unfold stretch
      rw [if_neg c, if_neg ns]
      exact ⟨rfl, e1.symm⟩
  rw [Mu30.drive, if_pos, same.1]
  have so2 : Ok (stretch T s m (stopOf T (h.gone.plus d) h) h).gone := (stretch_inv hT I hs so (Rat.le_of_lt (stopOf_gt I eo hg))).gone
  have le2 : val (stretch T s m (stopOf T (h.gone.plus d) h) h).gone ≤ val (h.gone.plus d) := by rw [same.2]; exact Rat.le_refl
  refine bool_not fun z => ?_
  have z' := (isUp_iff (less_ok eo so2 le2)).mp z
  rw [val_less eo so2 le2, same.2] at z'
  grind
theorem till_is (hT : TOk T) (hs : 1 ≤ s) (n : Nat) : ∀ (k : Nat) (h : Hire), HInv h → Mu30.tillDrops T (Mu30.speed s m) (k + 1) n h = (tillM T s m n k h).map (·.gone) := by
  intro k
  induction k with
  | zero =>
    intro h I
    unfold tillM Mu30.tillDrops
    by_cases c : n ≤ h.drops.length
    · rw [if_pos c, if_pos c]
      rfl
    · rw [if_neg c, if_neg c]
      simp only [till_step hT I hs, Mu30.tillDrops]
      rfl
  | succ k ih =>
    intro h I
    unfold tillM
    rw [Mu30.tillDrops]
    by_cases c : n ≤ h.drops.length
    · rw [if_pos c, if_pos c]
      rfl
    · rw [if_neg c, if_neg c]
      simp only [till_step hT I hs]
      exact ih _ (stretch_inv hT I hs (nat_ok _) (Rat.le_of_lt (lt_change I.gone)))
end
end TR


set_option linter.all false
namespace TR
open Mu30 (Q frac Tariff Hire)

theorem Grid.finerL {L : Nat} {x : Rat} (a : Grid L x) (M : Nat) : Grid (M * L) x := by
  rw [Nat.mul_comm]
  exact a.finer M
section
variable {T : List Tariff} {s m n L : Nat} {h : Hire} {stop e : Q}
/-- what a stretch multiplies the grid by -/
def factor (T : List Tariff) (h : Hire) (s m : Nat) : Nat := if m * secondsOf T h > s * metresOf T h then s * metresOf T h * m else secondsOf T h
theorem factor_b (hT : TOk T) (hs : 1 ≤ s) (hs2 : s ≤ 20000) (hm : m ≤ 100000) : 0 < factor T h s m ∧ factor T h s m < 2 ^ 45 := by
  have h1 := metresOf_b hT h
  have h2 := secondsOf_b hT h
  unfold factor
  by_cases c : m * secondsOf T h > s * metresOf T h
  · rw [if_pos c]
    have a : 0 < s * metresOf T h := Nat.mul_pos hs h1.1
    have b : 0 < m := by
      rcases Nat.eq_zero_or_pos m with z | z
      · subst z
        omega
      · exact z
    refine ⟨Nat.mul_pos a b, ?_⟩
    have e1 : s * metresOf T h ≤ 20000 * 9999 := Nat.mul_le_mul hs2 h1.2
    have e2 : s * metresOf T h * m ≤ 20000 * 9999 * 100000 := Nat.mul_le_mul e1 hm
    exact Nat.lt_of_le_of_lt e2 (by decide)
  · rw [if_neg c]
    exact ⟨h2.1, Nat.lt_of_le_of_lt h2.2 (by decide)⟩
theorem val_paceM_way (hT : TOk T) (hs : 1 ≤ s) (c : m * secondsOf T h > s * metresOf T h) : val (paceM T h s m) = ((m : Int) : Rat) / (((s * metresOf T h : Nat) : Int) : Rat) := by
  have h1 := metresOf_b hT h
  have a : 0 < s * metresOf T h := Nat.mul_pos hs h1.1
  unfold paceM
  rw [if_pos c, val_frac (Int.natCast_nonneg _) (by omega)]
theorem val_paceM_time (c : ¬ m * secondsOf T h > s * metresOf T h) : val (paceM T h s m) = 1 / ((secondsOf T h : Int) : Rat) := by
  unfold paceM
  rw [if_neg c, val_one_over]
theorem pos_of_way (c : m * secondsOf T h > s * metresOf T h) : 1 ≤ m := by
  rcases Nat.eq_zero_or_pos m with z | z
  · subst z
    omega
  · exact z
theorem grid_pace (hT : TOk T) (hs : 1 ≤ s) : Grid (L * factor T h s m) (val (paceM T h s m)) := by
  have h1 := metresOf_b hT h
  have h2 := secondsOf_b hT h
  unfold factor
  refine Grid.finerL ?_ L
  by_cases c : m * secondsOf T h > s * metresOf T h
  · rw [if_pos c, val_paceM_way hT hs c]
    have a : 0 < s * metresOf T h := Nat.mul_pos hs h1.1
    have := (Grid.int 1 (m : Int)).div a
    rw [Nat.one_mul] at this
    exact this.finer m
  · rw [if_neg c, val_paceM_time c]
    have := (Grid.int 1 (1 : Int)).div h2.1
    rw [Nat.one_mul] at this
    exact this
theorem grid_toDrop (hT : TOk T) (I : HInv h) (hs : 1 ≤ s) (g : Grid L (val h.part)) : Grid (L * factor T h s m) ((1 - val h.part) / val (paceM T h s m)) := by
  have h1 := metresOf_b hT h
  have h2 := secondsOf_b hT h
  have g1 : Grid L (1 - val h.part) := (Grid.int L 1).sub g
  unfold factor
  by_cases c : m * secondsOf T h > s * metresOf T h
  · have a : 0 < s * metresOf T h := Nat.mul_pos hs h1.1
    have b := pos_of_way c
    rw [if_pos c, val_paceM_way hT hs c]
    have e : (1 - val h.part) / (((m : Int) : Rat) / (((s * metresOf T h : Nat) : Int) : Rat)) = (1 - val h.part) * (((s * metresOf T h : Nat) : Int) : Rat) / ((m : Int) : Rat) := by
      have := cast_pos a; have := cast_pos b
      grind
    rw [e]
    have := ((g1.mulInt ((s * metresOf T h : Nat) : Int)).div b).finer (s * metresOf T h)
    rw [Nat.mul_assoc, Nat.mul_comm m] at this
    exact this
  · rw [if_neg c, val_paceM_time c]
    have e : (1 - val h.part) / (1 / ((secondsOf T h : Int) : Rat)) = (1 - val h.part) * ((secondsOf T h : Int) : Rat) := by
      have := cast_pos h2.1
      grind
    rw [e]
    exact (g1.mulInt _).finer _
theorem grid_go (hT : TOk T) (hs : 1 ≤ s) {x : Rat} (g : Grid L x) : Grid (L * factor T h s m) (val (paceM T h s m) * x) := by
  have h1 := metresOf_b hT h
  have h2 := secondsOf_b hT h
  unfold factor
  by_cases c : m * secondsOf T h > s * metresOf T h
  · have a : 0 < s * metresOf T h := Nat.mul_pos hs h1.1
    rw [if_pos c, val_paceM_way hT hs c]
    have e : ((m : Int) : Rat) / (((s * metresOf T h : Nat) : Int) : Rat) * x = x * ((m : Int) : Rat) / (((s * metresOf T h : Nat) : Int) : Rat) := by
      have := cast_pos a
      grind
    rw [e]
    have := ((g.mulInt (m : Int)).div a).finer m
    rw [Nat.mul_assoc] at this
    exact this
  · rw [if_neg c, val_paceM_time c]
    have e : 1 / ((secondsOf T h : Int) : Rat) * x = x / ((secondsOf T h : Int) : Rat) := by
      have := cast_pos h2.1
      grind
    rw [e]
    exact g.div h2.1
theorem pace_le (hT : TOk T) (hs : 1 ≤ s) (hm : m ≤ 100000) : val (paceM T h s m) ≤ ((100000 : Nat) : Int) := by
  have h1 := metresOf_b hT h
  have h2 := secondsOf_b hT h
  refine Rat.not_lt.mp fun z => ?_
  by_cases c : m * secondsOf T h > s * metresOf T h
  · have a : 0 < s * metresOf T h := Nat.mul_pos hs h1.1
    rw [val_paceM_way hT hs c, Rat.lt_div_iff (cast_pos a), ← Rat.intCast_mul, rLt, ← Int.natCast_mul] at z
    have : 100000 * 1 ≤ 100000 * (s * metresOf T h) := Nat.mul_le_mul_left _ a
    omega
  · rw [val_paceM_time c, Rat.lt_div_iff (cast_pos h2.1), ← Rat.intCast_mul, ← Int.natCast_mul] at z
    have z2 : (((100000 * secondsOf T h : Nat) : Int) : Rat) < ((1 : Int) : Rat) := z
    rw [rLt] at z2
    omega
theorem toDrop_le (hT : TOk T) (I : HInv h) (hs : 1 ≤ s) : (1 - val h.part) / val (paceM T h s m) ≤ ((9999 : Nat) : Int) := by
  have h2 := secondsOf_b hT h
  have hp := paceM_pos (m := m) hT h hs
  have hge := paceM_ge (m := m) hT h hs
  have hn := val_nn I.part
  refine Rat.not_lt.mp fun z => ?_
  rw [Rat.lt_div_iff hp] at z
  have a := cast_pos h2.1
  have b : ((secondsOf T h : Int) : Rat) ≤ (((9999 : Nat) : Int) : Rat) := by rw [rInt]; omega
  have e1 : (((9999 : Nat) : Int) : Rat) * (1 / ((secondsOf T h : Int) : Rat)) ≤ (((9999 : Nat) : Int) : Rat) * val (paceM T h s m) := Rat.mul_le_mul_of_nonneg_left hge (by decide)
  have e2 : (1 : Rat) ≤ (((9999 : Nat) : Int) : Rat) * (1 / ((secondsOf T h : Int) : Rat)) := by
    refine Rat.not_lt.mp fun z2 => ?_
    rw [show (((9999 : Nat) : Int) : Rat) * (1 / ((secondsOf T h : Int) : Rat)) = (((9999 : Nat) : Int) : Rat) / ((secondsOf T h : Int) : Rat) by grind, Rat.div_lt_iff a] at z2
    grind
  grind

/-- all that is reckoned on a stretch is of a known size, and how the grid grows -/
structure Sized (K : Nat) (T : List Tariff) (s m : Nat) (stop : Q) (h : Hire) : Prop where
  pace : Sz K (paceM T h s m)
  rest : Sz K ((Mu30.nat 1).less h.part)
  toDrop : Sz K (((Mu30.nat 1).less h.part).over (paceM T h s m))
  fall : Sz K (fallAt T s m h)
  halt : Sz K stop
  gone : Sz K h.gone
  part : Sz K h.part
  left : Sz K (stop.less h.gone)
  goes : Sz K ((paceM T h s m).times (stop.less h.gone))
theorem cast_le {x : Rat} {a b : Nat} (h : x ≤ ((a : Int) : Rat)) (h2 : a ≤ b) : x ≤ ((b : Int) : Rat) := Rat.le_trans h (rInt.mpr (by omega))
theorem grown (hL : L ≤ 2 ^ (45 * n)) {c : Nat} (h : c < 2 ^ 45) : L * c ≤ 2 ^ (45 * (n + 1)) := by
  rw [Nat.mul_add, Nat.mul_one, Nat.pow_add]
  exact Nat.mul_le_mul hL (Nat.le_of_lt h)
theorem sized (hT : TOk T) (I : HInv h) (hs : 1 ≤ s) (hs2 : s ≤ 20000) (hm : m ≤ 100000) (ho : Ok stop) (hg : val h.gone ≤ val stop) (hch : val stop ≤ val h.gone + 86400)
    (hL : 0 < L) (hLn : L ≤ 2 ^ (45 * n)) (g1 : Grid L (val h.gone)) (g2 : Grid L (val h.part)) (g3 : Grid L (val stop)) (hv : val h.gone ≤ ((86400 * n : Nat) : Int)) (hn : n ≤ 100000) :
    Sized (45 * (n + 1) + 1 + 40) T s m stop h := by
  have fb := factor_b (h := h) hT hs hs2 hm
  have hL1 : 0 < L * factor T h s m := Nat.mul_pos hL fb.1
  have hL2 : L * factor T h s m < 2 ^ (45 * (n + 1) + 1) := Nat.lt_of_le_of_lt (grown hLn fb.2) (Nat.pow_lt_pow_right (by decide) (by omega))
  have lt1 := I.lt1
  have pn := val_nn I.part
  have bigN : 86400 * n + 86400 + 9999 < 2 ^ 40 := by omega
  have c1 : ((86400 * n : Nat) : Int) + 86400 = ((86400 * n + 86400 : Nat) : Int) := by omega
  have vs : val stop ≤ ((86400 * n + 86400 : Nat) : Int) := by
    have e : (((86400 * n + 86400 : Nat) : Int) : Rat) = ((86400 * n : Nat) : Int) + 86400 := by rw [← c1, Rat.intCast_add]; rfl
    rw [e]
    grind
  have tl := toDrop_le (m := m) hT I hs
  have vf : val (fallAt T s m h) ≤ ((86400 * n + 9999 : Nat) : Int) := by
    rw [val_fallAt hT I hs]
    have e : (((86400 * n + 9999 : Nat) : Int) : Rat) = ((86400 * n : Nat) : Int) + ((9999 : Nat) : Int) := by rw [← Rat.intCast_add]; rfl
    rw [e]
    grind
  have po := paceM_ok (m := m) hT h hs
  have pp := paceM_pos (m := m) hT h hs
  have pl := pace_le (h := h) hT hs hm
  have lo := less_ok ho I.gone hg
  have lv := val_less ho I.gone hg
  have go := times_ok po lo
  have gv := val_times po lo
  have vl : val (stop.less h.gone) ≤ ((86400 : Nat) : Int) := by
    rw [lv]
    have e : (((86400 : Nat) : Int) : Rat) = 86400 := rfl
    rw [e]
    grind
  have vg : val ((paceM T h s m).times (stop.less h.gone)) ≤ ((100000 * 86400 : Nat) : Int) := by
    rw [gv, Int.natCast_mul, Rat.intCast_mul]
    have e1 := Rat.mul_le_mul_of_nonneg_right pl (val_nn lo)
    have e2 : (((100000 : Nat) : Int) : Rat) * val (stop.less h.gone) ≤ ((100000 : Nat) : Int) * ((86400 : Nat) : Int) := Rat.mul_le_mul_of_nonneg_left vl (by decide)
    exact Rat.le_trans e1 e2
  have gl : Grid L (val (stop.less h.gone)) := by rw [lv]; exact g3.sub g1
  have one : val h.part ≤ ((1 : Nat) : Int) := by
    have e : (((1 : Nat) : Int) : Rat) = 1 := rfl
    rw [e]
    exact Rat.le_of_lt lt1
  refine ⟨?_, ?_, ?_, ?_, ?_, ?_, ?_, ?_, ?_⟩
  · exact Sz.grid po (grid_pace (L := L) hT hs) hL1 hL2 (N := 100000) pl (by decide)
  · refine Sz.grid (rest_ok I) (L := L * factor T h s m) ?_ hL1 hL2 (N := 1) ?_ (by decide)
    · rw [val_rest I]
      exact ((Grid.int L 1).sub g2).finer _
    · rw [val_rest I]
      have e : (((1 : Nat) : Int) : Rat) = 1 := rfl
      rw [e]
      grind
  · refine Sz.grid (toDrop_ok hT I hs) (L := L * factor T h s m) ?_ hL1 hL2 (N := 9999) ?_ (by decide)
    · rw [val_toDrop hT I hs]
      exact grid_toDrop hT I hs g2
    · rw [val_toDrop hT I hs]
      exact tl
  · refine Sz.grid (fallAt_ok hT I hs) (L := L * factor T h s m) ?_ hL1 hL2 vf (by omega)
    rw [val_fallAt hT I hs]
    exact (g1.finer _).add (grid_toDrop hT I hs g2)
  · exact Sz.grid ho (g3.finer _) hL1 hL2 vs (by omega)
  · exact Sz.grid I.gone (g1.finer _) hL1 hL2 hv (by omega)
  · exact Sz.grid I.part (g2.finer _) hL1 hL2 (N := 1) one (by decide)
  · exact Sz.grid lo (gl.finer _) hL1 hL2 (N := 86400) vl (by decide)
  · refine Sz.grid go (L := L * factor T h s m) ?_ hL1 hL2 (N := 100000 * 86400) vg (by decide)
    rw [gv]
    exact grid_go hT hs gl
theorem stretch_grid (hT : TOk T) (I : HInv h) (hs : 1 ≤ s) (ho : Ok stop) (hg : val h.gone ≤ val stop)
    (g1 : Grid L (val h.gone)) (g2 : Grid L (val h.part)) (g3 : Grid L (val stop)) :
    Grid (L * factor T h s m) (val (stretch T s m stop h).gone) ∧ Grid (L * factor T h s m) (val (stretch T s m stop h).part) := by
  have lo := less_ok ho I.gone hg
  have lv := val_less ho I.gone hg
  have gl : Grid L (val (stop.less h.gone)) := by rw [lv]; exact g3.sub g1
  unfold stretch
  by_cases c : stop.below (fallAt T s m h) = true
  · rw [if_pos c]
    refine ⟨g3.finer _, ?_⟩
    show Grid _ (val (h.part.plus ((paceM T h s m).times (stop.less h.gone))))
    rw [val_mid hT I hs ho hg, ← lv]
    exact (g2.finer _).add (grid_go hT hs gl)
  · rw [if_neg c]
    refine ⟨?_, ?_⟩
    · show Grid _ (val (fallAt T s m h))
      rw [val_fallAt hT I hs]
      exact (g1.finer _).add (grid_toDrop hT I hs g2)
    · show Grid _ (val (Mu30.whole 0))
      rw [val_zero]
      exact Grid.int _ 0
/-- how far a hire has come: so many stretches at most -/
structure FitL (L n : Nat) (h : Hire) : Prop where
  pos : 0 < L
  le : L ≤ 2 ^ (45 * n)
  gone : Grid L (val h.gone)
  part : Grid L (val h.part)
  time : val h.gone ≤ ((86400 * n : Nat) : Int)
  few : h.drops.length ≤ n
def Fit (n : Nat) (h : Hire) : Prop := ∃ L, FitL L n h
theorem stretch_fit (hT : TOk T) (I : HInv h) (hs : 1 ≤ s) (hs2 : s ≤ 20000) (hm : m ≤ 100000) (ho : Ok stop) (hg : val h.gone ≤ val stop) (hch : val stop ≤ val h.gone + 86400)
    (F : FitL L n h) (g3 : Grid L (val stop)) : FitL (L * factor T h s m) (n + 1) (stretch T s m stop h) := by
  have fb := factor_b (h := h) hT hs hs2 hm
  have gg := stretch_grid (m := m) hT I hs ho hg F.gone F.part g3
  refine ⟨Nat.mul_pos F.pos fb.1, grown F.le fb.2, gg.1, gg.2, ?_, ?_⟩
  · have h1 := stretch_le (m := m) hT I hs ho
    have h2 := F.time
    have e : (((86400 * (n + 1) : Nat) : Int) : Rat) = ((86400 * n : Nat) : Int) + 86400 := by
      have : ((86400 * (n + 1) : Nat) : Int) = ((86400 * n : Nat) : Int) + 86400 := by omega
      rw [this, Rat.intCast_add]
      rfl
    rw [e]
    grind
  · have h1 := F.few
    unfold stretch
    split
    · exact Nat.le_succ_of_le h1
    · show (h.drops ++ [_]).length ≤ n + 1
      rw [List.length_append]
      show h.drops.length + 1 ≤ n + 1
      omega
theorem fit_sized (hT : TOk T) (I : HInv h) (hs : 1 ≤ s) (hs2 : s ≤ 20000) (hm : m ≤ 100000) (ho : Ok stop) (hg : val h.gone ≤ val stop) (hch : val stop ≤ val h.gone + 86400)
    (F : FitL L n h) (g3 : Grid L (val stop)) (hn : n ≤ 100000) : Sized (45 * (n + 1) + 1 + 40) T s m stop h :=
  sized hT I hs hs2 hm ho hg hch F.pos F.le F.gone F.part g3 F.time hn
theorem FitL.more {j : Nat} (F : FitL L n h) (hj : n ≤ j) : FitL L j h :=
  ⟨F.pos, Nat.le_trans F.le (Nat.pow_le_pow_right (by decide) (by omega)), F.gone, F.part, cast_le F.time (by omega), Nat.le_trans F.few hj⟩
theorem FitL.finer (F : FitL L n h) {c : Nat} (hc : 0 < c) (hle : L * c ≤ 2 ^ (45 * n)) : FitL (L * c) n h :=
  ⟨Nat.mul_pos F.pos hc, hle, F.gone.finer c, F.part.finer c, F.time, F.few⟩
end
end TR


set_option linter.all false
namespace TR
open Mu30 (Q frac Tariff Hire)

/-! ### a tariff's numbers -/
def tNums (t : Tariff) : List Int := [(t.lo : Int), (t.flag : Int), (t.metres0 : Int), (t.seconds0 : Int), (t.price : Int), (t.metres : Int), (t.seconds : Int)]
def leastL : List Int := [0, 0, 1, 1, 1, 1, 1]
def mostL : List Int := [86399, 9999, 9999, 9999, 9999, 9999, 9999]
def isT (ns : List Int) : Prop := ns.length = 7 ∧ ∀ (i : Nat) (n a b : Int), ns[i]? = some n → leastL[i]? = some a → mostL[i]? = some b → a ≤ n ∧ n ≤ b
theorem isT_of {ns : List Int} (h : isT ns) : ∃ t, Mu30.tariffOf (ns.map Int.toNat) = some t ∧ ns = tNums t ∧ TFine t := by
  obtain ⟨hl, hb⟩ := h
  match ns, hl with
  | [a, f, m, s, p, x, y], _ =>
    have h0 := hb 0 a 0 86399 rfl rfl rfl
    have h1 := hb 1 f 0 9999 rfl rfl rfl
    have h2 := hb 2 m 1 9999 rfl rfl rfl
    have h3 := hb 3 s 1 9999 rfl rfl rfl
    have h4 := hb 4 p 1 9999 rfl rfl rfl
    have h5 := hb 5 x 1 9999 rfl rfl rfl
    have h6 := hb 6 y 1 9999 rfl rfl rfl
    refine ⟨⟨a.toNat, f.toNat, m.toNat, s.toNat, p.toNat, x.toNat, y.toNat⟩, ?_, ?_, ?_⟩
    · show (if _ then _ else _) = _
      rw [if_pos]
      show a.toNat < 86400 ∧ _
      omega
    · unfold tNums
      simp only
      rw [Int.toNat_of_nonneg (by omega), Int.toNat_of_nonneg (by omega), Int.toNat_of_nonneg (by omega), Int.toNat_of_nonneg (by omega), Int.toNat_of_nonneg (by omega), Int.toNat_of_nonneg (by omega), Int.toNat_of_nonneg (by omega)]
    · constructor <;> simp only <;> omega
theorem isT_iff {ns : List Int} (nn : ∀ n ∈ ns, 0 ≤ n) {t : Tariff} (h : Mu30.tariffOf (ns.map Int.toNat) = some t) : isT ns := by
  match ns, nn, h with
  | [a, f, m, s, p, x, y], nn, h =>
    have h' : (if a.toNat < 86400 ∧ f.toNat ≤ 9999 ∧ 1 ≤ m.toNat ∧ m.toNat ≤ 9999 ∧ 1 ≤ s.toNat ∧ s.toNat ≤ 9999 ∧ 1 ≤ p.toNat ∧ p.toNat ≤ 9999 ∧ 1 ≤ x.toNat ∧ x.toNat ≤ 9999 ∧ 1 ≤ y.toNat ∧ y.toNat ≤ 9999 then some (⟨a.toNat, f.toNat, m.toNat, s.toNat, p.toNat, x.toNat, y.toNat⟩ : Tariff) else none) = some t := h
    have na := nn a (by simp); have nf := nn f (by simp); have nm := nn m (by simp); have ns' := nn s (by simp); have np := nn p (by simp); have nx := nn x (by simp); have ny := nn y (by simp)
    split at h'
    · rename_i c
      refine ⟨rfl, fun i n a' b' e1 e2 e3 => ?_⟩
      match i, e1, e2, e3 with
      | 0, e1, e2, e3 => cases e1; cases e2; cases e3; omega
      | 1, e1, e2, e3 => cases e1; cases e2; cases e3; omega
      | 2, e1, e2, e3 => cases e1; cases e2; cases e3; omega
      | 3, e1, e2, e3 => cases e1; cases e2; cases e3; omega
      | 4, e1, e2, e3 => cases e1; cases e2; cases e3; omega
      | 5, e1, e2, e3 => cases e1; cases e2; cases e3; omega
      | 6, e1, e2, e3 => cases e1; cases e2; cases e3; omega
      | _ + 7, e1, _, _ => cases e1
    · cases h'
/-! ### all of them -/
def areT (rows : List (List Int)) : Prop := 1 ≤ rows.length ∧ rows.length ≤ 4 ∧ (∀ r ∈ rows, isT r) ∧
  ∀ (i : Nat) (r s : List Int) (a b : Int), rows[i]? = some r → rows[i + 1]? = some s → r[0]? = some a → s[0]? = some b → a < b
theorem allOf_of : ∀ {rows : List (List Int)}, (∀ r ∈ rows, isT r) → ∃ T : List Tariff, Mu30.allOf (rows.map fun r => Mu30.tariffOf (r.map Int.toNat)) = some T ∧ rows = T.map tNums ∧ ∀ t ∈ T, TFine t
  | [], _ => ⟨[], rfl, rfl, fun _ h => nomatch h⟩
  | r :: rows, h => by
    obtain ⟨T, e1, e2, e3⟩ := allOf_of (rows := rows) fun s hs => h s (List.mem_cons_of_mem _ hs)
    obtain ⟨t, f1, f2, f3⟩ := isT_of (h r List.mem_cons_self)
    refine ⟨t :: T, ?_, by rw [List.map_cons, ← f2, ← e2], fun u hu => ?_⟩
    · have e : Mu30.allOf ((r :: rows).map fun r => Mu30.tariffOf (r.map Int.toNat)) = (match Mu30.tariffOf (r.map Int.toNat), Mu30.allOf (rows.map fun r => Mu30.tariffOf (r.map Int.toNat)) with
        | some a, some b => some (a :: b)
        | _, _ => none) := rfl
      rw [e, f1, e1]
    · rcases List.mem_cons.mp hu with rfl | hu
      · exact f3
      · exact e3 u hu
theorem of_allOf : ∀ {rows : List (List Int)} {T : List Tariff}, (∀ r ∈ rows, ∀ n ∈ r, 0 ≤ n) → Mu30.allOf (rows.map fun r => Mu30.tariffOf (r.map Int.toNat)) = some T → ∀ r ∈ rows, isT r
  | [], _, _, _ => fun _ h => nomatch h
  | r :: rows, T, nn, h => by
    have e : Mu30.allOf ((r :: rows).map fun r => Mu30.tariffOf (r.map Int.toNat)) = (match Mu30.tariffOf (r.map Int.toNat), Mu30.allOf (rows.map fun r => Mu30.tariffOf (r.map Int.toNat)) with
        | some a, some b => some (a :: b)
        | _, _ => none) := rfl
    rw [e] at h
    intro s hs
    cases f1 : Mu30.tariffOf (r.map Int.toNat) with
    | none => rw [f1] at h; cases h
    | some t =>
      cases f2 : Mu30.allOf (rows.map fun r => Mu30.tariffOf (r.map Int.toNat)) with
      | none => rw [f1, f2] at h; cases h
      | some T' =>
        rcases List.mem_cons.mp hs with rfl | hs
        · exact isT_iff (nn _ List.mem_cons_self) f1
        · exact of_allOf (fun r hr => nn r (List.mem_cons_of_mem _ hr)) f2 s hs
theorem rising_iff : ∀ {T : List Tariff}, Mu30.rising T = true ↔ ∀ (i : Nat) (a b : Tariff), T[i]? = some a → T[i + 1]? = some b → a.lo < b.lo
  | [] => ⟨fun _ i a b h => by simp at h, fun _ => rfl⟩
  | [t] => ⟨fun _ i a b h h2 => by simp at h2, fun _ => rfl⟩
  | t :: u :: l => by
    have e : Mu30.rising (t :: u :: l) = (decide (t.lo < u.lo) && Mu30.rising (u :: l)) := rfl
    rw [e, Bool.and_eq_true, decide_eq_true_iff, rising_iff (T := u :: l)]
    constructor
    · rintro ⟨h1, h2⟩ i a b e1 e2
      cases i with
      | zero => cases e1; cases e2; exact h1
      | succ i => exact h2 i a b e1 e2
    · intro h
      exact ⟨h 0 t u rfl rfl, fun i a b e1 e2 => h (i + 1) a b e1 e2⟩
/-- what begin takes -/
theorem areT_of {rows : List (List Int)} (h : areT rows) : ∃ T : List Tariff, Mu30.allOf (rows.map fun r => Mu30.tariffOf (r.map Int.toNat)) = some T ∧ rows = T.map tNums ∧ TOk T := by
  obtain ⟨h1, h2, h3, h4⟩ := h
  obtain ⟨T, e1, e2, e3⟩ := allOf_of h3
  refine ⟨T, e1, e2, ?_⟩
  have el : rows.length = T.length := by rw [e2, List.length_map]
  refine ⟨by omega, by omega, e3, rising_iff.mpr fun i a b f1 f2 => ?_⟩
  have := h4 i (tNums a) (tNums b) a.lo b.lo (by rw [e2, List.getElem?_map, f1]; rfl) (by rw [e2, List.getElem?_map, f2]; rfl) rfl rfl
  omega
theorem areT_iff {rows : List (List Int)} (nn : ∀ r ∈ rows, ∀ n ∈ r, 0 ≤ n) {T : List Tariff} (h : Mu30.allOf (rows.map fun r => Mu30.tariffOf (r.map Int.toNat)) = some T) (hl : 0 < T.length) (h4 : T.length ≤ 4) (hr : Mu30.rising T = true) : areT rows := by
  have h3 := of_allOf nn h
  obtain ⟨T', e1, e2, e3⟩ := allOf_of h3
  rw [h] at e1
  cases e1
  have el : rows.length = T.length := by rw [e2, List.length_map]
  refine ⟨by omega, by omega, h3, fun i r s a b f1 f2 f3 f4 => ?_⟩
  rw [e2, List.getElem?_map] at f1 f2
  cases q1 : T[i]? with
  | none => rw [q1] at f1; cases f1
  | some t =>
    cases q2 : T[i + 1]? with
    | none => rw [q2] at f2; cases f2
    | some u =>
      rw [q1] at f1; rw [q2] at f2
      cases f1; cases f2; cases f3; cases f4
      have := rising_iff.mp hr i t u q1 q2
      omega

/-! ### which holds -/
def holdsTo (T : List Tariff) (sec i : Nat) : Nat := match (List.range i).reverse.find? fun (i : Nat) => (T[i]?).any fun (t : Tariff) => decide (t.lo ≤ sec) with
  | some j => j
  | none => T.length - 1
theorem holdsTo_zero (T : List Tariff) (sec : Nat) : holdsTo T sec 0 = T.length - 1 := rfl
theorem holdsTo_succ {T : List Tariff} {sec i : Nat} {t : Tariff} (h : T[i]? = some t) : holdsTo T sec (i + 1) = if t.lo ≤ sec then i else holdsTo T sec i := by
  unfold holdsTo
  rw [List.range_succ, List.reverse_append]
  show (match (i :: (List.range i).reverse).find? _ with | some j => j | none => _) = _
  rw [List.find?_cons, h]
  by_cases c : t.lo ≤ sec
  · rw [if_pos c]
    simp [c]
  · rw [if_neg c]
    simp [c]
theorem holdsTo_all (T : List Tariff) (sec : Nat) : holdsTo T sec T.length = Mu30.holds T sec := rfl

/-! ### the next change -/
theorem lo_sorted {T : List Tariff} (h : Mu30.rising T = true) : ∀ (j i : Nat) (a b : Tariff), i < j → T[i]? = some a → T[j]? = some b → a.lo < b.lo := by
  intro j
  induction j with
  | zero => intro i a b hi; omega
  | succ j ih =>
    intro i a b hi ea eb
    have hj : j + 1 < T.length := (List.getElem?_eq_some_iff.mp eb).1
    have ec : T[j]? = some (T[j]'(by omega)) := List.getElem?_eq_getElem (by omega)
    have st := rising_iff.mp h j _ b ec eb
    rcases Nat.lt_or_ge i j with c | c
    · have := ih i a _ c ea ec
      omega
    · have : i = j := by omega
      subst this
      rw [ea] at ec
      cases ec
      exact st
/-- how long till a tariff begins again -/
def till (t : Tariff) (sec : Nat) : Int := ((t.lo : Int) - (sec : Int) - 1) % 86400 + 1
theorem till_up {t : Tariff} {sec : Nat} (hs : sec < 86400) (hl : t.lo < 86400) (h : sec < t.lo) : till t sec = ((t.lo - sec : Nat) : Int) := by
  unfold till
  rw [Int.emod_eq_of_lt (by omega) (by omega)]
  omega
theorem till_down {t : Tariff} {sec : Nat} (hs : sec < 86400) (hl : t.lo < 86400) (h : ¬ sec < t.lo) : till t sec = ((86400 - sec + t.lo : Nat) : Int) := by
  unfold till
  have e : ((t.lo : Int) - (sec : Int) - 1) % 86400 = ((t.lo : Int) - (sec : Int) - 1 + 86400) % 86400 := by omega
  rw [e, Int.emod_eq_of_lt (by omega) (by omega)]
  omega
theorem nextLo_min {T : List Tariff} (hT : TOk T) {sec : Nat} (hs : sec < 86400) {m : Int} (hm : m ∈ T.map fun t => till t sec) (hle : ∀ y ∈ T.map fun t => till t sec, m ≤ y) : m = ((Mu30.nextLo T sec : Nat) : Int) := by
  obtain ⟨u, hu, rfl⟩ := List.mem_map.mp hm
  have lu := (hT.fine u hu).lo
  unfold Mu30.nextLo
  cases e : T.find? fun (t : Tariff) => decide (sec < t.lo) with
  | some t =>
    have ht := List.mem_of_find?_eq_some e
    have lt := (hT.fine t ht).lo
    have c : sec < t.lo := of_decide_eq_true (List.find?_some (p := fun t : Tariff => decide (sec < t.lo)) e)
    have l1 := hle _ (List.mem_map.mpr ⟨t, ht, rfl⟩)
    rw [till_up hs lt c] at l1
    show till u sec = ((t.lo - sec : Nat) : Int)
    by_cases cu : sec < u.lo
    · rw [till_up hs lu cu] at l1 ⊢
      -- the first that is later is the least
      obtain ⟨as, bs, e1, e2⟩ := (List.find?_eq_some_iff_append (p := fun t : Tariff => decide (sec < t.lo))).mp e |>.2
      have : t.lo ≤ u.lo := by
        rw [e1] at hu
        rcases List.mem_append.mp hu with z | z
        · have := e2 u z
          simp at this
          omega
        · rcases List.mem_cons.mp z with rfl | z
          · exact Nat.le_refl _
          · obtain ⟨j, hj⟩ := List.getElem?_of_mem z
            have i1 : T[as.length]? = some t := by rw [e1]; simp
            have i2 : T[as.length + 1 + j]? = some u := by
              rw [e1, List.getElem?_append_right (by omega), show as.length + 1 + j - as.length = j + 1 by omega]
              simpa using hj
            exact Nat.le_of_lt (lo_sorted hT.up _ _ _ _ (by omega) i1 i2)
      omega
    · rw [till_down hs lu cu] at l1 ⊢
      omega
  | none =>
    have none : ∀ t ∈ T, ¬ sec < t.lo := fun t ht => by simpa using List.find?_eq_none.mp e t ht
    cases T with
    | nil => have := hT.ne; simp at this
    | cons t l =>
      show till u sec = ((86400 - sec + t.lo : Nat) : Int)
      have lt := (hT.fine t List.mem_cons_self).lo
      have l1 := hle _ (List.mem_map.mpr ⟨t, List.mem_cons_self, rfl⟩)
      rw [till_down hs lt (none t List.mem_cons_self)] at l1
      rw [till_down hs lu (none u hu)] at l1 ⊢
      have : t.lo ≤ u.lo := by
        rcases List.mem_cons.mp hu with rfl | z
        · exact Nat.le_refl _
        · obtain ⟨j, hj⟩ := List.getElem?_of_mem z
          exact Nat.le_of_lt (lo_sorted hT.up (j + 1) 0 _ _ (by omega) rfl (by simpa using hj))
      omega
end TR


set_option linter.all false
namespace TR

/-- a call that may be handed in, as numbers -/
inductive Shape : List (List Int) → Mu30.Call → Prop
  | begin_ (xs : List (List Nat)) (h : xs.length ≤ 6) (hr : ∀ r ∈ xs, r.length ≤ 10) : Shape ([0] :: xs.map fun r => r.map fun (n : Nat) => (n : Int)) (.begin_ xs)
  | hire (x : Nat) (h : x ≤ 100000) : Shape [[1, (x : Int)]] (.hire x)
  | drive (s m : Nat) (h : s ≤ 30000) (h' : m ≤ 200000) : Shape [[2, (s : Int), (m : Int)]] (.drive s m)
  | extra (n : Nat) (h : n ≤ 20000) : Shape [[3, (n : Int)]] (.extra n)
  | fare : Shape [[4]] .fare
  | drops : Shape [[5]] .drops
  | next (s m : Nat) (h : s ≤ 30000) (h' : m ≤ 200000) : Shape [[6, (s : Int), (m : Int)]] (.next s m)
  | would (s m : Nat) (h : s ≤ 30000) (h' : m ≤ 200000) : Shape [[7, (s : Int), (m : Int)]] (.would s m)
  | pay : Shape [[8]] .pay
  | reach (n s m : Nat) (h0 : n ≤ 500) (h : s ≤ 30000) (h' : m ≤ 200000) : Shape [[9, (n : Int), (s : Int), (m : Int)]] (.reach n s m)
  | join (k : Nat) (h : k ≤ 200) : Shape [[10, (k : Int)]] (.join k)
  | take (t : Nat) (h : t ≤ 200000) : Shape [[11, (t : Int)]] (.take t)
  | back (k t f : Nat) (h : k ≤ 200) (h1 : t ≤ 200000) (h2 : f ≤ 20000) : Shape [[12, (k : Int), (t : Int), (f : Int)]] (.back k t f)
  | leave (k : Nat) (h : k ≤ 200) : Shape [[13, (k : Int)]] (.leave k)
  | rank : Shape [[14]] .rank

theorem within_nat {z lo hi : Int} (h : NeutralIO.within z lo hi = true) (h0 : 0 ≤ lo) : ∃ n : Nat, z = (n : Int) ∧ (n : Int) ≤ hi := by
  unfold NeutralIO.within at h
  rw [Bool.and_eq_true, decide_eq_true_iff, decide_eq_true_iff] at h
  exact ⟨z.toNat, by omega, by omega⟩
theorem nats_of : ∀ {r : List Int}, (∀ z ∈ r, ∃ n : Nat, z = (n : Int)) → ∃ s : List Nat, r = s.map fun (n : Nat) => (n : Int)
  | [], _ => ⟨[], rfl⟩
  | z :: r, h => by
    obtain ⟨n, e⟩ := h z List.mem_cons_self
    obtain ⟨s, e2⟩ := nats_of (r := r) fun y hy => h y (List.mem_cons_of_mem _ hy)
    exact ⟨n :: s, by rw [e, e2]; rfl⟩
theorem rows_of : ∀ {xs : List (List Int)}, (∀ r ∈ xs, ∃ s : List Nat, r = s.map fun (n : Nat) => (n : Int)) → ∃ ys : List (List Nat), xs = ys.map fun r => r.map fun (n : Nat) => (n : Int)
  | [], _ => ⟨[], rfl⟩
  | r :: xs, h => by
    obtain ⟨s, e⟩ := h r List.mem_cons_self
    obtain ⟨ys, e2⟩ := rows_of (xs := xs) fun y hy => h y (List.mem_cons_of_mem _ hy)
    exact ⟨s :: ys, by rw [e, e2]; rfl⟩
theorem nats_back (r : List Nat) : Mu30Neutral.nats (r.map fun (n : Nat) => (n : Int)) = r := by
  unfold Mu30Neutral.nats
  rw [List.map_map]
  have : (Int.toNat ∘ fun (n : Nat) => (n : Int)) = id := by funext n; rfl
  rw [this, List.map_id]
theorem shape_of {c : List (List Int)} (h : Mu30Neutral.asked1 c = true) : ∃ x, Shape c x ∧ Mu30Neutral.callOf c = some x := by
  unfold Mu30Neutral.asked1 at h
  split at h
  · rename_i l
    rw [Bool.and_eq_true, decide_eq_true_iff, List.all_eq_true] at h
    obtain ⟨h1, h2⟩ := h
    have h3 : ∀ r ∈ l, r.length ≤ 10 ∧ ∃ s : List Nat, r = s.map fun (n : Nat) => (n : Int) := fun r hr => by
      have := h2 r hr
      rw [Bool.and_eq_true, decide_eq_true_iff, List.all_eq_true] at this
      refine ⟨this.1, nats_of fun z hz => ?_⟩
      obtain ⟨n, e, _⟩ := within_nat (this.2 z hz) (by decide)
      exact ⟨n, e⟩
    obtain ⟨ys, rfl⟩ := rows_of fun r hr => (h3 r hr).2
    refine ⟨.begin_ ys, .begin_ ys (by simpa using h1) (fun r hr => ?_), ?_⟩
    · have := (h3 _ (List.mem_map.mpr ⟨r, hr, rfl⟩)).1
      simpa using this
    · show some (Mu30.Call.begin_ ((ys.map fun r => r.map fun (n : Nat) => (n : Int)).map Mu30Neutral.nats)) = _
      rw [List.map_map]
      have : (Mu30Neutral.nats ∘ fun r : List Nat => r.map fun (n : Nat) => (n : Int)) = id := by funext r; exact nats_back r
      rw [this, List.map_id]
  · rename_i x
    obtain ⟨n, rfl, hn⟩ := within_nat h (by decide)
    exact ⟨_, .hire n (by omega), rfl⟩
  · rename_i s m
    unfold Mu30Neutral.way at h
    rw [Bool.and_eq_true] at h
    obtain ⟨n, rfl, hn⟩ := within_nat h.1 (by decide)
    obtain ⟨k, rfl, hk⟩ := within_nat h.2 (by decide)
    exact ⟨_, .drive n k (by omega) (by omega), rfl⟩
  · rename_i x
    obtain ⟨n, rfl, hn⟩ := within_nat h (by decide)
    exact ⟨_, .extra n (by omega), rfl⟩
  · exact ⟨_, .fare, rfl⟩
  · exact ⟨_, .drops, rfl⟩
  · rename_i s m
    unfold Mu30Neutral.way at h
    rw [Bool.and_eq_true] at h
    obtain ⟨n, rfl, hn⟩ := within_nat h.1 (by decide)
    obtain ⟨k, rfl, hk⟩ := within_nat h.2 (by decide)
    exact ⟨_, .next n k (by omega) (by omega), rfl⟩
  · rename_i s m
    unfold Mu30Neutral.way at h
    rw [Bool.and_eq_true] at h
    obtain ⟨n, rfl, hn⟩ := within_nat h.1 (by decide)
    obtain ⟨k, rfl, hk⟩ := within_nat h.2 (by decide)
    exact ⟨_, .would n k (by omega) (by omega), rfl⟩
  · exact ⟨_, .pay, rfl⟩
  · rename_i x s m
    unfold Mu30Neutral.way at h
    rw [Bool.and_eq_true, Bool.and_eq_true] at h
    obtain ⟨j, rfl, hj⟩ := within_nat h.1 (by decide)
    obtain ⟨n, rfl, hn⟩ := within_nat h.2.1 (by decide)
    obtain ⟨k, rfl, hk⟩ := within_nat h.2.2 (by decide)
    exact ⟨_, .reach j n k (by omega) (by omega) (by omega), rfl⟩
  · rename_i k
    obtain ⟨n, rfl, hn⟩ := within_nat (show NeutralIO.within k 0 200 = true from h) (by decide)
    exact ⟨_, .join n (by omega), rfl⟩
  · rename_i t
    obtain ⟨n, rfl, hn⟩ := within_nat h (by decide)
    exact ⟨_, .take n (by omega), rfl⟩
  · rename_i k t f
    rw [Bool.and_eq_true, Bool.and_eq_true] at h
    obtain ⟨j, rfl, hj⟩ := within_nat (show NeutralIO.within k 0 200 = true from h.1) (by decide)
    obtain ⟨n, rfl, hn⟩ := within_nat h.2.1 (by decide)
    obtain ⟨m, rfl, hm⟩ := within_nat h.2.2 (by decide)
    exact ⟨_, .back j n m (by omega) (by omega) (by omega), rfl⟩
  · rename_i k
    obtain ⟨n, rfl, hn⟩ := within_nat (show NeutralIO.within k 0 200 = true from h) (by decide)
    exact ⟨_, .leave n (by omega), rfl⟩
  · exact ⟨_, .rank, rfl⟩
  · cases h
/-- what is handed in: calls, each of a shape, 60 at most -/
theorem asked_split {l : List Int} (h : PyMu30.answers_asked l = true) : ∃ cs : List (List (List Int)), l = PyWide.put cs ∧ (∀ c ∈ cs, PyWide.okCall c) ∧ cs.length ≤ 60 ∧ (∀ c ∈ cs, ∃ x, Shape c x ∧ Mu30Neutral.callOf c = some x) ∧
    PyMu30.answers l = PyFlat.told (PyFlat.played Mu30Neutral.step Mu30Neutral.start cs) := by
  unfold PyMu30.answers_asked at h
  cases e : PyMu30.calls l with
  | none => rw [e] at h; cases h
  | some cs =>
    rw [e] at h
    simp only [Bool.and_eq_true] at h
    have h3 := h.1.2
    unfold Mu30Neutral.asked at h3
    rw [Bool.and_eq_true, Bool.and_eq_true, decide_eq_true_iff, List.all_eq_true] at h3
    have e2 : PyWide.calls l.length l = some cs := e
    obtain ⟨p1, p2⟩ := PyWide.put_calls _ _ _ e2
    refine ⟨cs, p1, p2, of_decide_eq_true h3.2.1, fun c hc => shape_of (h3.2.2 c hc), ?_⟩
    unfold PyMu30.answers
    rw [e]
end TR


set_option Elab.async false
set_option linter.all false
set_option maxRecDepth 100000
set_option maxHeartbeats 2000000
namespace TR
open PySem PySem.Spec PyProof.Rows L2
open PySem.W (WData Codec OpenSpec Well WellAll ReadsW ReadsAllW)

/-- the heap without the arguments still has what a great division asks for -/
theorem seer_hid {h : Heap} {H : Hp} (N : h.NoSeer) (free : ∀ (b : Addr) (o : Obj), h.get? b = some o → o.cls ≠ .type "list" → o.cls ≠ .type "tuple" → H b = none)
    (ns : ∀ (b : Addr) (m : Str → Option Value), h.Ns b m → (hidT h H).Ns b m) : (hidT h H).NoSeer := by
  obtain ⟨mc, c0, c1, c2⟩ := N.statics
  obtain ⟨mm, m0, m1⟩ := N.mods
  obtain ⟨mb, b0, b1⟩ := N.imp
  obtain ⟨mg, bm, ob, g0, g1, g2, g3, g4⟩ := N.main
  refine ⟨⟨mc, ns _ _ c0, c1, c2⟩, ⟨mm, ns _ _ m0, m1⟩, ⟨mb, ns _ _ b0, b1⟩, ⟨mg, bm, ob, ns _ _ g0, g1, ?_, g3, g4⟩⟩
  refine hidT_get g2 (free bm ob g2 ?_ ?_)
  · rw [g3]
    decide
  · rw [g3]
    decide

theorem call_seen {P : Program} {w : World} {K : PySem.W.Frag} {mg mb : Str → Option Value} {k : Nat} {fa : Addr} {fd : FuncData} {ps : List Str} {sp : Sp} {s1 : Shared} {vals : List Value} {ds : List WData}
    {R : PySem.W.WRecords} {cl : Str → Option Addr} {d0 : WData} (KX : K.In s1.heap) (ng : s1.heap.Ns mainGlobals mg) (nb : s1.heap.Ns builtinsNs mb) (nbb : ∀ x : Str, x ≠ "__name__" → mb x = bootBuiltins x)
    (lim : s1.heap.NoLimit) (seer : s1.heap.NoSeer) (bare : s1.gens = #[]) (wl : WellAll w.params s1.heap vals ds) (pl : plWs ds = true) (wt : ∀ d ∈ ds, d.weight ≤ 1048576) (hr : Room k callerA)
    (F : ∀ base : Heap, K.In base → base.Ns mainGlobals mg → base.NoSeer → FnOk P w K mg base CX0 k fa fd ps sp)
    (bind : ∀ (s : Shared) (us : List Value), us.length = ps.length → BindsTo s fd ⟨us, []⟩ (ps.zip us)) (len : ds.length = ps.length)
    (want : ∀ (H : Hp) (xs : List V), OnlyF H → DwAll K H xs ds → sp xs H (fun v H' => Dw K H' v d0) fun _ _ _ => False) :
    codeAny (model P w) callerA (.call (.ref fa) ⟨vals, []⟩)
      (fun r s' => ∃ u as, r = .ok (.ret u) ∧ ReadsW R cl s'.heap u d0 as ∧ OldK s1.heap s'.heap ∧ s'.os = s1.os ∧ AllBare s'.gens) s1 := by
  obtain ⟨A, oa, ar⟩ := area_all ds vals wl pl wt
  have only : OnlyF (argH K s1.heap A) := argH_only ar
  have held : HOk P w (argH K s1.heap A) s1.heap := argH_ok ar
  have dws := dw_all KX ar ds vals wl pl oa
  have vv := vals_toV oa
  have offK : ∀ b u, argH K s1.heap A b = some u → K.lookup b = none := fun b u q => (argH_is ar q).1
  have seqs : ∀ (b : Addr) (o : Obj), s1.heap.get? b = some o → argH K s1.heap A b ≠ none →
      (o.cls = .type "list" ∨ o.cls = .type "tuple") ∧ ∃ its n, o.data = .seq its n := by
    intro b o e ne
    cases q : argH K s1.heap A b with
    | none => exact absurd q ne
    | some u =>
      obtain ⟨_, vs, _, _, z⟩ := argH_is ar q
      rcases z with ⟨e2, _⟩ | ⟨e2, _⟩
      · have e3 := Option.some.inj (e.symm.trans e2)
        subst e3
        exact ⟨.inl rfl, _, _, rfl⟩
      · have e3 := Option.some.inj (e.symm.trans e2)
        subst e3
        exact ⟨.inr rfl, _, _, rfl⟩
  generalize argH K s1.heap A = H at only held dws offK seqs
  have noDict : ∀ (b : Addr) (o : Obj) (es : Array DictEntry) (ep : Nat), s1.heap.get? b = some o → o.data = .dict es ep → H b = none := by
    intro b o es ep e d
    apply Classical.byContradiction
    intro ne
    obtain ⟨_, its, n, d2⟩ := seqs b o e ne
    rw [d] at d2
    cases d2
  have nsB : ∀ (b : Addr) (m : Str → Option Value), s1.heap.Ns b m → (hidT s1.heap H).Ns b m := by
    intro b m ⟨o, es, ep, e, d, r⟩
    exact ⟨o, es, ep, hidT_get e (noDict b o es ep e d), d, r⟩
  have KB : K.In (hidT s1.heap H) := by
    intro b o e
    refine hidT_get (KX b o e) ?_
    cases q : H b with
    | none => rfl
    | some u =>
      have := offK b u q
      rw [e] at this
      cases this
  have SB : (hidT s1.heap H).NoSeer := by
    refine seer_hid seer (fun b o e n1 n2 => ?_) nsB
    apply Classical.byContradiction
    intro ne
    rcases (seqs b o e ne).1 with z | z
    · exact n1 z
    · exact n2 z
  have MB : Mod K mg (hidT s1.heap H) := by
    obtain ⟨mc, l1, l2⟩ := lim
    exact ⟨KB, nsB _ _ ng, ⟨mb, nsB _ _ nb, nbb⟩, ⟨mc, nsB _ _ l1, l2⟩⟩
  have env0 : Env0 P w K mg (hidT s1.heap H) callerA [] s1 H := by
    refine ⟨rfl, MB, fun b o e => of_hidT e, Nat.le_of_eq (hidT_size _ _), trivial, ?_, held, AllBare.of_eq bare⟩
    intro b hb
    exact absurd (show b ∈ ([] : List Addr) from hb) (by simp)
  have lv : vals.length = ps.length := by
    rw [wellAll_len wl]
    exact len
  refine codeAny_mono ((F _ KB (nsB _ _ ng) SB).run callerA [] s1 H ⟨vals, []⟩ vals (vals.map toV) _ _ hr env0 (bind s1 vals lv) vv (want H _ only dws)) ?_
  intro r s' fin
  cases r with
  | error e => exact False.elim fin
  | ok fl =>
    cases fl with
    | next => exact False.elim fin
    | brk => exact False.elim fin
    | cont => exact False.elim fin
    | ret u =>
      obtain ⟨v, H', os, br, un, held', rv, q⟩ := fin
      have stays : ∀ b o, s1.heap.get? b = some o → s'.heap.get? b = some o := by
        intro b o e
        cases hb : H b with
        | none => exact un.keep b o e hb (fun z => absurd (show b ∈ ([] : List Addr) from z) (by simp)) (by simp)
        | some u2 =>
          rcases only b with z | ⟨ob, u3, z⟩
          · rw [hb] at z
            cases z
          · obtain ⟨e1, _⟩ := held b _ z
            obtain ⟨e2, _⟩ := held' b _ (un.frzs b ob _ z)
            have e3 := Option.some.inj (e.symm.trans e1)
            subst e3
            exact e2
      have KX' : K.In s'.heap := fun b o e => stays b o (KX b o e)
      obtain ⟨as, rd⟩ := Dw.reads (R := R) (cl := cl) held' KX' d0 v u q rv
      exact ⟨u, as, rfl, rd, OldK.of_keep stays, os, br⟩

/-- the goal behind the head, from the promise of the row's def, which may lean on what a great division asks for -/
theorem walk_seen {r : OpenSpec} {k : Nat} {q : Program} {loose : List Str} {XP : (Str → Option Value) → Heap → Prop} {YP : World → Heap → Prop} {d : DefRec} {K : Params → PySem.W.Frag} {ps : List Str} {sp : PySem.W.Frag → Sp}
    (well : r.wellSaid = true) (imp : importsNone q = true) (len : r.args.length = ps.length) (hr : Room k callerA) (hY : ∀ (w : World) (h : Heap), YP w h → (K w.params).In h)
    (F : ∀ (w : World) (gl : Str → Option Value) (at0 : Addr) (hp : Heap), YP w hp → (K w.params).In hp → hp.Ns mainGlobals gl → gl d.name = some (.ref at0) → ∃ fd : FuncData,
      (∀ (s : Shared) (us : List Value), us.length = ps.length → BindsTo s fd ⟨us, []⟩ (ps.zip us)) ∧ ∀ base : Heap, (K w.params).In base → base.Ns mainGlobals gl → base.NoSeer →
        FnOk r.prog w (K w.params) gl base CX0 k at0 fd ps (sp (K w.params)))
    (want : ∀ (K : PySem.W.Frag) (H : Hp) (xs : List V) (a : Codec.denoteAll r.args), OnlyF H → Codec.withinAll r.args a = true → Codec.app r.args r.asked a = true → DwAll K H xs (Codec.encAll r.args a) →
      sp K xs H (fun v H' => Dw K H' v (r.ret.enc (Codec.app r.args r.f a))) fun _ _ _ => False) :
    PySem.W.WalkOS q loose XP YP r d [] fun callee given => PySem.call callee given := by
  intro w s0 s1 mg mb G Y fa o pm cd doc dV kV ho hd hcd hD hmg hg args vals as hpre hlay hrd hwl hlo
  obtain ⟨a, e1, isAsked⟩ := PySem.W.os_pre_some hpre
  obtain ⟨e3, inside⟩ := Codec.encAll_of_decAll r.args args a e1
  subst e3
  have KX := hY w _ Y
  obtain ⟨fd, binds, promise⟩ := F w mg fa _ Y KX G.T.g hmg
  have run := call_seen (R := []) (cl := classAt s0.heap) (d0 := r.ret.enc (Codec.app r.args r.f a)) KX G.T.g G.T.b G.T.builtins G.T.nolimit (G.T.seer imp) hg hwl (pl_encAll _ _)
    (layable_weight hlay) hr promise binds (by rw [encAll_len]; exact len) (fun H xs hO hS => want (K w.params) H xs a hO inside isAsked hS)
  refine PySem.W.enter_call (codeAny_mono run ?_)
  intro r' s' fin
  obtain ⟨u, as', rfl, f1, f2, f3, f4⟩ := fin
  refine ⟨.inl ⟨u, _, as', rfl, fun _ => rfl, f1, (OpenSpec.post_iff well inside _ _).mpr rfl, ?_⟩, f2, f3, f4⟩
  intro z
  exact Bool.noConfusion (show false = true from z)
end TR


set_option Elab.async false
set_option linter.all false
set_option maxRecDepth 100000
set_option maxHeartbeats 2000000
namespace TR
open PySem PySem.Spec PyProof.Rows L2
open Mu30 (Q frac)

def topS (i : Nat) : Stmt := PySem.Challenge.pw_taxirank_s01_answers.main.body.getD i (.Pass ⟨0, 0, 0, 0⟩)
abbrev sGcd : Stmt := topS 3
abbrev sLow : Stmt := topS 4
abbrev sPlus : Stmt := topS 5
abbrev sMinus : Stmt := topS 6
abbrev sTimes : Stmt := topS 7
abbrev sDiv : Stmt := topS 8
abbrev sBelow : Stmt := topS 9
abbrev sFloor : Stmt := topS 10

/-! ### a def as its callers know it -/
structure DefAt (P : Program) (w : World) (K : PySem.W.Frag) (mg : Str → Option Value) (base : Heap) (x : Str) (k : Nat) (ps : List Str) (sp : Sp) : Prop where
  ex : ∃ (f : Addr) (fd : FuncData), mg x = some (.ref f) ∧ PySem.W.keepIn K (.ref f) = true ∧ Binds K fd ps [] ∧ FnOk P w K mg base CX0 k f fd ps sp
theorem pe_def {X : Cx} {k j : Nat} {x : Str} {ps : List Str} {sp : Sp} {p pos : Pos} {e : Expr} {es : List Expr} {t : TA} (D : DefAt X.prog X.w X.K X.mg X.base x k ps sp) (hr : Room j X.A) (hkj : k ≤ j) (hg : Gl X x) (ha : PA X (e :: es) t)
    (hdb : (x == ("__debug__" : Str)) = false := by decide) (he : starEach (e :: es) X.env = (false, eval e X.env) :: starEach es X.env := by rfl) (hpl : (backTo pos (starEach es X.env)).any (·.1) = false := by rfl) :
    PE X (.Call (.Name x p) (e :: es) [] pos) (tCall sp [] E0 t) := by
  obtain ⟨f, fd, h1, h2, h3, h4⟩ := D.ex
  exact pe_call h4 (hr.mono hkj) hg h1 h2 h3 .nil pass0 ha hdb he hpl
/-! ### fractions in the heap -/
/-- the tuple of a fraction -/
def qT (q : Q) : HO := .tup [.int q.n, .int (q.d : Int)]
def QAt (K : PySem.W.Frag) (H : Hp) (a : Addr) (q : Q) : Prop := SqT K H a [.int q.n, .int (q.d : Int)]
theorem QAt.of {K : PySem.W.Frag} {H : Hp} {a : Addr} {q : Q} (h : H a = some (qT q)) : QAt K H a q := SqT.of h

/-! ### promises -/
def spGcd : Sp := fun vs H Q _ => ∃ a b : Int, vs = [.int a, .int b] ∧ 0 ≤ a ∧ 0 ≤ b ∧ Q (.int ((Nat.gcd a.natAbs b.natAbs : Nat) : Int)) H
def spLow : Sp := fun vs H Q _ => ∃ n d : Int, vs = [.int n, .int d] ∧ 0 ≤ n ∧ 0 < d ∧ ∀ p, H p = none → Q (.ref p) (upd H p (qT (frac n d)))
/-- an operation of two fractions of known sizes -/
def spQ2 (K : PySem.W.Frag) (C : Mu30.Q → Mu30.Q → Prop) (f : Mu30.Q → Mu30.Q → Mu30.Q) : Sp := fun vs H Q _ => ∃ (a b : Addr) (x y : Mu30.Q) (k : Nat), vs = [.ref a, .ref b] ∧ QAt K H a x ∧ QAt K H b y ∧ Ok x ∧ Ok y ∧ Sz k x ∧ Sz k y ∧ 0 < k ∧ k ≤ 10000000 ∧ C x y ∧
  ∀ p, H p = none → Q (.ref p) (upd H p (qT (f x y)))
def spBelow (K : PySem.W.Frag) : Sp := fun vs H Q _ => ∃ (a b : Addr) (x y : Mu30.Q) (k : Nat), vs = [.ref a, .ref b] ∧ QAt K H a x ∧ QAt K H b y ∧ Sz k x ∧ Sz k y ∧ 0 < k ∧ k ≤ 10000000 ∧ Q (.bl (x.below y)) H
def spFloor (K : PySem.W.Frag) : Sp := fun vs H Q _ => ∃ (a : Addr) (x : Mu30.Q), vs = [.ref a] ∧ QAt K H a x ∧ Ok x ∧ Q (.int ((Mu30.floorOf x : Nat) : Int)) H

section
variable {P : Program} {w : World} {K : PySem.W.Frag} {mg : Str → Option Value} {base : Heap}
theorem scGcd : FnScope ["first", "second", "left", "right", "rest"] ["first", "second"] (defScope sGcd) := ⟨rfl, rfl, rfl, by decide +kernel, rfl, by decide +kernel, by decide +kernel⟩
theorem ok_gcd {f : Addr} {fd : FuncData} (F : Fun K "common_divisor" "common_divisor" sGcd f fd) : FnOk P w K mg base CX0 1 f fd ["first", "second"] spGcd := by
  refine F.ok scGcd (fun vs H Q E h => ?_) (fun cdv A outer s H vs Q E hr h => ?_)
  · obtain ⟨a, b, rfl, _⟩ := h
    rfl
  · obtain ⟨a, b, rfl, ha, hb, k⟩ := h
    refine ⟨_, pss_cons (ps_set (i := 2) scGcd.nd rfl (.inl rfl) (pv 0)) (pss_cons (ps_set (i := 3) scGcd.nd rfl (.inl rfl) (pv 1))
      (pss_cons (ps_while PassesOwn.never (pt_cmpR op_gt (pv 3) pe_int (nomark _))
        (pss_cons (ps_set (i := 4) scGcd.nd rfl (.inl rfl) (pe_op op_mod (pv 2) (pv 3)))
          (pss_cons (ps_set (i := 2) scGcd.nd rfl (.inl rfl) (pv 3)) (pss_one (ps_set (i := 3) scGcd.nd rfl (.inl rfl) (pv 4))))))
      (pss_one (ps_ret (pv 2))))), ?_⟩
    refine ⟨_, rfl, _, rfl, ?_⟩
    refine while_by (fun σ H' => ∃ (x y : Int) (r : Option V), σ = [some (.int a), some (.int b), some (.int x), some (.int y), r] ∧ H' = H ∧ 0 ≤ x ∧ 0 ≤ y ∧ Nat.gcd x.natAbs y.natAbs = Nat.gcd a.natAbs b.natAbs)
      (fun (σ : L2.St) (_ : Hp) => match σ[3]? with | some (some (V.int y)) => y.toNat | _ => 0) ⟨a, b, none, rfl, rfl, ha, hb, rfl⟩ ?_ ?_
    · rintro σ H' ⟨x, y, r, rfl, rfl, hx, hy, e⟩
      refine ⟨_, rfl, _, _, rfl, rfl, _, rfl, ?_⟩
      by_cases c : 0 < y
      · rw [decide_eq_true c]
        refine iteT ?_
        refine ⟨_, rfl, _, rfl, _, _, rfl, rfl, c, _, rfl, _, rfl, ⟨y, x % y, _, rfl, rfl, hy, Int.emod_nonneg _ (by omega), ?_⟩, ?_⟩
        · rw [← e]
          obtain ⟨u, rfl⟩ := Int.eq_ofNat_of_zero_le hx
          obtain ⟨v, rfl⟩ := Int.eq_ofNat_of_zero_le hy
          rw [← Int.natCast_emod]
          simp only [Int.natAbs_natCast]
          rw [Nat.gcd_comm u v, Nat.gcd_comm v (u % v), ← Nat.gcd_rec]
        · show (x % y).toNat < y.toNat
          have h1 := Int.emod_nonneg x (show y ≠ 0 by omega)
          have h2 := Int.emod_lt_of_pos x c
          omega
      · rw [decide_eq_false c]
        refine iteF ?_
        refine ⟨_, rfl, ?_⟩
        have y0 : y = 0 := by omega
        subst y0
        have e2 : x = ((Nat.gcd a.natAbs b.natAbs : Nat) : Int) := by
          rw [← e]
          simp
          omega
        rw [e2]
        exact k
    · rintro σ H' Q1 Q2 hq ⟨v, e, i, j, e1, e2, c, e3, q⟩
      exact ⟨v, e, i, j, e1, e2, c, e3, hq _ _ q⟩

theorem scLow : FnScope ["above", "below", "divisor"] ["above", "below"] (defScope sLow) := ⟨rfl, rfl, rfl, by decide +kernel, rfl, by decide +kernel, by decide +kernel⟩
theorem seen_of {N : List Str} {qual : Str} {sc : Scope} {f : Addr} {cdv : Value} {A : Around} {outer : List Env} {s : Shared} {H : Hp} {E : XK} (hN : base.NoSeer) (ht : P.given.tree = none) (hr : Room 32 (A.deeper (envOfC qual sc s.heap.objs.size f cdv))) (hg : sc.isGenerator = false) (hc : sc.isCoroutine = false) :
    Seen (cxOf CX0 P w K mg base N qual sc f cdv A outer s H E).nox := by
  refine ⟨hN, ht, ?_, rfl, hg, hc⟩
  have := hr.dp
  have e : Builtin.pylongFrames = 100 := rfl
  show (A.deeper (envOfC qual sc s.heap.objs.size f cdv)).depth + Builtin.pylongFrames < recursionLimit
  rw [e]
  omega
theorem ok_low {f : Addr} {fd : FuncData} (F : Fun K "lowest" "lowest" sLow f fd) (hN : base.NoSeer) (ht : P.given.tree = none) (G : DefAt P w K mg base "common_divisor" 1 ["first", "second"] spGcd) :
    FnOk P w K mg base CX0 33 f fd ["above", "below"] spLow := by
  refine F.ok scLow (fun vs H Q E h => ?_) (fun cdv A outer s H vs Q E hr h => ?_)
  · obtain ⟨n, d, rfl, _⟩ := h
    rfl
  · obtain ⟨n, d, rfl, hn, hd, k⟩ := h
    have S := seen_of (P := P) (w := w) (K := K) (mg := mg) (base := base) (N := ["above", "below", "divisor"]) (qual := "lowest") (sc := defScope sLow) (f := f) (cdv := cdv) (A := A) (outer := outer) (s := s) (H := H) (E := E) hN ht hr scLow.gen scLow.co
    refine ⟨_, pss_cons (ps_set (i := 2) scLow.nd rfl (.inl rfl) (pe_def G hr (by decide) rfl (pa_cons (pv 0) (pa_cons (pv 1) pa_nil))))
      (pss_one (ps_ret (pe_tup (pa_cons (pe_op (op_fdivB S) (pv 0) (pv 2)) (pa_cons (pe_op (op_fdivB S) (pv 1) (pv 2)) pa_nil))))), ?_⟩
    obtain ⟨a, rfl⟩ := Int.eq_ofNat_of_zero_le hn
    obtain ⟨b, rfl⟩ := Int.eq_ofNat_of_zero_le (Int.le_of_lt hd)
    have hb : 0 < b := by omega
    have g : 0 < Nat.gcd a b := Nat.gcd_pos_of_pos_right _ hb
    have gi : (0 : Int) < ((Nat.gcd (Int.natAbs (a : Int)) (Int.natAbs (b : Int)) : Nat) : Int) := by
      rw [Int.natAbs_natCast, Int.natAbs_natCast]
      omega
    refine ⟨_, rfl, _, rfl, _, _, rfl, Int.natCast_nonneg _, Int.natCast_nonneg _, ?_⟩
    refine ⟨_, rfl, _, rfl, _, _, rfl, rfl, gi, _, rfl, _, rfl, _, _, rfl, rfl, gi, (by show 2 ≤ sizeLine; decide), fun p hp => ?_⟩
    have e := k p hp
    rw [frac_pos hb] at e
    have e2 : HO.tup [V.int ((a : Int) / ((Nat.gcd (Int.natAbs (a : Int)) (Int.natAbs (b : Int)) : Nat) : Int)), V.int ((b : Int) / ((Nat.gcd (Int.natAbs (a : Int)) (Int.natAbs (b : Int)) : Nat) : Int))] = qT ⟨((a / Nat.gcd a b : Nat) : Int), b / Nat.gcd a b⟩ := by
      rw [Int.natAbs_natCast, Int.natAbs_natCast, ← Int.natCast_ediv, ← Int.natCast_ediv]
      rfl
    show Q (.ref p) (upd H p _)
    rw [← e2] at e
    exact e
/-- the items of a fraction's tuple -/
theorem at0 {q : Q} : atI [V.int q.n, V.int (q.d : Int)] 0 = some (V.int q.n) := rfl
theorem at1 {q : Q} : atI [V.int q.n, V.int (q.d : Int)] 1 = some (V.int (q.d : Int)) := rfl
theorem sz_mul {k : Nat} {i j : Int} (hi : i.natAbs < 2 ^ k) (hj : j.natAbs < 2 ^ k) (h0 : 0 < k) (h : k ≤ 10000000) : CMulB i j := mulB hi hj h0 h0 (by omega)
theorem Sz.di {k : Nat} {q : Mu30.Q} (s : Sz k q) : (q.d : Int).natAbs < 2 ^ k := by
  rw [Int.natAbs_natCast]
  exact s.2
theorem scPlus : FnScope ["x", "y"] ["x", "y"] (defScope sPlus) := ⟨rfl, rfl, rfl, by decide +kernel, rfl, by decide +kernel, by decide +kernel⟩
theorem ok_plus {f : Addr} {fd : FuncData} (F : Fun K "plus" "plus" sPlus f fd) (G : DefAt P w K mg base "lowest" 33 ["above", "below"] spLow) :
    FnOk P w K mg base CX0 34 f fd ["x", "y"] (spQ2 K (fun _ _ => True) Mu30.Q.plus) := by
  refine F.ok scPlus (fun vs H Q E h => ?_) (fun cdv A outer s H vs Q E hr h => ?_)
  · obtain ⟨a, b, x, y, k, rfl, _⟩ := h
    rfl
  · obtain ⟨a, b, x, y, k, rfl, hx, hy, ox, oy, sx, sy, k0, k1, _, q⟩ := h
    refine ⟨_, pss_one (ps_ret (pe_def G hr (by decide) rfl (pa_cons (pe_op op_add (pe_op op_mulB (pe_ix ix_tup (pv 0) pe_int (fun _ _ => rfl)) (pe_ix ix_tup (pv 1) pe_int (fun _ _ => rfl))) (pe_op op_mulB (pe_ix ix_tup (pv 1) pe_int (fun _ _ => rfl)) (pe_ix ix_tup (pv 0) pe_int (fun _ _ => rfl))))
      (pa_cons (pe_op op_mulB (pe_ix ix_tup (pv 0) pe_int (fun _ _ => rfl)) (pe_ix ix_tup (pv 1) pe_int (fun _ _ => rfl))) pa_nil)))), ?_⟩
    refine ⟨_, rfl, a, _, _, _, rfl, rfl, hx, at0, _, rfl, b, _, _, _, rfl, rfl, hy, at1, _, _, rfl, rfl, sz_mul sx.1 sy.di k0 k1, ?_⟩
    refine ⟨_, rfl, b, _, _, _, rfl, rfl, hy, at0, _, rfl, a, _, _, _, rfl, rfl, hx, at1, _, _, rfl, rfl, sz_mul sy.1 sx.di k0 k1, _, _, rfl, rfl, ?_⟩
    refine ⟨_, rfl, a, _, _, _, rfl, rfl, hx, at1, _, rfl, b, _, _, _, rfl, rfl, hy, at1, _, _, rfl, rfl, sz_mul sx.di sy.di k0 k1, ?_⟩
    exact ⟨_, _, rfl, Int.add_nonneg (Int.mul_nonneg ox.nn (Int.natCast_nonneg _)) (Int.mul_nonneg oy.nn (Int.natCast_nonneg _)), Int.mul_pos (by have := ox.dp; omega) (by have := oy.dp; omega), q⟩
theorem scMinus : FnScope ["x", "y"] ["x", "y"] (defScope sMinus) := ⟨rfl, rfl, rfl, by decide +kernel, rfl, by decide +kernel, by decide +kernel⟩
theorem ok_minus {f : Addr} {fd : FuncData} (F : Fun K "minus" "minus" sMinus f fd) (G : DefAt P w K mg base "lowest" 33 ["above", "below"] spLow) :
    FnOk P w K mg base CX0 34 f fd ["x", "y"] (spQ2 K (fun x y => val y ≤ val x) Mu30.Q.less) := by
  refine F.ok scMinus (fun vs H Q E h => ?_) (fun cdv A outer s H vs Q E hr h => ?_)
  · obtain ⟨a, b, x, y, k, rfl, _⟩ := h
    rfl
  · obtain ⟨a, b, x, y, k, rfl, hx, hy, ox, oy, sx, sy, k0, k1, c, q⟩ := h
    refine ⟨_, pss_one (ps_ret (pe_def G hr (by decide) rfl (pa_cons (pe_op op_sub (pe_op op_mulB (pe_ix ix_tup (pv 0) pe_int (fun _ _ => rfl)) (pe_ix ix_tup (pv 1) pe_int (fun _ _ => rfl))) (pe_op op_mulB (pe_ix ix_tup (pv 1) pe_int (fun _ _ => rfl)) (pe_ix ix_tup (pv 0) pe_int (fun _ _ => rfl))))
      (pa_cons (pe_op op_mulB (pe_ix ix_tup (pv 0) pe_int (fun _ _ => rfl)) (pe_ix ix_tup (pv 1) pe_int (fun _ _ => rfl))) pa_nil)))), ?_⟩
    refine ⟨_, rfl, a, _, _, _, rfl, rfl, hx, at0, _, rfl, b, _, _, _, rfl, rfl, hy, at1, _, _, rfl, rfl, sz_mul sx.1 sy.di k0 k1, ?_⟩
    refine ⟨_, rfl, b, _, _, _, rfl, rfl, hy, at0, _, rfl, a, _, _, _, rfl, rfl, hx, at1, _, _, rfl, rfl, sz_mul sy.1 sx.di k0 k1, _, _, rfl, rfl, ?_⟩
    refine ⟨_, rfl, a, _, _, _, rfl, rfl, hx, at1, _, rfl, b, _, _, _, rfl, rfl, hy, at1, _, _, rfl, rfl, sz_mul sx.di sy.di k0 k1, ?_⟩
    exact ⟨_, _, rfl, less_nn ox oy c, Int.mul_pos (by have := ox.dp; omega) (by have := oy.dp; omega), q⟩
theorem scTimes : FnScope ["x", "y"] ["x", "y"] (defScope sTimes) := ⟨rfl, rfl, rfl, by decide +kernel, rfl, by decide +kernel, by decide +kernel⟩
theorem ok_times {f : Addr} {fd : FuncData} (F : Fun K "times" "times" sTimes f fd) (G : DefAt P w K mg base "lowest" 33 ["above", "below"] spLow) :
    FnOk P w K mg base CX0 34 f fd ["x", "y"] (spQ2 K (fun _ _ => True) Mu30.Q.times) := by
  refine F.ok scTimes (fun vs H Q E h => ?_) (fun cdv A outer s H vs Q E hr h => ?_)
  · obtain ⟨a, b, x, y, k, rfl, _⟩ := h
    rfl
  · obtain ⟨a, b, x, y, k, rfl, hx, hy, ox, oy, sx, sy, k0, k1, c, q⟩ := h
    refine ⟨_, pss_one (ps_ret (pe_def G hr (by decide) rfl (pa_cons (pe_op op_mulB (pe_ix ix_tup (pv 0) pe_int (fun _ _ => rfl)) (pe_ix ix_tup (pv 1) pe_int (fun _ _ => rfl))) (pa_cons (pe_op op_mulB (pe_ix ix_tup (pv 0) pe_int (fun _ _ => rfl)) (pe_ix ix_tup (pv 1) pe_int (fun _ _ => rfl))) pa_nil)))), ?_⟩
    refine ⟨_, rfl, a, _, _, _, rfl, rfl, hx, at0, _, rfl, b, _, _, _, rfl, rfl, hy, at0, _, _, rfl, rfl, sz_mul sx.1 sy.1 k0 k1, ?_⟩
    refine ⟨_, rfl, a, _, _, _, rfl, rfl, hx, at1, _, rfl, b, _, _, _, rfl, rfl, hy, at1, _, _, rfl, rfl, sz_mul sx.di sy.di k0 k1, ?_⟩
    exact ⟨_, _, rfl, Int.mul_nonneg ox.nn oy.nn, Int.mul_pos (by have := ox.dp; omega) (by have := oy.dp; omega), q⟩
theorem scDiv : FnScope ["x", "y"] ["x", "y"] (defScope sDiv) := ⟨rfl, rfl, rfl, by decide +kernel, rfl, by decide +kernel, by decide +kernel⟩
theorem ok_div {f : Addr} {fd : FuncData} (F : Fun K "divided" "divided" sDiv f fd) (G : DefAt P w K mg base "lowest" 33 ["above", "below"] spLow) :
    FnOk P w K mg base CX0 34 f fd ["x", "y"] (spQ2 K (fun _ y => 0 < val y) Mu30.Q.over) := by
  refine F.ok scDiv (fun vs H Q E h => ?_) (fun cdv A outer s H vs Q E hr h => ?_)
  · obtain ⟨a, b, x, y, k, rfl, _⟩ := h
    rfl
  · obtain ⟨a, b, x, y, k, rfl, hx, hy, ox, oy, sx, sy, k0, k1, c, q⟩ := h
    refine ⟨_, pss_one (ps_ret (pe_def G hr (by decide) rfl (pa_cons (pe_op op_mulB (pe_ix ix_tup (pv 0) pe_int (fun _ _ => rfl)) (pe_ix ix_tup (pv 1) pe_int (fun _ _ => rfl))) (pa_cons (pe_op op_mulB (pe_ix ix_tup (pv 0) pe_int (fun _ _ => rfl)) (pe_ix ix_tup (pv 1) pe_int (fun _ _ => rfl))) pa_nil)))), ?_⟩
    refine ⟨_, rfl, a, _, _, _, rfl, rfl, hx, at0, _, rfl, b, _, _, _, rfl, rfl, hy, at1, _, _, rfl, rfl, sz_mul sx.1 sy.di k0 k1, ?_⟩
    refine ⟨_, rfl, a, _, _, _, rfl, rfl, hx, at1, _, rfl, b, _, _, _, rfl, rfl, hy, at0, _, _, rfl, rfl, sz_mul sx.di sy.1 k0 k1, ?_⟩
    exact ⟨_, _, rfl, Int.mul_nonneg ox.nn (Int.natCast_nonneg _), Int.mul_pos (by have := ox.dp; omega) (n_pos oy c), q⟩
theorem scBelow : FnScope ["x", "y"] ["x", "y"] (defScope sBelow) := ⟨rfl, rfl, rfl, by decide +kernel, rfl, by decide +kernel, by decide +kernel⟩
theorem ok_below {f : Addr} {fd : FuncData} (F : Fun K "is_below" "is_below" sBelow f fd) : FnOk P w K mg base CX0 1 f fd ["x", "y"] (spBelow K) := by
  refine F.ok scBelow (fun vs H Q E h => ?_) (fun cdv A outer s H vs Q E hr h => ?_)
  · obtain ⟨a, b, x, y, k, rfl, _⟩ := h
    rfl
  · obtain ⟨a, b, x, y, k, rfl, hx, hy, sx, sy, k0, k1, q⟩ := h
    refine ⟨_, pss_one (ps_ret (pe_cmpR op_lt (pe_op op_mulB (pe_ix ix_tup (pv 0) pe_int (fun _ _ => rfl)) (pe_ix ix_tup (pv 1) pe_int (fun _ _ => rfl))) (pe_op op_mulB (pe_ix ix_tup (pv 1) pe_int (fun _ _ => rfl)) (pe_ix ix_tup (pv 0) pe_int (fun _ _ => rfl))) (nomark _))), ?_⟩
    refine ⟨_, rfl, a, _, _, _, rfl, rfl, hx, at0, _, rfl, b, _, _, _, rfl, rfl, hy, at1, _, _, rfl, rfl, sz_mul sx.1 sy.di k0 k1, ?_⟩
    refine ⟨_, rfl, b, _, _, _, rfl, rfl, hy, at0, _, rfl, a, _, _, _, rfl, rfl, hx, at1, _, _, rfl, rfl, sz_mul sy.1 sx.di k0 k1, _, _, rfl, rfl, ?_⟩
    exact q
theorem scFloor : FnScope ["x"] ["x"] (defScope sFloor) := ⟨rfl, rfl, rfl, by decide +kernel, rfl, by decide +kernel, by decide +kernel⟩
theorem ok_floor {f : Addr} {fd : FuncData} (F : Fun K "rounded_down" "rounded_down" sFloor f fd) (hN : base.NoSeer) (ht : P.given.tree = none) : FnOk P w K mg base CX0 33 f fd ["x"] (spFloor K) := by
  refine F.ok scFloor (fun vs H Q E h => ?_) (fun cdv A outer s H vs Q E hr h => ?_)
  · obtain ⟨a, x, rfl, _⟩ := h
    rfl
  · obtain ⟨a, x, rfl, hx, ox, q⟩ := h
    have S := seen_of (P := P) (w := w) (K := K) (mg := mg) (base := base) (N := ["x"]) (qual := "rounded_down") (sc := defScope sFloor) (f := f) (cdv := cdv) (A := A) (outer := outer) (s := s) (H := H) (E := E) hN ht hr scFloor.gen scFloor.co
    refine ⟨_, pss_one (ps_ret (pe_op (op_fdivB S) (pe_ix ix_tup (pv 0) pe_int (fun _ _ => rfl)) (pe_ix ix_tup (pv 0) pe_int (fun _ _ => rfl)))), ?_⟩
    refine ⟨_, rfl, a, _, _, _, rfl, rfl, hx, at0, _, rfl, a, _, _, _, rfl, rfl, hx, at1, _, _, rfl, rfl, (by have := ox.dp; omega), ?_⟩
    rw [floor_spec ox] at q
    exact q
end
end TR


set_option Elab.async false
set_option linter.all false
set_option maxRecDepth 100000
set_option maxHeartbeats 2000000
namespace TR
open PySem PySem.Spec PyProof.Rows L2
open Mu30 (Q frac Tariff Hire)

abbrev sIsT : Stmt := topS 23
abbrev sAreT : Stmt := topS 24
abbrev sHolds : Stmt := topS 25
abbrev sTill : Stmt := topS 26

/-- names of Python's own, and the program's constants -/
structure Names (K : PySem.W.Frag) (mg : Str → Option Value) : Prop where
  len : mg "len" = none
  range : mg "range" = none
  min : mg "min" = none
  sum : mg "sum" = none
  list : mg "list" = none
  day : ∃ t, mg "DAY" = some (.int 86400 t)
  mostT : ∃ t, mg "MOST_TARIFFS" = some (.int 4 t)
  from0 : ∃ t, mg "HOLDS_FROM" = some (.int 0 t)
  hPrice : ∃ t, mg "HIRING_PRICE" = some (.int 1 t)
  hMetres : ∃ t, mg "HIRING_METRES" = some (.int 2 t)
  hSeconds : ∃ t, mg "HIRING_SECONDS" = some (.int 3 t)
  dPrice : ∃ t, mg "DROP_PRICE" = some (.int 4 t)
  dMetres : ∃ t, mg "DROP_METRES" = some (.int 5 t)
  dSeconds : ∃ t, mg "DROP_SECONDS" = some (.int 6 t)
  least : ∃ a, mg "LEAST" = some (.ref a) ∧ ∀ H, SqT K H a (leastL.map V.int)
  most : ∃ a, mg "MOST" = some (.ref a) ∧ ∀ H, SqT K H a (mostL.map V.int)

/-! ### lists of lists in the heap -/
def RowsAt (K : PySem.W.Frag) (H : Hp) (a : Addr) (rows : List (List Int)) : Prop :=
  ∃ as : List Addr, SqL K H a (as.map V.ref) ∧ as.length = rows.length ∧ ∀ (i : Nat) (b : Addr) (r : List Int), as[i]? = some b → rows[i]? = some r → SqL K H b (r.map V.int)
theorem RowsAt.same {K : PySem.W.Frag} {H H' : Hp} {a : Addr} {rows : List (List Int)} (h : RowsAt K H a rows) (s : Same H H') : RowsAt K H' a rows := by
  obtain ⟨as, h1, h2, h3⟩ := h
  exact ⟨as, s.seq h1, h2, fun i b r e1 e2 => s.seq (h3 i b r e1 e2)⟩
theorem RowsAt.row {K : PySem.W.Frag} {H : Hp} {a : Addr} {rows : List (List Int)} {as : List Addr} (h2 : as.length = rows.length) {i : Nat} {r : List Int} (e : rows[i]? = some r) : ∃ b, as[i]? = some b := by
  have hi : i < rows.length := (List.getElem?_eq_some_iff.mp e).1
  exact ⟨as[i]'(by omega), List.getElem?_eq_getElem (by omega)⟩
theorem ref_at {as : List Addr} {i : Nat} {b : Addr} (h : as[i]? = some b) : (as.map V.ref)[i]? = some (V.ref b) := by rw [List.getElem?_map, h]; rfl
theorem int_at {ns : List Int} {i : Nat} {n : Int} (h : ns[i]? = some n) : (ns.map V.int)[i]? = some (V.int n) := by rw [List.getElem?_map, h]; rfl
theorem at_loop {xs : List V} {i : Nat} {v : V} (h : xs[i]? = some v) : atI xs (0 + (i : Int)) = some v := by
  rw [Int.zero_add]
  exact atI_nat h
theorem some_of {α : Type} {xs : List α} {i : Nat} (h : i < xs.length) : ∃ x, xs[i]? = some x := ⟨xs[i], List.getElem?_eq_getElem h⟩

theorem pe_gref {X : Cx} {x : Str} {a : Addr} {pos : Pos} (hg : Gl X x) (hm : X.mg x = some (.ref a)) (hd : (x == ("__debug__" : Str)) = false := by decide) : PE X (.Name x pos) (tC (.ref a)) := pe_glob hg hm rfl hd
theorem pe_gint {X : Cx} {x : Str} {i : Int} {t : Tok} {pos : Pos} (hg : Gl X x) (hm : X.mg x = some (.int i t)) (hd : (x == ("__debug__" : Str)) = false := by decide) : PE X (.Name x pos) (tC (.int i)) := pe_glob hg hm ⟨t, rfl⟩ hd
theorem pe_len {X : Cx} {p pos : Pos} {e : Expr} {t : TE} (hm : X.mg "len" = none) (hg : Gl X "len") (he : PE X e t) (h1 : starEach [e] X.env = (false, eval e X.env) :: starEach [] X.env := by rfl) (h2 : (backTo pos (starEach [] X.env)).any (·.1) = false := by rfl) :
    PE X (.Call (.Name "len" p) [e] [] pos) (tCB (fun xs H Q => ∃ p ys, xs = [.ref p] ∧ (SqL X.K H p ys ∨ SqT X.K H p ys) ∧ Q (.int ys.length) H) (tCons t tNil)) :=
  pe_callB call_len_seq hg hm PySem.boot_len (pa_cons he pa_nil h1) (by decide) (by decide) h1 h2

theorem ite_dec {c A B : Prop} [Decidable c] (h1 : c → A) (h2 : ¬ c → B) : if decide c = true then A else B := by
  by_cases h : c
  · rw [decide_eq_true h]
    exact iteT (h1 h)
  · rw [decide_eq_false h]
    exact iteF (h2 h)
theorem ite_ne {i j : Int} {A B : Prop} (h1 : i ≠ j → A) (h2 : i = j → B) : if (!decide (V.int i = V.int j)) = true then A else B := by
  by_cases h : i = j
  · rw [decide_eq_true (by rw [h])]
    exact iteF (h2 h)
  · rw [decide_eq_false fun z => h (by injection z)]
    exact iteT (h1 h)
theorem ite_eq {i j : Int} {A B : Prop} (h1 : i = j → A) (h2 : i ≠ j → B) : if decide (V.int i = V.int j) = true then A else B := by
  by_cases h : i = j
  · rw [decide_eq_true (by rw [h])]
    exact iteT (h1 h)
  · rw [decide_eq_false fun z => h (by injection z)]
    exact iteF (h2 h)

theorem ixl {X : Cx} {K : PySem.W.Frag} (h : X.K = K) : IxR X (rIxL K) := by
  subst h
  exact ix_list

theorem yes_ite {σ : L2.St} {H : Hp} {A B : Hp → Prop} (h : A H) : tYes σ H fun b H3 => if b = true then A H3 else B H3 := by
  show (if true = true then A H else B H)
  rw [if_pos rfl]
  exact h

/-! ### promises -/
def spIsT (K : PySem.W.Frag) : Sp := fun vs H Q _ => ∃ (a : Addr) (ns : List Int), vs = [.ref a] ∧ SqL K H a (ns.map V.int) ∧ ∀ b : Bool, (b = true ↔ isT ns) → Q (.bl b) H
def spAreT (K : PySem.W.Frag) : Sp := fun vs H Q _ => ∃ (a : Addr) (rows : List (List Int)), vs = [.ref a] ∧ RowsAt K H a rows ∧ rows.length < 1000 ∧ ∀ b : Bool, (b = true ↔ areT rows) → Q (.bl b) H
def spHolds (K : PySem.W.Frag) : Sp := fun vs H Q _ => ∃ (a : Addr) (T : List Tariff) (sec : Nat), vs = [.ref a, .int (sec : Int)] ∧ RowsAt K H a (T.map tNums) ∧ TOk T ∧ Q (.int ((Mu30.holds T sec : Nat) : Int)) H
def spTill (K : PySem.W.Frag) : Sp := fun vs H Q _ => ∃ (a : Addr) (T : List Tariff) (sec : Nat), vs = [.ref a, .int (sec : Int)] ∧ RowsAt K H a (T.map tNums) ∧ TOk T ∧ sec < 86400 ∧ ∀ H', Same H H' → Q (.int ((Mu30.nextLo T sec : Nat) : Int)) H'

section
variable {P : Program} {w : World} {K : PySem.W.Frag} {mg : Str → Option Value} {base : Heap}
theorem scIsT : FnScope ["numbers", "place"] ["numbers"] (defScope sIsT) := ⟨rfl, rfl, rfl, by decide +kernel, rfl, by decide +kernel, by decide +kernel⟩
theorem ok_isT {f : Addr} {fd : FuncData} (F : Fun K "is_tariff" "is_tariff" sIsT f fd) (T : Names K mg) : FnOk P w K mg base CX0 1 f fd ["numbers"] (spIsT K) := by
  refine F.ok scIsT (fun vs H Q E h => ?_) (fun cdv A outer s H vs Q E hr h => ?_)
  · obtain ⟨a, ns, rfl, _⟩ := h
    rfl
  · obtain ⟨a, ns, rfl, hs, k⟩ := h
    obtain ⟨aL, gL, qL⟩ := T.least
    obtain ⟨aM, gM, qM⟩ := T.most
    refine ⟨_, pss_cons (ps_if (pt_cmpR op_ne (pe_len T.len rfl (pv 0)) (pe_len T.len rfl (pe_gref rfl gL)) (nomark _)) (pss_one (ps_ret pe_bl)) pss_nil)
      (pss_cons (ps_for PassesOwn.never rfl (pi_range1 (by rfl) T.range (pa_cons (pe_len T.len rfl (pe_gref rfl gL)) pa_nil)) (pg_name (i := 1) scIsT.nd rfl (.inl rfl))
        (pss_one (ps_if (PW.pt (pw_or (pt_cmpR op_lt (pe_ix ix_list (pv 0) (pv 1) (fun _ _ => rfl)) (pe_ix ix_tup (pe_gref rfl gL) (pv 1) (fun _ _ => rfl)) (nomark _))
          (pw_or1 (pt_cmpR op_gt (pe_ix ix_list (pv 0) (pv 1) (fun _ _ => rfl)) (pe_ix ix_tup (pe_gref rfl gM) (pv 1) (fun _ _ => rfl)) (nomark _))))) (pss_one (ps_ret pe_bl)) pss_nil)))
      (pss_one (ps_ret pe_bl))), ?_⟩
    refine ⟨_, rfl, a, _, rfl, .inl hs, aL, _, rfl, .inr (qL H), ?_⟩
    refine ⟨rfl, _, rfl, ite_ne (fun c => ?_) (fun c => ?_)⟩
    · exact k false ⟨fun z => Bool.noConfusion z, fun z => absurd z.1 (fun e => c (by rw [List.length_map, e]; rfl))⟩
    · have hl : ns.length = 7 := by
        rw [List.length_map] at c
        have : ((leastL.map V.int).length : Int) = 7 := rfl
        omega
      refine ⟨aL, _, rfl, .inr (qL H), 7, rfl, by decide, by decide, ?_⟩
      refine for_range (lo := 0) (n := 7) (fun i σ H' => (∃ v : Option V, σ = [some (.ref a), v]) ∧ H = H' ∧ ∀ (j : Nat) (n x y : Int), j < i → ns[j]? = some n → leastL[j]? = some x → mostL[j]? = some y → x ≤ n ∧ n ≤ y)
        ⟨⟨none, rfl⟩, rfl, fun j n x y hj => by omega⟩ ?_ ?_
      · rintro i σ H' hi ⟨⟨v, rfl⟩, rfl, inv⟩
        obtain ⟨n, en⟩ := some_of (xs := ns) (i := i) (by omega)
        obtain ⟨x, ex⟩ := some_of (xs := leastL) (i := i) hi
        obtain ⟨y, ey⟩ := some_of (xs := mostL) (i := i) hi
        refine ⟨_, rfl, _, rfl, a, _, _, _, rfl, rfl, hs, at_loop (int_at en), _, rfl, aL, _, _, _, rfl, rfl, qL _, at_loop (int_at ex), _, _, rfl, rfl, _, rfl, ite_dec (fun c1 => ?_) (fun c1 => ?_)⟩
        · refine iteT ?_
          exact k false ⟨fun z => Bool.noConfusion z, fun z => by have := z.2 i n x y en ex ey; omega⟩
        · refine ⟨_, rfl, _, rfl, a, _, _, _, rfl, rfl, hs, at_loop (int_at en), _, rfl, aM, _, _, _, rfl, rfl, qM _, at_loop (int_at ey), _, _, rfl, rfl, _, rfl, ite_dec (fun c2 => ?_) (fun c2 => ?_)⟩
          · exact k false ⟨fun z => Bool.noConfusion z, fun z => by have := z.2 i n x y en ex ey; omega⟩
          · refine ⟨⟨_, rfl⟩, rfl, fun j n' x' y' hj e1 e2 e3 => ?_⟩
            by_cases hji : j = i
            · subst hji
              rw [en] at e1; rw [ex] at e2; rw [ey] at e3
              cases e1; cases e2; cases e3
              omega
            · exact inv j n' x' y' (by omega) e1 e2 e3
      · rintro σ H' ⟨⟨v, rfl⟩, rfl, inv⟩
        refine k true ⟨fun _ => ⟨hl, fun i n x y e1 e2 e3 => ?_⟩, fun _ => rfl⟩
        exact inv i n x y (by have := (List.getElem?_eq_some_iff.mp e1).1; omega) e1 e2 e3

theorem scAreT : FnScope ["lists", "numbers", "place"] ["lists"] (defScope sAreT) := ⟨rfl, rfl, rfl, by decide +kernel, rfl, by decide +kernel, by decide +kernel⟩
theorem ok_areT {f : Addr} {fd : FuncData} (F : Fun K "are_tariffs" "are_tariffs" sAreT f fd) (T : Names K mg) (G : DefAt P w K mg base "is_tariff" 1 ["numbers"] (spIsT K)) : FnOk P w K mg base CX0 2 f fd ["lists"] (spAreT K) := by
  refine F.ok scAreT (fun vs H Q E h => ?_) (fun cdv A outer s H vs Q E hr h => ?_)
  · obtain ⟨a, rows, rfl, _⟩ := h
    rfl
  · obtain ⟨a, rows, rfl, ⟨as, ha, hal, hrow⟩, hsmall, k⟩ := h
    obtain ⟨t4, g4⟩ := T.mostT
    obtain ⟨t0, g0⟩ := T.from0
    refine ⟨_, pss_cons (ps_if (PW.pt (pw_or (pt_cmpR op_lt (pe_len T.len rfl (pv 0)) pe_int (nomark _)) (pw_or1 (pt_cmpR op_gt (pe_len T.len rfl (pv 0)) (pe_gint rfl g4) (nomark _))))) (pss_one (ps_ret pe_bl)) pss_nil)
      (pss_cons (ps_for PassesOwn.never rfl (pi_list (pv 0)) (pg_name (i := 1) scAreT.nd rfl (.inl rfl)) (pss_one (ps_if (pt_not (pt_val (pe_def G hr (by decide) rfl (pa_cons (pv 1) pa_nil)))) (pss_one (ps_ret pe_bl)) pss_nil)))
      (pss_cons (ps_for PassesOwn.never rfl (pi_range2 (by rfl) T.range (pa_cons pe_int (pa_cons (pe_len T.len rfl (pv 0)) pa_nil))) (pg_name (i := 2) scAreT.nd rfl (.inl rfl))
        (pss_one (ps_if (pt_cmpR op_le (pe_ix ix_list (pe_ix ix_list (pv 0) (pv 2) (fun _ _ => rfl)) (pe_gint rfl g0) (fun _ _ => rfl))
          (pe_ix ix_list (pe_ix ix_list (pv 0) (pe_op op_sub (pv 2) pe_int) (fun _ _ => rfl)) (pe_gint rfl g0) (fun _ _ => rfl)) (nomark _)) (pss_one (ps_ret pe_bl)) pss_nil)))
      (pss_one (ps_ret pe_bl)))), ?_⟩
    have hlen : ((as.map V.ref).length : Int) = (rows.length : Int) := by rw [List.length_map, hal]
    refine ⟨_, rfl, a, _, rfl, .inl ha, _, _, rfl, rfl, _, rfl, ite_dec (fun c1 => ?_) (fun c1 => ?_)⟩
    · refine iteT ?_
      exact k false ⟨fun z => Bool.noConfusion z, fun z => by have := z.1; omega⟩
    · refine ⟨_, rfl, a, _, rfl, .inl ha, _, _, rfl, rfl, _, rfl, ite_dec (fun c2 => ?_) (fun c2 => ?_)⟩
      · exact k false ⟨fun z => Bool.noConfusion z, fun z => by have := z.2.1; omega⟩
      · refine ⟨_, rfl, a, rfl, ⟨_, ha⟩, for_list (K := K) (a := a) (xs := as.map V.ref) (fun i σ H' => (∃ v : Option V, σ = [some (.ref a), v, none]) ∧ H = H' ∧ ∀ (j : Nat) (r : List Int), j < i → rows[j]? = some r → isT r)
          ⟨⟨none, rfl⟩, rfl, fun j r hj => by omega⟩ (fun i σ H' _ p => by rw [← p.2.1]; exact ha) ?_ ?_⟩
        · rintro i x σ H' hi ⟨⟨v, rfl⟩, rfl, inv⟩
          rw [List.getElem?_map] at hi
          cases eb : as[i]? with
          | none => rw [eb] at hi; cases hi
          | some b =>
            rw [eb] at hi
            cases hi
            have hli : i < as.length := (List.getElem?_eq_some_iff.mp eb).1
            obtain ⟨r, er⟩ := some_of (xs := rows) (i := i) (by omega)
            refine ⟨_, rfl, b, r, rfl, hrow i b r eb er, fun c hc => ⟨c, rfl, ?_⟩⟩
            cases c with
            | true =>
              refine iteF ?_
              refine ⟨⟨_, rfl⟩, rfl, fun j r' hj e => ?_⟩
              by_cases hji : j = i
              · subst hji
                rw [er] at e
                cases e
                exact hc.mp rfl
              · exact inv j r' (by omega) e
            | false =>
              refine iteT ?_
              exact k false ⟨fun z => Bool.noConfusion z, fun z => by have := hc.mpr (z.2.2.1 r (List.mem_of_getElem? er)); exact Bool.noConfusion this⟩
        · rintro σ H' ⟨⟨v, rfl⟩, rfl, inv⟩
          have allT : ∀ r ∈ rows, isT r := fun r hr => by
            obtain ⟨j, hj⟩ := List.getElem?_of_mem hr
            exact inv j r (by have := (List.getElem?_eq_some_iff.mp hj).1; rw [List.length_map]; omega) hj
          refine ⟨_, rfl, a, _, rfl, .inl ha, 1, _, rfl, ⟨by decide, by decide, by omega, by omega⟩, ?_⟩
          refine for_range (lo := 1) (fun i σ H' => (∃ u v : Option V, σ = [some (.ref a), u, v]) ∧ H = H' ∧ ∀ (j : Nat) (r s : List Int) (x y : Int), j < i → rows[j]? = some r → rows[j + 1]? = some s → r[0]? = some x → s[0]? = some y → x < y)
            ⟨⟨_, _, rfl⟩, rfl, fun j r s x y hj => by omega⟩ ?_ ?_
          · rintro i σ H' hi ⟨⟨u, v, rfl⟩, rfl, inv2⟩
            have hi2 : i + 1 < rows.length := by omega
            obtain ⟨r, er⟩ := some_of (xs := rows) (i := i) (by omega)
            obtain ⟨s', es⟩ := some_of (xs := rows) (i := i + 1) hi2
            obtain ⟨b, eb⟩ := some_of (xs := as) (i := i) (by omega)
            obtain ⟨c, ec⟩ := some_of (xs := as) (i := i + 1) (by omega)
            obtain ⟨x, ex⟩ := some_of (xs := r) (i := 0) (by have := (allT r (List.mem_of_getElem? er)).1; omega)
            obtain ⟨y, ey⟩ := some_of (xs := s') (i := 0) (by have := (allT s' (List.mem_of_getElem? es)).1; omega)
            have i1 : atI (as.map V.ref) (1 + (i : Int)) = some (V.ref c) := by
              have : (1 : Int) + (i : Int) = ((i + 1 : Nat) : Int) := by omega
              rw [this]
              exact atI_nat (ref_at ec)
            have i2 : atI (as.map V.ref) (1 + (i : Int) - 1) = some (V.ref b) := by
              have : (1 : Int) + (i : Int) - 1 = (i : Int) := by omega
              rw [this]
              exact atI_nat (ref_at eb)
            refine ⟨_, rfl, _, rfl, a, _, _, _, rfl, rfl, ha, i1, c, _, _, _, rfl, rfl, hrow _ _ _ ec es, atI_nat (int_at ey), _, rfl, _, rfl, _, _, rfl, rfl, a, _, _, _, rfl, rfl, ha, i2, b, _, _, _, rfl, rfl, hrow _ _ _ eb er, atI_nat (int_at ex), _, _, rfl, rfl, _, rfl, ite_dec (fun c1 => ?_) (fun c1 => ?_)⟩
            · exact k false ⟨fun z => Bool.noConfusion z, fun z => by have := z.2.2.2 i r s' x y er es ex ey; omega⟩
            · refine ⟨⟨_, _, rfl⟩, rfl, fun j r1 s1 x1 y1 hj e1 e2 e3 e4 => ?_⟩
              by_cases hji : j = i
              · subst hji
                rw [er] at e1; rw [es] at e2
                cases e1; cases e2
                rw [ex] at e3; rw [ey] at e4
                cases e3; cases e4
                omega
              · exact inv2 j r1 s1 x1 y1 (by omega) e1 e2 e3 e4
          · rintro σ H' ⟨⟨u, v, rfl⟩, rfl, inv2⟩
            refine k true ⟨fun _ => ⟨by omega, by omega, allT, fun i r s x y e1 e2 e3 e4 => ?_⟩, fun _ => rfl⟩
            have := (List.getElem?_eq_some_iff.mp e2).1
            exact inv2 i r s x y (by omega) e1 e2 e3 e4
theorem scHolds : FnScope ["tariffs", "second", "found", "place"] ["tariffs", "second"] (defScope sHolds) := ⟨rfl, rfl, rfl, by decide +kernel, rfl, by decide +kernel, by decide +kernel⟩
theorem nums_at {T : List Tariff} {i : Nat} {t : Tariff} (h : T[i]? = some t) : (T.map tNums)[i]? = some (tNums t) := by rw [List.getElem?_map, h]; rfl
theorem ok_holds {f : Addr} {fd : FuncData} (F : Fun K "which_holds" "which_holds" sHolds f fd) (N : Names K mg) : FnOk P w K mg base CX0 1 f fd ["tariffs", "second"] (spHolds K) := by
  refine F.ok scHolds (fun vs H Q E h => ?_) (fun cdv A outer s H vs Q E hr h => ?_)
  · obtain ⟨a, T, sec, rfl, _⟩ := h
    rfl
  · obtain ⟨a, T, sec, rfl, ⟨as, ha, hal, hrow⟩, hT, k⟩ := h
    obtain ⟨t0, g0⟩ := N.from0
    rw [List.length_map] at hal
    have ne := hT.ne
    have mo := hT.most
    refine ⟨_, pss_cons (ps_set (i := 2) scHolds.nd rfl (.inl rfl) (pe_op op_sub (pe_len N.len rfl (pv 0)) pe_int))
      (pss_cons (ps_for PassesOwn.never rfl (pi_range1 (by rfl) N.range (pa_cons (pe_len N.len rfl (pv 0)) pa_nil)) (pg_name (i := 3) scHolds.nd rfl (.inl rfl))
        (pss_one (ps_if (pt_cmpR op_le (pe_ix ix_list (pe_ix ix_list (pv 0) (pv 3) (fun _ _ => rfl)) (pe_gint rfl g0) (fun _ _ => rfl)) (pv 1) (nomark _)) (pss_one (ps_set (i := 2) scHolds.nd rfl (.inl rfl) (pv 3))) pss_nil)))
      (pss_one (ps_ret (pv 2)))), ?_⟩
    refine ⟨_, rfl, a, _, rfl, .inl ha, _, _, rfl, rfl, _, rfl, a, _, rfl, .inl ha, _, rfl, by rw [List.length_map]; omega, by rw [List.length_map]; omega, ?_⟩
    refine for_range (lo := 0) (fun i σ H' => (∃ v : Option V, σ = [some (.ref a), some (.int (sec : Int)), some (.int ((holdsTo T sec i : Nat) : Int)), v]) ∧ H = H') ⟨⟨none, ?_⟩, rfl⟩ ?_ ?_
    · rw [holdsTo_zero, ← hal, List.length_map]
      have : ((as.length - 1 : Nat) : Int) = (as.length : Int) - 1 := by omega
      rw [this]
      rfl
    · rintro i σ H' hi ⟨⟨v, rfl⟩, rfl⟩
      rw [List.length_map] at hi
      obtain ⟨t, et⟩ := some_of (xs := T) (i := i) (by omega)
      obtain ⟨b, eb⟩ := some_of (xs := as) (i := i) (by omega)
      have step := holdsTo_succ (sec := sec) et
      refine ⟨_, rfl, _, rfl, a, _, _, _, rfl, rfl, ha, at_loop (ref_at eb), b, _, _, _, rfl, rfl, hrow _ _ _ eb (nums_at et), atI_nat (j := 0) (v := V.int (t.lo : Int)) rfl, _, rfl, _, _, rfl, rfl, _, rfl, ite_dec (fun c => ?_) (fun c => ?_)⟩
      · refine ⟨_, rfl, ⟨some (.int (0 + (i : Int))), ?_⟩, rfl⟩
        rw [step, if_pos (by omega), Int.zero_add]
        rfl
      · refine ⟨⟨some (.int (0 + (i : Int))), ?_⟩, rfl⟩
        rw [step, if_neg (by omega)]
        rfl
    · rintro σ H' ⟨⟨v, rfl⟩, rfl⟩
      refine ⟨_, rfl, ?_⟩
      have e : (((as.map V.ref).length : Nat) : Int).toNat = T.length := by rw [List.length_map]; omega
      rw [e, holdsTo_all]
      exact k

theorem scTill : FnScope ["tariffs", "second", "tariff"] ["tariffs", "second"] (defScope sTill) := ⟨rfl, rfl, rfl, by decide +kernel, rfl, by decide +kernel, by decide +kernel⟩
theorem ok_till {f : Addr} {fd : FuncData} (F : Fun K "seconds_till_change" "seconds_till_change" sTill f fd) (N : Names K mg) : FnOk P w K mg base CX0 1 f fd ["tariffs", "second"] (spTill K) := by
  refine F.ok scTill (fun vs H Q E h => ?_) (fun cdv A outer s H vs Q E hr h => ?_)
  · obtain ⟨a, T, sec, rfl, _⟩ := h
    rfl
  · obtain ⟨a, T, sec, rfl, hRow, hT, hsec, k⟩ := h
    obtain ⟨as, ha, hal, hrow⟩ := id hRow
    obtain ⟨t0, g0⟩ := N.from0
    obtain ⟨td, gd⟩ := N.day
    rw [List.length_map] at hal
    refine ⟨_, pss_one (ps_ret (pe_callB (cr_min rfl) (by rfl) N.min (by decide +kernel) (pa_cons
      (pe_lc (own := [("tariff", 2)]) (g := gName 2) (tt := tYes) rfl scTill.nd (pi_list (pv 0)) (blkOk_by (own := [("tariff", 2)]) (N := ["tariffs", "second", "tariff"]) (sc := defScope sTill) (by decide +kernel))
        (fun _ _ _ _ _ => pg_name (i := 2) scTill.nd rfl (Or.inl rfl)) (fun _ _ _ _ _ => pts_nil)
        (fun _ _ _ _ _ => pe_op op_add (pe_op op_mod (pe_op op_sub (pe_op op_sub (pe_ix (ixl (K := K) rfl) (pv 2) (pe_gint rfl g0) (fun _ _ => rfl)) (pv 1)) pe_int) (pe_gint rfl gd)) pe_int)) pa_nil))), ?_⟩
    refine ⟨_, rfl, a, rfl, ⟨_, ha⟩, fun D hD => ?_⟩
    refine lc_list (K := K) (a := a) (xs := as.map V.ref) (fun i H' => H' D = some (.lst (((T.take i).map fun t => till t sec).map V.int)) ∧ Same H H') ⟨upd_same, fun b o e => by rw [upd_ne (ne_of_none e hD)]; exact e⟩ (fun i H' _ p => p.2.seq ha) ?_ ?_
    · rintro i x H' hi ⟨hd, sm⟩
      rw [List.getElem?_map] at hi
      cases eb : as[i]? with
      | none => rw [eb] at hi; cases hi
      | some b =>
        rw [eb] at hi
        cases hi
        have hli : i < as.length := (List.getElem?_eq_some_iff.mp eb).1
        obtain ⟨t, et⟩ := some_of (xs := T) (i := i) (by omega)
        refine ⟨rfl, yes_ite ?_⟩
        refine ⟨_, rfl, b, _, _, _, rfl, rfl, sm.seq (hrow _ _ _ eb (nums_at et)), atI_nat (j := 0) (v := V.int (t.lo : Int)) rfl, _, rfl, _, _, rfl, rfl, _, _, rfl, rfl, _, _, rfl, rfl, (by show (0 : Int) < 86400; decide), _, _, rfl, rfl, _, hd, ?_, ?_, ?_⟩
        · rw [List.length_map, List.length_map, List.length_take]
          have := hT.most
          have e : sizeLine = 16777216 := by decide
          omega
        · rw [upd_same]
          have e : T.take (i + 1) = T.take i ++ [t] := by rw [List.take_add_one, et]; rfl
          rw [e, List.map_append, List.map_append]
          rfl
        · intro c o e
          rw [upd_ne (fun z => by rw [z, hD] at e; cases e)]
          exact sm c o e
    · rintro H' ⟨hd, sm⟩
      have e : T.take (as.map V.ref).length = T := by rw [List.length_map, hal, List.take_length]
      rw [e] at hd
      refine ⟨D, T.map fun t => till t sec, rfl, SqL.of hd, by rw [List.length_map]; exact hT.ne, fun m hm hle => ?_⟩
      rw [nextLo_min hT hsec hm hle]
      exact k H' sm
end
end TR


set_option Elab.async false
set_option linter.all false
set_option maxRecDepth 100000
set_option maxHeartbeats 2000000
namespace TR
open PySem PySem.Spec PyProof.Rows L2
open Mu30 (Q frac Tariff Hire)

abbrev sInitH : Stmt := inClass (topS 29) 0
abbrev sCopied : Stmt := topS 30
abbrev sFareX : Stmt := topS 31
abbrev sSecond : Stmt := topS 32
abbrev sPlace : Stmt := topS 33
abbrev sPace : Stmt := topS 34
abbrev sChange : Stmt := topS 35
abbrev sGo : Stmt := topS 36
abbrev sFall : Stmt := topS 37
abbrev sWay : Stmt := topS 38
abbrev sTillD : Stmt := topS 39

/-! ### fields -/
theorem lk_here {k : Str} {v : V} {r : List (Str × V)} : List.lookup k ((k, v) :: r) = some v := by
  have e : (k == k) = true := beq_self_eq_true k
  simp only [List.lookup, e]
theorem lk_past {k g : Str} {v : V} {r : List (Str × V)} (h : (k == g) = false) : List.lookup k ((g, v) :: r) = List.lookup k r := by
  simp only [List.lookup, h]
theorem put_here {f : Str} {v x : V} {r : List (Str × V)} : putF f v ((f, x) :: r) = (f, v) :: r := if_pos rfl
theorem put_past {f g : Str} {v x : V} {r : List (Str × V)} (h : ¬ g = f) : putF f v ((g, x) :: r) = (g, x) :: putF f v r := if_neg h
theorem put_new {f : Str} {v : V} : putF f v [] = [(f, v)] := rfl
def f7 (v0 v1 v2 v3 v4 v5 v6 : V) : List (Str × V) := [("tariffs", v0), ("second", v1), ("fare", v2), ("extras", v3), ("gone", v4), ("part", v5), ("falls", v6)]
section
variable {v0 v1 v2 v3 v4 v5 v6 y : V}
theorem f7_tariffs : (f7 v0 v1 v2 v3 v4 v5 v6).lookup ("tariffs" : Str) = some v0 := lk_here
theorem put7_tariffs : putF "tariffs" y (f7 v0 v1 v2 v3 v4 v5 v6) = f7 y v1 v2 v3 v4 v5 v6 := put_here
theorem f7_second : (f7 v0 v1 v2 v3 v4 v5 v6).lookup ("second" : Str) = some v1 := (lk_past (by decide +kernel)).trans (lk_here)
theorem put7_second : putF "second" y (f7 v0 v1 v2 v3 v4 v5 v6) = f7 v0 y v2 v3 v4 v5 v6 := (put_past (by decide +kernel)).trans (congrArg _ (put_here))
theorem f7_fare : (f7 v0 v1 v2 v3 v4 v5 v6).lookup ("fare" : Str) = some v2 := (lk_past (by decide +kernel)).trans ((lk_past (by decide +kernel)).trans (lk_here))
theorem put7_fare : putF "fare" y (f7 v0 v1 v2 v3 v4 v5 v6) = f7 v0 v1 y v3 v4 v5 v6 := (put_past (by decide +kernel)).trans (congrArg _ ((put_past (by decide +kernel)).trans (congrArg _ (put_here))))
theorem f7_extras : (f7 v0 v1 v2 v3 v4 v5 v6).lookup ("extras" : Str) = some v3 := (lk_past (by decide +kernel)).trans ((lk_past (by decide +kernel)).trans ((lk_past (by decide +kernel)).trans (lk_here)))
theorem put7_extras : putF "extras" y (f7 v0 v1 v2 v3 v4 v5 v6) = f7 v0 v1 v2 y v4 v5 v6 := (put_past (by decide +kernel)).trans (congrArg _ ((put_past (by decide +kernel)).trans (congrArg _ ((put_past (by decide +kernel)).trans (congrArg _ (put_here))))))
theorem f7_gone : (f7 v0 v1 v2 v3 v4 v5 v6).lookup ("gone" : Str) = some v4 := (lk_past (by decide +kernel)).trans ((lk_past (by decide +kernel)).trans ((lk_past (by decide +kernel)).trans ((lk_past (by decide +kernel)).trans (lk_here))))
theorem put7_gone : putF "gone" y (f7 v0 v1 v2 v3 v4 v5 v6) = f7 v0 v1 v2 v3 y v5 v6 := (put_past (by decide +kernel)).trans (congrArg _ ((put_past (by decide +kernel)).trans (congrArg _ ((put_past (by decide +kernel)).trans (congrArg _ ((put_past (by decide +kernel)).trans (congrArg _ (put_here))))))))
theorem f7_part : (f7 v0 v1 v2 v3 v4 v5 v6).lookup ("part" : Str) = some v5 := (lk_past (by decide +kernel)).trans ((lk_past (by decide +kernel)).trans ((lk_past (by decide +kernel)).trans ((lk_past (by decide +kernel)).trans ((lk_past (by decide +kernel)).trans (lk_here)))))
theorem put7_part : putF "part" y (f7 v0 v1 v2 v3 v4 v5 v6) = f7 v0 v1 v2 v3 v4 y v6 := (put_past (by decide +kernel)).trans (congrArg _ ((put_past (by decide +kernel)).trans (congrArg _ ((put_past (by decide +kernel)).trans (congrArg _ ((put_past (by decide +kernel)).trans (congrArg _ ((put_past (by decide +kernel)).trans (congrArg _ (put_here))))))))))
theorem f7_falls : (f7 v0 v1 v2 v3 v4 v5 v6).lookup ("falls" : Str) = some v6 := (lk_past (by decide +kernel)).trans ((lk_past (by decide +kernel)).trans ((lk_past (by decide +kernel)).trans ((lk_past (by decide +kernel)).trans ((lk_past (by decide +kernel)).trans ((lk_past (by decide +kernel)).trans (lk_here))))))
theorem put7_falls : putF "falls" y (f7 v0 v1 v2 v3 v4 v5 v6) = f7 v0 v1 v2 v3 v4 v5 y := (put_past (by decide +kernel)).trans (congrArg _ ((put_past (by decide +kernel)).trans (congrArg _ ((put_past (by decide +kernel)).trans (congrArg _ ((put_past (by decide +kernel)).trans (congrArg _ ((put_past (by decide +kernel)).trans (congrArg _ ((put_past (by decide +kernel)).trans (congrArg _ (put_here))))))))))))
theorem new7_tariffs : putF "tariffs" v0 ([] : List (Str × V)) = ([("tariffs", v0)] : List (Str × V)) := put_new
theorem new7_second : putF "second" v1 ([("tariffs", v0)] : List (Str × V)) = ([("tariffs", v0), ("second", v1)] : List (Str × V)) := (put_past (by decide +kernel)).trans (congrArg _ (put_new))
theorem new7_fare : putF "fare" v2 ([("tariffs", v0), ("second", v1)] : List (Str × V)) = ([("tariffs", v0), ("second", v1), ("fare", v2)] : List (Str × V)) := (put_past (by decide +kernel)).trans (congrArg _ ((put_past (by decide +kernel)).trans (congrArg _ (put_new))))
theorem new7_extras : putF "extras" v3 ([("tariffs", v0), ("second", v1), ("fare", v2)] : List (Str × V)) = ([("tariffs", v0), ("second", v1), ("fare", v2), ("extras", v3)] : List (Str × V)) := (put_past (by decide +kernel)).trans (congrArg _ ((put_past (by decide +kernel)).trans (congrArg _ ((put_past (by decide +kernel)).trans (congrArg _ (put_new))))))
theorem new7_gone : putF "gone" v4 ([("tariffs", v0), ("second", v1), ("fare", v2), ("extras", v3)] : List (Str × V)) = ([("tariffs", v0), ("second", v1), ("fare", v2), ("extras", v3), ("gone", v4)] : List (Str × V)) := (put_past (by decide +kernel)).trans (congrArg _ ((put_past (by decide +kernel)).trans (congrArg _ ((put_past (by decide +kernel)).trans (congrArg _ ((put_past (by decide +kernel)).trans (congrArg _ (put_new))))))))
theorem new7_part : putF "part" v5 ([("tariffs", v0), ("second", v1), ("fare", v2), ("extras", v3), ("gone", v4)] : List (Str × V)) = ([("tariffs", v0), ("second", v1), ("fare", v2), ("extras", v3), ("gone", v4), ("part", v5)] : List (Str × V)) := (put_past (by decide +kernel)).trans (congrArg _ ((put_past (by decide +kernel)).trans (congrArg _ ((put_past (by decide +kernel)).trans (congrArg _ ((put_past (by decide +kernel)).trans (congrArg _ ((put_past (by decide +kernel)).trans (congrArg _ (put_new))))))))))
theorem new7_falls : putF "falls" v6 ([("tariffs", v0), ("second", v1), ("fare", v2), ("extras", v3), ("gone", v4), ("part", v5)] : List (Str × V)) = f7 v0 v1 v2 v3 v4 v5 v6 := (put_past (by decide +kernel)).trans (congrArg _ ((put_past (by decide +kernel)).trans (congrArg _ ((put_past (by decide +kernel)).trans (congrArg _ ((put_past (by decide +kernel)).trans (congrArg _ ((put_past (by decide +kernel)).trans (congrArg _ ((put_past (by decide +kernel)).trans (congrArg _ (put_new))))))))))))
end

/-! ### a hire in the heap -/
/-- tracked lists of whole numbers, in a tracked list -/
structure RowsT (H : Hp) (aT : Addr) (as : List Addr) (rows : List (List Int)) : Prop where
  top : H aT = some (.lst (as.map V.ref))
  len : as.length = rows.length
  row : ∀ (i : Nat) (b : Addr) (r : List Int), as[i]? = some b → rows[i]? = some r → H b = some (.lst (r.map V.int))
theorem RowsT.at {K : PySem.W.Frag} {H : Hp} {aT : Addr} {as : List Addr} {rows : List (List Int)} (R : RowsT H aT as rows) : RowsAt K H aT rows :=
  ⟨as, SqL.of R.top, R.len, fun i b r e1 e2 => SqL.of (R.row i b r e1 e2)⟩
theorem RowsT.same {H H' : Hp} {aT : Addr} {as : List Addr} {rows : List (List Int)} (R : RowsT H aT as rows) (s : Same H H') : RowsT H' aT as rows :=
  ⟨s _ _ R.top, R.len, fun i b r e1 e2 => s _ _ (R.row i b r e1 e2)⟩
abbrev TarAt (H : Hp) (aT : Addr) (as : List Addr) (T : List Tariff) : Prop := RowsT H aT as (T.map tNums)
theorem QAt.same {K : PySem.W.Frag} {H H' : Hp} {a : Addr} {q : Mu30.Q} (h : QAt K H a q) (s : ∀ xs, H a = some (.tup xs) → H' a = some (.tup xs)) (s2 : ∀ o u, H a = some (.frz o u) → H' a = some (.frz o u)) : QAt K H' a q := by
  rcases h with (h | ⟨o, h⟩) | h
  · exact .inl (.inl (s _ h))
  · exact .inl (.inr ⟨o, s2 _ _ h⟩)
  · exact .inr h
theorem QAt.same' {K : PySem.W.Frag} {H H' : Hp} {a : Addr} {q : Mu30.Q} (h : QAt K H a q) (s : Same H H') : QAt K H' a q := h.same (fun _ e => s _ _ e) (fun _ _ e => s _ _ e)
/-- all but the object at a and the list at b is as it was -/
def Chg (a b : Addr) (H H' : Hp) : Prop := ∀ c o, H c = some o → c ≠ a → c ≠ b → H' c = some o
theorem Chg.refl {a b : Addr} (H : Hp) : Chg a b H H := fun _ _ e _ _ => e
theorem Chg.trans {a b : Addr} {H H1 H2 : Hp} (x : Chg a b H H1) (y : Chg a b H1 H2) : Chg a b H H2 := fun c o e n1 n2 => y c o (x c o e n1 n2) n1 n2
theorem Chg.of {a b : Addr} {H H1 : Hp} (x : Same H H1) : Chg a b H H1 := fun c o e _ _ => x c o e
theorem Chg.up {a b : Addr} {H : Hp} {o : HO} : Chg a b H (upd H a o) := fun c o e n1 _ => by rw [upd_ne n1]; exact e
theorem Chg.up2 {a b : Addr} {H : Hp} {o : HO} : Chg a b H (upd H b o) := fun c o e _ n2 => by rw [upd_ne n2]; exact e
theorem same_up {H : Hp} {p : Addr} {o : HO} (h : H p = none) : Same H (upd H p o) := fun b u e => by rw [upd_ne (ne_of_none e h)]; exact e
structure HireAt (C : Addr) (K : PySem.W.Frag) (H : Hp) (a aF aT : Addr) (h : Hire) : Prop where
  ex : ∃ (dx aG aP : Addr) (fs : List Addr), H a = some (.ins C dx (f7 (.ref aT) (.int (h.began : Int)) (.int (h.fare : Int)) (.int (h.extras : Int)) (.ref aG) (.ref aP) (.ref aF))) ∧ QAt K H aG h.gone ∧ QAt K H aP h.part ∧
    H aF = some (.lst (fs.map V.ref)) ∧ fs.length = h.drops.length ∧ ∀ (i : Nat) (b : Addr) (q : Mu30.Q), fs[i]? = some b → h.drops[i]? = some q → QAt K H b q
theorem HireAt.same {C : Addr} {K : PySem.W.Frag} {H H' : Hp} {a aF aT : Addr} {h : Hire} (x : HireAt C K H a aF aT h) (s : Same H H') : HireAt C K H' a aF aT h := by
  obtain ⟨dx, aG, aP, fs, h1, h2, h3, h4, h5, h6⟩ := x.ex
  exact ⟨dx, aG, aP, fs, s _ _ h1, h2.same' s, h3.same' s, s _ _ h4, h5, fun i b q e1 e2 => (h6 i b q e1 e2).same' s⟩
/-- the tariffs' lists stand apart from the list at aF -/
structure Apart (aF aT : Addr) (as : List Addr) : Prop where
  top : aT ≠ aF
  row : ∀ b ∈ as, b ≠ aF
theorem RowsT.chg {H H' : Hp} {a aF aT : Addr} {as : List Addr} {rows : List (List Int)} (R : RowsT H aT as rows) (P : Apart aF aT as) {C dx : Addr} {fs : List (Str × V)} (ha : H a = some (.ins C dx fs)) (c : Chg a aF H H') : RowsT H' aT as rows := by
  refine ⟨c _ _ R.top (ne_of R.top ha (by intro z; cases z)) P.top, R.len, fun i b r e1 e2 => ?_⟩
  have := R.row i b r e1 e2
  exact c _ _ this (ne_of this ha (by intro z; cases z)) (P.row b (List.mem_of_getElem? e1))
theorem QAt.chg {K : PySem.W.Frag} {H H' : Hp} {a aF b : Addr} {q : Mu30.Q} (h : QAt K H b q) {C dx : Addr} {fs : List (Str × V)} {xs : List V} (ha : H a = some (.ins C dx fs)) (hF : H aF = some (.lst xs)) (c : Chg a aF H H') : QAt K H' b q :=
  h.same (fun _ e => c _ _ e (ne_of e ha (by intro z; cases z)) (ne_of e hF (by intro z; cases z))) (fun _ _ e => c _ _ e (ne_of e ha (by intro z; cases z)) (ne_of e hF (by intro z; cases z)))

/-- what the top has written of the class Hire, and more constants -/
structure HTxt (K : PySem.W.Frag) (mg : Str → Option Value) (C : Addr) : Prop where
  cl : Cls K C
  n_tariffs : NoAttr K C "tariffs"
  n_second : NoAttr K C "second"
  n_fare : NoAttr K C "fare"
  n_extras : NoAttr K C "extras"
  n_gone : NoAttr K C "gone"
  n_part : NoAttr K C "part"
  n_falls : NoAttr K C "falls"
  gC : mg "Hire" = some (.ref C)
  zero : ∃ a, mg "ZERO" = some (.ref a) ∧ ∀ H, QAt K H a (Mu30.whole 0)
  one : ∃ a, mg "ONE" = some (.ref a) ∧ ∀ H, QAt K H a (Mu30.nat 1)
  most : ∃ t, mg "MOST_STRETCHES" = some (.int 399 t)

/-! ### promises -/
def spInitH (C : Addr) (K : PySem.W.Frag) : Sp := fun vs H Q _ => ∃ (p dx aT : Addr) (as : List Addr) (T : List Tariff) (sec : Nat), vs = [.ref p, .ref aT, .int (sec : Int)] ∧ H p = some (.ins C dx []) ∧ TarAt H aT as T ∧ TOk T ∧
  ∀ (H' : Hp) (aF : Addr), HireAt C K H' p aF aT (Mu30.begun T sec) → H aF = none → (∀ b o, H b = some o → b ≠ p → H' b = some o) → Q .non H'

section
variable {P : Program} {w : World} {K : PySem.W.Frag} {mg : Str → Option Value} {base : Heap} {C : Addr}
theorem tar_at {T : List Tariff} {i : Nat} (h : i < T.length) : T[i]? = some (Mu30.tariff T i) := by
  unfold Mu30.tariff
  rw [List.getD_eq_getElem?_getD, List.getElem?_eq_getElem h]
  rfl
theorem scInitH : FnScope ["self", "tariffs", "second"] ["self", "tariffs", "second"] (defScope sInitH) := ⟨rfl, rfl, rfl, by decide +kernel, rfl, by decide +kernel, by decide +kernel⟩
theorem ok_initH {f : Addr} {fd : FuncData} (F : Fun K "__init__" "Hire.__init__" sInitH f fd) (N : Names K mg) (T : HTxt K mg C) (G : DefAt P w K mg base "which_holds" 1 ["tariffs", "second"] (spHolds K)) :
    FnOk P w K mg base CX0 2 f fd ["self", "tariffs", "second"] (spInitH C K) := by
  refine F.ok scInitH (fun vs H Q E h => ?_) (fun cdv A outer s H vs Q E hr h => ?_)
  · obtain ⟨p, dx, aT, as, T, sec, rfl, _⟩ := h
    rfl
  · obtain ⟨p, dx, aT, as, Ta, sec, rfl, hp, R, hT, k⟩ := h
    obtain ⟨t1, g1⟩ := N.hPrice
    obtain ⟨aZ, gZ, qZ⟩ := T.zero
    refine ⟨_, pss_cons (ps_fld (pv 0) (pv 1) rfl) (pss_cons (ps_fld (pv 0) (pv 2) rfl)
      (pss_cons (ps_fld (pv 0) (pe_ix ix_list (pe_ix ix_list (pv 1) (pe_def G hr (by decide) rfl (pa_cons (pv 1) (pa_cons (pv 2) pa_nil))) (fun _ _ => rfl)) (pe_gint rfl g1) (fun _ _ => rfl)) rfl)
      (pss_cons (ps_fld (pv 0) pe_int rfl) (pss_cons (ps_fld (pv 0) (pe_gref rfl gZ) rfl) (pss_cons (ps_fld (pv 0) (pe_gref rfl gZ) rfl) (pss_one (ps_fld (pv 0) (pe_lst pa_nil) rfl))))))), ?_⟩
    have pn : ∀ b xs, H b = some (.lst xs) → b ≠ p := fun b xs e => ne_of e hp (by intro z; cases z)
    refine ⟨_, rfl, _, rfl, p, C, dx, _, rfl, hp, T.cl, T.n_tariffs, (by show 0 < 1000; decide), ?_⟩
    refine ⟨_, rfl, _, rfl, p, C, dx, _, rfl, upd_same, T.cl, T.n_second, (by show 1 < 1000; decide), ?_⟩
    rw [upd_upd, new7_tariffs, new7_second]
    have R2 : TarAt (upd H p (.ins C dx [("tariffs", .ref aT), ("second", .int (sec : Int))])) aT as Ta :=
      ⟨by rw [upd_ne (pn _ _ R.top)]; exact R.top, R.len, fun i b r e1 e2 => by rw [upd_ne (pn _ _ (R.row i b r e1 e2))]; exact R.row i b r e1 e2⟩
    have hl := holds_lt hT.ne sec
    obtain ⟨b, eb⟩ := some_of (xs := as) (i := Mu30.holds Ta sec) (by have := R.len; rw [List.length_map] at this; omega)
    have et := tar_at hl
    refine ⟨_, rfl, _, rfl, _, rfl, aT, Ta, sec, rfl, R2.at, hT, aT, _, _, _, rfl, rfl, SqL.of R2.top, atI_nat (ref_at eb), b, _, _, _, rfl, rfl, SqL.of (R2.row _ _ _ eb (nums_at et)), atI_nat (j := 1) (v := V.int ((Mu30.tariff Ta (Mu30.holds Ta sec)).flag : Int)) rfl, ?_⟩
    refine ⟨_, rfl, p, C, dx, _, rfl, upd_same, T.cl, T.n_fare, (by show 2 < 1000; decide), ?_⟩
    rw [upd_upd, new7_fare]
    refine ⟨_, rfl, p, C, dx, _, rfl, upd_same, T.cl, T.n_extras, (by show 3 < 1000; decide), ?_⟩
    rw [upd_upd, new7_extras]
    refine ⟨_, rfl, p, C, dx, _, rfl, upd_same, T.cl, T.n_gone, (by show 4 < 1000; decide), ?_⟩
    rw [upd_upd, new7_gone]
    refine ⟨_, rfl, p, C, dx, _, rfl, upd_same, T.cl, T.n_part, (by show 5 < 1000; decide), ?_⟩
    rw [upd_upd, new7_part]
    refine ⟨(by show 0 ≤ sizeLine; decide), fun l hl2 => ?_⟩
    have hlp : l ≠ p := fun z => by rw [z, upd_same] at hl2; cases hl2
    have hl3 : H l = none := by rw [upd_ne hlp] at hl2; exact hl2
    refine ⟨_, rfl, p, C, dx, _, rfl, (by rw [upd_ne (Ne.symm hlp)]; exact upd_same), T.cl, T.n_falls, (by show 6 < 1000; decide), ?_⟩
    rw [new7_falls]
    refine k _ l ⟨dx, aZ, aZ, [], upd_same, qZ _, qZ _, ?_, rfl, fun i b q e => by simp at e⟩ hl3 fun b o e hb => ?_
    · rw [upd_ne hlp]
      exact upd_same
    · rw [upd_ne hb, upd_ne (fun z => by rw [z, hl3] at e; cases e), upd_ne hb]
      exact e

def spCopied (C : Addr) (K : PySem.W.Frag) : Sp := fun vs H Q _ => ∃ (a aF aT : Addr) (as : List Addr) (T : List Tariff) (h : Hire), vs = [.ref a] ∧ HireAt C K H a aF aT h ∧ TarAt H aT as T ∧ TOk T ∧
  ∀ (H' : Hp) (a' aF' : Addr), Same H H' → H a' = none → H aF' = none → HireAt C K H' a' aF' aT h → Q (.ref a') H'
/-- reading a field -/
theorem scCopied : FnScope ["hire", "other"] ["hire"] (defScope sCopied) := ⟨rfl, rfl, rfl, by decide +kernel, rfl, by decide +kernel, by decide +kernel⟩
theorem ok_copied {f fI : Addr} {fd fdI : FuncData} (F : Fun K "copied" "copied" sCopied f fd) (N : Names K mg) (T : HTxt K mg C) (M : Mk K C fI) (bI : Binds K fdI ["self", "tariffs", "second"] []) (GI : FnOk P w K mg base CX0 2 fI fdI ["self", "tariffs", "second"] (spInitH C K)) :
    FnOk P w K mg base CX0 4 f fd ["hire"] (spCopied C K) := by
  refine F.ok scCopied (fun vs H Q E h => ?_) (fun cdv A outer s H vs Q E hr h => ?_)
  · obtain ⟨a, aF, aT, as, T, h, rfl, _⟩ := h
    rfl
  · obtain ⟨a, aF, aT, as, Ta, h, rfl, hh, R, hT, k⟩ := h
    obtain ⟨dx, aG, aP, fs, ha, hG, hP, hF, hfl, hfq⟩ := hh.ex
    refine ⟨_, pss_cons (ps_set (i := 1) scCopied.nd rfl (.inl rfl) (pe_make M GI hr rfl T.gC bI .nil pass0 (pa_cons (pe_fld (pv 0) rfl) (pa_cons (pe_fld (pv 0) rfl) pa_nil))))
      (pss_cons (ps_fld (pv 1) (pe_fld (pv 0) rfl) rfl) (pss_cons (ps_fld (pv 1) (pe_fld (pv 0) rfl) rfl) (pss_cons (ps_fld (pv 1) (pe_fld (pv 0) rfl) rfl) (pss_cons (ps_fld (pv 1) (pe_fld (pv 0) rfl) rfl)
      (pss_cons (ps_fld (pv 1) (pe_callTy call_list_of (by rfl) N.list (by decide +kernel) (pa_cons (pe_fld (pv 0) rfl) pa_nil)) rfl) (pss_one (ps_ret (pv 1)))))))), ?_⟩
    refine ⟨_, rfl, a, C, dx, _, _, rfl, ha, T.cl, T.n_tariffs, f7_tariffs, _, rfl, a, C, dx, _, _, rfl, ha, T.cl, T.n_second, f7_second, ?_⟩
    intro x dx' nx nd ne
    have up : ∀ b o, H b = some o → (upd (upd H dx' (.own x)) x (.ins C dx' [])) b = some o := fun b o e => by
      rw [upd_ne (ne_of_none e nx), upd_ne (ne_of_none e nd)]
      exact e
    refine ⟨x, dx', aT, as, Ta, h.began, rfl, upd_same, R.same up, hT, fun H1 aF0 hx naF kp => ⟨rfl, ?_⟩⟩
    have s1 : Same H H1 := Same.made nx nd kp
    obtain ⟨dx1, aG1, aP1, fs1, hx1, _⟩ := hx.ex
    have ax : a ≠ x := ne_of_none ha nx
    have ha1 := s1 _ _ ha
    have st : ∀ {o : HO}, (upd H1 x o) a = some (.ins C dx (f7 (.ref aT) (.int (h.began : Int)) (.int (h.fare : Int)) (.int (h.extras : Int)) (.ref aG) (.ref aP) (.ref aF))) := by
      intro o
      rw [upd_ne ax]
      exact ha1
    refine ⟨_, rfl, a, C, dx, _, _, rfl, ha1, T.cl, T.n_fare, f7_fare, _, rfl, x, C, dx1, _, rfl, hx1, T.cl, T.n_fare, (by show 7 < 1000; decide), ?_⟩
    rw [put7_fare]
    refine ⟨_, rfl, a, C, dx, _, _, rfl, st, T.cl, T.n_extras, f7_extras, _, rfl, x, C, dx1, _, rfl, upd_same, T.cl, T.n_extras, (by show 7 < 1000; decide), ?_⟩
    rw [upd_upd, put7_extras]
    refine ⟨_, rfl, a, C, dx, _, _, rfl, st, T.cl, T.n_gone, f7_gone, _, rfl, x, C, dx1, _, rfl, upd_same, T.cl, T.n_gone, (by show 7 < 1000; decide), ?_⟩
    rw [upd_upd, put7_gone]
    refine ⟨_, rfl, a, C, dx, _, _, rfl, st, T.cl, T.n_part, f7_part, _, rfl, x, C, dx1, _, rfl, upd_same, T.cl, T.n_part, (by show 7 < 1000; decide), ?_⟩
    rw [upd_upd, put7_part]
    have hFx : aF ≠ x := ne_of_none hF nx
    have hF1 : ∀ {o : HO}, (upd H1 x o) aF = some (.lst (fs.map V.ref)) := by
      intro o
      rw [upd_ne hFx]
      exact s1 _ _ hF
    refine ⟨_, rfl, a, C, dx, _, _, rfl, st, T.cl, T.n_falls, f7_falls, aF, _, rfl, .inl (SqL.of hF1), fun l hl => ?_⟩
    have lx : l ≠ x := fun z => by rw [z, upd_same] at hl; cases hl
    have hl1 : H1 l = none := by rw [upd_ne lx] at hl; exact hl
    refine ⟨_, rfl, x, C, dx1, _, rfl, (by rw [upd_ne (Ne.symm lx)]; exact upd_same), T.cl, T.n_falls, (by show 7 < 1000; decide), ?_⟩
    rw [put7_falls]
    refine ⟨_, rfl, ?_⟩
    have sm : Same H (upd (upd (upd H1 x (.ins C dx1 (f7 (.ref aT) (.int (h.began : Int)) (.int (h.fare : Int)) (.int (h.extras : Int)) (.ref aG) (.ref aP) (.ref aF0)))) l (.lst (fs.map V.ref))) x (.ins C dx1 (f7 (.ref aT) (.int (h.began : Int)) (.int (h.fare : Int)) (.int (h.extras : Int)) (.ref aG) (.ref aP) (.ref l)))) := by
      intro b o e
      have bx : b ≠ x := ne_of_none e nx
      have bl : b ≠ l := fun z => by have := s1 _ _ e; rw [z, hl1] at this; cases this
      rw [upd_ne bx, upd_ne bl, upd_ne bx]
      exact s1 _ _ e
    refine k _ x l sm nx (s1.free hl1) ⟨dx1, aG, aP, fs, upd_same, hG.same' sm, hP.same' sm, ?_, hfl, fun i b q e1 e2 => (hfq i b q e1 e2).same' sm⟩
    rw [upd_ne lx]
    exact upd_same
def spFareX (C : Addr) (K : PySem.W.Frag) : Sp := fun vs H Q _ => ∃ (a aF aT : Addr) (h : Hire), vs = [.ref a] ∧ HireAt C K H a aF aT h ∧ Q (.int ((h.fare + h.extras : Nat) : Int)) H
theorem scFareX : FnScope ["hire"] ["hire"] (defScope sFareX) := ⟨rfl, rfl, rfl, by decide +kernel, rfl, by decide +kernel, by decide +kernel⟩
theorem ok_fareX {f : Addr} {fd : FuncData} (F : Fun K "fare_with_extras" "fare_with_extras" sFareX f fd) (T : HTxt K mg C) : FnOk P w K mg base CX0 1 f fd ["hire"] (spFareX C K) := by
  refine F.ok scFareX (fun vs H Q E h => ?_) (fun cdv A outer s H vs Q E hr h => ?_)
  · obtain ⟨a, aF, aT, h, rfl, _⟩ := h
    rfl
  · obtain ⟨a, aF, aT, h, rfl, hh, k⟩ := h
    obtain ⟨dx, aG, aP, fs, ha, hG, hP, hF, hfl, hfq⟩ := hh.ex
    refine ⟨_, pss_one (ps_ret (pe_op op_add (pe_fld (pv 0) rfl) (pe_fld (pv 0) rfl))), ?_⟩
    refine ⟨_, rfl, a, C, dx, _, _, rfl, ha, T.cl, T.n_fare, f7_fare, _, rfl, a, C, dx, _, _, rfl, ha, T.cl, T.n_extras, f7_extras, _, _, rfl, rfl, ?_⟩
    rw [Int.natCast_add] at k
    exact k
def spSecond (C : Addr) (K : PySem.W.Frag) : Sp := fun vs H Q _ => ∃ (a aF aT : Addr) (h : Hire), vs = [.ref a] ∧ HireAt C K H a aF aT h ∧ HInv h ∧ Q (.int ((Mu30.secondAt h : Nat) : Int)) H
theorem scSecond : FnScope ["hire"] ["hire"] (defScope sSecond) := ⟨rfl, rfl, rfl, by decide +kernel, rfl, by decide +kernel, by decide +kernel⟩
theorem ok_second {f : Addr} {fd : FuncData} (F : Fun K "second_of_day" "second_of_day" sSecond f fd) (N : Names K mg) (T : HTxt K mg C) (G : DefAt P w K mg base "rounded_down" 33 ["x"] (spFloor K)) : FnOk P w K mg base CX0 34 f fd ["hire"] (spSecond C K) := by
  refine F.ok scSecond (fun vs H Q E h => ?_) (fun cdv A outer s H vs Q E hr h => ?_)
  · obtain ⟨a, aF, aT, h, rfl, _⟩ := h
    rfl
  · obtain ⟨a, aF, aT, h, rfl, hh, I, k⟩ := h
    obtain ⟨dx, aG, aP, fs, ha, hG, hP, hF, hfl, hfq⟩ := hh.ex
    obtain ⟨td, gd⟩ := N.day
    refine ⟨_, pss_one (ps_ret (pe_op op_mod (pe_op op_add (pe_fld (pv 0) rfl) (pe_def G hr (by decide) rfl (pa_cons (pe_fld (pv 0) rfl) pa_nil))) (pe_gint rfl gd))), ?_⟩
    refine ⟨_, rfl, a, C, dx, _, _, rfl, ha, T.cl, T.n_second, f7_second, _, rfl, a, C, dx, _, _, rfl, ha, T.cl, T.n_gone, f7_gone, aG, h.gone, rfl, hG, I.gone, _, _, rfl, rfl, _, _, rfl, rfl, (by show (0 : Int) < 86400; decide), ?_⟩
    have e : ((Mu30.secondAt h : Nat) : Int) = ((h.began : Int) + ((Mu30.floorOf h.gone : Nat) : Int)) % 86400 := by
      unfold Mu30.secondAt Mu30.DAY
      omega
    rw [e] at k
    exact k
def spPlace (C : Addr) (K : PySem.W.Frag) : Sp := fun vs H Q _ => ∃ (a aF aT : Addr) (as : List Addr) (T : List Tariff) (h : Hire), vs = [.ref a] ∧ HireAt C K H a aF aT h ∧ TarAt H aT as T ∧ TOk T ∧ HInv h ∧ Q (.int ((Mu30.holds T (Mu30.secondAt h) : Nat) : Int)) H
theorem scPlace : FnScope ["hire"] ["hire"] (defScope sPlace) := ⟨rfl, rfl, rfl, by decide +kernel, rfl, by decide +kernel, by decide +kernel⟩
theorem ok_place {f : Addr} {fd : FuncData} (F : Fun K "tariff_place" "tariff_place" sPlace f fd) (T : HTxt K mg C) (G : DefAt P w K mg base "which_holds" 1 ["tariffs", "second"] (spHolds K)) (G2 : DefAt P w K mg base "second_of_day" 34 ["hire"] (spSecond C K)) :
    FnOk P w K mg base CX0 35 f fd ["hire"] (spPlace C K) := by
  refine F.ok scPlace (fun vs H Q E h => ?_) (fun cdv A outer s H vs Q E hr h => ?_)
  · obtain ⟨a, aF, aT, as, T, h, rfl, _⟩ := h
    rfl
  · obtain ⟨a, aF, aT, as, Ta, h, rfl, hh, R, hT, I, k⟩ := h
    obtain ⟨dx, aG, aP, fs, ha, hG, hP, hF, hfl, hfq⟩ := hh.ex
    refine ⟨_, pss_one (ps_ret (pe_def G hr (by decide) rfl (pa_cons (pe_fld (pv 0) rfl) (pa_cons (pe_def G2 hr (by decide) rfl (pa_cons (pv 0) pa_nil)) pa_nil)))), ?_⟩
    refine ⟨_, rfl, a, C, dx, _, _, rfl, ha, T.cl, T.n_tariffs, f7_tariffs, _, rfl, a, aF, aT, h, rfl, hh, I, ?_⟩
    exact ⟨aT, Ta, Mu30.secondAt h, rfl, R.at, hT, k⟩

def spPace (C : Addr) (K : PySem.W.Frag) : Sp := fun vs H Q _ => ∃ (a aF aT : Addr) (as : List Addr) (T : List Tariff) (h : Hire) (s m : Nat), vs = [.ref a, .int (s : Int), .int (m : Int)] ∧ HireAt C K H a aF aT h ∧ TarAt H aT as T ∧ TOk T ∧ HInv h ∧ 1 ≤ s ∧ s ≤ 20000 ∧ m ≤ 100000 ∧
  ∀ p, H p = none → Q (.ref p) (upd H p (qT (paceM T h s m)))
theorem scPace : FnScope ["hire", "s", "m", "tariff", "metres", "seconds"] ["hire", "s", "m"] (defScope sPace) := ⟨rfl, rfl, rfl, by decide +kernel, rfl, by decide +kernel, by decide +kernel⟩
theorem ok_pace {f : Addr} {fd : FuncData} (F : Fun K "part_in_a_second" "part_in_a_second" sPace f fd) (N : Names K mg) (T : HTxt K mg C) (G : DefAt P w K mg base "tariff_place" 35 ["hire"] (spPlace C K)) (GL : DefAt P w K mg base "lowest" 33 ["above", "below"] spLow) :
    FnOk P w K mg base CX0 36 f fd ["hire", "s", "m"] (spPace C K) := by
  refine F.ok scPace (fun vs H Q E h => ?_) (fun cdv A outer s H vs Q E hr h => ?_)
  · obtain ⟨a, aF, aT, as, T, h, s, m, rfl, _⟩ := h
    rfl
  · obtain ⟨a, aF, aT, as, Ta, h, s, m, rfl, hh, R, hT, I, hs, hs2, hm, k⟩ := h
    obtain ⟨dx, aG, aP, fs, ha, hG, hP, hF, hfl, hfq⟩ := hh.ex
    obtain ⟨t2, g2⟩ := N.hMetres
    obtain ⟨t3, g3⟩ := N.hSeconds
    obtain ⟨t5, g5⟩ := N.dMetres
    obtain ⟨t6, g6⟩ := N.dSeconds
    refine ⟨_, pss_cons (ps_set (i := 3) scPace.nd rfl (.inl rfl) (pe_ix ix_list (pe_fld (pv 0) rfl) (pe_def G hr (by decide) rfl (pa_cons (pv 0) pa_nil)) (fun _ _ => rfl)))
      (pss_cons (ps_set (i := 4) scPace.nd rfl (.inl rfl) (pe_ix ix_list (pv 3) (pe_gint rfl g5) (fun _ _ => rfl)))
      (pss_cons (ps_set (i := 5) scPace.nd rfl (.inl rfl) (pe_ix ix_list (pv 3) (pe_gint rfl g6) (fun _ _ => rfl)))
      (pss_cons (ps_if (pt_cmpR op_eq (pe_len N.len rfl (pe_fld (pv 0) rfl)) pe_int (nomark _)) (pss_cons (ps_set (i := 4) scPace.nd rfl (.inl rfl) (pe_ix ix_list (pv 3) (pe_gint rfl g2) (fun _ _ => rfl))) (pss_one (ps_set (i := 5) scPace.nd rfl (.inl rfl) (pe_ix ix_list (pv 3) (pe_gint rfl g3) (fun _ _ => rfl))))) pss_nil)
      (pss_cons (ps_if (pt_cmpR op_gt (pe_op op_mul (pv 2) (pv 5)) (pe_op op_mul (pv 1) (pv 4)) (nomark _)) (pss_one (ps_ret (pe_def GL hr (by decide) rfl (pa_cons (pv 2) (pa_cons (pe_op op_mul (pv 1) (pv 4)) pa_nil))))) pss_nil)
      (pss_one (ps_ret (pe_tup (pa_cons pe_int (pa_cons (pv 5) pa_nil))))))))), ?_⟩
    have hl := holds_lt hT.ne (Mu30.secondAt h)
    obtain ⟨b, eb⟩ := some_of (xs := as) (i := Mu30.holds Ta (Mu30.secondAt h)) (by have := R.len; rw [List.length_map] at this; omega)
    have et := tar_at hl
    have hb := R.row _ _ _ eb (nums_at et)
    refine ⟨_, rfl, a, C, dx, _, _, rfl, ha, T.cl, T.n_tariffs, f7_tariffs, _, rfl, a, aF, aT, as, Ta, h, rfl, hh, R, hT, I, aT, _, _, _, rfl, rfl, SqL.of R.top, atI_nat (ref_at eb), ?_⟩
    refine ⟨_, rfl, b, _, _, _, rfl, rfl, SqL.of hb, atI_nat (j := 5) (v := V.int ((Mu30.tariff Ta (Mu30.holds Ta (Mu30.secondAt h))).metres : Int)) rfl, ?_⟩
    refine ⟨_, rfl, b, _, _, _, rfl, rfl, SqL.of hb, atI_nat (j := 6) (v := V.int ((Mu30.tariff Ta (Mu30.holds Ta (Mu30.secondAt h))).seconds : Int)) rfl, ?_⟩
    refine ⟨_, rfl, a, C, dx, _, _, rfl, ha, T.cl, T.n_falls, f7_falls, aF, _, rfl, .inl (SqL.of hF), rfl, _, rfl, ite_eq (fun c0 => ?_) (fun c0 => ?_)⟩
    · have first : h.first = true := by
        rw [I.first]
        rw [List.length_map, hfl] at c0
        have : h.drops.length = 0 := by omega
        rw [List.isEmpty_iff]
        exact List.eq_nil_of_length_eq_zero this
      have eM : ((metresOf Ta h : Nat) : Int) = ((Mu30.tariff Ta (Mu30.holds Ta (Mu30.secondAt h))).metres0 : Int) := by
        unfold metresOf
        rw [if_pos first]
      have eS : ((secondsOf Ta h : Nat) : Int) = ((Mu30.tariff Ta (Mu30.holds Ta (Mu30.secondAt h))).seconds0 : Int) := by
        unfold secondsOf
        rw [if_pos first]
      refine ⟨_, rfl, b, _, _, _, rfl, rfl, SqL.of hb, atI_nat (j := 2) (v := V.int ((Mu30.tariff Ta (Mu30.holds Ta (Mu30.secondAt h))).metres0 : Int)) rfl, ?_⟩
      refine ⟨_, rfl, b, _, _, _, rfl, rfl, SqL.of hb, atI_nat (j := 3) (v := V.int ((Mu30.tariff Ta (Mu30.holds Ta (Mu30.secondAt h))).seconds0 : Int)) rfl, ?_⟩
      have mM := metresOf_b hT h
      have mS := secondsOf_b hT h
      have b1 : (-(2 ^ 64) < (m : Int) ∧ (m : Int) < 2 ^ 64) := ⟨by omega, by omega⟩
      have b2 : (-(2 ^ 64) < (s : Int) ∧ (s : Int) < 2 ^ 64) := ⟨by omega, by omega⟩
      refine ⟨_, rfl, _, rfl, _, _, rfl, rfl, .inl b1, _, rfl, _, rfl, _, _, rfl, rfl, .inl b2, _, _, rfl, rfl, _, rfl, ite_dec (fun c => ?_) (fun c => ?_)⟩
      · refine ⟨_, rfl, _, rfl, _, rfl, _, _, rfl, rfl, .inl b2, ?_⟩
        refine ⟨_, _, rfl, Int.natCast_nonneg _, ?_, fun p hp => ?_⟩
        · rw [← eM, ← Int.natCast_mul]
          have : 0 < s * metresOf Ta h := Nat.mul_pos hs mM.1
          omega
        · have e := k p hp
          unfold paceM at e
          rw [if_pos (by rw [← eM, ← eS, ← Int.natCast_mul, ← Int.natCast_mul] at c; omega)] at e
          rw [← eM, ← Int.natCast_mul]
          exact e
      · refine ⟨_, rfl, (by show 2 ≤ sizeLine; decide), fun p hp => ?_⟩
        have e := k p hp
        unfold paceM at e
        rw [if_neg (by rw [← eM, ← eS, ← Int.natCast_mul, ← Int.natCast_mul] at c; omega)] at e
        rw [← eS]
        exact e

    · have first : ¬ h.first = true := by
        rw [I.first, List.isEmpty_iff]
        intro z
        rw [List.length_map, hfl, z] at c0
        exact c0 rfl
      have eM : ((metresOf Ta h : Nat) : Int) = ((Mu30.tariff Ta (Mu30.holds Ta (Mu30.secondAt h))).metres : Int) := by
        unfold metresOf
        rw [if_neg first]
      have eS : ((secondsOf Ta h : Nat) : Int) = ((Mu30.tariff Ta (Mu30.holds Ta (Mu30.secondAt h))).seconds : Int) := by
        unfold secondsOf
        rw [if_neg first]
      have mM := metresOf_b hT h
      have mS := secondsOf_b hT h
      have b1 : (-(2 ^ 64) < (m : Int) ∧ (m : Int) < 2 ^ 64) := ⟨by omega, by omega⟩
      have b2 : (-(2 ^ 64) < (s : Int) ∧ (s : Int) < 2 ^ 64) := ⟨by omega, by omega⟩
      refine ⟨_, rfl, _, rfl, _, _, rfl, rfl, .inl b1, _, rfl, _, rfl, _, _, rfl, rfl, .inl b2, _, _, rfl, rfl, _, rfl, ite_dec (fun c => ?_) (fun c => ?_)⟩
      · refine ⟨_, rfl, _, rfl, _, rfl, _, _, rfl, rfl, .inl b2, ?_⟩
        refine ⟨_, _, rfl, Int.natCast_nonneg _, ?_, fun p hp => ?_⟩
        · rw [← eM, ← Int.natCast_mul]
          have : 0 < s * metresOf Ta h := Nat.mul_pos hs mM.1
          omega
        · have e := k p hp
          unfold paceM at e
          rw [if_pos (by rw [← eM, ← eS, ← Int.natCast_mul, ← Int.natCast_mul] at c; omega)] at e
          rw [← eM, ← Int.natCast_mul]
          exact e
      · refine ⟨_, rfl, (by show 2 ≤ sizeLine; decide), fun p hp => ?_⟩
        have e := k p hp
        unfold paceM at e
        rw [if_neg (by rw [← eM, ← eS, ← Int.natCast_mul, ← Int.natCast_mul] at c; omega)] at e
        rw [← eS]
        exact e

def spChange (C : Addr) (K : PySem.W.Frag) : Sp := fun vs H Q _ => ∃ (a aF aT : Addr) (as : List Addr) (T : List Tariff) (h : Hire), vs = [.ref a] ∧ HireAt C K H a aF aT h ∧ TarAt H aT as T ∧ TOk T ∧ HInv h ∧
  ∀ (H' : Hp) (p : Addr), Same H H' → H' p = some (qT (Mu30.nat (changeAt T h))) → Q (.ref p) H'
theorem scChange : FnScope ["hire"] ["hire"] (defScope sChange) := ⟨rfl, rfl, rfl, by decide +kernel, rfl, by decide +kernel, by decide +kernel⟩
theorem ok_change {f : Addr} {fd : FuncData} (F : Fun K "next_change" "next_change" sChange f fd) (T : HTxt K mg C) (G : DefAt P w K mg base "rounded_down" 33 ["x"] (spFloor K)) (G2 : DefAt P w K mg base "second_of_day" 34 ["hire"] (spSecond C K)) (G3 : DefAt P w K mg base "seconds_till_change" 1 ["tariffs", "second"] (spTill K)) :
    FnOk P w K mg base CX0 35 f fd ["hire"] (spChange C K) := by
  refine F.ok scChange (fun vs H Q E h => ?_) (fun cdv A outer s H vs Q E hr h => ?_)
  · obtain ⟨a, aF, aT, as, T, h, rfl, _⟩ := h
    rfl
  · obtain ⟨a, aF, aT, as, Ta, h, rfl, hh, R, hT, I, k⟩ := h
    obtain ⟨dx, aG, aP, fs, ha, hG, hP, hF, hfl, hfq⟩ := hh.ex
    refine ⟨_, pss_one (ps_ret (pe_tup (pa_cons (pe_op op_add (pe_def G hr (by decide) rfl (pa_cons (pe_fld (pv 0) rfl) pa_nil)) (pe_def G3 hr (by decide) rfl (pa_cons (pe_fld (pv 0) rfl) (pa_cons (pe_def G2 hr (by decide) rfl (pa_cons (pv 0) pa_nil)) pa_nil)))) (pa_cons pe_int pa_nil)))), ?_⟩
    refine ⟨_, rfl, a, C, dx, _, _, rfl, ha, T.cl, T.n_gone, f7_gone, aG, h.gone, rfl, hG, I.gone, _, rfl, a, C, dx, _, _, rfl, ha, T.cl, T.n_tariffs, f7_tariffs, _, rfl, a, aF, aT, h, rfl, hh, I, ?_⟩
    refine ⟨aT, Ta, Mu30.secondAt h, rfl, R.at, hT, secondAt_lt h, fun H1 s1 => ⟨_, _, rfl, rfl, (by show 2 ≤ sizeLine; decide), fun p hp => ?_⟩⟩
    refine k _ p (s1.trans (same_up hp)) ?_
    rw [upd_same]
    rfl
def spFall (C : Addr) (K : PySem.W.Frag) : Sp := fun vs H Q _ => ∃ (a aF aT : Addr) (as : List Addr) (T : List Tariff) (h : Hire), vs = [.ref a] ∧ HireAt C K H a aF aT h ∧ TarAt H aT as T ∧ TOk T ∧ HInv h ∧ h.drops.length < 1000000 ∧
  ∀ (H' : Hp), Chg a aF H H' → HireAt C K H' a aF aT (fallDrop T h) → Q .non H'
theorem scFall : FnScope ["hire"] ["hire"] (defScope sFall) := ⟨rfl, rfl, rfl, by decide +kernel, rfl, by decide +kernel, by decide +kernel⟩
theorem ok_fall {f : Addr} {fd : FuncData} (F : Fun K "let_drop_fall" "let_drop_fall" sFall f fd) (N : Names K mg) (T : HTxt K mg C) (G : DefAt P w K mg base "tariff_place" 35 ["hire"] (spPlace C K)) : FnOk P w K mg base CX0 36 f fd ["hire"] (spFall C K) := by
  refine F.ok scFall (fun vs H Q E h => ?_) (fun cdv A outer s H vs Q E hr h => ?_)
  · obtain ⟨a, aF, aT, as, T, h, rfl, _⟩ := h
    rfl
  · obtain ⟨a, aF, aT, as, Ta, h, rfl, hh, R, hT, I, few, k⟩ := h
    obtain ⟨dx, aG, aP, fs, ha, hG, hP, hF, hfl, hfq⟩ := hh.ex
    obtain ⟨t4, g4⟩ := N.dPrice
    obtain ⟨aZ, gZ, qZ⟩ := T.zero
    refine ⟨_, pss_cons (ps_fldaug (pv 0) (pe_ix ix_list (pe_ix ix_list (pe_fld (pv 0) rfl) (pe_def G hr (by decide) rfl (pa_cons (pv 0) pa_nil)) (fun _ _ => rfl)) (pe_gint rfl g4) (fun _ _ => rfl)) in_add)
      (pss_cons (ps_fld (pv 0) (pe_gref rfl gZ) rfl)
      (pss_one (ps_expr (pe_bm PySem.F.plainAttrs_list PySem.F.slot_list_append PySem.F.type_list_append mt_append (pe_fld (pv 0) rfl) (pa_cons (pe_fld (pv 0) rfl) pa_nil))))), ?_⟩
    have hl := holds_lt hT.ne (Mu30.secondAt h)
    obtain ⟨b, eb⟩ := some_of (xs := as) (i := Mu30.holds Ta (Mu30.secondAt h)) (by have := R.len; rw [List.length_map] at this; omega)
    have et := tar_at hl
    have hb := R.row _ _ _ eb (nums_at et)
    refine ⟨_, rfl, a, C, dx, _, _, rfl, ha, T.cl, T.n_fare, f7_fare, _, rfl, a, C, dx, _, _, rfl, ha, T.cl, T.n_tariffs, f7_tariffs, _, rfl, a, aF, aT, as, Ta, h, rfl, hh, R, hT, I, aT, _, _, _, rfl, rfl, SqL.of R.top, atI_nat (ref_at eb), b, _, _, _, rfl, rfl, SqL.of hb, atI_nat (j := 4) (v := V.int ((Mu30.tariff Ta (Mu30.holds Ta (Mu30.secondAt h))).price : Int)) rfl, _, _, rfl, rfl, dx, _, ha, (by show 7 < 1000; decide), ?_⟩
    rw [put7_fare]
    refine ⟨_, rfl, a, C, dx, _, rfl, upd_same, T.cl, T.n_part, (by show 7 < 1000; decide), ?_⟩
    rw [upd_upd, put7_part]
    have naF : aF ≠ a := ne_of hF ha (by intro z; cases z)
    have hF2 : ∀ {o : HO}, (upd H a o) aF = some (.lst (fs.map V.ref)) := by
      intro o
      rw [upd_ne naF]
      exact hF
    refine ⟨_, rfl, a, C, dx, _, _, rfl, upd_same, T.cl, T.n_falls, f7_falls, .inl ⟨rfl, _, SqL.of hF2⟩, _, rfl, a, C, dx, _, _, rfl, upd_same, T.cl, T.n_gone, f7_gone, aF, _, _, rfl, rfl, hF2, ?_, ?_⟩
    · rw [List.length_map, hfl]
      exact Nat.lt_of_lt_of_le few (by decide)
    · refine k _ (Chg.trans Chg.up Chg.up2) ⟨dx, aG, aZ, fs ++ [aG], ?_, ?_, qZ _, ?_, ?_, ?_⟩
      · rw [upd_ne (Ne.symm naF), upd_same, ← Int.natCast_add]
        rfl
      · exact hG.chg ha hF (Chg.trans Chg.up Chg.up2)
      · rw [upd_same, List.map_append]
        rfl
      · show (fs ++ [aG]).length = (h.drops ++ [h.gone]).length
        rw [List.length_append, List.length_append, hfl]
        rfl
      · intro i b q e1 e2
        have e2' : (h.drops ++ [h.gone])[i]? = some q := e2
        rcases Nat.lt_or_ge i fs.length with c | c
        · rw [List.getElem?_append_left c] at e1
          rw [List.getElem?_append_left (by omega)] at e2'
          exact (hfq i b q e1 e2').chg ha hF (Chg.trans Chg.up Chg.up2)
        · rw [List.getElem?_append_right c] at e1
          rw [List.getElem?_append_right (by omega)] at e2'
          have i0 : i - fs.length = 0 := by
            have := (List.getElem?_eq_some_iff.mp e1).1
            simp at this
            omega
          rw [i0] at e1
          rw [← hfl, i0] at e2'
          cases e1; cases e2'
          exact hG.chg ha hF (Chg.trans Chg.up Chg.up2)

/-! ### one stretch -/
def spGo (C : Addr) (K : PySem.W.Frag) : Sp := fun vs H Q _ => ∃ (a aF aT aS : Addr) (as : List Addr) (T : List Tariff) (h : Hire) (s m : Nat) (stop : Mu30.Q) (k : Nat), vs = [.ref a, .int (s : Int), .int (m : Int), .ref aS] ∧ HireAt C K H a aF aT h ∧ TarAt H aT as T ∧ Apart aF aT as ∧ QAt K H aS stop ∧
  TOk T ∧ HInv h ∧ 1 ≤ s ∧ s ≤ 20000 ∧ m ≤ 100000 ∧ Ok stop ∧ val h.gone ≤ val stop ∧ Sized k T s m stop h ∧ 0 < k ∧ k ≤ 10000000 ∧ h.drops.length < 1000000 ∧
  ∀ (H' : Hp), Chg a aF H H' → HireAt C K H' a aF aT (stretch T s m stop h) → Q .non H'
theorem scGo : FnScope ["hire", "s", "m", "stop", "pace", "fall"] ["hire", "s", "m", "stop"] (defScope sGo) := ⟨rfl, rfl, rfl, by decide +kernel, rfl, by decide +kernel, by decide +kernel⟩
theorem ok_go {f : Addr} {fd : FuncData} (F : Fun K "go_stretch" "go_stretch" sGo f fd) (T : HTxt K mg C) (GP : DefAt P w K mg base "part_in_a_second" 36 ["hire", "s", "m"] (spPace C K)) (GF : DefAt P w K mg base "let_drop_fall" 36 ["hire"] (spFall C K))
    (G1 : DefAt P w K mg base "plus" 34 ["x", "y"] (spQ2 K (fun _ _ => True) Mu30.Q.plus)) (G2 : DefAt P w K mg base "minus" 34 ["x", "y"] (spQ2 K (fun x y => val y ≤ val x) Mu30.Q.less))
    (G3 : DefAt P w K mg base "times" 34 ["x", "y"] (spQ2 K (fun _ _ => True) Mu30.Q.times)) (G4 : DefAt P w K mg base "divided" 34 ["x", "y"] (spQ2 K (fun _ y => 0 < val y) Mu30.Q.over)) (G5 : DefAt P w K mg base "is_below" 1 ["x", "y"] (spBelow K)) :
    FnOk P w K mg base CX0 37 f fd ["hire", "s", "m", "stop"] (spGo C K) := by
  refine F.ok scGo (fun vs H Q E h => ?_) (fun cdv A outer s H vs Q E hr h => ?_)
  · obtain ⟨a, aF, aT, aS, as, T, h, s, m, stop, k, rfl, _⟩ := h
    rfl
  · obtain ⟨a, aF, aT, aS, as, Ta, h, s, m, stop, k, rfl, hh, R, ap, qS, hT, I, hs, hs2, hm, so, sg, sz, k0, k1, few, cont⟩ := h
    obtain ⟨dx, aG, aP, fs, ha, hG, hP, hF, hfl, hfq⟩ := hh.ex
    obtain ⟨aO, gO, qO⟩ := T.one
    have one_sz : Sz k (Mu30.nat 1) := ⟨Nat.one_lt_two_pow (by omega), Nat.one_lt_two_pow (by omega)⟩
    refine ⟨_, pss_cons (ps_set (i := 4) scGo.nd rfl (.inl rfl) (pe_def GP hr (by decide) rfl (pa_cons (pv 0) (pa_cons (pv 1) (pa_cons (pv 2) pa_nil)))))
      (pss_cons (ps_set (i := 5) scGo.nd rfl (.inl rfl) (pe_def G1 hr (by decide) rfl (pa_cons (pe_fld (pv 0) rfl) (pa_cons (pe_def G4 hr (by decide) rfl (pa_cons (pe_def G2 hr (by decide) rfl (pa_cons (pe_gref rfl gO) (pa_cons (pe_fld (pv 0) rfl) pa_nil))) (pa_cons (pv 4) pa_nil))) pa_nil))))
      (pss_one (ps_if (pt_val (pe_def G5 hr (by decide) rfl (pa_cons (pv 3) (pa_cons (pv 5) pa_nil))))
        (pss_cons (ps_fld (pv 0) (pe_def G1 hr (by decide) rfl (pa_cons (pe_fld (pv 0) rfl) (pa_cons (pe_def G3 hr (by decide) rfl (pa_cons (pv 4) (pa_cons (pe_def G2 hr (by decide) rfl (pa_cons (pv 3) (pa_cons (pe_fld (pv 0) rfl) pa_nil))) pa_nil))) pa_nil))) rfl)
          (pss_one (ps_fld (pv 0) (pv 3) rfl)))
        (pss_cons (ps_fld (pv 0) (pv 5) rfl) (pss_one (ps_expr (pe_def GF hr (by decide) rfl (pa_cons (pv 0) pa_nil)))))))), ?_⟩
    -- pace
    refine ⟨_, rfl, _, rfl, _, rfl, a, aF, aT, as, Ta, h, s, m, rfl, hh, R, hT, I, hs, hs2, hm, fun p1 n1 => ?_⟩
    have po := paceM_ok (m := m) hT h hs
    have pp := paceM_pos (m := m) hT h hs
    have s1 : Same H (upd H p1 (qT (paceM Ta h s m))) := same_up n1
    generalize hH1 : upd H p1 (qT (paceM Ta h s m)) = H1 at s1
    have q1 : QAt K H1 p1 (paceM Ta h s m) := QAt.of (by rw [← hH1]; exact upd_same)
    -- 1 - part, its quotient, fall
    have ro := rest_ok I
    have to := toDrop_ok (m := m) hT I hs
    refine ⟨_, rfl, a, C, dx, _, _, rfl, s1 _ _ ha, T.cl, T.n_gone, f7_gone, _, rfl, a, C, dx, _, _, rfl, s1 _ _ ha, T.cl, T.n_part, f7_part, ?_⟩
    refine ⟨aO, aP, Mu30.nat 1, h.part, k, rfl, qO _, hP.same' s1, one_ok, I.part, one_sz, sz.part, k0, k1, (by show val h.part ≤ val (Mu30.nat 1); rw [val_one]; exact Rat.le_of_lt I.lt1), fun p2 n2 => ?_⟩
    have s2 : Same H1 (upd H1 p2 (qT ((Mu30.nat 1).less h.part))) := same_up n2
    generalize hH2 : upd H1 p2 (qT ((Mu30.nat 1).less h.part)) = H2 at s2
    have q2 : QAt K H2 p2 ((Mu30.nat 1).less h.part) := QAt.of (by rw [← hH2]; exact upd_same)
    refine ⟨_, rfl, p2, p1, _, _, k, rfl, q2, q1.same' s2, ro, po, sz.rest, sz.pace, k0, k1, pp, fun p3 n3 => ?_⟩
    have s3 : Same H2 (upd H2 p3 (qT (((Mu30.nat 1).less h.part).over (paceM Ta h s m)))) := same_up n3
    generalize hH3 : upd H2 p3 (qT (((Mu30.nat 1).less h.part).over (paceM Ta h s m))) = H3 at s3
    have q3 : QAt K H3 p3 (((Mu30.nat 1).less h.part).over (paceM Ta h s m)) := QAt.of (by rw [← hH3]; exact upd_same)
    have s13 := s1.trans (s2.trans s3)
    refine ⟨aG, p3, _, _, k, rfl, hG.same' s13, q3, I.gone, to, sz.gone, sz.toDrop, k0, k1, trivial, fun p4 n4 => ?_⟩
    have s4 : Same H3 (upd H3 p4 (qT (fallAt Ta s m h))) := same_up n4
    rw [show h.gone.plus (((Mu30.nat 1).less h.part).over (paceM Ta h s m)) = fallAt Ta s m h from rfl]
    generalize hH4 : upd H3 p4 (qT (fallAt Ta s m h)) = H4 at s4
    have q4 : QAt K H4 p4 (fallAt Ta s m h) := QAt.of (by rw [← hH4]; exact upd_same)
    have s14 := s13.trans s4
    refine ⟨_, rfl, _, rfl, aS, p4, stop, fallAt Ta s m h, k, rfl, qS.same' s14, q4, sz.halt, sz.fall, k0, k1, _, rfl, ite2 (fun c => ?_) (fun c => ?_)⟩
    · -- the way or the tariff ends first
      have es : stretch Ta s m stop h = { h with part := h.part.plus ((paceM Ta h s m).times (stop.less h.gone)), gone := stop } := if_pos c
      have lo := less_ok so I.gone sg
      have q1' := q1.same' (s2.trans (s3.trans s4))
      refine ⟨_, rfl, a, C, dx, _, _, rfl, s14 _ _ ha, T.cl, T.n_part, f7_part, _, rfl, _, rfl, _, rfl, a, C, dx, _, _, rfl, s14 _ _ ha, T.cl, T.n_gone, f7_gone, ?_⟩
      refine ⟨aS, aG, stop, h.gone, k, rfl, qS.same' s14, hG.same' s14, so, I.gone, sz.halt, sz.gone, k0, k1, sg, fun p5 n5 => ?_⟩
      have s5 : Same H4 (upd H4 p5 (qT (stop.less h.gone))) := same_up n5
      generalize hH5 : upd H4 p5 (qT (stop.less h.gone)) = H5 at s5
      have q5 : QAt K H5 p5 (stop.less h.gone) := QAt.of (by rw [← hH5]; exact upd_same)
      refine ⟨p1, p5, _, _, k, rfl, q1'.same' s5, q5, po, lo, sz.pace, sz.left, k0, k1, trivial, fun p6 n6 => ?_⟩
      have s6 : Same H5 (upd H5 p6 (qT ((paceM Ta h s m).times (stop.less h.gone)))) := same_up n6
      generalize hH6 : upd H5 p6 (qT ((paceM Ta h s m).times (stop.less h.gone))) = H6 at s6
      have q6 : QAt K H6 p6 ((paceM Ta h s m).times (stop.less h.gone)) := QAt.of (by rw [← hH6]; exact upd_same)
      have s16 := s14.trans (s5.trans s6)
      refine ⟨aP, p6, _, _, k, rfl, hP.same' s16, q6, I.part, times_ok po lo, sz.part, sz.goes, k0, k1, trivial, fun p7 n7 => ?_⟩
      have s7 : Same H6 (upd H6 p7 (qT (h.part.plus ((paceM Ta h s m).times (stop.less h.gone))))) := same_up n7
      generalize hH7 : upd H6 p7 (qT (h.part.plus ((paceM Ta h s m).times (stop.less h.gone)))) = H7 at s7
      have q7 : QAt K H7 p7 (h.part.plus ((paceM Ta h s m).times (stop.less h.gone))) := QAt.of (by rw [← hH7]; exact upd_same)
      have s17 := s16.trans s7
      have ha7 := s17 _ _ ha
      have hF7 := s17 _ _ hF
      refine ⟨_, rfl, a, C, dx, _, rfl, ha7, T.cl, T.n_part, (by show 7 < 1000; decide), ?_⟩
      rw [put7_part]
      refine ⟨_, rfl, _, rfl, a, C, dx, _, rfl, upd_same, T.cl, T.n_gone, (by show 7 < 1000; decide), ?_⟩
      rw [upd_upd, put7_gone]
      have c7 : Chg a aF H7 (upd H7 a (.ins C dx (f7 (.ref aT) (.int (h.began : Int)) (.int (h.fare : Int)) (.int (h.extras : Int)) (.ref aS) (.ref p7) (.ref aF)))) := Chg.up
      refine cont _ ((Chg.of s17).trans c7) ?_
      rw [es]
      refine ⟨dx, aS, p7, fs, upd_same, (qS.same' s17).chg ha7 hF7 c7, q7.chg ha7 hF7 c7, ?_, hfl, fun i b q e1 e2 => ((hfq i b q e1 e2).same' s17).chg ha7 hF7 c7⟩
      rw [upd_ne (ne_of hF7 ha7 (by intro z; cases z))]
      exact hF7
    · -- a drop falls
      have es : stretch Ta s m stop h = fallDrop Ta { h with gone := fallAt Ta s m h } := if_neg c
      have ha4 := s14 _ _ ha
      have hF4 := s14 _ _ hF
      refine ⟨_, rfl, _, rfl, a, C, dx, _, rfl, ha4, T.cl, T.n_gone, (by show 7 < 1000; decide), ?_⟩
      rw [put7_gone]
      have c4 : Chg a aF H4 (upd H4 a (.ins C dx (f7 (.ref aT) (.int (h.began : Int)) (.int (h.fare : Int)) (.int (h.extras : Int)) (.ref p4) (.ref aP) (.ref aF)))) := Chg.up
      generalize hH5 : upd H4 a (.ins C dx (f7 (.ref aT) (.int (h.began : Int)) (.int (h.fare : Int)) (.int (h.extras : Int)) (.ref p4) (.ref aP) (.ref aF))) = H5 at c4
      have R5 : TarAt H5 aT as Ta := (R.same s14).chg ap ha4 c4
      have hh5 : HireAt C K H5 a aF aT { h with gone := fallAt Ta s m h } := by
        refine ⟨dx, p4, aP, fs, by rw [← hH5]; exact upd_same, q4.chg ha4 hF4 c4, (hP.same' s14).chg ha4 hF4 c4, ?_, hfl, fun i b q e1 e2 => ((hfq i b q e1 e2).same' s14).chg ha4 hF4 c4⟩
        rw [← hH5, upd_ne (ne_of hF4 ha4 (by intro z; cases z))]
        exact hF4
      have I5 : HInv { h with gone := fallAt Ta s m h } := ⟨I.began, fallAt_ok hT I hs, I.part, I.lt1, I.first⟩
      refine ⟨_, rfl, a, aF, aT, as, Ta, _, rfl, hh5, R5, hT, I5, few, fun H6 c6 hh6 => ?_⟩
      refine cont _ ((Chg.of s14).trans (c4.trans c6)) ?_
      rw [es]
      exact hh6
end
end TR


set_option Elab.async false
set_option linter.all false
set_option maxRecDepth 100000
set_option maxHeartbeats 2000000
namespace TR
open PySem PySem.Spec PyProof.Rows L2
open Mu30 (Q frac Tariff Hire)

section
variable {T : List Tariff} {s m n L : Nat} {h : Hire} {stop e : Mu30.Q}
theorem fit_gone (I : HInv h) (F : FitL L n h) (hn : n ≤ 100000) : Sz (45 * (n + 1) + 1 + 40) h.gone :=
  (Sz.grid (b := 40) I.gone F.gone F.pos (Nat.lt_of_le_of_lt F.le (Nat.pow_lt_pow_right (by decide) (by omega : 45 * n < 45 * (n + 1) + 1))) F.time (by omega)).mono (by omega)
theorem fit_end (F : FitL L n h) (he : Ok e) (g : Grid L (val e)) (hv : val e ≤ ((86400 * n + 20000 : Nat) : Int)) (hn : n ≤ 100000) : Sz (45 * (n + 1) + 1 + 40) e :=
  (Sz.grid (b := 40) he g F.pos (Nat.lt_of_le_of_lt F.le (Nat.pow_lt_pow_right (by decide) (by omega : 45 * n < 45 * (n + 1) + 1))) hv (by omega)).mono (by omega)
theorem fit_change (hT : TOk T) (I : HInv h) (F : FitL L n h) (hn : n ≤ 100000) : Sz (45 * (n + 1) + 1 + 40) (Mu30.nat (changeAt T h)) := by
  have h1 := change_le hT I.gone
  have h2 := F.time
  have e : (((86400 * n + 86400 : Nat) : Int) : Rat) = ((86400 * n : Nat) : Int) + 86400 := by
    have : ((86400 * n + 86400 : Nat) : Int) = ((86400 * n : Nat) : Int) + 86400 := by omega
    rw [this, Rat.intCast_add]
    rfl
  have h3 : val (Mu30.nat (changeAt T h)) ≤ ((86400 * n + 86400 : Nat) : Int) := by rw [e]; grind
  have g : Grid L (val (Mu30.nat (changeAt T h))) := by rw [val_nat]; exact Grid.int _ _
  exact (Sz.grid (b := 40) (nat_ok _) g F.pos (Nat.lt_of_le_of_lt F.le (Nat.pow_lt_pow_right (by decide) (by omega : 45 * n < 45 * (n + 1) + 1))) h3 (by omega)).mono (by omega)
theorem stop_grid (g : Grid L (val e)) : Grid L (val (stopOf T e h)) := by
  unfold stopOf
  split
  · exact g
  · rw [val_nat]
    exact Grid.int _ _
theorem stop_near (hT : TOk T) (I : HInv h) (he : Ok e) : val (stopOf T e h) ≤ val h.gone + 86400 := Rat.le_trans (stopOf_le2 he) (change_le hT I.gone)
theorem drive_go (k : Nat) (c : h.gone.below e = true) : driveM T s m e (k + 1) h = driveM T s m e k (stretch T s m (stopOf T e h) h) := by
  rw [driveM, if_pos c]
theorem drive_end (k : Nat) (c : ¬ h.gone.below e = true) : driveM T s m e k h = some h := by
  cases k <;> rw [driveM, if_neg c]
theorem stretch_len : h.drops.length ≤ (stretch T s m stop h).drops.length := by
  unfold stretch
  split
  · exact Nat.le_refl _
  · show h.drops.length ≤ (h.drops ++ [_]).length
    rw [List.length_append]
    omega
theorem stretch_ge (hT : TOk T) (I : HInv h) (hs : 1 ≤ s) (ho : Ok stop) (hg : val h.gone ≤ val stop) : val h.gone ≤ val (stretch T s m stop h).gone := by
  unfold stretch
  split
  · exact hg
  · show val h.gone ≤ val (fallAt T s m h)
    rw [val_fallAt hT I hs]
    have := toDrop_pos (m := m) hT I hs
    grind
theorem till_go (k n : Nat) (c : ¬ n ≤ h.drops.length) : tillM T s m n (k + 1) h = tillM T s m n k (stretch T s m (Mu30.nat (changeAt T h)) h) := by
  rw [tillM, if_neg c]
theorem till_end (k n : Nat) (c : n ≤ h.drops.length) : tillM T s m n k h = some h := by
  cases k <;> rw [tillM, if_pos c]
theorem till_out (n : Nat) (c : ¬ n ≤ h.drops.length) : tillM T s m n 0 h = none := by
  rw [tillM, if_neg c]
theorem drive_out (c : h.gone.below e = true) : driveM T s m e 0 h = none := by
  rw [driveM, if_pos c]
end

section
variable {P : Program} {w : World} {K : PySem.W.Frag} {mg : Str → Option Value} {base : Heap} {C : Addr}
def spWay (C : Addr) (K : PySem.W.Frag) : Sp := fun vs H Q _ => ∃ (a aF aT : Addr) (as : List Addr) (T : List Tariff) (h : Hire) (s m n : Nat), vs = [.ref a, .int (s : Int), .int (m : Int)] ∧ HireAt C K H a aF aT h ∧ TarAt H aT as T ∧ Apart aF aT as ∧
  TOk T ∧ HInv h ∧ 1 ≤ s ∧ s ≤ 20000 ∧ m ≤ 100000 ∧ Fit n h ∧ n ≤ 90000 ∧
  (∀ (H' : Hp) (g : Hire), driveM T s m (h.gone.plus (Mu30.nat s)) 399 h = some g → Chg a aF H H' → HireAt C K H' a aF aT g → HInv g → Fit (n + 399) g → Q (.bl true) H') ∧
  (driveM T s m (h.gone.plus (Mu30.nat s)) 399 h = none → ∀ H' : Hp, Chg a aF H H' → Q (.bl false) H')
theorem scWay : FnScope ["hire", "s", "m", "end", "stretches", "stop"] ["hire", "s", "m"] (defScope sWay) := ⟨rfl, rfl, rfl, by decide +kernel, rfl, by decide +kernel, by decide +kernel⟩
theorem ok_way {f : Addr} {fd : FuncData} (F : Fun K "drive_way" "drive_way" sWay f fd) (T : HTxt K mg C) (GG : DefAt P w K mg base "go_stretch" 37 ["hire", "s", "m", "stop"] (spGo C K)) (GC : DefAt P w K mg base "next_change" 35 ["hire"] (spChange C K))
    (G1 : DefAt P w K mg base "plus" 34 ["x", "y"] (spQ2 K (fun _ _ => True) Mu30.Q.plus)) (G5 : DefAt P w K mg base "is_below" 1 ["x", "y"] (spBelow K)) :
    FnOk P w K mg base CX0 38 f fd ["hire", "s", "m"] (spWay C K) := by
  refine F.ok scWay (fun vs H Q E h => ?_) (fun cdv A outer s H vs Q E hr h => ?_)
  · obtain ⟨a, aF, aT, as, T, h, s, m, n, rfl, _⟩ := h
    rfl
  · obtain ⟨a, aF, aT, as, Ta, h, s, m, n, rfl, hh, R, ap, hT, I, hs, hs2, hm, ⟨L0, F0⟩, hn, kS, kN⟩ := h
    obtain ⟨dx, aG, aP, fs, ha, hG, hP, hF, hfl, hfq⟩ := hh.ex
    obtain ⟨tM, gM⟩ := T.most
    refine ⟨_, pss_cons (ps_set (i := 3) scWay.nd rfl (.inl rfl) (pe_def G1 hr (by decide) rfl (pa_cons (pe_fld (pv 0) rfl) (pa_cons (pe_tup (pa_cons (pv 1) (pa_cons pe_int pa_nil))) pa_nil))))
      (pss_cons (ps_set (i := 4) scWay.nd rfl (.inl rfl) pe_int)
      (pss_cons (ps_while PassesOwn.never (pt_val (pe_def G5 hr (by decide) rfl (pa_cons (pe_fld (pv 0) rfl) (pa_cons (pv 3) pa_nil))))
        (pss_cons (ps_if (pt_cmpR op_eq (pv 4) (pe_gint rfl gM) (nomark _)) (pss_one (ps_ret pe_bl)) pss_nil)
        (pss_cons (ps_set (i := 5) scWay.nd rfl (.inl rfl) (pe_def GC hr (by decide) rfl (pa_cons (pv 0) pa_nil)))
        (pss_cons (ps_if (pt_val (pe_def G5 hr (by decide) rfl (pa_cons (pv 3) (pa_cons (pv 5) pa_nil)))) (pss_one (ps_set (i := 5) scWay.nd rfl (.inl rfl) (pv 3))) pss_nil)
        (pss_cons (ps_expr (pe_def GG hr (by decide) rfl (pa_cons (pv 0) (pa_cons (pv 1) (pa_cons (pv 2) (pa_cons (pv 5) pa_nil))))))
        (pss_one (ps_aug (i := 4) scWay.nd rfl (.inl rfl) pe_int ip_add)))))))
      (pss_one (ps_ret pe_bl)))), ?_⟩
    refine ⟨_, rfl, a, C, dx, _, _, rfl, ha, T.cl, T.n_gone, f7_gone, _, rfl, (by show 2 ≤ sizeLine; decide), fun p1 n1 => ?_⟩
    have s1 : Same H (upd H p1 (qT (Mu30.nat s))) := same_up n1
    rw [show HO.tup [V.int (s : Int), V.int 1] = qT (Mu30.nat s) from rfl]
    generalize hH1 : upd H p1 (qT (Mu30.nat s)) = H1 at s1
    have q1 : QAt K H1 p1 (Mu30.nat s) := QAt.of (by rw [← hH1]; exact upd_same)
    have sS : Sz (45 * (n + 1) + 1 + 40) (Mu30.nat s) := by
      refine Sz.mono (j := 40) ⟨?_, ?_⟩ (by omega)
      · show ((s : Nat) : Int).natAbs < 2 ^ 40
        rw [Int.natAbs_natCast]
        omega
      · show 1 < 2 ^ 40
        decide
    refine ⟨aG, p1, h.gone, Mu30.nat s, _, rfl, hG.same' s1, q1, I.gone, nat_ok s, fit_gone I F0 (by omega), sS, (by omega), (by omega), trivial, fun p2 n2 => ?_⟩
    have s2 : Same H1 (upd H1 p2 (qT (h.gone.plus (Mu30.nat s)))) := same_up n2
    generalize he : h.gone.plus (Mu30.nat s) = e at *
    have eo : Ok e := by rw [← he]; exact plus_ok I.gone (nat_ok s)
    have ev : val e = val h.gone + ((s : Int) : Rat) := by rw [← he, val_plus I.gone (nat_ok s), val_nat]
    have eb : val e ≤ ((86400 * n + 20000 : Nat) : Int) := by
      rw [ev]
      have h1 := F0.time
      have h2 : ((s : Int) : Rat) ≤ ((20000 : Int) : Rat) := rInt.mpr (by omega)
      have h3 : (((86400 * n + 20000 : Nat) : Int) : Rat) = ((86400 * n : Nat) : Int) + ((20000 : Int) : Rat) := by
        rw [← Rat.intCast_add]
        rfl
      rw [h3]
      grind
    have eg : Grid L0 (val e) := by rw [ev]; exact F0.gone.add (Grid.int _ _)
    have ege : val h.gone ≤ val e := by
      rw [ev]
      have : (0 : Rat) ≤ ((s : Int) : Rat) := Rat.intCast_nonneg.mpr (by omega)
      grind
    have s12 := s1.trans s2
    generalize hH2 : upd H1 p2 (qT e) = H2 at s2 s12
    have q2 : QAt K H2 p2 e := QAt.of (by rw [← hH2]; exact upd_same)
    refine while_by (fun σ H' => ∃ (j : Nat) (g : Hire) (L : Nat) (v : Option V), σ = [some (.ref a), some (.int (s : Int)), some (.int (m : Int)), some (.ref p2), some (.int (j : Int)), v] ∧ j ≤ 399 ∧ Chg a aF H2 H' ∧ HireAt C K H' a aF aT g ∧ HInv g ∧ FitL L (n + j) g ∧ Grid L (val e) ∧
        val g.gone ≤ val e ∧ driveM Ta s m e 399 h = driveM Ta s m e (399 - j) g)
      (fun (σ : L2.St) (_ : Hp) => match σ[4]? with | some (some (V.int y)) => (400 - y).toNat | _ => 0) ⟨0, h, L0, none, rfl, by omega, Chg.refl _, hh.same s12, I, F0, eg, ege, rfl⟩ ?_ ?_
    · rintro σ H' ⟨j, g, L, v, rfl, hj, cg, hg, Ig, Fg, gE, le, dr⟩
      obtain ⟨dx', aG', aP', fs', ha', hG', hP', hF', hfl', hfq'⟩ := id hg.ex
      have R' : TarAt H' aT as Ta := (R.same s12).chg ap (s12 _ _ ha) cg
      have q2' : QAt K H' p2 e := q2.chg (s12 _ _ ha) (s12 _ _ hF) cg
      have hnj : n + j ≤ 100000 := by omega
      have szg := fit_gone Ig Fg hnj
      have sze := fit_end Fg eo gE (cast_le eb (by omega)) hnj
      refine ⟨_, rfl, a, C, dx', _, _, rfl, ha', T.cl, T.n_gone, f7_gone, _, rfl, aG', p2, g.gone, e, _, rfl, hG', q2', szg, sze, (by omega), (by omega), _, rfl, ite2 (fun c => ?_) (fun c => ?_)⟩
      · have c' := (below_iff Ig.gone eo).mp c
        refine ⟨_, rfl, rfl, _, rfl, ite_eq (fun c0 => ?_) (fun c0 => ?_)⟩
        · -- too many stretches
          have j9 : j = 399 := by omega
          subst j9
          have dn : driveM Ta s m e 399 h = none := by rw [dr]; exact drive_out c
          exact kN dn H' ((Chg.of s12).trans cg)
        · have j9 : j < 399 := by omega
          refine ⟨_, rfl, a, aF, aT, as, Ta, g, rfl, hg, R', hT, Ig, fun H3 p3 s3 e3 => ?_⟩
          have q3 : QAt K H3 p3 (Mu30.nat (changeAt Ta g)) := QAt.of e3
          have hg3 := hg.same s3
          have R3 := R'.same s3
          have szc := fit_change hT Ig Fg hnj
          have so : Ok (stopOf Ta e g) := stopOf_ok eo
          have sg := stopOf_gt (T := Ta) Ig eo c'
          have sn := stop_near hT Ig eo
          have sgr : Grid L (val (stopOf Ta e g)) := stop_grid gE
          have sz := fit_sized (m := m) hT Ig hs hs2 hm so (Rat.le_of_lt sg) sn Fg sgr hnj
          have nF := stretch_fit (m := m) hT Ig hs hs2 hm so (Rat.le_of_lt sg) sn Fg sgr
          have nI := stretch_inv (m := m) hT Ig hs so (Rat.le_of_lt sg)
          have nle := Rat.le_trans (stretch_le (m := m) hT Ig hs so) (stopOf_le (T := Ta) (h := g) eo)
          have ndr : driveM Ta s m e 399 h = driveM Ta s m e (399 - (j + 1)) (stretch Ta s m (stopOf Ta e g) g) := by
            rw [dr, show 399 - j = (399 - (j + 1)) + 1 by omega]
            exact drive_go _ c
          refine ⟨_, rfl, _, rfl, p2, p3, e, Mu30.nat (changeAt Ta g), _, rfl, q2'.same' s3, q3, sze, szc, (by omega), (by omega), _, rfl, ite2 (fun cb => ?_) (fun cb => ?_)⟩
          · have es : stopOf Ta e g = e := if_pos cb
            have qS : QAt K H3 p2 (stopOf Ta e g) := by rw [es]; exact q2'.same' s3
            refine ⟨_, rfl, _, rfl, _, rfl, _, rfl, _, rfl, a, aF, aT, p2, as, Ta, g, s, m, stopOf Ta e g, _, rfl, hg3, R3, ap, qS, hT, Ig, hs, hs2, hm, so, Rat.le_of_lt sg, sz, by omega, by omega, by have := Fg.few; omega, fun H4 c4 hg4 => ?_⟩
            refine ⟨_, rfl, _, _, rfl, rfl, ⟨j + 1, stretch Ta s m (stopOf Ta e g) g, _, some (.ref p2), rfl, by omega, cg.trans ((Chg.of s3).trans c4), hg4, nI, nF, gE.finer _, nle, ndr⟩, ?_⟩
            show (400 - ((j : Int) + 1)).toNat < (400 - (j : Int)).toNat
            omega
          · have es : stopOf Ta e g = Mu30.nat (changeAt Ta g) := if_neg cb
            have qS : QAt K H3 p3 (stopOf Ta e g) := by rw [es]; exact q3
            refine ⟨_, rfl, _, rfl, _, rfl, _, rfl, a, aF, aT, p3, as, Ta, g, s, m, stopOf Ta e g, _, rfl, hg3, R3, ap, qS, hT, Ig, hs, hs2, hm, so, Rat.le_of_lt sg, sz, by omega, by omega, by have := Fg.few; omega, fun H4 c4 hg4 => ?_⟩
            refine ⟨_, rfl, _, _, rfl, rfl, ⟨j + 1, stretch Ta s m (stopOf Ta e g) g, _, some (.ref p3), rfl, by omega, cg.trans ((Chg.of s3).trans c4), hg4, nI, nF, gE.finer _, nle, ndr⟩, ?_⟩
            show (400 - ((j : Int) + 1)).toNat < (400 - (j : Int)).toNat
            omega
      · have de : driveM Ta s m e 399 h = some g := by rw [dr]; exact drive_end _ c
        refine kS H' g de ((Chg.of s12).trans cg) hg Ig ⟨L, Fg.more (by omega)⟩
    · rintro σ H' Q1 Q2 hq ⟨v, e1, a1, C1, dx1, f1, v1, e2, e3, e4, e5, e6, v2, e7, a2, b2, x2, y2, k2, e8, e9, e10, e11, e12, e13, e14, b3, e15, q⟩
      exact ⟨v, e1, a1, C1, dx1, f1, v1, e2, e3, e4, e5, e6, v2, e7, a2, b2, x2, y2, k2, e8, e9, e10, e11, e12, e13, e14, b3, e15, hq _ _ q⟩

theorem same_chg {H H1 H2 : Hp} {a aF : Addr} (s : Same H H1) (c : Chg a aF H1 H2) (na : H a = none) (nF : H aF = none) : Same H H2 := fun b o e => c _ _ (s _ _ e) (fun z => by rw [z, na] at e; cases e) (fun z => by rw [z, nF] at e; cases e)
theorem RowsT.there {H : Hp} {aT : Addr} {as : List Addr} {rows : List (List Int)} (R : RowsT H aT as rows) : ∀ b ∈ aT :: as, ∃ o, H b = some o := by
  intro b z
  rcases List.mem_cons.mp z with rfl | z
  · exact ⟨_, R.top⟩
  · obtain ⟨j, ej⟩ := List.getElem?_of_mem z
    obtain ⟨r, er⟩ := some_of (xs := rows) (i := j) (by have := (List.getElem?_eq_some_iff.mp ej).1; have := R.len; omega)
    exact ⟨_, R.row _ _ _ ej er⟩
theorem RowsT.apart {H : Hp} {aT aF : Addr} {as : List Addr} {rows : List (List Int)} (R : RowsT H aT as rows) (nF : H aF = none) : Apart aF aT as := by
  refine ⟨fun z => ?_, fun b hb z => ?_⟩
  · obtain ⟨o, e⟩ := R.there aT (by simp)
    rw [z, nF] at e
    cases e
  · obtain ⟨o, e⟩ := R.there b (by simp [hb])
    rw [z, nF] at e
    cases e
def spTillD (C : Addr) (K : PySem.W.Frag) : Sp := fun vs H Q _ => ∃ (a aF aT : Addr) (as : List Addr) (T : List Tariff) (h : Hire) (cnt s m n : Nat), vs = [.ref a, .int (cnt : Int), .int (s : Int), .int (m : Int)] ∧ HireAt C K H a aF aT h ∧ TarAt H aT as T ∧
  TOk T ∧ HInv h ∧ 1 ≤ s ∧ s ≤ 20000 ∧ m ≤ 100000 ∧ Fit n h ∧ n ≤ 90000 ∧
  (∀ (H' : Hp) (p : Addr) (g : Hire), tillM T s m (h.drops.length + cnt) 399 h = some g → Same H H' → QAt K H' p (g.gone.less h.gone) → Ok (g.gone.less h.gone) → Sz (45 * (n + 400) + 1 + 40) (g.gone.less h.gone) → Q (.ref p) H') ∧
  (tillM T s m (h.drops.length + cnt) 399 h = none → ∀ H' : Hp, Same H H' → Q .non H')
theorem scTillD : FnScope ["hire", "count", "s", "m", "driven", "wanted", "stretches"] ["hire", "count", "s", "m"] (defScope sTillD) := ⟨rfl, rfl, rfl, by decide +kernel, rfl, by decide +kernel, by decide +kernel⟩
theorem ok_tillD {f : Addr} {fd : FuncData} (F : Fun K "seconds_till_drop" "seconds_till_drop" sTillD f fd) (N : Names K mg) (T : HTxt K mg C) (GK : DefAt P w K mg base "copied" 4 ["hire"] (spCopied C K)) (GG : DefAt P w K mg base "go_stretch" 37 ["hire", "s", "m", "stop"] (spGo C K)) (GC : DefAt P w K mg base "next_change" 35 ["hire"] (spChange C K))
    (GM : DefAt P w K mg base "minus" 34 ["x", "y"] (spQ2 K (fun x y => val y ≤ val x) Mu30.Q.less)) :
    FnOk P w K mg base CX0 38 f fd ["hire", "count", "s", "m"] (spTillD C K) := by
  refine F.ok scTillD (fun vs H Q E h => ?_) (fun cdv A outer s H vs Q E hr h => ?_)
  · obtain ⟨a, aF, aT, as, T, h, cnt, s, m, n, rfl, _⟩ := h
    rfl
  · obtain ⟨a, aF, aT, as, Ta, h, cnt, s, m, n, rfl, hh, R, hT, I, hs, hs2, hm, ⟨L0, F0⟩, hn, kS, kN⟩ := h
    obtain ⟨dx, aG, aP, fs, ha, hG, hP, hF, hfl, hfq⟩ := id hh.ex
    obtain ⟨tM, gM⟩ := T.most
    refine ⟨_, pss_cons (ps_set (i := 4) scTillD.nd rfl (.inl rfl) (pe_def GK hr (by decide) rfl (pa_cons (pv 0) (pa_nil)))) (pss_cons (ps_set (i := 5) scTillD.nd rfl (.inl rfl) (pe_op op_add (pe_len N.len rfl (pe_fld (pv 0) rfl)) (pv 1))) (pss_cons (ps_set (i := 6) scTillD.nd rfl (.inl rfl) (pe_int)) (pss_cons (ps_while PassesOwn.never (pt_cmpR op_lt (pe_len N.len rfl (pe_fld (pv 4) rfl)) (pv 5) (nomark _)) (pss_cons (ps_if (pt_cmpR op_eq (pv 6) (pe_gint rfl gM) (nomark _)) (pss_one (ps_ret pe_non)) pss_nil) (pss_cons (ps_expr (pe_def GG hr (by decide) rfl (pa_cons (pv 4) (pa_cons (pv 2) (pa_cons (pv 3) (pa_cons (pe_def GC hr (by decide) rfl (pa_cons (pv 4) (pa_nil))) (pa_nil))))))) (pss_one (ps_aug (i := 6) scTillD.nd rfl (.inl rfl) pe_int ip_add))))) (pss_one (ps_ret (pe_def GM hr (by decide) rfl (pa_cons (pe_fld (pv 4) rfl) (pa_cons (pe_fld (pv 0) rfl) (pa_nil))))))))), ?_⟩
    refine ⟨_, rfl, a, aF, aT, as, Ta, h, rfl, hh, R, hT, fun H1 a' aF' s1 n' nF' hh' => ?_⟩
    have ap := R.apart nF'
    have hlen : ((fs.map V.ref).length : Int) + (cnt : Int) = ((h.drops.length + cnt : Nat) : Int) := by rw [List.length_map, hfl, Int.natCast_add]
    refine ⟨_, rfl, a, C, dx, _, _, rfl, s1 _ _ ha, T.cl, T.n_falls, f7_falls, aF, _, rfl, .inl (SqL.of (s1 _ _ hF)), _, rfl, _, _, rfl, rfl, ?_⟩
    have R1 := R.same s1
    obtain ⟨dx1, aG1, aP1, fs1, ha1, hG1, hP1, hF1, hfl1, hfq1⟩ := id hh'.ex
    refine while_by (fun σ H' => ∃ (j : Nat) (g : Hire) (L : Nat), σ = [some (.ref a), some (.int (cnt : Int)), some (.int (s : Int)), some (.int (m : Int)), some (.ref a'), some (.int (((fs.map V.ref).length : Int) + (cnt : Int))), some (.int (j : Int))] ∧ j ≤ 399 ∧ Chg a' aF' H1 H' ∧ HireAt C K H' a' aF' aT g ∧ HInv g ∧ FitL L (n + j) g ∧
        Grid L (val h.gone) ∧ val h.gone ≤ val g.gone ∧ tillM Ta s m (h.drops.length + cnt) 399 h = tillM Ta s m (h.drops.length + cnt) (399 - j) g)
      (fun (σ : L2.St) (_ : Hp) => match σ[6]? with | some (some (V.int y)) => (400 - y).toNat | _ => 0) ⟨0, h, L0, rfl, by omega, Chg.refl _, hh', I, F0, F0.gone, Rat.le_refl, rfl⟩ ?_ ?_
    · rintro σ H' ⟨j, g, L, rfl, hj, cg, hg, Ig, Fg, gH, gle, dr⟩
      obtain ⟨dx', aG', aP', fs', ha', hG', hP', hF', hfl', hfq'⟩ := id hg.ex
      have R' : TarAt H' aT as Ta := R1.chg ap ha1 cg
      have hnj : n + j ≤ 100000 := by omega
      have hlen' : ((fs'.map V.ref).length : Int) = (g.drops.length : Int) := by rw [List.length_map, hfl']
      refine ⟨_, rfl, a', C, dx', _, _, rfl, ha', T.cl, T.n_falls, f7_falls, aF', _, rfl, .inl (SqL.of hF'), _, rfl, _, _, rfl, rfl, _, rfl, ite_dec (fun c => ?_) (fun c => ?_)⟩
      · have c' : ¬ h.drops.length + cnt ≤ g.drops.length := by omega
        refine ⟨_, rfl, rfl, _, rfl, ite_eq (fun c0 => ?_) (fun c0 => ?_)⟩
        · have j9 : j = 399 := by omega
          subst j9
          have dn : tillM Ta s m (h.drops.length + cnt) 399 h = none := by rw [dr]; exact till_out _ c'
          exact kN dn H' (same_chg s1 cg n' nF')
        · have j9 : j < 399 := by omega
          refine ⟨_, rfl, _, rfl, _, rfl, _, rfl, a', aF', aT, as, Ta, g, rfl, hg, R', hT, Ig, fun H3 p3 s3 e3 => ?_⟩
          have q3 : QAt K H3 p3 (Mu30.nat (changeAt Ta g)) := QAt.of e3
          have sg := lt_change (T := Ta) Ig.gone
          have sn := change_le hT Ig.gone
          have sgr : Grid L (val (Mu30.nat (changeAt Ta g))) := by rw [val_nat]; exact Grid.int _ _
          have sz := fit_sized (m := m) hT Ig hs hs2 hm (nat_ok _) (Rat.le_of_lt sg) sn Fg sgr hnj
          have nF := stretch_fit (m := m) hT Ig hs hs2 hm (nat_ok _) (Rat.le_of_lt sg) sn Fg sgr
          have nI := stretch_inv (m := m) hT Ig hs (nat_ok _) (Rat.le_of_lt sg)
          have ndr : tillM Ta s m (h.drops.length + cnt) 399 h = tillM Ta s m (h.drops.length + cnt) (399 - (j + 1)) (stretch Ta s m (Mu30.nat (changeAt Ta g)) g) := by
            rw [dr, show 399 - j = (399 - (j + 1)) + 1 by omega]
            exact till_go _ _ c'
          have nl : val g.gone ≤ val (stretch Ta s m (Mu30.nat (changeAt Ta g)) g).gone := stretch_ge hT Ig hs (nat_ok _) (Rat.le_of_lt sg)
          refine ⟨a', aF', aT, p3, as, Ta, g, s, m, Mu30.nat (changeAt Ta g), _, rfl, hg.same s3, R'.same s3, ap, q3, hT, Ig, hs, hs2, hm, nat_ok _, Rat.le_of_lt sg, sz, by omega, by omega, by have := Fg.few; omega, fun H4 c4 hg4 => ?_⟩
          refine ⟨_, rfl, _, _, rfl, rfl, ⟨j + 1, _, _, rfl, by omega, cg.trans ((Chg.of s3).trans c4), hg4, nI, nF, gH.finer _, Rat.le_trans gle nl, ndr⟩, ?_⟩
          show (400 - ((j : Int) + 1)).toNat < (400 - (j : Int)).toNat
          omega
      · have de : tillM Ta s m (h.drops.length + cnt) 399 h = some g := by rw [dr]; exact till_end _ _ (by omega)
        have s2 := same_chg s1 cg n' nF'
        have sg := (fit_gone Ig Fg hnj).mono (show 45 * (n + j + 1) + 1 + 40 ≤ 45 * (n + 400) + 1 + 40 by omega)
        have sh := (fit_gone I F0 (by omega)).mono (show 45 * (n + 1) + 1 + 40 ≤ 45 * (n + 400) + 1 + 40 by omega)
        have lo := less_ok Ig.gone I.gone gle
        have lv := val_less Ig.gone I.gone gle
        have lg : Grid L (val (g.gone.less h.gone)) := by rw [lv]; exact Fg.gone.sub gH
        have hn0 := val_nn I.gone
        have lt : val (g.gone.less h.gone) ≤ ((86400 * (n + j) : Nat) : Int) := by
          rw [lv]
          have := Fg.time
          grind
        have sl : Sz (45 * (n + 400) + 1 + 40) (g.gone.less h.gone) :=
          (Sz.grid (b := 40) lo lg Fg.pos (Nat.lt_of_le_of_lt Fg.le (Nat.pow_lt_pow_right (by decide) (by omega : 45 * (n + j) < 45 * (n + j + 1) + 1))) lt (by omega)).mono (by omega)
        refine ⟨_, rfl, a', C, dx', _, _, rfl, ha', T.cl, T.n_gone, f7_gone, _, rfl, a, C, dx, _, _, rfl, s2 _ _ ha, T.cl, T.n_gone, f7_gone, ?_⟩
        refine ⟨aG', aG, g.gone, h.gone, _, rfl, hG', hG.same' s2, Ig.gone, I.gone, sg, sh, by omega, by omega, gle, fun p np => ?_⟩
        exact kS _ p g de (s2.trans (same_up np)) (QAt.of upd_same) lo sl
    · rintro σ H' Q1 Q2 hq ⟨v, e1, a1, C1, dx1, f1, v1, e2, e3, e4, e5, e6, a2, y2, e7, e8, v2, e9, i1, j1, e10, e11, b3, e15, q⟩
      exact ⟨v, e1, a1, C1, dx1, f1, v1, e2, e3, e4, e5, e6, a2, y2, e7, e8, v2, e9, i1, j1, e10, e11, b3, e15, hq _ _ q⟩
end
end TR


set_option Elab.async false
set_option linter.all false
set_option maxRecDepth 100000
set_option maxHeartbeats 2000000
namespace TR
open PySem PySem.Spec PyProof.Rows L2
open PyFlat (putRow putRows)

abbrev sInitC : Stmt := inClass (topS 50) 0
abbrev sReadCs : Stmt := topS 51
abbrev sReadLs : Stmt := topS 52
abbrev sReadL : Stmt := topS 53

theorem sIx_nat {n d i : Nat} (h : i ≤ n) : HT.sIx n d (some (i : Int)) = i := by
  rw [HT.sIx_nat]
  omega
theorem cut_mid {pre x post : List V} : cutV (pre ++ (x ++ post)) (some (pre.length : Int)) (some ((pre.length + x.length : Nat) : Int)) = x := by
  unfold cutV
  rw [sIx_nat (by simp), sIx_nat (by simp)]
  rw [List.drop_left', show pre.length + x.length - pre.length = x.length by omega, List.take_left']
  · rfl
  · rfl

section
variable {P : Program} {w : World} {K : PySem.W.Frag} {mg : Str → Option Value} {base : Heap} {C : Addr}
def spReadL (K : PySem.W.Frag) : Sp := fun vs H Q _ => ∃ (a : Addr) (pre x post : List Int), vs = [.ref a, .int (pre.length : Int)] ∧ SqL K H a ((pre ++ (putRow x ++ post)).map V.int) ∧ ∀ l, H l = none → Q (.ref l) (upd H l (.lst (x.map V.int)))
theorem scReadL : FnScope ["line", "place"] ["line", "place"] (defScope sReadL) := ⟨rfl, rfl, rfl, by decide +kernel, rfl, by decide +kernel, by decide +kernel⟩
theorem ok_readL {f : Addr} {fd : FuncData} (F : Fun K "read_list" "read_list" sReadL f fd) : FnOk P w K mg base CX0 1 f fd ["line", "place"] (spReadL K) := by
  refine F.ok scReadL (fun vs H Q E h => ?_) (fun cdv A outer s H vs Q E hr h => ?_)
  · obtain ⟨a, pre, x, post, rfl, _⟩ := h
    rfl
  · obtain ⟨a, pre, x, post, rfl, hs, k⟩ := h
    refine ⟨_, pss_one (ps_ret (pe_slice sl_list (pv 0) (po_some (pe_op op_add (pv 1) pe_int)) (po_some (pe_op op_add (pe_op op_add (pv 1) pe_int) (pe_ix ix_list (pv 0) (pv 1) (fun _ _ => rfl)))))), ?_⟩
    have e0 : ((pre ++ (putRow x ++ post)).map V.int)[pre.length]? = some (V.int (x.length : Int)) := by
      rw [List.getElem?_map, List.getElem?_append_right (Nat.le_refl _), Nat.sub_self]
      rfl
    refine ⟨_, rfl, _, rfl, _, _, rfl, rfl, _, rfl, _, rfl, _, _, rfl, rfl, _, rfl, _, rfl, a, _, _, _, rfl, rfl, hs, atI_nat e0, _, _, rfl, rfl, _, rfl, a, _, rfl, hs, fun l hl => ?_⟩
    have e1 : cutV ((pre ++ (putRow x ++ post)).map V.int) (some ((pre.length : Int) + 1)) (some ((pre.length : Int) + 1 + (x.length : Int))) = x.map V.int := by
      have z := cut_mid (pre := (pre ++ [(x.length : Int)]).map V.int) (x := x.map V.int) (post := post.map V.int)
      have e2 : (pre ++ [(x.length : Int)]).map V.int ++ (x.map V.int ++ post.map V.int) = (pre ++ (putRow x ++ post)).map V.int := by
        unfold putRow
        simp
      rw [e2] at z
      have e3 : (((pre ++ [(x.length : Int)]).map V.int).length : Int) = (pre.length : Int) + 1 := by simp
      have e4 : ((((pre ++ [(x.length : Int)]).map V.int).length + (x.map V.int).length : Nat) : Int) = (pre.length : Int) + 1 + (x.length : Int) := by
        rw [Int.natCast_add, e3]
        simp
      rw [e3, e4] at z
      exact z
    show Q (.ref l) (upd H l (.lst _))
    rw [e1]
    exact k l hl

/-- new lists -/
def spReadLs (K : PySem.W.Frag) : Sp := fun vs H Q _ => ∃ (a : Addr) (pre : List Int) (xs : List (List Int)) (post : List Int), vs = [.ref a, .int (pre.length : Int)] ∧ SqL K H a ((pre ++ ((xs.length : Int) :: (putRows xs ++ post))).map V.int) ∧ xs.length < 1000000 ∧
  ∀ (H' : Hp) (l : Addr) (as : List Addr), Same H H' → H l = none → (∀ b ∈ as, H b = none) → RowsT H' l as xs → Q (.ref l) H'
theorem scReadLs : FnScope ["line", "place", "lists", "at", "turn", "one"] ["line", "place"] (defScope sReadLs) := ⟨rfl, rfl, rfl, by decide +kernel, rfl, by decide +kernel, by decide +kernel⟩
theorem putRows_app (xs : List (List Int)) (x : List Int) : putRows (xs ++ [x]) = putRows xs ++ putRow x := by
  induction xs with
  | nil =>
    show putRow x ++ [] = putRow x
    rw [List.append_nil]
  | cons y r ih =>
    show putRow y ++ putRows (r ++ [x]) = (putRow y ++ putRows r) ++ putRow x
    rw [ih, List.append_assoc]
theorem putRows_split : ∀ (xs ys : List (List Int)), putRows (xs ++ ys) = putRows xs ++ putRows ys
  | [], ys => rfl
  | x :: xs, ys => by
    show putRow x ++ putRows (xs ++ ys) = (putRow x ++ putRows xs) ++ putRows ys
    rw [putRows_split xs ys, List.append_assoc]
theorem take_one {α : Type} {xs : List α} {i : Nat} {x : α} (h : xs[i]? = some x) : xs = xs.take i ++ (x :: xs.drop (i + 1)) := by
  have hi : i < xs.length := (List.getElem?_eq_some_iff.mp h).1
  have e : xs[i] = x := (List.getElem?_eq_some_iff.mp h).2
  rw [← e, ← List.drop_eq_getElem_cons hi, List.take_append_drop]
theorem take_next {α : Type} {xs : List α} {i : Nat} {x : α} (h : xs[i]? = some x) : xs.take (i + 1) = xs.take i ++ [x] := by
  rw [List.take_add_one, h]
  rfl
theorem ok_readLs {f : Addr} {fd : FuncData} (F : Fun K "read_lists" "read_lists" sReadLs f fd) (N : Names K mg) (G : DefAt P w K mg base "read_list" 1 ["line", "place"] (spReadL K)) : FnOk P w K mg base CX0 2 f fd ["line", "place"] (spReadLs K) := by
  refine F.ok scReadLs (fun vs H Q E h => ?_) (fun cdv A outer s H vs Q E hr h => ?_)
  · obtain ⟨a, pre, x, post, rfl, _⟩ := h
    rfl
  · obtain ⟨a, pre, xs, post, rfl, hs, few, k⟩ := h
    refine ⟨_, pss_cons (ps_set (i := 2) scReadLs.nd rfl (.inl rfl) (pe_lst pa_nil)) (pss_cons (ps_set (i := 3) scReadLs.nd rfl (.inl rfl) (pe_op op_add (pv 1) pe_int))
      (pss_cons (ps_for PassesOwn.never rfl (pi_range1 (by rfl) N.range (pa_cons (pe_ix ix_list (pv 0) (pv 1) (fun _ _ => rfl)) pa_nil)) (pg_name (i := 4) scReadLs.nd rfl (.inl rfl))
        (pss_cons (ps_set (i := 5) scReadLs.nd rfl (.inl rfl) (pe_def G hr (by decide) rfl (pa_cons (pv 0) (pa_cons (pv 3) pa_nil))))
        (pss_cons (ps_expr (pe_bm PySem.F.plainAttrs_list PySem.F.slot_list_append PySem.F.type_list_append mt_append (pv 2) (pa_cons (pv 5) pa_nil)))
        (pss_one (ps_aug (i := 3) scReadLs.nd rfl (.inl rfl) (pe_op op_add pe_int (pe_len N.len rfl (pv 5))) ip_add)))))
      (pss_one (ps_ret (pv 2))))), ?_⟩
    refine ⟨(by show 0 ≤ sizeLine; decide), fun l hl => ?_⟩
    have s1 : Same H (upd H l (.lst [])) := same_up hl
    have e0 : ((pre ++ ((xs.length : Int) :: (putRows xs ++ post))).map V.int)[pre.length]? = some (V.int (xs.length : Int)) := by
      rw [List.getElem?_map, List.getElem?_append_right (Nat.le_refl _), Nat.sub_self]
      rfl
    refine ⟨_, rfl, _, _, rfl, rfl, _, rfl, _, rfl, a, _, _, _, rfl, rfl, s1.seq hs, atI_nat e0, _, rfl, by omega, by omega, ?_⟩
    refine for_range (lo := 0) (fun i σ H' => ∃ (u v : Option V) (as : List Addr), σ = [some (.ref a), some (.int (pre.length : Int)), some (.ref l), some (.int ((pre.length + 1 + (putRows (xs.take i)).length : Nat) : Int)), u, v] ∧ Same H H' ∧ (∀ b ∈ as, H b = none ∧ b ≠ l) ∧ RowsT H' l as (xs.take i))
      ⟨none, none, [], ?_, s1, (fun b hb => nomatch hb), ⟨upd_same, rfl, fun i b r e => by simp at e⟩⟩ ?_ ?_
    · show [some (V.ref a), some (V.int (pre.length : Int)), some (V.ref l), some (V.int ((pre.length : Int) + 1)), none, none] = _
      rfl
    · rintro i σ H' hi ⟨u, v, as, rfl, sm, nw, R⟩
      obtain ⟨x, ex⟩ := some_of (xs := xs) (i := i) (by omega)
      have eN := take_next ex
      have hs' := sm.seq hs
      have esp : pre ++ ((xs.length : Int) :: (putRows xs ++ post)) = (pre ++ ((xs.length : Int) :: putRows (xs.take i))) ++ (putRow x ++ (putRows (xs.drop (i + 1)) ++ post)) := by
        have e1 : putRows xs = putRows (xs.take i) ++ (putRow x ++ putRows (xs.drop (i + 1))) := by
          have e2 := congrArg putRows (take_one ex)
          rw [putRows_split] at e2
          exact e2
        rw [e1]
        simp [List.append_assoc]
      have elen : ((pre ++ ((xs.length : Int) :: putRows (xs.take i))).length : Int) = ((pre.length + 1 + (putRows (xs.take i)).length : Nat) : Int) := by
        rw [List.length_append, List.length_cons]
        omega
      rw [esp] at hs'
      rw [← elen]
      refine ⟨_, rfl, _, rfl, a, _, x, _, rfl, hs', fun p hp => ?_⟩
      have s2 : Same H' (upd H' p (.lst (x.map V.int))) := same_up hp
      generalize hH2 : upd H' p (.lst (x.map V.int)) = H2 at s2
      have hp2 : H2 p = some (.lst (x.map V.int)) := by rw [← hH2]; exact upd_same
      have pl : p ≠ l := fun z => by rw [z, R.top] at hp; cases hp
      have Hp : H p = none := sm.free hp
      refine ⟨_, rfl, .inl ⟨rfl, _, SqL.of (s2 _ _ R.top)⟩, _, rfl, l, _, _, rfl, rfl, s2 _ _ R.top, ?_, ?_⟩
      · rw [List.length_map, R.len, List.length_take]
        have : sizeLine = 16777216 := by decide
        omega
      · have hp3 : (upd H2 l (.lst (as.map V.ref ++ [V.ref p]))) p = some (.lst (x.map V.int)) := by rw [upd_ne pl]; exact hp2
        refine ⟨_, rfl, _, rfl, p, _, rfl, .inl (SqL.of hp3), _, _, rfl, rfl, _, _, rfl, rfl, ?_⟩
        refine ⟨some (.int (0 + (i : Int))), some (.ref p), as ++ [p], ?_, ?_, ?_, ⟨?_, ?_, ?_⟩⟩
        · have e5 : (pre ++ ((xs.length : Int) :: putRows (xs.take i))).length = pre.length + 1 + (putRows (xs.take i)).length := by
            rw [List.length_append, List.length_cons]; omega
          have e6 : (((pre ++ ((xs.length : Int) :: putRows (xs.take i))).length : Nat) : Int) + (1 + (((x.map V.int).length : Nat) : Int)) = ((pre.length + 1 + (putRows (xs.take (i + 1))).length : Nat) : Int) := by
            rw [e5, eN, putRows_app, List.length_append, List.length_map]
            show _ = ((pre.length + 1 + ((putRows (xs.take i)).length + (x.length + 1)) : Nat) : Int)
            omega
          show _ = [some (V.ref a), some (V.int (pre.length : Int)), some (V.ref l), some (V.int ((pre.length + 1 + (putRows (xs.take (i + 1))).length : Nat) : Int)), some (.int (0 + (i : Int))), some (.ref p)]
          rw [← e6]
          rfl
        · intro b o e
          have bl : b ≠ l := fun z => by rw [z, hl] at e; cases e
          rw [upd_ne bl]
          exact s2 _ _ (sm _ _ e)
        · intro b hb
          rcases List.mem_append.mp hb with z | z
          · exact nw b z
          · have : b = p := by simpa using z
            rw [this]
            exact ⟨Hp, pl⟩
        · rw [upd_same, List.map_append]
          rfl
        · rw [eN, List.length_append, List.length_append, R.len]
          rfl
        · intro j b r e1 e2
          rw [eN] at e2
          have hbl : ∀ y, H2 b = some (.lst y) → b ≠ l → (upd H2 l (.lst (as.map V.ref ++ [V.ref p]))) b = some (.lst y) := fun y z n => by rw [upd_ne n]; exact z
          rcases Nat.lt_or_ge j as.length with c | c
          · rw [List.getElem?_append_left c] at e1
            have hl' := R.len
            rw [List.getElem?_append_left (by omega)] at e2
            exact hbl _ (s2 _ _ (R.row j b r e1 e2)) (nw b (List.mem_of_getElem? e1)).2
          · have hl' := R.len
            rw [List.getElem?_append_right c] at e1
            rw [List.getElem?_append_right (by omega)] at e2
            have j0 : j - as.length = 0 := by
              have := (List.getElem?_eq_some_iff.mp e1).1
              simp at this
              omega
            rw [j0] at e1
            rw [← hl', j0] at e2
            cases e1; cases e2
            exact hp3
    · rintro σ H' ⟨u, v, as, rfl, sm, nw, R⟩
      rw [Int.toNat_natCast, List.take_length] at R
      exact ⟨_, rfl, k H' l as sm hl (fun b hb => (nw b hb).1) R⟩
end
def f3 (v0 v1 v2 : V) : List (Str × V) := [("number", v0), ("numbers", v1), ("lists", v2)]
section
variable {v0 v1 v2 y : V}
theorem f3_number : (f3 v0 v1 v2).lookup ("number" : Str) = some v0 := lk_here
theorem f3_numbers : (f3 v0 v1 v2).lookup ("numbers" : Str) = some v1 := (lk_past (by decide +kernel)).trans (lk_here)
theorem f3_lists : (f3 v0 v1 v2).lookup ("lists" : Str) = some v2 := (lk_past (by decide +kernel)).trans ((lk_past (by decide +kernel)).trans (lk_here))
theorem new3_number : putF "number" v0 ([] : List (Str × V)) = ([("number", v0)] : List (Str × V)) := put_new
theorem new3_numbers : putF "numbers" v1 ([("number", v0)] : List (Str × V)) = ([("number", v0), ("numbers", v1)] : List (Str × V)) := (put_past (by decide +kernel)).trans (congrArg _ (put_new))
theorem new3_lists : putF "lists" v2 ([("number", v0), ("numbers", v1)] : List (Str × V)) = f3 v0 v1 v2 := (put_past (by decide +kernel)).trans (congrArg _ ((put_past (by decide +kernel)).trans (congrArg _ (put_new))))
end
/-- what the top has written of the class Call -/
structure CTxt (K : PySem.W.Frag) (mg : Str → Option Value) (CC : Addr) : Prop where
  cl : Cls K CC
  n_number : NoAttr K CC "number"
  n_numbers : NoAttr K CC "numbers"
  n_lists : NoAttr K CC "lists"
  gC : mg "Call" = some (.ref CC)
/-- a call that is read: its objects are new since H0 -/
structure CallNew (CC : Addr) (H0 H : Hp) (a : Addr) (c : List (List Int)) : Prop where
  ex : ∃ (p : Int) (ns : List Int) (xs : List (List Int)) (dx aN aL : Addr) (as : List Addr), c = (p :: ns) :: xs ∧ H a = some (.ins CC dx (f3 (.int p) (.ref aN) (.ref aL))) ∧ H aN = some (.lst (ns.map V.int)) ∧ RowsT H aL as xs ∧
    H0 a = none ∧ H0 aN = none ∧ H0 aL = none ∧ ∀ b ∈ as, H0 b = none
theorem CallNew.same {CC : Addr} {H0 H H' : Hp} {a : Addr} {c : List (List Int)} (h : CallNew CC H0 H a c) (s : ∀ b o, H b = some o → H0 b = none → H' b = some o) : CallNew CC H0 H' a c := by
  obtain ⟨p, ns, xs, dx, aN, aL, as, e, h1, h2, h3, n1, n2, n3, n4⟩ := h.ex
  exact ⟨p, ns, xs, dx, aN, aL, as, e, s _ _ h1 n1, s _ _ h2 n2, ⟨s _ _ h3.top n3, h3.len, fun i b r e1 e2 => s _ _ (h3.row i b r e1 e2) (n4 b (List.mem_of_getElem? e1))⟩, n1, n2, n3, n4⟩
section
variable {P : Program} {w : World} {K : PySem.W.Frag} {mg : Str → Option Value} {base : Heap} {CC : Addr}
def spInitC (CC : Addr) : Sp := fun vs H Q _ => ∃ (p dx : Addr) (v0 v1 v2 : V), vs = [.ref p, v0, v1, v2] ∧ H p = some (.ins CC dx []) ∧ Q .non (upd H p (.ins CC dx (f3 v0 v1 v2)))
theorem scInitC : FnScope ["self", "number", "numbers", "lists"] ["self", "number", "numbers", "lists"] (defScope sInitC) := ⟨rfl, rfl, rfl, by decide +kernel, rfl, by decide +kernel, by decide +kernel⟩
theorem ok_initC {f : Addr} {fd : FuncData} (F : Fun K "__init__" "Call.__init__" sInitC f fd) (T : CTxt K mg CC) : FnOk P w K mg base CX0 1 f fd ["self", "number", "numbers", "lists"] (spInitC CC) := by
  refine F.ok scInitC (fun vs H Q E h => ?_) (fun cdv A outer s H vs Q E hr h => ?_)
  · obtain ⟨p, dx, v0, v1, v2, rfl, _⟩ := h
    rfl
  · obtain ⟨p, dx, v0, v1, v2, rfl, hp, k⟩ := h
    refine ⟨_, pss_cons (ps_fld (pv 0) (pv 1) rfl) (pss_cons (ps_fld (pv 0) (pv 2) rfl) (pss_one (ps_fld (pv 0) (pv 3) rfl))), ?_⟩
    refine ⟨_, rfl, _, rfl, p, CC, dx, _, rfl, hp, T.cl, T.n_number, (by show 0 < 1000; decide), ?_⟩
    rw [new3_number]
    refine ⟨_, rfl, _, rfl, p, CC, dx, _, rfl, upd_same, T.cl, T.n_numbers, (by show 1 < 1000; decide), ?_⟩
    rw [upd_upd, new3_numbers]
    refine ⟨_, rfl, _, rfl, p, CC, dx, _, rfl, upd_same, T.cl, T.n_lists, (by show 2 < 1000; decide), ?_⟩
    rw [upd_upd, new3_lists]
    exact k
def rLenK (K : PySem.W.Frag) : List V → Hp → VK → Prop := fun xs H Q => ∃ p ys, xs = [.ref p] ∧ (SqL K H p ys ∨ SqT K H p ys) ∧ Q (.int ys.length) H
theorem pe_lenK {X : Cx} {K : PySem.W.Frag} {p pos : Pos} {e : Expr} {t : TE} (hK : X.K = K) (hm : X.mg "len" = none) (hg : Gl X "len") (he : PE X e t) (h1 : starEach [e] X.env = (false, eval e X.env) :: starEach [] X.env := by rfl) (h2 : (backTo pos (starEach [] X.env)).any (·.1) = false := by rfl) :
    PE X (.Call (.Name "len" p) [e] [] pos) (tCB (rLenK K) (tCons t tNil)) := by
  subst hK
  exact pe_len hm hg he h1 h2
def spReadCs (CC : Addr) (K : PySem.W.Frag) : Sp := fun vs H Q _ => ∃ (a : Addr) (cs : List (List (List Int))), vs = [.ref a] ∧ SqL K H a ((PyWide.put cs).map V.int) ∧ (∀ c ∈ cs, PyWide.okCall c) ∧ (PyWide.put cs).length ≤ 100000 ∧
  ∀ (H' : Hp) (l : Addr) (bs : List Addr), Same H H' → H l = none → H' l = some (.lst (bs.map V.ref)) → bs.length = cs.length → (∀ (i : Nat) (b : Addr) (c : List (List Int)), bs[i]? = some b → cs[i]? = some c → CallNew CC H H' b c) → Q (.ref l) H'
theorem scReadCs : FnScope ["line", "found", "place", "numbers", "lists_at", "lists", "one"] ["line"] (defScope sReadCs) := ⟨rfl, rfl, rfl, by decide +kernel, rfl, by decide +kernel, by decide +kernel⟩
theorem put_split : ∀ (cs ds : List (List (List Int))), PyWide.put (cs ++ ds) = PyWide.put cs ++ PyWide.put ds
  | [], _ => rfl
  | c :: cs, ds => by
    show PyWide.put1 c ++ PyWide.put (cs ++ ds) = (PyWide.put1 c ++ PyWide.put cs) ++ PyWide.put ds
    rw [put_split cs ds, List.append_assoc]
theorem rows_len : ∀ xs : List (List Int), ((xs.map fun x => 1 + (x.length : Int)).sum) = ((putRows xs).length : Int)
  | [] => rfl
  | x :: xs => by
    rw [List.map_cons, List.sum_cons, rows_len xs]
    show _ = ((putRow x ++ putRows xs).length : Int)
    rw [List.length_append]
    show _ = (((x.length + 1) + (putRows xs).length : Nat) : Int)
    omega
theorem rows_many : ∀ xs : List (List Int), xs.length ≤ (putRows xs).length
  | [] => Nat.le_refl _
  | x :: xs => by
    show xs.length + 1 ≤ (putRow x ++ putRows xs).length
    rw [List.length_append]
    show xs.length + 1 ≤ (x.length + 1) + (putRows xs).length
    have := rows_many xs
    omega
theorem put_many : ∀ cs : List (List (List Int)), (∀ c ∈ cs, PyWide.okCall c) → cs.length ≤ (PyWide.put cs).length
  | [], _ => Nat.le_refl _
  | c :: cs, h => by
    obtain ⟨p, ns, xs, rfl⟩ := h c List.mem_cons_self
    show cs.length + 1 ≤ (PyWide.put1 ((p :: ns) :: xs) ++ PyWide.put cs).length
    rw [PyWide.put1_append, List.length_cons, List.length_append, List.length_cons, List.length_append]
    have := put_many cs fun d hd => h d (List.mem_cons_of_mem _ hd)
    omega
theorem CallNew.weak {CC : Addr} {H0 H1 H : Hp} {a : Addr} {c : List (List Int)} (h : CallNew CC H1 H a c) (s : ∀ b, H1 b = none → H0 b = none) : CallNew CC H0 H a c := by
  obtain ⟨p, ns, xs, dx, aN, aL, as, e, h1, h2, h3, n1, n2, n3, n4⟩ := h.ex
  exact ⟨p, ns, xs, dx, aN, aL, as, e, h1, h2, h3, s _ n1, s _ n2, s _ n3, fun b hb => s _ (n4 b hb)⟩
theorem ok_readCs {f fI : Addr} {fd fdI : FuncData} (F : Fun K "read_calls" "read_calls" sReadCs f fd) (N : Names K mg) (T : CTxt K mg CC) (M : Mk K CC fI) (bI : Binds K fdI ["self", "number", "numbers", "lists"] []) (GI : FnOk P w K mg base CX0 1 fI fdI ["self", "number", "numbers", "lists"] (spInitC CC))
    (G1 : DefAt P w K mg base "read_list" 1 ["line", "place"] (spReadL K)) (G2 : DefAt P w K mg base "read_lists" 2 ["line", "place"] (spReadLs K)) : FnOk P w K mg base CX0 4 f fd ["line"] (spReadCs CC K) := by
  refine F.ok scReadCs (fun vs H Q E h => ?_) (fun cdv A outer s H vs Q E hr h => ?_)
  · obtain ⟨a, cs, rfl, _⟩ := h
    rfl
  · obtain ⟨a, cs, rfl, hs, hok, small, k⟩ := h
    refine ⟨_, pss_cons (ps_set (i := 1) scReadCs.nd rfl (.inl rfl) (pe_lst pa_nil)) (pss_cons (ps_set (i := 2) scReadCs.nd rfl (.inl rfl) (pe_int)) (pss_cons (ps_while PassesOwn.never (pt_cmpR op_lt (pv 2) (pe_len N.len rfl (pv 0)) (nomark _)) (pss_cons (ps_set (i := 3) scReadCs.nd rfl (.inl rfl) (pe_def G1 hr (by decide) rfl (pa_cons (pv 0) (pa_cons (pe_op op_add (pv 2) (pe_int)) (pa_nil))))) (pss_cons (ps_set (i := 4) scReadCs.nd rfl (.inl rfl) (pe_op op_add (pe_op op_add (pv 2) (pe_int)) (pe_len N.len rfl (pv 3)))) (pss_cons (ps_set (i := 5) scReadCs.nd rfl (.inl rfl) (pe_def G2 hr (by decide) rfl (pa_cons (pv 0) (pa_cons (pv 4) (pa_nil))))) (pss_cons (ps_expr (pe_bm PySem.F.plainAttrs_list PySem.F.slot_list_append PySem.F.type_list_append mt_append (pv 1) (pa_cons (pe_make M GI (hr.mono (by decide)) rfl T.gC bI .nil pass0 (pa_cons (pe_ix ix_list (pv 0) (pv 2) (fun _ _ => rfl)) (pa_cons (pv 3) (pa_cons (pv 5) (pa_nil))))) (pa_nil)))) (pss_one (ps_set (i := 2) scReadCs.nd rfl (.inl rfl) (pe_op op_add (pe_op op_add (pv 4) (pe_int)) (pe_callB (cr_sum rfl) (by rfl) N.sum (by decide +kernel) (pa_cons (pe_lc (own := [("one", 6)]) (g := gName 6) (tt := tYes) rfl scReadCs.nd (pi_list (pv 5)) (blkOk_by (own := [("one", 6)]) (N := ["line", "found", "place", "numbers", "lists_at", "lists", "one"]) (sc := defScope sReadCs) (by decide +kernel)) (fun _ _ _ _ _ => pg_name (i := 6) scReadCs.nd rfl (Or.inl rfl)) (fun _ _ _ _ _ => pts_nil) (fun _ _ _ _ _ => pe_op op_add pe_int (pe_lenK (K := K) rfl N.len rfl (pv 6)))) (pa_nil))))))))))) (pss_one (ps_ret (pv 1))))), ?_⟩
    refine ⟨(by show 0 ≤ sizeLine; decide), fun l hl => ?_⟩
    have s1 : Same H (upd H l (.lst [])) := same_up hl
    refine while_by (fun σ H' => ∃ (i : Nat) (u3 u4 u5 u6 : Option V) (bs : List Addr), σ = [some (.ref a), some (.ref l), some (.int ((PyWide.put (cs.take i)).length : Int)), u3, u4, u5, u6] ∧ i ≤ cs.length ∧ Same H H' ∧ H' l = some (.lst (bs.map V.ref)) ∧ bs.length = i ∧
        ∀ (j : Nat) (b : Addr) (c : List (List Int)), bs[j]? = some b → cs[j]? = some c → CallNew CC (upd H l (.lst [])) H' b c)
      (fun (σ : L2.St) (_ : Hp) => match σ[2]? with | some (some (V.int y)) => (((PyWide.put cs).length : Int) - y).toNat | _ => 0) ⟨0, none, none, none, none, [], rfl, Nat.zero_le _, s1, upd_same, rfl, fun j b c e => by simp at e⟩ ?_ ?_
    · rintro σ H' ⟨i, u3, u4, u5, u6, bs, rfl, hi, sm, hl', hbl, hbs⟩
      have hs' := sm.seq hs
      refine ⟨_, rfl, _, rfl, a, _, rfl, .inl hs', _, _, rfl, rfl, _, rfl, ite_dec (fun c => ?_) (fun c => ?_)⟩
      · rw [List.length_map] at c
        have hi2 : i < cs.length := by
          rcases Nat.lt_or_ge i cs.length with z | z
          · exact z
          · rw [List.take_of_length_le z] at c
            omega
        obtain ⟨c1, ec⟩ := some_of (xs := cs) (i := i) hi2
        obtain ⟨p, nx, xs, rfl⟩ := hok c1 (List.mem_of_getElem? ec)
        generalize hR : PyWide.put (cs.drop (i + 1)) = R
        have eN := take_next ec
        have esp : PyWide.put cs = PyWide.put (cs.take i) ++ (p :: (putRow nx ++ ((xs.length : Int) :: (putRows xs ++ R)))) := by
          have e2 := congrArg PyWide.put (take_one ec)
          rw [put_split] at e2
          rw [e2]
          show _ ++ (PyWide.put1 ((p :: nx) :: xs) ++ PyWide.put (cs.drop (i + 1))) = _
          rw [PyWide.put1_append, hR]
        have elen : (PyWide.put (cs.take (i + 1))).length = (PyWide.put (cs.take i)).length + (1 + (nx.length + 1) + 1 + (putRows xs).length) := by
          rw [eN, put_split, List.length_append]
          show _ + (PyWide.put1 ((p :: nx) :: xs) ++ []).length = _
          rw [PyWide.put1_append, List.append_nil, List.length_cons, List.length_append, List.length_cons]
          show _ + ((nx.length + 1) + ((putRows xs).length + 1) + 1) = _
          omega
        generalize hPl : PyWide.put (cs.take i) = Pl at *
        have total : (PyWide.put cs).length = Pl.length + (1 + (nx.length + 1) + 1 + (putRows xs).length + R.length) := by
          rw [esp, List.length_append, List.length_cons, List.length_append, List.length_cons, List.length_append]
          show _ + ((nx.length + 1) + ((putRows xs).length + R.length + 1) + 1) = _
          omega
        -- numbers
        have v1 : PyWide.put cs = (Pl ++ [p]) ++ (putRow nx ++ ((xs.length : Int) :: (putRows xs ++ R))) := by rw [esp]; simp
        have l1 : ((Pl ++ [p]).length : Int) = (Pl.length : Int) + 1 := by simp
        rw [v1] at hs'
        refine ⟨_, rfl, _, rfl, _, _, rfl, rfl, a, Pl ++ [p], nx, _, by rw [l1]; rfl, hs', fun aN nN => ?_⟩
        have s2 : Same H' (upd H' aN (.lst (nx.map V.int))) := same_up nN
        generalize hH2 : upd H' aN (.lst (nx.map V.int)) = H2 at s2
        have hN2 : H2 aN = some (.lst (nx.map V.int)) := by rw [← hH2]; exact upd_same
        refine ⟨_, rfl, _, _, rfl, rfl, _, rfl, aN, _, rfl, .inl (SqL.of hN2), _, _, rfl, rfl, ?_⟩
        -- lists
        have hs2 := s2.seq hs'
        have v2 : (Pl ++ [p]) ++ (putRow nx ++ ((xs.length : Int) :: (putRows xs ++ R))) = (Pl ++ (p :: putRow nx)) ++ ((xs.length : Int) :: (putRows xs ++ R)) := by simp
        have l2 : ((Pl ++ (p :: putRow nx)).length : Int) = (Pl.length : Int) + 2 + ((nx.map V.int).length : Int) := by
          rw [List.length_append, List.length_cons, List.length_map]
          show ((Pl.length + ((nx.length + 1) + 1) : Nat) : Int) = _
          omega
        rw [v2] at hs2
        have few := rows_many xs
        refine ⟨_, rfl, _, rfl, a, Pl ++ (p :: putRow nx), xs, R, by rw [l2]; rfl, hs2, by omega, fun H3 aL as s3 nL nas R3 => ?_⟩
        -- found.append(Call(..))
        have s23 := s2.trans s3
        have hs3 := s3.seq hs2
        have hl3 := s23 _ _ hl'
        have e0 : (((Pl ++ (p :: putRow nx)) ++ ((xs.length : Int) :: (putRows xs ++ R))).map V.int)[Pl.length]? = some (V.int p) := by
          rw [List.append_assoc, List.getElem?_map, List.getElem?_append_right (Nat.le_refl _), Nat.sub_self]
          rfl
        refine ⟨_, rfl, .inl ⟨rfl, _, SqL.of hl3⟩, _, rfl, _, rfl, a, _, _, _, rfl, rfl, hs3, atI_nat e0, _, rfl, _, rfl, ?_⟩
        intro x dx nx' nd ne
        refine ⟨x, dx, _, _, _, rfl, upd_same, rfl, ?_⟩
        rw [upd_upd]
        generalize hH4 : upd (upd H3 dx (.own x)) x (.ins CC dx (f3 (.int p) (.ref aN) (.ref aL))) = H4
        have s4 : Same H3 H4 := fun b o e => by
          rw [← hH4, upd_ne (ne_of_none e nx'), upd_ne (ne_of_none e nd)]
          exact e
        have hx4 : H4 x = some (.ins CC dx (f3 (.int p) (.ref aN) (.ref aL))) := by rw [← hH4]; exact upd_same
        have hl4 := s4 _ _ hl3
        have many := put_many cs hok
        refine ⟨l, _, _, rfl, rfl, hl4, ?_, ?_⟩
        · rw [List.length_map, hbl]
          have : sizeLine = 16777216 := by decide
          omega
        · generalize hH5 : upd H4 l (.lst (bs.map V.ref ++ [V.ref x])) = H5
          have s24 := s23.trans s4
          have keep5 : ∀ b o, H4 b = some o → b ≠ l → H5 b = some o := fun b o e n => by rw [← hH5, upd_ne n]; exact e
          have neL : ∀ b, H' b = none → b ≠ l := fun b e z => by rw [z, hl'] at e; cases e
          have new1 : ∀ b, H' b = none → (upd H l (.lst [])) b = none := fun b e => by rw [upd_ne (neL b e)]; exact sm.free e
          have aLn : H' aL = none := s2.free nL
          have asn : ∀ b ∈ as, H' b = none := fun b hb => s2.free (nas b hb)
          have xn : H' x = none := s23.free nx'
          have R5 : RowsT H5 aL as xs := ⟨keep5 _ _ (s4 _ _ R3.top) (neL _ aLn), R3.len, fun i b r e1 e2 => keep5 _ _ (s4 _ _ (R3.row i b r e1 e2)) (neL _ (asn b (List.mem_of_getElem? e1)))⟩
          refine ⟨_, rfl, _, _, rfl, rfl, _, rfl, aL, rfl, ⟨_, SqL.of R5.top⟩, fun D hD => ?_⟩
          refine lc_list (K := K) (a := aL) (xs := as.map V.ref) (fun i H' => H' D = some (.lst (((xs.take i).map fun x => 1 + (x.length : Int)).map V.int)) ∧ Same H5 H') ⟨upd_same, same_up hD⟩ (fun i H' _ p => SqL.of (p.2 _ _ R5.top)) ?_ ?_
          · rintro n y H6 hy ⟨hd, sm6⟩
            rw [List.getElem?_map] at hy
            cases eb : as[n]? with
            | none => rw [eb] at hy; cases hy
            | some b =>
              rw [eb] at hy
              cases hy
              have hli : n < as.length := (List.getElem?_eq_some_iff.mp eb).1
              obtain ⟨r, er⟩ := some_of (xs := xs) (i := n) (by have := R5.len; omega)
              have hb6 := sm6 _ _ (R5.row _ _ _ eb er)
              refine ⟨rfl, yes_ite ?_⟩
              refine ⟨_, rfl, b, _, rfl, .inl (SqL.of hb6), _, _, rfl, rfl, _, hd, ?_, ?_, ?_⟩
              · rw [List.length_map, List.length_map, List.length_take]
                have : sizeLine = 16777216 := by decide
                omega
              · rw [upd_same, take_next er, List.map_append, List.map_append, List.length_map]
                rfl
              · intro c o e
                rw [upd_ne (fun z => by rw [z, hD] at e; cases e)]
                exact sm6 c o e
          · rintro H6 ⟨hd, sm6⟩
            have et : xs.take (as.map V.ref).length = xs := by rw [List.length_map, R5.len, List.take_length]
            rw [et] at hd
            refine ⟨D, xs.map fun x => 1 + (x.length : Int), rfl, SqL.of hd, _, _, rfl, rfl, ?_⟩
            rw [rows_len]
            have place : (Pl.length : Int) + 2 + ((nx.map V.int).length : Int) + 1 + ((putRows xs).length : Int) = ((PyWide.put (cs.take (i + 1))).length : Int) := by
              rw [elen, List.length_map]
              omega
            have up6 : ∀ b o, H' b = some o → b ≠ l → H6 b = some o := fun b o e n => sm6 _ _ (keep5 _ _ (s24 _ _ e) n)
            refine ⟨⟨i + 1, some (.ref aN), some (.int ((Pl.length : Int) + 2 + ((nx.map V.int).length : Int))), some (.ref aL), u6, bs ++ [x], ?_, hi2, ?_, ?_, ?_, ?_⟩, ?_⟩
            · rw [← place]
              rfl
            · intro b o e
              exact up6 b o (sm _ _ e) fun z => by rw [z, hl] at e; cases e
            · have h5 : H5 l = some (.lst (bs.map V.ref ++ [V.ref x])) := by rw [← hH5]; exact upd_same
              have h6 := sm6 _ _ h5
              rw [List.map_append]
              exact h6
            · rw [List.length_append, hbl]
              rfl
            · intro j b c e1 e2
              rcases Nat.lt_or_ge j bs.length with z | z
              · rw [List.getElem?_append_left z] at e1
                refine (hbs j b c e1 e2).same fun b o e n => up6 b o e fun z => ?_
                rw [z, upd_same] at n
                cases n
              · rw [List.getElem?_append_right z] at e1
                have j0 : j - bs.length = 0 := by
                  have := (List.getElem?_eq_some_iff.mp e1).1
                  simp at this
                  omega
                have ji : j = i := by omega
                subst ji
                rw [j0] at e1
                cases e1
                rw [ec] at e2
                cases e2
                have toH6 : ∀ b o, H4 b = some o → b ≠ l → H6 b = some o := fun b o e n => sm6 _ _ (keep5 _ _ e n)
                exact ⟨p, nx, xs, dx, aN, aL, as, rfl, toH6 _ _ hx4 (neL _ xn), toH6 _ _ (s4 _ _ (s3 _ _ hN2)) (neL _ nN), R5.same sm6, new1 _ xn, new1 _ nN, new1 _ aLn, fun b hb => new1 _ (asn b hb)⟩
            · show (((PyWide.put cs).length : Int) - ((Pl.length : Int) + 2 + ((nx.map V.int).length : Int) + 1 + ((putRows xs).length : Int))).toNat < (((PyWide.put cs).length : Int) - (Pl.length : Int)).toNat
              rw [place, elen]
              omega
      · rw [List.length_map] at c
        have hi2 : i = cs.length := by
          rcases Nat.lt_or_ge i cs.length with z | z
          · exfalso
            apply c
            obtain ⟨c1, ec⟩ := some_of (xs := cs) (i := i) z
            have e2 := congrArg List.length (congrArg PyWide.put (take_one ec))
            obtain ⟨p, nx, xs, rfl⟩ := hok c1 (List.mem_of_getElem? ec)
            rw [put_split, List.length_append] at e2
            have e3 : 0 < (PyWide.put (((p :: nx) :: xs) :: cs.drop (i + 1))).length := by
              show 0 < (PyWide.put1 ((p :: nx) :: xs) ++ _).length
              rw [PyWide.put1_append, List.length_cons]
              omega
            omega
          · omega
        refine ⟨_, rfl, k H' l bs sm hl hl' (by omega) fun j b c e1 e2 => (hbs j b c e1 e2).weak fun b n => ?_⟩
        exact s1.free n
    · rintro σ H' Q1 Q2 hq ⟨v, e1, v1, e2, a2, y2, e7, e8, i1, j1, e9, e10, b3, e15, q⟩
      exact ⟨v, e1, v1, e2, a2, y2, e7, e8, i1, j1, e9, e10, b3, e15, hq _ _ q⟩
end
end TR


set_option Elab.async false
set_option linter.all false
set_option maxRecDepth 100000
set_option maxHeartbeats 2000000
namespace TR
open PySem PySem.Spec PyProof.Rows L2

/-- a def stands in the written part -/
def FnFact (K : PySem.W.Frag) (x : Str) (st : Stmt) : Prop := ∃ (f : Addr) (oc : Value) (od : Option Addr) (kV dc pm : Value) (an : Option Addr) (cd ct : Value) (sl : Array (Option Value)),
  PySem.W.nsIn K mainGlobals x = some (some (.ref f)) ∧ K.lookup f = some ⟨oc, od, .func (PySem.W.fnOf x x (defArgs st) (defBody st) (defScope st) .none kV dc pm an cd ct), sl⟩ ∧ PySem.W.codeIn K cd x = true ∧ PySem.W.keepIn K (.ref f) = true
/-- a class of the program's own, with its __init__ -/
def ClFact (K : PySem.W.Frag) (x qual : Str) (st : Stmt) (C : Addr) : Prop := ∃ (f : Addr) (oc : Value) (od : Option Addr) (kV dc pm : Value) (an : Option Addr) (cd ct : Value) (sl : Array (Option Value)),
  PySem.W.nsIn K mainGlobals x = some (some (.ref C)) ∧ PySem.W.findIn K (.ref C) "__init__" = some (some (.ref f)) ∧ PySem.W.isFn K (.ref f) = true ∧ K.lookup f = some ⟨oc, od, .func (PySem.W.fnOf "__init__" qual (defArgs st) (defBody st) (defScope st) .none kV dc pm an cd ct), sl⟩ ∧
  PySem.W.codeIn K cd qual = true ∧ PySem.W.keepIn K (.ref f) = true ∧ PySem.W.plainGet K C Str.empty = true ∧ PySem.W.hasDictIn K C = true ∧ PySem.W.plainOver K C = true ∧ PySem.W.findIn K (.ref C) "__setattr__" = some (some (.builtin "object.__setattr__")) ∧
  PySem.W.makesIn K C = true ∧ PySem.W.keepIn K (.ref C) = true
structure InitAt (K : PySem.W.Frag) (qual : Str) (st : Stmt) (C f : Addr) (fd : FuncData) (ps : List Str) : Prop where
  mkk : Mk K C f
  fn : Fun K "__init__" qual st f fd
  bi : Binds K fd ps []
/-- a tuple of whole numbers among the program's constants -/
def TupFact (K : PySem.W.Frag) (x : Str) (ns : List Int) : Prop := ∃ (a : Addr) (od : Option Addr) (its : Array Value) (n : Nat) (sl : Array (Option Value)),
  PySem.W.nsIn K mainGlobals x = some (some (.ref a)) ∧ K.lookup a = some ⟨.type "tuple", od, .seq its n, sl⟩ ∧ its.toList.map absV = ns.map fun i => some (V.int i)
def IntFact (K : PySem.W.Frag) (x : Str) (i : Int) : Prop := ∃ t, PySem.W.nsIn K mainGlobals x = some (some (.int i t))

section
variable {K : PySem.W.Frag} {x qual : Str} {st : Stmt} {C f a : Addr} {oc : Value} {od : Option Addr} {kV dc pm : Value} {an : Option Addr} {cd ct : Value} {sl : Array (Option Value)} {its : Array Value} {n : Nat} {ns : List Int} {i : Int} {t : Tok}
theorem fn_fact (h1 : PySem.W.nsIn K mainGlobals x = some (some (.ref f))) (h2 : K.lookup f = some ⟨oc, od, .func (PySem.W.fnOf x x (defArgs st) (defBody st) (defScope st) .none kV dc pm an cd ct), sl⟩) (h3 : PySem.W.codeIn K cd x = true) (h4 : PySem.W.keepIn K (.ref f) = true) : FnFact K x st :=
  ⟨f, oc, od, kV, dc, pm, an, cd, ct, sl, h1, h2, h3, h4⟩
theorem cl_fact (h1 : PySem.W.nsIn K mainGlobals x = some (some (.ref C))) (h2 : PySem.W.findIn K (.ref C) "__init__" = some (some (.ref f))) (h3 : PySem.W.isFn K (.ref f) = true) (h4 : K.lookup f = some ⟨oc, od, .func (PySem.W.fnOf "__init__" qual (defArgs st) (defBody st) (defScope st) .none kV dc pm an cd ct), sl⟩)
    (h5 : PySem.W.codeIn K cd qual = true) (h6 : PySem.W.keepIn K (.ref f) = true) (h7 : PySem.W.plainGet K C Str.empty = true) (h8 : PySem.W.hasDictIn K C = true) (h9 : PySem.W.plainOver K C = true) (h10 : PySem.W.findIn K (.ref C) "__setattr__" = some (some (.builtin "object.__setattr__")))
    (h11 : PySem.W.makesIn K C = true) (h12 : PySem.W.keepIn K (.ref C) = true) : ClFact K x qual st C := ⟨f, oc, od, kV, dc, pm, an, cd, ct, sl, h1, h2, h3, h4, h5, h6, h7, h8, h9, h10, h11, h12⟩
theorem tup_fact (h1 : PySem.W.nsIn K mainGlobals x = some (some (.ref a))) (h2 : K.lookup a = some ⟨.type "tuple", od, .seq its n, sl⟩) (h3 : its.toList.map absV = ns.map fun i => some (V.int i)) : TupFact K x ns := ⟨a, od, its, n, sl, h1, h2, h3⟩
theorem int_fact (h1 : PySem.W.nsIn K mainGlobals x = some (some (.int i t))) : IntFact K x i := ⟨t, h1⟩
end
section
variable {P : Program} {w : World} {K : PySem.W.Frag} {mg : Str → Option Value} {base h : Heap}
theorem FnFact.at_ {x : Str} {st : Stmt} {k : Nat} {ps : List Str} {sp : Sp} (F : FnFact K x st) (X : K.In h) (G : h.Ns mainGlobals mg)
    (hb : ∀ (kV doc pm : Value) (an : Option Addr) (cdv ct : Value) (us : List Value), us.length = ps.length → bindArgs (PySem.W.fnOf x x (defArgs st) (defBody st) (defScope st) .none kV doc pm an cdv ct) ⟨us, []⟩ = pure (ps.zip us))
    (ok : ∀ (f : Addr) (fd : FuncData), Fun K x x st f fd → FnOk P w K mg base CX0 k f fd ps sp) : DefAt P w K mg base x k ps sp := by
  obtain ⟨f, oc, od, kV, dc, pm, an, cd, ct, sl, h1, h2, h3, h4⟩ := F
  have F1 := fun_mk (st := st) h2 h3 h4
  exact ⟨f, _, PySem.W.mg_of X G h1, h4, F1.binds hb, ok f _ F1⟩
theorem ClFact.init {x qual : Str} {st : Stmt} {C : Addr} {ps : List Str} (F : ClFact K x qual st C)
    (hb : ∀ (kV doc pm : Value) (an : Option Addr) (cdv ct : Value) (us : List Value), us.length = ps.length → bindArgs (PySem.W.fnOf "__init__" qual (defArgs st) (defBody st) (defScope st) .none kV doc pm an cdv ct) ⟨us, []⟩ = pure (ps.zip us)) : ∃ f fd, InitAt K qual st C f fd ps := by
  obtain ⟨f, oc, od, kV, dc, pm, an, cd, ct, sl, h1, h2, h3, h4, h5, h6, h7, h8, h9, h10, h11, h12⟩ := F
  have F1 := fun_mk (st := st) h4 h5 h6
  exact ⟨f, _, ⟨h11, h2, h3, h12⟩, F1, F1.binds hb⟩
theorem ClFact.cls {x qual : Str} {st : Stmt} {C : Addr} (F : ClFact K x qual st C) : Cls K C := by
  obtain ⟨f, oc, od, kV, dc, pm, an, cd, ct, sl, h1, h2, h3, h4, h5, h6, h7, h8, h9, h10, h11, h12⟩ := F
  exact ⟨h7, h8, h9, h10⟩
theorem ClFact.name {x qual : Str} {st : Stmt} {C : Addr} (F : ClFact K x qual st C) (X : K.In h) (G : h.Ns mainGlobals mg) : mg x = some (.ref C) := by
  obtain ⟨f, oc, od, kV, dc, pm, an, cd, ct, sl, h1, _⟩ := F
  exact PySem.W.mg_of X G h1
theorem vals_of : ∀ (us : List Value) (ns : List Int), us.map absV = ns.map (fun i => some (V.int i)) → Vals (ns.map V.int) us
  | [], [], _ => .nil
  | [], _ :: _, e => by cases e
  | _ :: _, [], e => by cases e
  | u :: us, n :: ns, e => by
    rw [List.map_cons, List.map_cons, List.cons.injEq] at e
    refine .cons ?_ (vals_of us ns e.2)
    have e1 := e.1
    cases u <;> simp [absV] at e1
    subst e1
    exact ⟨_, rfl⟩
theorem TupFact.at_ {x : Str} {ns : List Int} (F : TupFact K x ns) (X : K.In h) (G : h.Ns mainGlobals mg) (hl : ns.length ≤ 100) : ∃ a, mg x = some (.ref a) ∧ ∀ H, SqT K H a (ns.map V.int) := by
  obtain ⟨a, od, its, n, sl, h1, h2, h3⟩ := F
  have v := vals_of _ _ h3
  refine ⟨a, PySem.W.mg_of X G h1, fun H => .inr ⟨_, its, n, h2, rfl, rfl, ?_, v⟩⟩
  have e1 := v.length
  rw [List.length_map] at e1
  have e2 : its.toList.length = its.size := Array.length_toList
  have e : sizeLine = 16777216 := by decide
  show its.size ≤ sizeLine
  omega
theorem IntFact.at_ {x : Str} {i : Int} (F : IntFact K x i) (X : K.In h) (G : h.Ns mainGlobals mg) : ∃ t, mg x = some (.int i t) := by
  obtain ⟨t, e⟩ := F
  exact ⟨t, PySem.W.mg_of X G e⟩
end
/-- what k_is finds of the lower part -/
structure LowFacts (K : PySem.W.Frag) (C CC : Addr) : Prop where
  f_common_divisor : FnFact K "common_divisor" sGcd
  f_lowest : FnFact K "lowest" sLow
  f_plus : FnFact K "plus" sPlus
  f_minus : FnFact K "minus" sMinus
  f_times : FnFact K "times" sTimes
  f_divided : FnFact K "divided" sDiv
  f_is_below : FnFact K "is_below" sBelow
  f_rounded_down : FnFact K "rounded_down" sFloor
  f_is_tariff : FnFact K "is_tariff" sIsT
  f_are_tariffs : FnFact K "are_tariffs" sAreT
  f_which_holds : FnFact K "which_holds" sHolds
  f_seconds_till_change : FnFact K "seconds_till_change" sTill
  f_copied : FnFact K "copied" sCopied
  f_fare_with_extras : FnFact K "fare_with_extras" sFareX
  f_second_of_day : FnFact K "second_of_day" sSecond
  f_tariff_place : FnFact K "tariff_place" sPlace
  f_part_in_a_second : FnFact K "part_in_a_second" sPace
  f_next_change : FnFact K "next_change" sChange
  f_let_drop_fall : FnFact K "let_drop_fall" sFall
  f_go_stretch : FnFact K "go_stretch" sGo
  f_drive_way : FnFact K "drive_way" sWay
  f_seconds_till_drop : FnFact K "seconds_till_drop" sTillD
  f_read_list : FnFact K "read_list" sReadL
  f_read_lists : FnFact K "read_lists" sReadLs
  f_read_calls : FnFact K "read_calls" sReadCs
  i_DAY : IntFact K "DAY" 86400
  i_MOST_TARIFFS : IntFact K "MOST_TARIFFS" 4
  i_HOLDS_FROM : IntFact K "HOLDS_FROM" 0
  i_HIRING_PRICE : IntFact K "HIRING_PRICE" 1
  i_HIRING_METRES : IntFact K "HIRING_METRES" 2
  i_HIRING_SECONDS : IntFact K "HIRING_SECONDS" 3
  i_DROP_PRICE : IntFact K "DROP_PRICE" 4
  i_DROP_METRES : IntFact K "DROP_METRES" 5
  i_DROP_SECONDS : IntFact K "DROP_SECONDS" 6
  i_MOST_STRETCHES : IntFact K "MOST_STRETCHES" 399
  t_LEAST : TupFact K "LEAST" leastL
  t_MOST : TupFact K "MOST" mostL
  t_ZERO : TupFact K "ZERO" [0, 1]
  t_ONE : TupFact K "ONE" [1, 1]
  b_len : PySem.W.nsIn K mainGlobals "len" = some none
  b_range : PySem.W.nsIn K mainGlobals "range" = some none
  b_min : PySem.W.nsIn K mainGlobals "min" = some none
  b_sum : PySem.W.nsIn K mainGlobals "sum" = some none
  b_list : PySem.W.nsIn K mainGlobals "list" = some none
  cH : ClFact K "Hire" "Hire.__init__" sInitH C
  cC : ClFact K "Call" "Call.__init__" sInitC CC
  h_tariffs : PySem.W.findIn K (.ref C) "tariffs" = some none
  h_second : PySem.W.findIn K (.ref C) "second" = some none
  h_fare : PySem.W.findIn K (.ref C) "fare" = some none
  h_extras : PySem.W.findIn K (.ref C) "extras" = some none
  h_gone : PySem.W.findIn K (.ref C) "gone" = some none
  h_part : PySem.W.findIn K (.ref C) "part" = some none
  h_falls : PySem.W.findIn K (.ref C) "falls" = some none
  c_number : PySem.W.findIn K (.ref CC) "number" = some none
  c_numbers : PySem.W.findIn K (.ref CC) "numbers" = some none
  c_lists : PySem.W.findIn K (.ref CC) "lists" = some none
/-- what the upper part knows of the lower -/
structure Low (P : Program) (w : World) (K : PySem.W.Frag) (mg : Str → Option Value) (base : Heap) (C CC : Addr) : Prop where
  names : Names K mg
  hire : HTxt K mg C
  call : CTxt K mg CC
  init : ∃ f fd, Mk K C f ∧ Binds K fd ["self", "tariffs", "second"] [] ∧ FnOk P w K mg base CX0 2 f fd ["self", "tariffs", "second"] (spInitH C K)
  d_common_divisor : DefAt P w K mg base "common_divisor" 1 ["first", "second"] spGcd
  d_lowest : DefAt P w K mg base "lowest" 33 ["above", "below"] spLow
  d_plus : DefAt P w K mg base "plus" 34 ["x", "y"] (spQ2 K (fun _ _ => True) Mu30.Q.plus)
  d_minus : DefAt P w K mg base "minus" 34 ["x", "y"] (spQ2 K (fun x y => val y ≤ val x) Mu30.Q.less)
  d_times : DefAt P w K mg base "times" 34 ["x", "y"] (spQ2 K (fun _ _ => True) Mu30.Q.times)
  d_divided : DefAt P w K mg base "divided" 34 ["x", "y"] (spQ2 K (fun _ y => 0 < val y) Mu30.Q.over)
  d_is_below : DefAt P w K mg base "is_below" 1 ["x", "y"] (spBelow K)
  d_rounded_down : DefAt P w K mg base "rounded_down" 33 ["x"] (spFloor K)
  d_is_tariff : DefAt P w K mg base "is_tariff" 1 ["numbers"] (spIsT K)
  d_are_tariffs : DefAt P w K mg base "are_tariffs" 2 ["lists"] (spAreT K)
  d_which_holds : DefAt P w K mg base "which_holds" 1 ["tariffs", "second"] (spHolds K)
  d_seconds_till_change : DefAt P w K mg base "seconds_till_change" 1 ["tariffs", "second"] (spTill K)
  d_copied : DefAt P w K mg base "copied" 4 ["hire"] (spCopied C K)
  d_fare_with_extras : DefAt P w K mg base "fare_with_extras" 1 ["hire"] (spFareX C K)
  d_second_of_day : DefAt P w K mg base "second_of_day" 34 ["hire"] (spSecond C K)
  d_tariff_place : DefAt P w K mg base "tariff_place" 35 ["hire"] (spPlace C K)
  d_part_in_a_second : DefAt P w K mg base "part_in_a_second" 36 ["hire", "s", "m"] (spPace C K)
  d_next_change : DefAt P w K mg base "next_change" 35 ["hire"] (spChange C K)
  d_let_drop_fall : DefAt P w K mg base "let_drop_fall" 36 ["hire"] (spFall C K)
  d_go_stretch : DefAt P w K mg base "go_stretch" 37 ["hire", "s", "m", "stop"] (spGo C K)
  d_drive_way : DefAt P w K mg base "drive_way" 38 ["hire", "s", "m"] (spWay C K)
  d_seconds_till_drop : DefAt P w K mg base "seconds_till_drop" 38 ["hire", "count", "s", "m"] (spTillD C K)
  d_read_list : DefAt P w K mg base "read_list" 1 ["line", "place"] (spReadL K)
  d_read_lists : DefAt P w K mg base "read_lists" 2 ["line", "place"] (spReadLs K)
  d_read_calls : DefAt P w K mg base "read_calls" 4 ["line"] (spReadCs CC K)
theorem low_mk {P : Program} {w : World} {K : PySem.W.Frag} {mg : Str → Option Value} {base h : Heap} {C CC : Addr} (X : K.In h) (G : h.Ns mainGlobals mg) (hN : base.NoSeer) (ht : P.given.tree = none) (L : LowFacts K C CC) : Low P w K mg base C CC := by
  have N : Names K mg := ⟨PySem.W.mg_none_of X G L.b_len, PySem.W.mg_none_of X G L.b_range, PySem.W.mg_none_of X G L.b_min, PySem.W.mg_none_of X G L.b_sum, PySem.W.mg_none_of X G L.b_list, L.i_DAY.at_ X G, L.i_MOST_TARIFFS.at_ X G, L.i_HOLDS_FROM.at_ X G, L.i_HIRING_PRICE.at_ X G, L.i_HIRING_METRES.at_ X G, L.i_HIRING_SECONDS.at_ X G, L.i_DROP_PRICE.at_ X G, L.i_DROP_METRES.at_ X G, L.i_DROP_SECONDS.at_ X G, L.t_LEAST.at_ X G (by decide), L.t_MOST.at_ X G (by decide)⟩
  have T : HTxt K mg C := ⟨L.cH.cls, L.h_tariffs, L.h_second, L.h_fare, L.h_extras, L.h_gone, L.h_part, L.h_falls, L.cH.name X G, L.t_ZERO.at_ X G (by decide), L.t_ONE.at_ X G (by decide), L.i_MOST_STRETCHES.at_ X G⟩
  have U : CTxt K mg CC := ⟨L.cC.cls, L.c_number, L.c_numbers, L.c_lists, L.cC.name X G⟩
  obtain ⟨fH, fdH, iH⟩ := L.cH.init (ps := ["self", "tariffs", "second"]) fun _ _ _ _ _ _ us hl => match us, hl with | [_, _, _], _ => rfl
  obtain ⟨fC, fdC, iC⟩ := L.cC.init (ps := ["self", "number", "numbers", "lists"]) fun _ _ _ _ _ _ us hl => match us, hl with | [_, _, _, _], _ => rfl
  have d_common_divisor : DefAt P w K mg base "common_divisor" 1 ["first", "second"] spGcd := L.f_common_divisor.at_ X G (fun _ _ _ _ _ _ us hl => match us, hl with | [_, _], _ => rfl) fun f fd F => ok_gcd F
  have d_lowest : DefAt P w K mg base "lowest" 33 ["above", "below"] spLow := L.f_lowest.at_ X G (fun _ _ _ _ _ _ us hl => match us, hl with | [_, _], _ => rfl) fun f fd F => ok_low F hN ht d_common_divisor
  have d_plus : DefAt P w K mg base "plus" 34 ["x", "y"] (spQ2 K (fun _ _ => True) Mu30.Q.plus) := L.f_plus.at_ X G (fun _ _ _ _ _ _ us hl => match us, hl with | [_, _], _ => rfl) fun f fd F => ok_plus F d_lowest
  have d_minus : DefAt P w K mg base "minus" 34 ["x", "y"] (spQ2 K (fun x y => val y ≤ val x) Mu30.Q.less) := L.f_minus.at_ X G (fun _ _ _ _ _ _ us hl => match us, hl with | [_, _], _ => rfl) fun f fd F => ok_minus F d_lowest
  have d_times : DefAt P w K mg base "times" 34 ["x", "y"] (spQ2 K (fun _ _ => True) Mu30.Q.times) := L.f_times.at_ X G (fun _ _ _ _ _ _ us hl => match us, hl with | [_, _], _ => rfl) fun f fd F => ok_times F d_lowest
  have d_divided : DefAt P w K mg base "divided" 34 ["x", "y"] (spQ2 K (fun _ y => 0 < val y) Mu30.Q.over) := L.f_divided.at_ X G (fun _ _ _ _ _ _ us hl => match us, hl with | [_, _], _ => rfl) fun f fd F => ok_div F d_lowest
  have d_is_below : DefAt P w K mg base "is_below" 1 ["x", "y"] (spBelow K) := L.f_is_below.at_ X G (fun _ _ _ _ _ _ us hl => match us, hl with | [_, _], _ => rfl) fun f fd F => ok_below F
  have d_rounded_down : DefAt P w K mg base "rounded_down" 33 ["x"] (spFloor K) := L.f_rounded_down.at_ X G (fun _ _ _ _ _ _ us hl => match us, hl with | [_], _ => rfl) fun f fd F => ok_floor F hN ht
  have d_is_tariff : DefAt P w K mg base "is_tariff" 1 ["numbers"] (spIsT K) := L.f_is_tariff.at_ X G (fun _ _ _ _ _ _ us hl => match us, hl with | [_], _ => rfl) fun f fd F => ok_isT F N
  have d_are_tariffs : DefAt P w K mg base "are_tariffs" 2 ["lists"] (spAreT K) := L.f_are_tariffs.at_ X G (fun _ _ _ _ _ _ us hl => match us, hl with | [_], _ => rfl) fun f fd F => ok_areT F N d_is_tariff
  have d_which_holds : DefAt P w K mg base "which_holds" 1 ["tariffs", "second"] (spHolds K) := L.f_which_holds.at_ X G (fun _ _ _ _ _ _ us hl => match us, hl with | [_, _], _ => rfl) fun f fd F => ok_holds F N
  have d_seconds_till_change : DefAt P w K mg base "seconds_till_change" 1 ["tariffs", "second"] (spTill K) := L.f_seconds_till_change.at_ X G (fun _ _ _ _ _ _ us hl => match us, hl with | [_, _], _ => rfl) fun f fd F => ok_till F N
  have d_copied : DefAt P w K mg base "copied" 4 ["hire"] (spCopied C K) := L.f_copied.at_ X G (fun _ _ _ _ _ _ us hl => match us, hl with | [_], _ => rfl) fun f fd F => ok_copied F N T iH.mkk iH.bi (ok_initH iH.fn N T d_which_holds)
  have d_fare_with_extras : DefAt P w K mg base "fare_with_extras" 1 ["hire"] (spFareX C K) := L.f_fare_with_extras.at_ X G (fun _ _ _ _ _ _ us hl => match us, hl with | [_], _ => rfl) fun f fd F => ok_fareX F T
  have d_second_of_day : DefAt P w K mg base "second_of_day" 34 ["hire"] (spSecond C K) := L.f_second_of_day.at_ X G (fun _ _ _ _ _ _ us hl => match us, hl with | [_], _ => rfl) fun f fd F => ok_second F N T d_rounded_down
  have d_tariff_place : DefAt P w K mg base "tariff_place" 35 ["hire"] (spPlace C K) := L.f_tariff_place.at_ X G (fun _ _ _ _ _ _ us hl => match us, hl with | [_], _ => rfl) fun f fd F => ok_place F T d_which_holds d_second_of_day
  have d_part_in_a_second : DefAt P w K mg base "part_in_a_second" 36 ["hire", "s", "m"] (spPace C K) := L.f_part_in_a_second.at_ X G (fun _ _ _ _ _ _ us hl => match us, hl with | [_, _, _], _ => rfl) fun f fd F => ok_pace F N T d_tariff_place d_lowest
  have d_next_change : DefAt P w K mg base "next_change" 35 ["hire"] (spChange C K) := L.f_next_change.at_ X G (fun _ _ _ _ _ _ us hl => match us, hl with | [_], _ => rfl) fun f fd F => ok_change F T d_rounded_down d_second_of_day d_seconds_till_change
  have d_let_drop_fall : DefAt P w K mg base "let_drop_fall" 36 ["hire"] (spFall C K) := L.f_let_drop_fall.at_ X G (fun _ _ _ _ _ _ us hl => match us, hl with | [_], _ => rfl) fun f fd F => ok_fall F N T d_tariff_place
  have d_go_stretch : DefAt P w K mg base "go_stretch" 37 ["hire", "s", "m", "stop"] (spGo C K) := L.f_go_stretch.at_ X G (fun _ _ _ _ _ _ us hl => match us, hl with | [_, _, _, _], _ => rfl) fun f fd F => ok_go F T d_part_in_a_second d_let_drop_fall d_plus d_minus d_times d_divided d_is_below
  have d_drive_way : DefAt P w K mg base "drive_way" 38 ["hire", "s", "m"] (spWay C K) := L.f_drive_way.at_ X G (fun _ _ _ _ _ _ us hl => match us, hl with | [_, _, _], _ => rfl) fun f fd F => ok_way F T d_go_stretch d_next_change d_plus d_is_below
  have d_seconds_till_drop : DefAt P w K mg base "seconds_till_drop" 38 ["hire", "count", "s", "m"] (spTillD C K) := L.f_seconds_till_drop.at_ X G (fun _ _ _ _ _ _ us hl => match us, hl with | [_, _, _, _], _ => rfl) fun f fd F => ok_tillD F N T d_copied d_go_stretch d_next_change d_minus
  have d_read_list : DefAt P w K mg base "read_list" 1 ["line", "place"] (spReadL K) := L.f_read_list.at_ X G (fun _ _ _ _ _ _ us hl => match us, hl with | [_, _], _ => rfl) fun f fd F => ok_readL F
  have d_read_lists : DefAt P w K mg base "read_lists" 2 ["line", "place"] (spReadLs K) := L.f_read_lists.at_ X G (fun _ _ _ _ _ _ us hl => match us, hl with | [_, _], _ => rfl) fun f fd F => ok_readLs F N d_read_list
  have d_read_calls : DefAt P w K mg base "read_calls" 4 ["line"] (spReadCs CC K) := L.f_read_calls.at_ X G (fun _ _ _ _ _ _ us hl => match us, hl with | [_], _ => rfl) fun f fd F => ok_readCs F N U iC.mkk iC.bi (ok_initC iC.fn U) d_read_list d_read_lists
  exact ⟨N, T, U, ⟨fH, fdH, iH.mkk, iH.bi, ok_initH iH.fn N T d_which_holds⟩, d_common_divisor, d_lowest, d_plus, d_minus, d_times, d_divided, d_is_below, d_rounded_down, d_is_tariff, d_are_tariffs, d_which_holds, d_seconds_till_change, d_copied, d_fare_with_extras, d_second_of_day, d_tariff_place, d_part_in_a_second, d_next_change, d_let_drop_fall, d_go_stretch, d_drive_way, d_seconds_till_drop, d_read_list, d_read_lists, d_read_calls⟩
end TR


set_option Elab.async false
set_option linter.all false
set_option maxRecDepth 100000
set_option maxHeartbeats 2000000
namespace TR
open PySem PySem.Spec PyProof.Rows L2

abbrev sAns : Stmt := topS 88

/-! ### the line's calls, one by one -/
def stateAt (cs : List (List (List Int))) (i : Nat) : Mu30.State := (cs.take i).foldl (fun s c => (Mu30Neutral.step s c).1) Mu30Neutral.start
theorem played_app {S : Type} (step : S → List (List Int) → S × List Int) : ∀ (cs : List (List (List Int))) (s : S) (c : List (List Int)),
    PyFlat.played step s (cs ++ [c]) = PyFlat.played step s cs ++ [(step (cs.foldl (fun s c => (step s c).1) s) c).2]
  | [], s, c => rfl
  | d :: cs, s, c => by
    show (step s d).2 :: PyFlat.played step (step s d).1 (cs ++ [c]) = _
    rw [played_app step cs]
    rfl
theorem told_app (l : List (List Int)) (a : List Int) : PyFlat.told (l ++ [a]) = PyFlat.told l ++ ((a.length : Int) :: a) := by
  unfold PyFlat.told
  rw [List.flatMap_append]
  simp
theorem state_next {cs : List (List (List Int))} {i : Nat} {c : List (List Int)} (h : cs[i]? = some c) : stateAt cs (i + 1) = (Mu30Neutral.step (stateAt cs i) c).1 := by
  unfold stateAt
  rw [take_next h, List.foldl_append]
  rfl
theorem told_next {cs : List (List (List Int))} {i : Nat} {c : List (List Int)} (h : cs[i]? = some c) :
    PyFlat.told (PyFlat.played Mu30Neutral.step Mu30Neutral.start (cs.take (i + 1))) = PyFlat.told (PyFlat.played Mu30Neutral.step Mu30Neutral.start (cs.take i)) ++ (((Mu30Neutral.step (stateAt cs i) c).2.length : Int) :: (Mu30Neutral.step (stateAt cs i) c).2) := by
  rw [take_next h, played_app, told_app]
  rfl

/-- a call in the heap; A: its lists and objects -/
structure CallIn (CC : Addr) (H : Hp) (a : Addr) (c : List (List Int)) (A : List Addr) : Prop where
  ex : ∃ (p : Int) (ns : List Int) (xs : List (List Int)) (dx aN aL : Addr) (as : List Addr), c = (p :: ns) :: xs ∧ H a = some (.ins CC dx (f3 (.int p) (.ref aN) (.ref aL))) ∧ H aN = some (.lst (ns.map V.int)) ∧ RowsT H aL as xs ∧ A = a :: aN :: aL :: as
theorem CallIn.stay {CC : Addr} {H H' : Hp} {a : Addr} {c : List (List Int)} {A : List Addr} (h : CallIn CC H a c A) (s : ∀ b o, b ∈ A → H b = some o → H' b = some o) : CallIn CC H' a c A := by
  obtain ⟨p, ns, xs, dx, aN, aL, as, e, h1, h2, h3, rfl⟩ := h.ex
  refine ⟨p, ns, xs, dx, aN, aL, as, e, s _ _ (by simp) h1, s _ _ (by simp) h2, ⟨s _ _ (by simp) h3.top, h3.len, fun i b r e1 e2 => s _ _ ?_ (h3.row i b r e1 e2)⟩, rfl⟩
  have := List.mem_of_getElem? e1
  simp [this]
theorem CallIn.there {CC : Addr} {H : Hp} {a : Addr} {c : List (List Int)} {A : List Addr} (h : CallIn CC H a c A) : ∀ b ∈ A, ∃ o, H b = some o := by
  obtain ⟨p, ns, xs, dx, aN, aL, as, e, h1, h2, h3, rfl⟩ := h.ex
  intro b hb
  rcases List.mem_cons.mp hb with rfl | hb
  · exact ⟨_, h1⟩
  rcases List.mem_cons.mp hb with rfl | hb
  · exact ⟨_, h2⟩
  rcases List.mem_cons.mp hb with rfl | hb
  · exact ⟨_, h3.top⟩
  · obtain ⟨j, ej⟩ := List.getElem?_of_mem hb
    obtain ⟨r, er⟩ := some_of (xs := xs) (i := j) (by have := (List.getElem?_eq_some_iff.mp ej).1; have := h3.len; omega)
    exact ⟨_, h3.row _ _ _ ej er⟩
theorem CallNew.in_ {CC : Addr} {H0 H : Hp} {a : Addr} {c : List (List Int)} (h : CallNew CC H0 H a c) : ∃ A, CallIn CC H a c A ∧ ∀ b ∈ A, H0 b = none := by
  obtain ⟨p, ns, xs, dx, aN, aL, as, e, h1, h2, h3, n1, n2, n3, n4⟩ := h.ex
  refine ⟨a :: aN :: aL :: as, ⟨p, ns, xs, dx, aN, aL, as, e, h1, h2, h3, rfl⟩, fun b hb => ?_⟩
  rcases List.mem_cons.mp hb with rfl | hb
  · exact n1
  rcases List.mem_cons.mp hb with rfl | hb
  · exact n2
  rcases List.mem_cons.mp hb with rfl | hb
  · exact n3
  · exact n4 b hb

/-- how a meter lies in the heap: its own objects (they may change), what it reads, its state, how many stretches at most were gone -/
abbrev MRel := Hp → Addr → List Addr → List Addr → Mu30.State → Nat → Prop
/-- what never changes -/
def Imm (o : HO) : Prop := (∃ xs, o = .tup xs) ∨ ∃ u v, o = .frz u v
theorem Imm.lst {xs : List V} (h : Imm (.lst xs)) : False := by
  rcases h with ⟨_, e⟩ | ⟨_, _, e⟩ <;> cases e
theorem Imm.ins {C dx : Addr} {fs : List (Str × V)} (h : Imm (.ins C dx fs)) : False := by
  rcases h with ⟨_, e⟩ | ⟨_, _, e⟩ <;> cases e
theorem QAt.imm {K : PySem.W.Frag} {H H' : Hp} {a : Addr} {q : Mu30.Q} (h : QAt K H a q) (s : ∀ b o, H b = some o → Imm o → H' b = some o) : QAt K H' a q :=
  h.same (fun _ e => s _ _ e (.inl ⟨_, rfl⟩)) (fun _ _ e => s _ _ e (.inr ⟨_, _, rfl⟩))
/-- it stays where its own objects and what it reads stay -/
def MStay (M : MRel) : Prop := ∀ (H H' : Hp) (a : Addr) (own rd : List Addr) (s : Mu30.State) (n : Nat), M H a own rd s n → (∀ b o, H b = some o → (b ∈ own ∨ b ∈ rd ∨ Imm o) → H' b = some o) → M H' a own rd s n
def spCall (M : MRel) (CC : Addr) : Sp := fun vs H Q _ => ∃ (aM aC : Addr) (own rd A : List Addr) (st : Mu30.State) (n : Nat) (c : List (List Int)) (x : Mu30.Call), vs = [.ref aM, .ref aC] ∧ M H aM own rd st n ∧ CallIn CC H aC c A ∧ (∀ b ∈ A, b ∉ own) ∧ Shape c x ∧ n ≤ 80000 ∧
  ∀ (H' : Hp) (l : Addr) (own' rd' : List Addr), M H' aM own' rd' (Mu30.step st x).1 (n + 400) → H l = none → H' l = some (.lst ((Mu30.step st x).2.map V.int)) → (Mu30.step st x).2.length ≤ 200000 →
    (∀ b o, H b = some o → b ∉ own → H' b = some o) → (∀ b ∈ own', b ∈ own ∨ H b = none) → (∀ b ∈ rd', b ∈ rd ∨ b ∈ A ∨ H b = none) → Q (.ref l) H'
def spInitM (M : MRel) (CM : Addr) : Sp := fun vs H Q _ => ∃ (p dx : Addr), vs = [.ref p] ∧ H p = some (.ins CM dx []) ∧
  ∀ (H' : Hp) (own rd : List Addr), M H' p own rd Mu30.none_ 0 → (∀ b o, H b = some o → b ≠ p → H' b = some o) → (∀ b ∈ own, ∃ o, H' b = some o) → (∀ b ∈ rd, ∃ o, H' b = some o) → Q .non H'
def spAns (K : PySem.W.Frag) : Sp := fun vs H Q _ => ∃ (a : Addr) (l : List Int), vs = [.ref a] ∧ SqL K H a (l.map V.int) ∧ l.length ≤ 4200 ∧ PyMu30.answers_asked l = true ∧ ∀ (H' : Hp) (p : Addr), H' p = some (.lst ((PyMu30.answers l).map V.int)) → Q (.ref p) H'
section
variable {P : Program} {w : World} {K : PySem.W.Frag} {mg : Str → Option Value} {base : Heap} {C CC CM : Addr} {M : MRel}
theorem scAns : FnScope ["calls", "meter", "told", "call", "answer"] ["calls"] (defScope sAns) := ⟨rfl, rfl, rfl, by decide +kernel, rfl, by decide +kernel, by decide +kernel⟩
theorem step_of {c : List (List Int)} {x : Mu30.Call} (s : Mu30.State) (h : Mu30Neutral.callOf c = some x) : Mu30Neutral.step s c = Mu30.step s x := by
  unfold Mu30Neutral.step
  rw [h]
theorem ok_ans {f fI : Addr} {fd fdI : FuncData} (F : Fun K "answers" "answers" sAns f fd) (L : Low P w K mg base C CC) (st : MStay M) (gM : mg "Meter" = some (.ref CM)) (Mm : Mk K CM fI) (bI : Binds K fdI ["self"] []) (GI : FnOk P w K mg base CX0 40 fI fdI ["self"] (spInitM M CM))
    (GC : DefAt P w K mg base "answer_call" 44 ["meter", "call"] (spCall M CC)) : FnOk P w K mg base CX0 45 f fd ["calls"] (spAns K) := by
  refine F.ok scAns (fun vs H Q E h => ?_) (fun cdv A outer s H vs Q E hr h => ?_)
  · obtain ⟨a, l, rfl, _⟩ := h
    rfl
  · obtain ⟨a, line, rfl, hs, hlen, asked, k⟩ := h
    obtain ⟨cs, rfl, hok, most, shapes, due⟩ := asked_split asked
    refine ⟨_, pss_cons (ps_set (i := 1) scAns.nd rfl (.inl rfl) (pe_make0 Mm GI (hr.mono (by decide)) rfl gM bI .nil pass0)) (pss_cons (ps_set (i := 2) scAns.nd rfl (.inl rfl) (pe_lst pa_nil)) (pss_cons (ps_for PassesOwn.never rfl (pi_list (pe_def L.d_read_calls hr (by decide) rfl (pa_cons (pv 0) (pa_nil)))) (pg_name (i := 3) scAns.nd rfl (.inl rfl)) (pss_cons (ps_set (i := 4) scAns.nd rfl (.inl rfl) (pe_def GC hr (by decide) rfl (pa_cons (pv 1) (pa_cons (pv 3) (pa_nil))))) (pss_cons (ps_expr (pe_bm PySem.F.plainAttrs_list PySem.F.slot_list_append PySem.F.type_list_append mt_append (pv 2) (pa_cons (pe_len L.names.len rfl (pv 4)) (pa_nil)))) (pss_one (ps_expr (pe_bm PySem.F.plainAttrs_list PySem.F.slot_list_extend PySem.F.type_list_extend mt_extend (pv 2) (pa_cons (pv 4) pa_nil))))))) (pss_one (ps_ret (pv 2))))), ?_⟩
    -- meter = Meter()
    intro aM dx nM nd ne
    refine ⟨aM, dx, rfl, upd_same, fun H1 own rd mat kp ownT rdT => ⟨rfl, ?_⟩⟩
    have s1 : Same H H1 := Same.made nM nd kp
    -- told = []
    refine ⟨(by show 0 ≤ sizeLine; decide), fun t nt => ?_⟩
    have s2 : Same H1 (upd H1 t (.lst [])) := same_up nt
    have ht2 : (upd H1 t (.lst [])) t = some (.lst []) := upd_same
    generalize upd H1 t (.lst []) = H2 at s2 ht2
    have tO : t ∉ own := fun z => by obtain ⟨o, e⟩ := ownT t z; rw [nt] at e; cases e
    have tR : t ∉ rd := fun z => by obtain ⟨o, e⟩ := rdT t z; rw [nt] at e; cases e
    have mat2 : M H2 aM own rd Mu30.none_ 0 := st _ _ _ _ _ _ _ mat fun b o e _ => s2 _ _ e
    -- read_calls(calls)
    refine ⟨_, rfl, a, cs, rfl, (s1.trans s2).seq hs, hok, by omega, fun H3 l bs s3 nl hl hbl hcs => ?_⟩
    have mat3 : M H3 aM own rd Mu30.none_ 0 := st _ _ _ _ _ _ _ mat2 fun b o e _ => s3 _ _ e
    have ht3 := s3 _ _ ht2
    have lt : l ≠ t := fun z => by rw [z, ht2] at nl; cases nl
    have calls3 : ∀ (i : Nat) (b : Addr) (c : List (List Int)), bs[i]? = some b → cs[i]? = some c → ∃ A, CallIn CC H3 b c A ∧ (∀ b ∈ A, b ∉ own) ∧ t ∉ A := fun i b c e1 e2 => by
      obtain ⟨A, h1, h2⟩ := (hcs i b c e1 e2).in_
      refine ⟨A, h1, fun b hb z => ?_, fun z => ?_⟩
      · obtain ⟨o, e⟩ := ownT b z
        have := s2 _ _ e
        rw [h2 b hb] at this
        cases this
      · have := h2 t z
        rw [ht2] at this
        cases this
    have lO : l ∉ own := fun z => by
      obtain ⟨o, e⟩ := ownT l z
      have := s2 _ _ e
      rw [nl] at this
      cases this
    refine ⟨l, rfl, ⟨_, SqL.of hl⟩, for_list (K := K) (a := l) (xs := bs.map V.ref) (fun i σ H' => ∃ (own rd : List Addr) (u v : Option V), σ = [some (.ref a), some (.ref aM), some (.ref t), u, v] ∧ M H' aM own rd (stateAt cs i) (400 * i) ∧
        H' t = some (.lst ((PyFlat.told (PyFlat.played Mu30Neutral.step Mu30Neutral.start (cs.take i))).map V.int)) ∧ (PyFlat.told (PyFlat.played Mu30Neutral.step Mu30Neutral.start (cs.take i))).length ≤ 200001 * i ∧ t ∉ own ∧ t ∉ rd ∧ l ∉ own ∧ H' l = some (.lst (bs.map V.ref)) ∧
        ∀ (j : Nat) (b : Addr) (c : List (List Int)), bs[j]? = some b → cs[j]? = some c → ∃ A, CallIn CC H' b c A ∧ (∀ b ∈ A, b ∉ own) ∧ t ∉ A)
      ⟨own, rd, none, none, rfl, mat3, ht3, Nat.le_refl _, tO, tR, lO, hl, calls3⟩ (fun i σ H' _ p => ?_) ?_ ?_⟩
    · obtain ⟨_, _, _, _, _, _, _, _, _, _, _, q, _⟩ := p
      exact SqL.of q
    · rintro i y σ H' hi ⟨own, rd, u, v, rfl, mat, ht, tl, tO, tR, lO, hl, hcs⟩
      rw [List.getElem?_map] at hi
      cases eb : bs[i]? with
      | none => rw [eb] at hi; cases hi
      | some b =>
        rw [eb] at hi
        cases hi
        have hib : i < bs.length := (List.getElem?_eq_some_iff.mp eb).1
        obtain ⟨c, ec⟩ := some_of (xs := cs) (i := i) (by omega)
        obtain ⟨x, sh, co⟩ := shapes c (List.mem_of_getElem? ec)
        obtain ⟨A, cin, cA, tA⟩ := hcs i b c eb ec
        have sn := state_next ec
        have tn := told_next ec
        rw [step_of _ co] at sn tn
        refine ⟨_, rfl, _, rfl, aM, b, own, rd, A, stateAt cs i, 400 * i, c, x, rfl, mat, cin, cA, sh, by omega, fun H4 p own' rd' mat4 np hp pl fr ow rw' => ?_⟩
        have ht4 := fr _ _ ht tO
        have tO' : t ∉ own' := fun z => by
          rcases ow t z with q | q
          · exact tO q
          · rw [ht] at q; cases q
        have tR' : t ∉ rd' := fun z => by
          rcases rw' t z with q | q | q
          · exact tR q
          · exact tA q
          · rw [ht] at q; cases q
        have lO' : l ∉ own' := fun z => by
          rcases ow l z with q | q
          · exact lO q
          · rw [hl] at q; cases q
        have pt : p ≠ t := fun z => by rw [z, ht] at np; cases np
        -- told.append(len(answer)); told.extend(answer)
        refine ⟨_, rfl, .inl ⟨rfl, _, SqL.of ht4⟩, _, rfl, p, _, rfl, .inl (SqL.of hp), t, _, _, rfl, rfl, ht4, ?_, ?_⟩
        · rw [List.length_map]
          have : sizeLine = 16777216 := by decide
          omega
        · have hp5 : ∀ {o : HO}, (upd H4 t o) p = some (.lst ((Mu30.step (stateAt cs i) x).2.map V.int)) := by
            intro o
            rw [upd_ne pt]
            exact hp
          refine ⟨_, rfl, .inl ⟨rfl, _, SqL.of upd_same⟩, _, rfl, t, p, _, _, rfl, rfl, upd_same, hp5, ?_, ?_⟩
          · rw [List.length_append, List.length_map, List.length_map]
            have : sizeLine = 16777216 := by decide
            show _ + 1 + _ ≤ _
            omega
          · rw [upd_upd]
            have up : ∀ b o, H4 b = some o → b ≠ t → (upd H4 t (.lst ((PyFlat.told (PyFlat.played Mu30Neutral.step Mu30Neutral.start (cs.take i))).map V.int ++ [V.int (((Mu30.step (stateAt cs i) x).2.map V.int).length : Int)] ++ (Mu30.step (stateAt cs i) x).2.map V.int))) b = some o := fun b o e n => by
              rw [upd_ne n]
              exact e
            refine ⟨own', rd', some (.ref b), some (.ref p), rfl, ?_, ?_, ?_, tO', tR', lO', up _ _ (fr _ _ hl lO) lt, ?_⟩
            · rw [sn, show 400 * (i + 1) = 400 * i + 400 by omega]
              refine st _ _ _ _ _ _ _ mat4 fun b o e z => up b o e fun q => ?_
              subst q
              rw [ht4] at e
              cases e
              rcases z with z | z | z
              · exact tO' z
              · exact tR' z
              · exact z.lst
            · rw [upd_same, tn, List.map_append, List.length_map]
              simp
            · rw [tn, List.length_append, List.length_cons]
              omega
            · intro j b' c' e1 e2
              obtain ⟨A', h1, h2, h3⟩ := hcs j b' c' e1 e2
              refine ⟨A', h1.stay fun b o hb e => up _ _ (fr _ _ e (h2 b hb)) fun q => h3 (q ▸ hb), fun b hb z => ?_, h3⟩
              rcases ow b z with q | q
              · exact h2 b hb q
              · obtain ⟨o, e⟩ := h1.there b hb
                rw [e] at q
                cases q
    · rintro σ H' ⟨own, rd, u, v, rfl, mat, ht, tl, tO, tR, lO, hl, hcs⟩
      refine ⟨_, rfl, k H' t ?_⟩
      rw [List.length_map, hbl, List.take_length] at ht
      rw [due]
      exact ht
end
end TR


set_option Elab.async false
set_option linter.all false
set_option maxRecDepth 100000
set_option maxHeartbeats 2000000
namespace TR
open PySem PySem.Spec PyProof.Rows L2
open Mu30 (Q frac Tariff Hire)

abbrev sInitR : Stmt := inClass (topS 44) 0
abbrev sKnown : Stmt := topS 45
abbrev sTake1 : Stmt := topS 46
abbrev sKeeps : Stmt := topS 47
abbrev sBring : Stmt := topS 48
abbrev sJoinA : Stmt := topS 81
abbrev sTakeA : Stmt := topS 82
abbrev sBackA : Stmt := topS 83
abbrev sLeaveA : Stmt := topS 84
abbrev sRankA : Stmt := topS 85
abbrev sRankC : Stmt := topS 87

/-! ### the rank's lists -/
def rkV (rk : List Nat) : List V := rk.map fun (n : Nat) => V.int (n : Int)
def awK (aw : List Mu30.Away) : List (Key × V) := aw.map fun a => (Sum.inl (a.cab : Int), V.int (a.left : Int))
theorem rkV_ints (rk : List Nat) : rkV rk = (rk.map fun (n : Nat) => (n : Int)).map V.int := by
  unfold rkV
  rw [List.map_map]
  rfl
theorem rkV_len (rk : List Nat) : (rkV rk).length = rk.length := List.length_map _
theorem awK_len (aw : List Mu30.Away) : (awK aw).length = aw.length := List.length_map _
theorem rkV_flat : ∀ (rk : List Nat), (rkV rk).all flatV = true
  | [] => rfl
  | _ :: rk => rkV_flat rk
theorem inV_rk (k : Nat) : ∀ (rk : List Nat), inV (V.int (k : Int)) (rkV rk) = rk.contains k
  | [] => rfl
  | n :: rk => by
    have ih := inV_rk k rk
    unfold inV at ih ⊢
    show (eqV (V.int (n : Int)) (V.int (k : Int)) || (rkV rk).any fun y => eqV y (V.int (k : Int))) = _
    rw [ih, List.contains_cons]
    congr 1
    show ((n : Int) == (k : Int)) = (k == n)
    rw [Bool.eq_iff_iff]
    simp
    omega
theorem key_dec (a : Mu30.Away) (k : Nat) : (decide ((Sum.inl (a.cab : Int) : Key) = Sum.inl (k : Int))) = (a.cab == k) := by
  rw [Bool.eq_iff_iff]
  simp
  omega
theorem val_aw (k : Nat) : ∀ (aw : List Mu30.Away), valV (awK aw) (Sum.inl (k : Int)) = (aw.find? fun a => a.cab == k).map fun a => V.int (a.left : Int)
  | [] => rfl
  | a :: aw => by
    have ih := val_aw k aw
    unfold valV at ih ⊢
    show ((((Sum.inl (a.cab : Int) : Key), V.int (a.left : Int)) :: awK aw).find? _).map _ = _
    rw [List.find?_cons, List.find?_cons, key_dec]
    cases a.cab == k with
    | true => rfl
    | false => exact ih
theorem any_aw (k : Nat) (aw : List Mu30.Away) : (valV (awK aw) (Sum.inl (k : Int))).isSome = aw.any fun a => a.cab == k := by
  rw [val_aw, Option.isSome_map, Bool.eq_iff_iff, List.find?_isSome, List.any_eq_true]
theorem drop_aw (k : Nat) : ∀ (aw : List Mu30.Away), dropK (awK aw) (Sum.inl (k : Int)) = awK (aw.filter fun b => b.cab != k)
  | [] => rfl
  | a :: aw => by
    have ih := drop_aw k aw
    unfold dropK at ih ⊢
    show List.filter _ (((Sum.inl (a.cab : Int) : Key), V.int (a.left : Int)) :: awK aw) = _
    rw [List.filter_cons, List.filter_cons]
    have e : (decide ((Sum.inl (a.cab : Int) : Key) ≠ Sum.inl (k : Int))) = (a.cab != k) := by
      have := key_dec a k
      rw [bne, ← this, decide_not]
    show (if decide ((Sum.inl (a.cab : Int) : Key) ≠ Sum.inl (k : Int)) = true then _ else _) = _
    rw [e]
    cases a.cab != k with
    | true =>
      rw [if_pos rfl, if_pos rfl, ih]
      rfl
    | false => exact ih
theorem keys_aw (aw : List Mu30.Away) : ((awK aw).map fun kv => kV kv.1) = rkV (aw.map (·.cab)) := by
  unfold awK rkV
  rw [List.map_map, List.map_map]
  rfl

/-! ### the rank in the heap -/
def rF (vW vA : V) : List (Str × V) := [("waiting", vW), ("away", vA)]
theorem rF_waiting {vW vA : V} : (rF vW vA).lookup ("waiting" : Str) = some vW := lk_here
theorem rF_away {vW vA : V} : (rF vW vA).lookup ("away" : Str) = some vA := (lk_past (by decide +kernel)).trans lk_here
theorem newR_waiting {vW : V} : putF "waiting" vW ([] : List (Str × V)) = ([("waiting", vW)] : List (Str × V)) := put_new
theorem newR_away {vW vA : V} : putF "away" vA ([("waiting", vW)] : List (Str × V)) = rF vW vA := (put_past (by decide +kernel)).trans (congrArg _ put_new)
structure RankAt (CR : Addr) (H : Hp) (aR dR aW aA : Addr) (rk : List Nat) (aw : List Mu30.Away) : Prop where
  obj : H aR = some (.ins CR dR (rF (.ref aW) (.ref aA)))
  wai : H aW = some (.lst (rkV rk))
  awy : H aA = some (.dK (awK aw))
  nd : (rk ++ aw.map (·.cab)).Nodup
theorem RankAt.stay {CR : Addr} {H H' : Hp} {aR dR aW aA : Addr} {rk : List Nat} {aw : List Mu30.Away} (x : RankAt CR H aR dR aW aA rk aw) (s : ∀ b o, H b = some o → (b = aR ∨ b = aW ∨ b = aA) → H' b = some o) : RankAt CR H' aR dR aW aA rk aw :=
  ⟨s _ _ x.obj (.inl rfl), s _ _ x.wai (.inr (.inl rfl)), s _ _ x.awy (.inr (.inr rfl)), x.nd⟩
theorem RankAt.wa {CR : Addr} {H : Hp} {aR dR aW aA : Addr} {rk : List Nat} {aw : List Mu30.Away} (x : RankAt CR H aR dR aW aA rk aw) : aW ≠ aA := ne_of x.wai x.awy (by intro z; cases z)
theorem RankAt.rw {CR : Addr} {H : Hp} {aR dR aW aA : Addr} {rk : List Nat} {aw : List Mu30.Away} (x : RankAt CR H aR dR aW aA rk aw) : aR ≠ aW := ne_of x.obj x.wai (by intro z; cases z)
theorem RankAt.ra {CR : Addr} {H : Hp} {aR dR aW aA : Addr} {rk : List Nat} {aw : List Mu30.Away} (x : RankAt CR H aR dR aW aA rk aw) : aR ≠ aA := ne_of x.obj x.awy (by intro z; cases z)
/-- another list of those who wait, others away -/
theorem RankAt.put {CR : Addr} {H H' : Hp} {aR dR aW aA : Addr} {rk rk' : List Nat} {aw aw' : List Mu30.Away} (x : RankAt CR H aR dR aW aA rk aw) (c : Chg aW aA H H') (h1 : H' aW = some (.lst (rkV rk'))) (h2 : H' aA = some (.dK (awK aw'))) (nd : (rk' ++ aw'.map (·.cab)).Nodup) : RankAt CR H' aR dR aW aA rk' aw' :=
  ⟨c _ _ x.obj x.rw x.ra, h1, h2, nd⟩

/-- what the top has written of the class Rank, and its constants -/
structure RTxt (K : PySem.W.Frag) (mg : Str → Option Value) (CR : Addr) : Prop where
  cl : Cls K CR
  n_waiting : NoAttr K CR "waiting"
  n_away : NoAttr K CR "away"
  gC : mg "Rank" = some (.ref CR)
  cab : ∃ t, mg "MOST_CAB" = some (.int 99 t)
  soon : ∃ t, mg "SOON" = some (.int 900 t)
  worth : ∃ t, mg "WORTH_IT" = some (.int 500 t)
  wrong : ∃ t, mg "WRONG" = some (.int (-1) t)
  isThere : ∃ t, mg "IS_THERE" = some (.int (-4) t)
  notThere : ∃ t, mg "NOT_THERE" = some (.int (-4) t)
  nobody : ∃ t, mg "NOBODY" = some (.int (-6) t)

theorem ps_dead {X : Cx} {st : Stmt} : PS X st (fun _ _ _ => False) := ⟨fun _ _ _ _ _ _ h => h.elim⟩
theorem ite_bool {b : Bool} {A B : Prop} (h1 : b = true → A) (h2 : b = false → B) : if b = true then A else B := by
  cases b with
  | true => rw [if_pos rfl]; exact h1 rfl
  | false => rw [if_neg (by decide)]; exact h2 rfl
theorem ite_not {b : Bool} {A B : Prop} (h1 : b = false → A) (h2 : b = true → B) : if (!b) = true then A else B := by
  cases b with
  | true => rw [if_neg (by decide)]; exact h2 rfl
  | false => rw [if_pos (by rfl)]; exact h1 rfl
theorem rin_ite {k : Nat} {rk : List Nat} {A B : Prop} (h1 : rk.contains k = true → A) (h2 : rk.contains k = false → B) : if (if false = true then !inV (V.int (k : Int)) (rkV rk) else inV (V.int (k : Int)) (rkV rk)) = true then A else B := by
  have e : (if false = true then !inV (V.int (k : Int)) (rkV rk) else inV (V.int (k : Int)) (rkV rk)) = rk.contains k := inV_rk k rk
  rw [e]
  exact ite_bool h1 h2
theorem rnotin_ite {k : Nat} {rk : List Nat} {A B : Prop} (h1 : rk.contains k = false → A) (h2 : rk.contains k = true → B) : if (if true = true then !inV (V.int (k : Int)) (rkV rk) else inV (V.int (k : Int)) (rkV rk)) = true then A else B := by
  have e : (if true = true then !inV (V.int (k : Int)) (rkV rk) else inV (V.int (k : Int)) (rkV rk)) = !rk.contains k := congrArg not (inV_rk k rk)
  rw [e]
  exact ite_not h1 h2

section
variable {P : Program} {w : World} {K : PySem.W.Frag} {mg : Str → Option Value} {base : Heap} {C CC CR : Addr}

def spInitR (CR : Addr) : Sp := fun vs H Q _ => ∃ (p dx : Addr), vs = [.ref p] ∧ H p = some (.ins CR dx []) ∧
  ∀ (H' : Hp) (aW aA : Addr), RankAt CR H' p dx aW aA [] [] → H aW = none → H aA = none → (∀ b o, H b = some o → b ≠ p → H' b = some o) → Q .non H'
theorem scInitR : FnScope ["self"] ["self"] (defScope sInitR) := ⟨rfl, rfl, rfl, by decide +kernel, rfl, by decide +kernel, by decide +kernel⟩
theorem ok_initR {f : Addr} {fd : FuncData} (F : Fun K "__init__" "Rank.__init__" sInitR f fd) (T : RTxt K mg CR) : FnOk P w K mg base CX0 1 f fd ["self"] (spInitR CR) := by
  refine F.ok scInitR (fun vs H Q E h => ?_) (fun cdv A outer s H vs Q E hr h => ?_)
  · obtain ⟨p, dx, rfl, _⟩ := h
    rfl
  · obtain ⟨p, dx, rfl, hp, k⟩ := h
    refine ⟨_, pss_cons (ps_fld (pv 0) (pe_lst pa_nil) rfl) (pss_one (ps_fld (pv 0) pe_dnewK rfl)), ?_⟩
    refine ⟨(by show 0 ≤ sizeLine; decide), fun aW nW => ?_⟩
    have s1 : Same H (upd H aW (.lst [])) := same_up nW
    have h1 : (upd H aW (.lst [])) aW = some (.lst []) := upd_same
    generalize upd H aW (.lst []) = H1 at s1 h1
    have pW : aW ≠ p := fun z => by rw [z, hp] at nW; cases nW
    refine ⟨_, rfl, p, CR, dx, _, rfl, s1 _ _ hp, T.cl, T.n_waiting, (by show 0 < 1000; decide), ?_⟩
    rw [newR_waiting]
    have s2 : ∀ b o, H1 b = some o → b ≠ p → (upd H1 p (.ins CR dx [("waiting", .ref aW)])) b = some o := fun b o e n => by rw [upd_ne n]; exact e
    have h2 : (upd H1 p (.ins CR dx [("waiting", .ref aW)])) p = some (.ins CR dx [("waiting", .ref aW)]) := upd_same
    generalize upd H1 p (.ins CR dx [("waiting", .ref aW)]) = H2 at s2 h2
    intro aA nA
    have s3 : Same H2 (upd H2 aA (.dK [])) := same_up nA
    have h3 : (upd H2 aA (.dK [])) aA = some (.dK []) := upd_same
    generalize upd H2 aA (.dK []) = H3 at s3 h3
    have pA : aA ≠ p := fun z => by rw [z, h2] at nA; cases nA
    refine ⟨_, rfl, p, CR, dx, _, rfl, s3 _ _ h2, T.cl, T.n_away, (by show 1 < 1000; decide), ?_⟩
    rw [newR_away]
    refine k _ aW aA ⟨upd_same, ?_, ?_, by decide⟩ nW ?_ fun b o e n => ?_
    · rw [upd_ne pW]
      exact s3 _ _ (s2 _ _ h1 pW)
    · rw [upd_ne pA]
      exact h3
    · cases z : H aA with
      | none => rfl
      | some o => rw [s2 _ _ (s1 _ _ z) pA] at nA; cases nA
    · rw [upd_ne n]
      exact s3 _ _ (s2 _ _ (s1 _ _ e) n)

def spKnown (CR : Addr) : Sp := fun vs H Q _ => ∃ (aR dR aW aA : Addr) (rk : List Nat) (aw : List Mu30.Away) (k : Nat), vs = [.ref aR, .int (k : Int)] ∧ RankAt CR H aR dR aW aA rk aw ∧ Q (.bl (rk.contains k || aw.any fun a => a.cab == k)) H
theorem scKnown : FnScope ["rank", "cab"] ["rank", "cab"] (defScope sKnown) := ⟨rfl, rfl, rfl, by decide +kernel, rfl, by decide +kernel, by decide +kernel⟩
theorem ok_known {f : Addr} {fd : FuncData} (F : Fun K "is_known" "is_known" sKnown f fd) (T : RTxt K mg CR) : FnOk P w K mg base CX0 1 f fd ["rank", "cab"] (spKnown CR) := by
  refine F.ok scKnown (fun vs H Q E h => ?_) (fun cdv A outer s H vs Q E hr h => ?_)
  · obtain ⟨aR, dR, aW, aA, rk, aw, k, rfl, _⟩ := h
    rfl
  · obtain ⟨aR, dR, aW, aA, rk, aw, k, rfl, R, q⟩ := h
    refine ⟨_, pss_one (ps_ret (pe_or (pe_cmpR op_in_seq (pv 1) (pe_fld (pv 0) rfl) rfl) (pe_one (pe_cmp (pc_din (hu_of hr) (pv 1) (pe_fld (pv 0) rfl)))))), ?_⟩
    refine ⟨_, rfl, _, rfl, aR, CR, dR, _, _, rfl, R.obj, T.cl, T.n_waiting, rF_waiting, aW, _, rfl, .inl (SqL.of R.wai), rfl, rkV_flat rk, _, rfl, ?_⟩
    refine rin_ite (fun c => ?_) (fun c => ?_)
    · rw [c] at q
      exact q
    · refine ⟨_, rfl, _, rfl, aR, CR, dR, _, _, rfl, R.obj, T.cl, T.n_away, rF_away, aA, _, rfl, DGet.k (k := Sum.inl (k : Int)) R.awy, ?_⟩
      rw [any_aw]
      rw [c] at q
      exact q

def spTake1 (CR : Addr) : Sp := fun vs H Q _ => ∃ (aR dR aW aA : Addr) (rk : List Nat) (aw : List Mu30.Away) (k now : Nat), vs = [.ref aR, .int (now : Int)] ∧ RankAt CR H aR dR aW aA (k :: rk) aw ∧ aw.length ≤ 90000 ∧
  ∀ H' : Hp, RankAt CR H' aR dR aW aA rk (aw ++ [⟨k, now⟩]) → Chg aW aA H H' → Q (.int (k : Int)) H'
theorem scTake1 : FnScope ["rank", "now", "cab"] ["rank", "now"] (defScope sTake1) := ⟨rfl, rfl, rfl, by decide +kernel, rfl, by decide +kernel, by decide +kernel⟩
theorem notin_aw {k : Nat} {rk : List Nat} {aw : List Mu30.Away} (nd : (rk ++ aw.map (·.cab)).Nodup) (h : k ∈ rk) : valV (awK aw) (Sum.inl (k : Int)) = none := by
  rw [val_aw]
  have : aw.find? (fun a => a.cab == k) = none := List.find?_eq_none.mpr fun a ha c => by
    have e : a.cab = k := by simpa using c
    have := (List.nodup_append.mp nd).2.2 k h a.cab (List.mem_map.mpr ⟨a, ha, rfl⟩)
    exact this e.symm
  rw [this]
  rfl
theorem ok_take1 {f : Addr} {fd : FuncData} (F : Fun K "take_first" "take_first" sTake1 f fd) (T : RTxt K mg CR) : FnOk P w K mg base CX0 1 f fd ["rank", "now"] (spTake1 CR) := by
  refine F.ok scTake1 (fun vs H Q E h => ?_) (fun cdv A outer s H vs Q E hr h => ?_)
  · obtain ⟨aR, dR, aW, aA, rk, aw, k, now, rfl, _⟩ := h
    rfl
  · obtain ⟨aR, dR, aW, aA, rk, aw, k, now, rfl, R, few, q⟩ := h
    have szl : sizeLine = 16777216 := by decide
    refine ⟨_, pss_cons (ps_set (i := 2) scTake1.nd rfl (.inl rfl) (pe_bm PySem.F.plainAttrs_list PySem.F.slot_list_pop PySem.F.type_list_pop mt_popAt (pe_fld (pv 0) rfl) (pa_cons (pe_int) (pa_nil)))) (pss_cons (ps_dput (hu_of hr) (pe_fld (pv 0) rfl) (pv 2) (pv 1) rfl) (pss_one (ps_ret (pv 2)))), ?_⟩
    refine ⟨_, rfl, aR, CR, dR, _, _, rfl, R.obj, T.cl, T.n_waiting, rF_waiting, .inl ⟨rfl, _, SqL.of R.wai⟩, aW, _, 0, 0, V.int (k : Int), rfl, rfl, R.wai, (by decide), (by decide), by simp [seqIndex?, rkV], rfl, ?_⟩
    have c1 : Chg aW aA H (upd H aW (.lst (rkV rk))) := Chg.up
    have hW : (upd H aW (.lst (rkV rk))) aW = some (.lst (rkV rk)) := upd_same
    show tSeq _ _ _ _ (upd H aW (.lst (rkV rk)))
    have hA : (upd H aW (.lst (rkV rk))) aA = some (.dK (awK aw)) := by rw [upd_ne (Ne.symm R.wa)]; exact R.awy
    generalize upd H aW (.lst (rkV rk)) = H1 at c1 hW hA
    refine ⟨_, rfl, _, rfl, aR, CR, dR, _, _, rfl, c1 _ _ R.obj R.rw R.ra, T.cl, T.n_away, rF_away, _, rfl, aA, _, rfl, DPut.k (k := Sum.inl (k : Int)) hA (by rw [awK_len]; omega), _, rfl, ?_⟩
    have nv : valV (awK aw) (Sum.inl (k : Int)) = none := notin_aw R.nd List.mem_cons_self
    rw [putK_new _ nv]
    have ea : awK aw ++ [(Sum.inl (k : Int), V.int (now : Int))] = awK (aw ++ [⟨k, now⟩]) := by
      unfold awK
      rw [List.map_append]
      rfl
    rw [ea]
    refine q _ (R.put (c1.trans Chg.up2) ?_ upd_same ?_) (c1.trans Chg.up2)
    · rw [upd_ne R.wa]
      exact hW
    · rw [List.map_append]
      have p : (k :: rk ++ aw.map (·.cab)).Perm (rk ++ (aw.map (·.cab) ++ [k])) := by
        rw [List.cons_append, ← List.append_assoc]
        exact (List.perm_append_singleton k (rk ++ aw.map (·.cab))).symm
      exact p.nodup_iff.mp R.nd

def spKeeps : Sp := fun vs H Q _ => ∃ (since now fare : Nat), vs = [.int (since : Int), .int (now : Int), .int (fare : Int)] ∧ Q (.bl (decide (now ≤ since + 900 ∧ fare < 500))) H
theorem scKeeps : FnScope ["since", "now", "fare"] ["since", "now", "fare"] (defScope sKeeps) := ⟨rfl, rfl, rfl, by decide +kernel, rfl, by decide +kernel, by decide +kernel⟩
theorem ok_keeps {f : Addr} {fd : FuncData} (F : Fun K "keeps_turn" "keeps_turn" sKeeps f fd) (T : RTxt K mg CR) : FnOk P w K mg base CX0 1 f fd ["since", "now", "fare"] spKeeps := by
  refine F.ok scKeeps (fun vs H Q E h => ?_) (fun cdv A outer s H vs Q E hr h => ?_)
  · obtain ⟨since, now, fare, rfl, _⟩ := h
    rfl
  · obtain ⟨since, now, fare, rfl, q⟩ := h
    obtain ⟨tS, gS⟩ := T.soon
    obtain ⟨tW, gW⟩ := T.worth
    refine ⟨_, pss_one (ps_ret (pe_and (pe_cmpR op_le (pe_op op_sub (pv 1) (pv 0)) (pe_gint rfl gS) (nomark _)) (pe_one (pe_cmpR op_lt (pv 2) (pe_gint rfl gW) (nomark _))))), ?_⟩
    refine ⟨_, rfl, _, rfl, _, _, rfl, rfl, _, _, rfl, rfl, _, rfl, ite_dec (fun c => ?_) (fun c => ?_)⟩
    · refine ⟨_, rfl, _, _, rfl, rfl, ?_⟩
      have e : decide (now ≤ since + 900 ∧ fare < 500) = decide ((fare : Int) < 500) := by
        rw [Bool.eq_iff_iff, decide_eq_true_iff, decide_eq_true_iff]
        omega
      rw [e] at q
      exact q
    · have e : decide (now ≤ since + 900 ∧ fare < 500) = false := by
        rw [decide_eq_false_iff_not]
        omega
      rw [e] at q
      exact q

def backTo (rk : List Nat) (k left now fare : Nat) : List Nat := if now ≤ left + 900 ∧ fare < 500 then k :: rk else rk ++ [k]
def spBring (CR : Addr) : Sp := fun vs H Q _ => ∃ (aR dR aW aA : Addr) (rk : List Nat) (aw : List Mu30.Away) (k now fare : Nat) (a : Mu30.Away), vs = [.ref aR, .int (k : Int), .int (now : Int), .int (fare : Int)] ∧ RankAt CR H aR dR aW aA rk aw ∧ rk.length ≤ 90000 ∧ (aw.find? fun a => a.cab == k) = some a ∧
  ∀ H' : Hp, RankAt CR H' aR dR aW aA (backTo rk k a.left now fare) (aw.filter fun b => b.cab != k) → Chg aW aA H H' → Q (.int (((backTo rk k a.left now fare).findIdx fun c => c == k : Nat) : Int)) H'
theorem scBring : FnScope ["rank", "cab", "now", "fare", "since", "ahead"] ["rank", "cab", "now", "fare"] (defScope sBring) := ⟨rfl, rfl, rfl, by decide +kernel, rfl, by decide +kernel, by decide +kernel⟩
theorem find_last {k : Nat} : ∀ {rk : List Nat}, k ∉ rk → (rk ++ [k]).findIdx (fun c => c == k) = rk.length
  | [], _ => by simp [List.findIdx_cons]
  | n :: rk, h => by
    have h1 : n ≠ k := fun z => h (by simp [z])
    have h2 : k ∉ rk := fun z => h (List.mem_cons_of_mem _ z)
    have e : (n == k) = false := by simpa using h1
    rw [List.cons_append, List.findIdx_cons, find_last h2, e]
    rfl
theorem back_nd {k : Nat} {rk : List Nat} {aw : List Mu30.Away} (nd : (rk ++ aw.map (·.cab)).Nodup) (hk : k ∉ rk) : (k :: (rk ++ (aw.filter fun b => b.cab != k).map (·.cab))).Nodup := by
  refine List.nodup_cons.mpr ⟨fun z => ?_, ?_⟩
  · rcases List.mem_append.mp z with z | z
    · exact hk z
    · obtain ⟨b, hb, e⟩ := List.mem_map.mp z
      have := (List.mem_filter.mp hb).2
      simp at this
      exact this e
  · exact nd.sublist (List.Sublist.append (List.Sublist.refl _) (List.filter_sublist.map _))
theorem ok_bring {f : Addr} {fd : FuncData} (F : Fun K "bring_back" "bring_back" sBring f fd) (N : Names K mg) (T : RTxt K mg CR) (GK : DefAt P w K mg base "keeps_turn" 1 ["since", "now", "fare"] spKeeps) : FnOk P w K mg base CX0 2 f fd ["rank", "cab", "now", "fare"] (spBring CR) := by
  refine F.ok scBring (fun vs H Q E h => ?_) (fun cdv A outer s H vs Q E hr h => ?_)
  · obtain ⟨aR, dR, aW, aA, rk, aw, k, now, fare, a, rfl, _⟩ := h
    rfl
  · obtain ⟨aR, dR, aW, aA, rk, aw, k, now, fare, a, rfl, R, few, fa, q⟩ := h
    have szl : sizeLine = 16777216 := by decide
    have hk : k ∉ rk := fun z => by
      have := notin_aw R.nd z
      rw [val_aw, fa] at this
      cases this
    have nd1 := back_nd R.nd hk
    refine ⟨_, pss_cons (ps_set (i := 4) scBring.nd rfl (.inl rfl) (pe_dpop1 (pe_fld (pv 0) rfl) (pv 1) ⟨rfl, rfl, rfl, rfl⟩)) (pss_cons (ps_set (i := 5) scBring.nd rfl (.inl rfl) (pe_len N.len rfl (pe_fld (pv 0) rfl))) (pss_cons (ps_if (pt_val (pe_def GK hr (by decide) rfl (pa_cons (pv 4) (pa_cons (pv 2) (pa_cons (pv 3) (pa_nil)))))) (pss_one (ps_set (i := 5) scBring.nd rfl (.inl rfl) (pe_int))) pss_nil) (pss_cons (ps_expr (pe_bm PySem.F.plainAttrs_list PySem.F.slot_list_insert PySem.F.type_list_insert mt_insert (pe_fld (pv 0) rfl) (pa_cons (pv 5) (pa_cons (pv 1) (pa_nil))))) (pss_one (ps_ret (pv 5)))))), ?_⟩
    refine ⟨_, rfl, aR, CR, dR, _, _, rfl, R.obj, T.cl, T.n_away, rF_away, aA, rfl, .inl ⟨_, .inl R.awy⟩, _, rfl, _, Sum.inl (k : Int), V.int (a.left : Int), R.awy, rfl, by rw [val_aw, fa]; rfl, ?_⟩
    rw [drop_aw]
    have c1 : Chg aW aA H (upd H aA (.dK (awK (aw.filter fun b => b.cab != k)))) := Chg.up2
    have hW : (upd H aA (.dK (awK (aw.filter fun b => b.cab != k)))) aW = some (.lst (rkV rk)) := by rw [upd_ne R.wa]; exact R.wai
    have hA : (upd H aA (.dK (awK (aw.filter fun b => b.cab != k)))) aA = some (.dK (awK (aw.filter fun b => b.cab != k))) := upd_same
    generalize upd H aA (.dK (awK (aw.filter fun b => b.cab != k))) = H1 at c1 hW hA
    have hR := c1 _ _ R.obj R.rw R.ra
    refine ⟨_, rfl, aR, CR, dR, _, _, rfl, hR, T.cl, T.n_waiting, rF_waiting, aW, _, rfl, .inl (SqL.of hW), ?_⟩
    refine ⟨_, rfl, _, rfl, _, rfl, a.left, now, fare, rfl, _, rfl, ite_dec (fun c => ?_) (fun c => ?_)⟩
    · have e : backTo rk k a.left now fare = k :: rk := if_pos c
      rw [e] at q
      refine ⟨_, rfl, aR, CR, dR, _, _, rfl, hR, T.cl, T.n_waiting, rF_waiting, .inl ⟨rfl, _, SqL.of hW⟩, _, rfl, _, rfl, aW, _, _, _, rfl, rfl, hW, by rw [rkV_len]; omega, by decide, by decide, _, rfl, ?_⟩
      have ei : ((k :: rk).findIdx fun c => c == k) = 0 := by simp [List.findIdx_cons]
      rw [ei] at q
      exact q _ (R.put (c1.trans Chg.up) upd_same (by rw [upd_ne (Ne.symm R.wa)]; exact hA) nd1) (c1.trans Chg.up)
    · have e : backTo rk k a.left now fare = rk ++ [k] := if_neg c
      rw [e, find_last hk] at q
      have el : ((rkV rk).length : Int) = (rk.length : Int) := by rw [rkV_len]
      refine ⟨_, rfl, aR, CR, dR, _, _, rfl, hR, T.cl, T.n_waiting, rF_waiting, .inl ⟨rfl, _, SqL.of hW⟩, _, rfl, _, rfl, aW, _, _, _, rfl, rfl, hW, by rw [rkV_len]; omega, Int.natCast_nonneg _, by rw [rkV_len]; omega, _, rfl, ?_⟩
      rw [el]
      refine q _ (R.put (c1.trans Chg.up) ?_ (by rw [upd_ne (Ne.symm R.wa)]; exact hA) ?_) (c1.trans Chg.up)
      · rw [upd_same, Int.toNat_natCast, ← rkV_len rk, List.take_length, List.drop_length, List.append_nil]
        unfold rkV
        rw [List.map_append]
        rfl
      · have p : (k :: (rk ++ (aw.filter fun b => b.cab != k).map (·.cab))).Perm (rk ++ [k] ++ (aw.filter fun b => b.cab != k).map (·.cab)) := by
          rw [List.append_assoc]
          exact List.perm_middle.symm
        exact p.nodup_iff.mp nd1
end
end TR


set_option Elab.async false
set_option linter.all false
set_option maxRecDepth 100000
set_option maxHeartbeats 2000000
namespace TR
open PySem PySem.Spec PyProof.Rows L2
open Mu30 (Q frac Tariff Hire)

/-- what an answer of the rank owes -/
def RDue (CR : Addr) (H : Hp) (aR dR aW aA : Addr) (rk : List Nat) (aw : List Mu30.Away) (x : Mu30.Call) (Q : VK) : Prop :=
  ∀ (H' : Hp) (l : Addr) (rk' : List Nat) (aw' : List Mu30.Away) (ans : List Int), (∀ st : Mu30.State, st.rank = rk → st.away = aw → Mu30.step st x = ({ st with rank := rk', away := aw' }, ans)) → RankAt CR H' aR dR aW aA rk' aw' →
    H l = none → H' l = some (.lst (ans.map V.int)) → ans.length ≤ 200000 → rk'.length + aw'.length ≤ rk.length + aw.length + 1 → Chg aW aA H H' → Q (.ref l) H'
theorem rdue_no {CR : Addr} {H : Hp} {aR dR aW aA : Addr} {rk : List Nat} {aw : List Mu30.Away} {x : Mu30.Call} {Q : VK} {ans : List Int} (R : RankAt CR H aR dR aW aA rk aw) (D : RDue CR H aR dR aW aA rk aw x Q) (e : ∀ st : Mu30.State, st.rank = rk → st.away = aw → Mu30.step st x = (st, ans))
    (hl : ans.length ≤ 200000) {H' : Hp} (s : Same H H') {l : Addr} (nl : H l = none) (h' : H' l = some (.lst (ans.map V.int))) : Q (.ref l) H' := by
  refine D _ l rk aw ans (fun st e1 e2 => ?_) (R.stay fun b o e _ => s _ _ e) nl h' hl (by omega) (Chg.of s)
  rw [e st e1 e2]
  obtain ⟨a, b, c, d⟩ := st
  cases e1
  cases e2
  rfl
/-- a new list behind a change -/
theorem free_chg {H H1 : Hp} {aW aA : Addr} {xs : List V} {kvs : List (Key × V)} (c : Chg aW aA H H1) (hW : H1 aW = some (.lst xs)) (hA : H1 aA = some (.dK kvs)) {l : Addr} (nl : H1 l = none) : H l = none := by
  cases z : H l with
  | none => rfl
  | some o =>
    have n1 : l ≠ aW := fun e => by rw [e, hW] at nl; cases nl
    have n2 : l ≠ aA := fun e => by rw [e, hA] at nl; cases nl
    rw [c _ _ z n1 n2] at nl
    cases nl
theorem rkV_app (rk : List Nat) (k : Nat) : rkV rk ++ [V.int (k : Int)] = rkV (rk ++ [k]) := by
  unfold rkV
  rw [List.map_append]
  rfl
section
variable {P : Program} {w : World} {K : PySem.W.Frag} {mg : Str → Option Value} {base : Heap} {C CC CR : Addr}

def spJoinA (CR : Addr) : Sp := fun vs H Q _ => ∃ (aR dR aW aA : Addr) (rk : List Nat) (aw : List Mu30.Away) (k : Nat), vs = [.ref aR, .int (k : Int)] ∧ RankAt CR H aR dR aW aA rk aw ∧ rk.length + aw.length ≤ 90000 ∧ RDue CR H aR dR aW aA rk aw (.join k) Q
theorem scJoinA : FnScope ["rank", "cab"] ["rank", "cab"] (defScope sJoinA) := ⟨rfl, rfl, rfl, by decide +kernel, rfl, by decide +kernel, by decide +kernel⟩
theorem ok_joinA {f : Addr} {fd : FuncData} (F : Fun K "answer_join" "answer_join" sJoinA f fd) (N : Names K mg) (T : RTxt K mg CR) (GK : DefAt P w K mg base "is_known" 1 ["rank", "cab"] (spKnown CR)) : FnOk P w K mg base CX0 3 f fd ["rank", "cab"] (spJoinA CR) := by
  refine F.ok scJoinA (fun vs H Q E h => ?_) (fun cdv A outer s H vs Q E hr h => ?_)
  · obtain ⟨aR, dR, aW, aA, rk, aw, k, rfl, _⟩ := h
    rfl
  · obtain ⟨aR, dR, aW, aA, rk, aw, k, rfl, R, few, D⟩ := h
    have szl : sizeLine = 16777216 := by decide
    have sl1 : 1 ≤ sizeLine := by decide
    obtain ⟨t9, g9⟩ := T.cab
    obtain ⟨t1, g1⟩ := T.wrong
    obtain ⟨t4, g4⟩ := T.isThere
    refine ⟨_, pss_cons (ps_if (pt_cmpR op_gt (pv 1) (pe_gint rfl g9) (nomark _)) (pss_one (ps_ret (pe_lst (pa_cons (pe_gint rfl g1) pa_nil)))) pss_nil) (pss_cons (ps_if (pt_val (pe_def GK hr (by decide) rfl (pa_cons (pv 0) (pa_cons (pv 1) (pa_nil))))) (pss_one (ps_ret (pe_lst (pa_cons (pe_gint rfl g4) pa_nil)))) pss_nil) (pss_cons (ps_expr (pe_bm PySem.F.plainAttrs_list PySem.F.slot_list_append PySem.F.type_list_append mt_append (pe_fld (pv 0) rfl) (pa_cons (pv 1) (pa_nil)))) (pss_one (ps_ret (pe_lst (pa_cons (pe_len N.len rfl (pe_fld (pv 0) rfl)) pa_nil)))))), ?_⟩
    refine ⟨_, rfl, _, _, rfl, rfl, _, rfl, ite_dec (fun c => ?_) (fun c => ?_)⟩
    · refine ⟨sl1, fun l hl => ?_⟩
      exact rdue_no R D (ans := [-1]) (fun st e1 e2 => if_pos (by omega)) (by decide) (same_up hl) hl upd_same
    · have c9 : ¬ 99 < k := by omega
      refine ⟨_, rfl, _, rfl, aR, dR, aW, aA, rk, aw, k, rfl, R, _, rfl, ite_bool (fun c1 => ?_) (fun c1 => ?_)⟩
      · refine ⟨sl1, fun l hl => ?_⟩
        refine rdue_no R D (ans := [-4]) (fun st e1 e2 => ?_) (by decide) (same_up hl) hl upd_same
        show (if 99 < k then _ else if _ then _ else _) = _
        rw [if_neg c9, if_pos]
        rw [e1, e2]
        exact Bool.or_eq_true_iff.mp c1
      · have c2 : ¬ (rk.contains k = true ∨ (aw.any fun a => a.cab == k) = true) := fun z => by
          rw [Bool.or_eq_true_iff.mpr z] at c1
          cases c1
        refine ⟨_, rfl, aR, CR, dR, _, _, rfl, R.obj, T.cl, T.n_waiting, rF_waiting, .inl ⟨rfl, _, SqL.of R.wai⟩, _, rfl, aW, _, _, rfl, rfl, R.wai, by rw [rkV_len]; omega, ?_⟩
        rw [rkV_app]
        have c1 : Chg aW aA H (upd H aW (.lst (rkV (rk ++ [k])))) := Chg.up
        have hW : (upd H aW (.lst (rkV (rk ++ [k])))) aW = some (.lst (rkV (rk ++ [k]))) := upd_same
        have hA : (upd H aW (.lst (rkV (rk ++ [k])))) aA = some (.dK (awK aw)) := by rw [upd_ne (Ne.symm R.wa)]; exact R.awy
        generalize upd H aW (.lst (rkV (rk ++ [k]))) = H1 at c1 hW hA
        refine ⟨_, rfl, aR, CR, dR, _, _, rfl, c1 _ _ R.obj R.rw R.ra, T.cl, T.n_waiting, rF_waiting, aW, _, rfl, .inl (SqL.of hW), sl1, fun l hl => ?_⟩
        rw [rkV_len, List.length_append]
        have nk : k ∉ rk := fun z => c2 (.inl (List.contains_iff_mem.mpr z))
        have na : k ∉ aw.map (·.cab) := fun z => by
          obtain ⟨a, ha, e⟩ := List.mem_map.mp z
          exact c2 (.inr (List.any_eq_true.mpr ⟨a, ha, by simp [e]⟩))
        have nd1 : (rk ++ [k] ++ aw.map (·.cab)).Nodup := by
          have p : (k :: (rk ++ aw.map (·.cab))).Perm (rk ++ [k] ++ aw.map (·.cab)) := by
            rw [List.append_assoc]
            exact List.perm_middle.symm
          refine p.nodup_iff.mp (List.nodup_cons.mpr ⟨fun z => ?_, R.nd⟩)
          rcases List.mem_append.mp z with z | z
          · exact nk z
          · exact na z
        refine D _ l (rk ++ [k]) aw [((rk.length + 1 : Nat) : Int)] (fun st e1 e2 => ?_) ((R.put c1 hW hA nd1).stay fun b o e _ => same_up hl _ _ e) (free_chg c1 hW hA hl) upd_same (by show 1 ≤ 200000; decide) (by rw [List.length_append, List.length_singleton]; omega) (c1.trans (Chg.of (same_up hl)))
        show (if 99 < k then _ else if _ then _ else _) = _
        rw [if_neg c9, if_neg (by rw [e1, e2]; exact c2)]
        obtain ⟨a, b, c, d⟩ := st
        cases e1
        cases e2
        rfl

def spTakeA (CR : Addr) : Sp := fun vs H Q _ => ∃ (aR dR aW aA : Addr) (rk : List Nat) (aw : List Mu30.Away) (now : Nat), vs = [.ref aR, .int (now : Int)] ∧ RankAt CR H aR dR aW aA rk aw ∧ rk.length + aw.length ≤ 90000 ∧ RDue CR H aR dR aW aA rk aw (.take now) Q
theorem scTakeA : FnScope ["rank", "now"] ["rank", "now"] (defScope sTakeA) := ⟨rfl, rfl, rfl, by decide +kernel, rfl, by decide +kernel, by decide +kernel⟩
theorem ok_takeA {f : Addr} {fd : FuncData} (F : Fun K "answer_take" "answer_take" sTakeA f fd) (N : Names K mg) (T : RTxt K mg CR) (GT : DefAt P w K mg base "take_first" 1 ["rank", "now"] (spTake1 CR)) : FnOk P w K mg base CX0 3 f fd ["rank", "now"] (spTakeA CR) := by
  refine F.ok scTakeA (fun vs H Q E h => ?_) (fun cdv A outer s H vs Q E hr h => ?_)
  · obtain ⟨aR, dR, aW, aA, rk, aw, now, rfl, _⟩ := h
    rfl
  · obtain ⟨aR, dR, aW, aA, rk, aw, now, rfl, R, few, D⟩ := h
    have sl1 : 1 ≤ sizeLine := by decide
    obtain ⟨t6, g6⟩ := T.nobody
    refine ⟨_, pss_cons (ps_if (pt_cmpR op_eq (pe_len N.len rfl (pe_fld (pv 0) rfl)) pe_int (nomark _)) (pss_one (ps_ret (pe_lst (pa_cons (pe_gint rfl g6) pa_nil)))) pss_nil) (pss_one (ps_ret (pe_lst (pa_cons (pe_def GT hr (by decide) rfl (pa_cons (pv 0) (pa_cons (pv 1) (pa_nil)))) pa_nil)))), ?_⟩
    refine ⟨_, rfl, aR, CR, dR, _, _, rfl, R.obj, T.cl, T.n_waiting, rF_waiting, aW, _, rfl, .inl (SqL.of R.wai), rfl, _, rfl, ite_eq (fun c => ?_) (fun c => ?_)⟩
    · rw [rkV_len] at c
      have e : rk = [] := List.eq_nil_of_length_eq_zero (by omega)
      subst e
      refine ⟨sl1, fun l hl => ?_⟩
      refine rdue_no R D (ans := [-6]) (fun st e1 e2 => ?_) (by decide) (same_up hl) hl upd_same
      show (match st.rank with | [] => _ | k :: l => _) = _
      rw [e1]
    · rw [rkV_len] at c
      cases rk with
      | nil => exact absurd rfl c
      | cons k rk =>
        have fw : aw.length ≤ 90000 := by omega
        refine ⟨_, rfl, _, rfl, aR, dR, aW, aA, rk, aw, k, now, rfl, R, fw, fun H1 R1 c1 => ⟨sl1, fun l hl => ?_⟩⟩
        refine D _ l rk (aw ++ [⟨k, now⟩]) [(k : Int)] (fun st e1 e2 => ?_) (R1.stay fun b o e _ => same_up hl _ _ e) (free_chg c1 R1.wai R1.awy hl) upd_same (by show 1 ≤ 200000; decide) (by rw [List.length_append, List.length_singleton, List.length_cons]; omega) (c1.trans (Chg.of (same_up hl)))
        show (match st.rank with | [] => _ | k :: l => _) = _
        rw [e1, e2]

def spBackA (CR : Addr) : Sp := fun vs H Q _ => ∃ (aR dR aW aA : Addr) (rk : List Nat) (aw : List Mu30.Away) (k now fare : Nat), vs = [.ref aR, .int (k : Int), .int (now : Int), .int (fare : Int)] ∧ RankAt CR H aR dR aW aA rk aw ∧ rk.length + aw.length ≤ 90000 ∧ RDue CR H aR dR aW aA rk aw (.back k now fare) Q
theorem scBackA : FnScope ["rank", "cab", "now", "fare"] ["rank", "cab", "now", "fare"] (defScope sBackA) := ⟨rfl, rfl, rfl, by decide +kernel, rfl, by decide +kernel, by decide +kernel⟩
theorem back_len (rk : List Nat) (k a now fare : Nat) : (backTo rk k a now fare).length = rk.length + 1 := by
  unfold backTo
  split
  · rfl
  · rw [List.length_append]
    rfl
theorem ok_backA {f : Addr} {fd : FuncData} (F : Fun K "answer_back" "answer_back" sBackA f fd) (N : Names K mg) (T : RTxt K mg CR) (GB : DefAt P w K mg base "bring_back" 2 ["rank", "cab", "now", "fare"] (spBring CR)) : FnOk P w K mg base CX0 3 f fd ["rank", "cab", "now", "fare"] (spBackA CR) := by
  refine F.ok scBackA (fun vs H Q E h => ?_) (fun cdv A outer s H vs Q E hr h => ?_)
  · obtain ⟨aR, dR, aW, aA, rk, aw, k, now, fare, rfl, _⟩ := h
    rfl
  · obtain ⟨aR, dR, aW, aA, rk, aw, k, now, fare, rfl, R, few, D⟩ := h
    have sl1 : 1 ≤ sizeLine := by decide
    obtain ⟨t4, g4⟩ := T.notThere
    obtain ⟨t1, g1⟩ := T.wrong
    refine ⟨_, pss_cons (ps_if (pt_cmp (pc_dnotin (hu_of hr) (pv 1) (pe_fld (pv 0) rfl))) (pss_one (ps_ret (pe_lst (pa_cons (pe_gint rfl g4) pa_nil)))) pss_nil) (pss_cons (ps_if (pt_cmpR op_lt (pv 2) (pe_dget (hu_of hr) (pe_fld (pv 0) rfl) (pv 1) (fun _ _ => rfl)) (nomark _)) (pss_one (ps_ret (pe_lst (pa_cons (pe_gint rfl g1) pa_nil)))) pss_nil) (pss_one (ps_ret (pe_lst (pa_cons (pe_def GB hr (by decide) rfl (pa_cons (pv 0) (pa_cons (pv 1) (pa_cons (pv 2) (pa_cons (pv 3) (pa_nil)))))) pa_nil))))), ?_⟩
    refine ⟨_, rfl, _, rfl, aR, CR, dR, _, _, rfl, R.obj, T.cl, T.n_away, rF_away, aA, _, rfl, DGet.k (k := Sum.inl (k : Int)) R.awy, _, rfl, ?_⟩
    rw [val_aw]
    cases fa : aw.find? (fun a => a.cab == k) with
    | none =>
      refine ⟨sl1, fun l hl => ?_⟩
      refine rdue_no R D (ans := [-4]) (fun st e1 e2 => ?_) (by decide) (same_up hl) hl upd_same
      show (match st.away.find? fun (a : Mu30.Away) => a.cab == k with | none => _ | some a => _) = _
      rw [e2, fa]
    | some a =>
      have va : DGet H aA (kV (Sum.inl (k : Int))) (some (V.int (a.left : Int))) := by
        have := DGet.k (k := Sum.inl (k : Int)) R.awy
        rw [val_aw, fa] at this
        exact this
      refine ⟨_, rfl, _, rfl, aR, CR, dR, _, _, rfl, R.obj, T.cl, T.n_away, rF_away, _, rfl, aA, _, rfl, va, ?_⟩
      refine ⟨_, _, rfl, rfl, _, rfl, ite_dec (fun c => ?_) (fun c => ?_)⟩
      · refine ⟨sl1, fun l hl => ?_⟩
        refine rdue_no R D (ans := [-1]) (fun st e1 e2 => ?_) (by decide) (same_up hl) hl upd_same
        show (match st.away.find? fun (a : Mu30.Away) => a.cab == k with | none => _ | some a => _) = _
        rw [e2, fa]
        exact if_pos (by omega)
      · have fw : rk.length ≤ 90000 := by omega
        refine ⟨_, rfl, _, rfl, _, rfl, _, rfl, aR, dR, aW, aA, rk, aw, k, now, fare, a, rfl, R, fw, fa, fun H1 R1 c1 => ⟨sl1, fun l hl => ?_⟩⟩
        refine D _ l _ _ [_] (fun st e1 e2 => ?_) (R1.stay fun b o e _ => same_up hl _ _ e) (free_chg c1 R1.wai R1.awy hl) upd_same (by show 1 ≤ 200000; decide) ?_ (c1.trans (Chg.of (same_up hl)))
        · show (match st.away.find? fun (a : Mu30.Away) => a.cab == k with | none => _ | some a => _) = _
          rw [e2, fa]
          show (if now < a.left then _ else _) = _
          rw [if_neg (by omega), e1]
          rfl
        · rw [back_len]
          have := List.length_filter_le (fun b : Mu30.Away => b.cab != k) aw
          omega

def spLeaveA (CR : Addr) : Sp := fun vs H Q _ => ∃ (aR dR aW aA : Addr) (rk : List Nat) (aw : List Mu30.Away) (k : Nat), vs = [.ref aR, .int (k : Int)] ∧ RankAt CR H aR dR aW aA rk aw ∧ rk.length + aw.length ≤ 90000 ∧ RDue CR H aR dR aW aA rk aw (.leave k) Q
theorem scLeaveA : FnScope ["rank", "cab"] ["rank", "cab"] (defScope sLeaveA) := ⟨rfl, rfl, rfl, by decide +kernel, rfl, by decide +kernel, by decide +kernel⟩
theorem nats_at {rk : List Nat} {j : Nat} {k : Nat} : (rk.map fun (n : Nat) => (n : Int))[j]? = some (k : Int) ↔ rk[j]? = some k := by
  rw [List.getElem?_map]
  cases rk[j]? with
  | none => simp
  | some n =>
    simp
    omega
theorem erase_filter {k : Nat} : ∀ {rk : List Nat} {j : Nat}, rk.Nodup → rk[j]? = some k → rk.eraseIdx j = rk.filter fun c => c != k
  | [], _, _, h => by simp at h
  | n :: rk, 0, nd, h => by
    cases h
    obtain ⟨n1, _⟩ := List.nodup_cons.mp nd
    rw [List.filter_cons, if_neg (by simp)]
    show rk = _
    refine (List.filter_eq_self.mpr fun a ha => ?_).symm
    simp
    exact fun z => n1 (z ▸ ha)
  | n :: rk, j + 1, nd, h => by
    obtain ⟨n1, n2⟩ := List.nodup_cons.mp nd
    have h' : rk[j]? = some k := h
    have hk : k ∈ rk := List.mem_of_getElem? h'
    have ne : n ≠ k := fun z => n1 (z ▸ hk)
    rw [List.filter_cons, if_pos (by simpa using ne)]
    show n :: rk.eraseIdx j = _
    rw [erase_filter n2 h']
theorem erase_nats : ∀ (l : List Nat) (j : Nat), (l.map fun (n : Nat) => (n : Int)).eraseIdx j = (l.eraseIdx j).map fun (n : Nat) => (n : Int)
  | [], j => by simp
  | a :: r, 0 => by simp
  | a :: r, j + 1 => by
    have ih := erase_nats r j
    simp [ih]
theorem ok_leaveA {f : Addr} {fd : FuncData} (F : Fun K "answer_leave" "answer_leave" sLeaveA f fd) (N : Names K mg) (T : RTxt K mg CR) : FnOk P w K mg base CX0 3 f fd ["rank", "cab"] (spLeaveA CR) := by
  refine F.ok scLeaveA (fun vs H Q E h => ?_) (fun cdv A outer s H vs Q E hr h => ?_)
  · obtain ⟨aR, dR, aW, aA, rk, aw, k, rfl, _⟩ := h
    rfl
  · obtain ⟨aR, dR, aW, aA, rk, aw, k, rfl, R, few, D⟩ := h
    have sl1 : 1 ≤ sizeLine := by decide
    obtain ⟨t4, g4⟩ := T.notThere
    refine ⟨_, pss_cons (ps_if (pt_cmpR op_notIn_seq (pv 1) (pe_fld (pv 0) rfl) rfl) (pss_one (ps_ret (pe_lst (pa_cons (pe_gint rfl g4) pa_nil)))) pss_nil) (pss_cons (ps_expr (pe_bm PySem.F.plainAttrs_list PySem.F.slot_list_remove PySem.F.type_list_remove mt_remove (pe_fld (pv 0) rfl) (pa_cons (pv 1) (pa_nil)))) (pss_one (ps_ret (pe_lst (pa_cons (pe_len N.len rfl (pe_fld (pv 0) rfl)) pa_nil))))), ?_⟩
    refine ⟨_, rfl, _, rfl, aR, CR, dR, _, _, rfl, R.obj, T.cl, T.n_waiting, rF_waiting, aW, _, rfl, .inl (SqL.of R.wai), rfl, rkV_flat rk, _, rfl, rnotin_ite (fun c => ?_) (fun c => ?_)⟩
    · refine ⟨sl1, fun l hl => ?_⟩
      refine rdue_no R D (ans := [-4]) (fun st e1 e2 => ?_) (by decide) (same_up hl) hl upd_same
      show (if st.rank.contains k = false then _ else _) = _
      rw [e1]
      exact if_pos c
    · have hk : k ∈ rk := List.contains_iff_mem.mp c
      have ndr : rk.Nodup := (List.nodup_append.mp R.nd).1
      obtain ⟨j, hj⟩ := List.getElem?_of_mem hk
      have hjl : j < rk.length := (List.getElem?_eq_some_iff.mp hj).1
      have first : ∀ m : Nat, m < j → (rk.map fun (n : Nat) => (n : Int))[m]? ≠ some (k : Int) := fun m hm z => by
        have z' := nats_at.mp z
        have := (List.getElem?_inj (by omega) ndr).mp (z'.trans hj.symm)
        omega
      have hW0 : H aW = some (.lst ((rk.map fun (n : Nat) => (n : Int)).map V.int)) := by rw [← rkV_ints]; exact R.wai
      refine ⟨_, rfl, aR, CR, dR, _, _, rfl, R.obj, T.cl, T.n_waiting, rF_waiting, .inl ⟨rfl, _, SqL.of R.wai⟩, _, rfl, aW, _, (k : Int), j, rfl, rfl, hW0, nats_at.mpr hj, first, ?_⟩
      have er : ((rk.map fun (n : Nat) => (n : Int)).eraseIdx j).map V.int = rkV (rk.filter fun c => c != k) := by
        rw [rkV_ints, ← erase_filter ndr hj, erase_nats]
      rw [er]
      have c1 : Chg aW aA H (upd H aW (.lst (rkV (rk.filter fun c => c != k)))) := Chg.up
      have hW : (upd H aW (.lst (rkV (rk.filter fun c => c != k)))) aW = some (.lst (rkV (rk.filter fun c => c != k))) := upd_same
      have hA : (upd H aW (.lst (rkV (rk.filter fun c => c != k)))) aA = some (.dK (awK aw)) := by rw [upd_ne (Ne.symm R.wa)]; exact R.awy
      generalize upd H aW (.lst (rkV (rk.filter fun c => c != k))) = H1 at c1 hW hA
      have len : (rk.filter fun c => c != k).length = rk.length - 1 := by
        rw [← erase_filter ndr hj, List.length_eraseIdx, if_pos hjl]
      refine ⟨_, rfl, aR, CR, dR, _, _, rfl, c1 _ _ R.obj R.rw R.ra, T.cl, T.n_waiting, rF_waiting, aW, _, rfl, .inl (SqL.of hW), sl1, fun l hl => ?_⟩
      rw [rkV_len, len]
      have nd1 : ((rk.filter fun c => c != k) ++ aw.map (·.cab)).Nodup := R.nd.sublist (List.Sublist.append List.filter_sublist (List.Sublist.refl _))
      refine D _ l (rk.filter fun c => c != k) aw [((rk.length - 1 : Nat) : Int)] (fun st e1 e2 => ?_) ((R.put c1 hW hA nd1).stay fun b o e _ => same_up hl _ _ e) (free_chg c1 hW hA hl) upd_same (by show 1 ≤ 200000; decide) (by omega) (c1.trans (Chg.of (same_up hl)))
      show (if st.rank.contains k = false then _ else _) = _
      rw [if_neg (by rw [e1, c]; decide)]
      obtain ⟨a, b, c, d⟩ := st
      cases e1
      cases e2
      rfl

def spRankA (CR : Addr) : Sp := fun vs H Q _ => ∃ (aR dR aW aA : Addr) (rk : List Nat) (aw : List Mu30.Away), vs = [.ref aR] ∧ RankAt CR H aR dR aW aA rk aw ∧ rk.length + aw.length ≤ 90000 ∧ RDue CR H aR dR aW aA rk aw .rank Q
theorem scRankA : FnScope ["rank"] ["rank"] (defScope sRankA) := ⟨rfl, rfl, rfl, by decide +kernel, rfl, by decide +kernel, by decide +kernel⟩
theorem ok_rankA {f : Addr} {fd : FuncData} (F : Fun K "answer_rank" "answer_rank" sRankA f fd) (N : Names K mg) (T : RTxt K mg CR) : FnOk P w K mg base CX0 3 f fd ["rank"] (spRankA CR) := by
  refine F.ok scRankA (fun vs H Q E h => ?_) (fun cdv A outer s H vs Q E hr h => ?_)
  · obtain ⟨aR, dR, aW, aA, rk, aw, rfl, _⟩ := h
    rfl
  · obtain ⟨aR, dR, aW, aA, rk, aw, rfl, R, few, D⟩ := h
    have szl : sizeLine = 16777216 := by decide
    have sl1 : 1 ≤ sizeLine := by decide
    refine ⟨_, pss_one (ps_ret (pe_op op_cat (pe_op op_cat (pe_op op_cat (pe_lst (pa_cons (pe_len N.len rfl (pe_fld (pv 0) rfl)) (pa_nil))) (pe_fld (pv 0) rfl)) (pe_lst (pa_cons (pe_callB call_lenD (by rfl) N.len PySem.boot_len (pa_cons (pe_fld (pv 0) rfl) (pa_nil))) (pa_nil)))) (pe_callTy (call_listD rfl) (by rfl) N.list (by decide +kernel) (pa_cons (pe_fld (pv 0) rfl) (pa_nil))))), ?_⟩
    refine ⟨_, rfl, aR, CR, dR, _, _, rfl, R.obj, T.cl, T.n_waiting, rF_waiting, aW, _, rfl, .inl (SqL.of R.wai), sl1, fun l1 n1 => ?_⟩
    rw [rkV_len]
    have s1 : Same H (upd H l1 (.lst [V.int (rk.length : Int)])) := same_up n1
    have h1 : (upd H l1 (.lst [V.int (rk.length : Int)])) l1 = some (.lst [V.int (rk.length : Int)]) := upd_same
    generalize upd H l1 (.lst [V.int (rk.length : Int)]) = H1 at s1 h1
    refine ⟨_, rfl, aR, CR, dR, _, _, rfl, s1 _ _ R.obj, T.cl, T.n_waiting, rF_waiting, l1, aW, _, _, rfl, rfl, h1, s1 _ _ R.wai, by rw [rkV_len]; show 1 + _ ≤ _; omega, fun l2 n2 => ?_⟩
    have s2 : Same H1 (upd H1 l2 (.lst ([V.int (rk.length : Int)] ++ rkV rk))) := same_up n2
    have h2 : (upd H1 l2 (.lst ([V.int (rk.length : Int)] ++ rkV rk))) l2 = some (.lst ([V.int (rk.length : Int)] ++ rkV rk)) := upd_same
    generalize upd H1 l2 (.lst ([V.int (rk.length : Int)] ++ rkV rk)) = H2 at s2 h2
    have s12 := s1.trans s2
    refine ⟨_, rfl, aR, CR, dR, _, _, rfl, s12 _ _ R.obj, T.cl, T.n_away, rF_away, aA, _, rfl, s12 _ _ R.awy, sl1, fun l3 n3 => ?_⟩
    rw [awK_len]
    have s3 : Same H2 (upd H2 l3 (.lst [V.int (aw.length : Int)])) := same_up n3
    have h3 : (upd H2 l3 (.lst [V.int (aw.length : Int)])) l3 = some (.lst [V.int (aw.length : Int)]) := upd_same
    generalize upd H2 l3 (.lst [V.int (aw.length : Int)]) = H3 at s3 h3
    refine ⟨l2, l3, _, _, rfl, rfl, s3 _ _ h2, h3, by rw [List.length_append, rkV_len]; show 1 + _ + 1 ≤ _; omega, fun l4 n4 => ?_⟩
    have s4 : Same H3 (upd H3 l4 (.lst ([V.int (rk.length : Int)] ++ rkV rk ++ [V.int (aw.length : Int)]))) := same_up n4
    have h4 : (upd H3 l4 (.lst ([V.int (rk.length : Int)] ++ rkV rk ++ [V.int (aw.length : Int)]))) l4 = some (.lst ([V.int (rk.length : Int)] ++ rkV rk ++ [V.int (aw.length : Int)])) := upd_same
    generalize upd H3 l4 (.lst ([V.int (rk.length : Int)] ++ rkV rk ++ [V.int (aw.length : Int)])) = H4 at s4 h4
    have s14 := (s12.trans s3).trans s4
    refine ⟨_, rfl, aR, CR, dR, _, _, rfl, s14 _ _ R.obj, T.cl, T.n_away, rF_away, aA, _, rfl, .inl (s14 _ _ R.awy), fun l5 n5 => ?_⟩
    rw [keys_aw]
    have s5 : Same H4 (upd H4 l5 (.lst (rkV (aw.map (·.cab))))) := same_up n5
    have h5 : (upd H4 l5 (.lst (rkV (aw.map (·.cab))))) l5 = some (.lst (rkV (aw.map (·.cab)))) := upd_same
    generalize upd H4 l5 (.lst (rkV (aw.map (·.cab)))) = H5 at s5 h5
    refine ⟨l4, l5, _, _, rfl, rfl, s5 _ _ h4, h5, by rw [List.length_append, List.length_append, rkV_len, rkV_len, List.length_map]; show 1 + _ + 1 + _ ≤ _; omega, fun l6 n6 => ?_⟩
    have s15 := s14.trans s5
    have ea : [V.int (rk.length : Int)] ++ rkV rk ++ [V.int (aw.length : Int)] ++ rkV (aw.map (·.cab)) = (Mu30.nums (rk.length :: rk ++ (aw.length :: aw.map fun (a : Mu30.Away) => a.cab))).map V.int := by
      unfold rkV Mu30.nums
      simp
      rfl
    rw [ea]
    refine rdue_no R D (ans := Mu30.nums (rk.length :: rk ++ (aw.length :: aw.map fun (a : Mu30.Away) => a.cab))) (fun st e1 e2 => ?_) ?_ (s15.trans (same_up n6)) (s15.free n6) upd_same
    · show (st, _) = (st, _)
      rw [e1, e2]
    · unfold Mu30.nums
      rw [List.length_map, List.length_append, List.length_cons, List.length_cons, List.length_map]
      omega

/-- the calls of the rank -/
inductive RShape : Int → List Int → Mu30.Call → Prop
  | join (k : Nat) : RShape 10 [(k : Int)] (.join k)
  | take (t : Nat) : RShape 11 [(t : Int)] (.take t)
  | back (k t f : Nat) : RShape 12 [(k : Int), (t : Int), (f : Int)] (.back k t f)
  | leave (k : Nat) : RShape 13 [(k : Int)] (.leave k)
  | rank : RShape 14 [] .rank
def spRankC (CR : Addr) : Sp := fun vs H Q _ => ∃ (aR dR aW aA aN : Addr) (rk : List Nat) (aw : List Mu30.Away) (p : Int) (ns : List Int) (x : Mu30.Call), vs = [.ref aR, .int p, .ref aN] ∧ RankAt CR H aR dR aW aA rk aw ∧ H aN = some (.lst (ns.map V.int)) ∧ RShape p ns x ∧ rk.length + aw.length ≤ 90000 ∧ RDue CR H aR dR aW aA rk aw x Q
theorem scRankC : FnScope ["rank", "number", "numbers"] ["rank", "number", "numbers"] (defScope sRankC) := ⟨rfl, rfl, rfl, by decide +kernel, rfl, by decide +kernel, by decide +kernel⟩
theorem ok_rankC {f : Addr} {fd : FuncData} (F : Fun K "answer_rank_call" "answer_rank_call" sRankC f fd) (GJ : DefAt P w K mg base "answer_join" 3 ["rank", "cab"] (spJoinA CR)) (GT : DefAt P w K mg base "answer_take" 3 ["rank", "now"] (spTakeA CR)) (GB : DefAt P w K mg base "answer_back" 3 ["rank", "cab", "now", "fare"] (spBackA CR))
    (GL : DefAt P w K mg base "answer_leave" 3 ["rank", "cab"] (spLeaveA CR)) (GR : DefAt P w K mg base "answer_rank" 3 ["rank"] (spRankA CR)) : FnOk P w K mg base CX0 4 f fd ["rank", "number", "numbers"] (spRankC CR) := by
  refine F.ok scRankC (fun vs H Q E h => ?_) (fun cdv A outer s H vs Q E hr h => ?_)
  · obtain ⟨aR, dR, aW, aA, aN, rk, aw, p, ns, x, rfl, _⟩ := h
    rfl
  · obtain ⟨aR, dR, aW, aA, aN, rk, aw, p, ns, x, rfl, R, hN, sh, few, D⟩ := h
    refine ⟨_, pss_cons (ps_if (pt_cmpR op_eq (pv 1) pe_int (nomark _)) (pss_one (ps_ret (pe_def GJ hr (by decide) rfl (pa_cons (pv 0) (pa_cons (pe_ix ix_list (pv 2) (pe_int) (fun _ _ => rfl)) (pa_nil)))))) pss_nil) (pss_cons (ps_if (pt_cmpR op_eq (pv 1) pe_int (nomark _)) (pss_one (ps_ret (pe_def GT hr (by decide) rfl (pa_cons (pv 0) (pa_cons (pe_ix ix_list (pv 2) (pe_int) (fun _ _ => rfl)) (pa_nil)))))) pss_nil) (pss_cons (ps_if (pt_cmpR op_eq (pv 1) pe_int (nomark _)) (pss_one (ps_ret (pe_def GB hr (by decide) rfl (pa_cons (pv 0) (pa_cons (pe_ix ix_list (pv 2) (pe_int) (fun _ _ => rfl)) (pa_cons (pe_ix ix_list (pv 2) (pe_int) (fun _ _ => rfl)) (pa_cons (pe_ix ix_list (pv 2) (pe_int) (fun _ _ => rfl)) (pa_nil)))))))) pss_nil) (pss_cons (ps_if (pt_cmpR op_eq (pv 1) pe_int (nomark _)) (pss_one (ps_ret (pe_def GL hr (by decide) rfl (pa_cons (pv 0) (pa_cons (pe_ix ix_list (pv 2) (pe_int) (fun _ _ => rfl)) (pa_nil)))))) pss_nil) (pss_cons (ps_if (pt_cmpR op_eq (pv 1) pe_int (nomark _)) (pss_one (ps_ret (pe_def GR hr (by decide) rfl (pa_cons (pv 0) (pa_nil))))) pss_nil) (pss_one (ps_dead)))))), ?_⟩
    cases sh with
    | join k =>
      refine ⟨_, rfl, rfl, _, rfl, ite_eq (fun _ => ?_) (fun c => absurd rfl c)⟩
      exact ⟨_, rfl, _, rfl, aN, _, _, _, rfl, rfl, SqL.of hN, rfl, aR, dR, aW, aA, rk, aw, k, rfl, R, few, D⟩
    | take t =>
      refine ⟨_, rfl, rfl, _, rfl, ite_eq (fun c => absurd c (by decide)) (fun _ => ?_)⟩
      refine ⟨_, rfl, rfl, _, rfl, ite_eq (fun _ => ?_) (fun c => absurd rfl c)⟩
      exact ⟨_, rfl, _, rfl, aN, _, _, _, rfl, rfl, SqL.of hN, rfl, aR, dR, aW, aA, rk, aw, t, rfl, R, few, D⟩
    | back k t f =>
      refine ⟨_, rfl, rfl, _, rfl, ite_eq (fun c => absurd c (by decide)) (fun _ => ?_)⟩
      refine ⟨_, rfl, rfl, _, rfl, ite_eq (fun c => absurd c (by decide)) (fun _ => ?_)⟩
      refine ⟨_, rfl, rfl, _, rfl, ite_eq (fun _ => ?_) (fun c => absurd rfl c)⟩
      exact ⟨_, rfl, _, rfl, aN, _, _, _, rfl, rfl, SqL.of hN, rfl, _, rfl, aN, _, _, _, rfl, rfl, SqL.of hN, rfl, _, rfl, aN, _, _, _, rfl, rfl, SqL.of hN, rfl, aR, dR, aW, aA, rk, aw, k, t, f, rfl, R, few, D⟩
    | leave k =>
      refine ⟨_, rfl, rfl, _, rfl, ite_eq (fun c => absurd c (by decide)) (fun _ => ?_)⟩
      refine ⟨_, rfl, rfl, _, rfl, ite_eq (fun c => absurd c (by decide)) (fun _ => ?_)⟩
      refine ⟨_, rfl, rfl, _, rfl, ite_eq (fun c => absurd c (by decide)) (fun _ => ?_)⟩
      refine ⟨_, rfl, rfl, _, rfl, ite_eq (fun _ => ?_) (fun c => absurd rfl c)⟩
      exact ⟨_, rfl, _, rfl, aN, _, _, _, rfl, rfl, SqL.of hN, rfl, aR, dR, aW, aA, rk, aw, k, rfl, R, few, D⟩
    | rank  =>
      refine ⟨_, rfl, rfl, _, rfl, ite_eq (fun c => absurd c (by decide)) (fun _ => ?_)⟩
      refine ⟨_, rfl, rfl, _, rfl, ite_eq (fun c => absurd c (by decide)) (fun _ => ?_)⟩
      refine ⟨_, rfl, rfl, _, rfl, ite_eq (fun c => absurd c (by decide)) (fun _ => ?_)⟩
      refine ⟨_, rfl, rfl, _, rfl, ite_eq (fun c => absurd c (by decide)) (fun _ => ?_)⟩
      refine ⟨_, rfl, rfl, _, rfl, ite_eq (fun _ => ?_) (fun c => absurd rfl c)⟩
      exact ⟨_, rfl, aR, dR, aW, aA, rk, aw, rfl, R, few, D⟩
end
end TR


set_option Elab.async false
set_option linter.all false
set_option maxRecDepth 100000
set_option maxHeartbeats 2000000
namespace TR
open PySem PySem.Spec PyProof.Rows L2
open Mu30 (Q frac Tariff Hire)

abbrev sHireA : Stmt := topS 71
abbrev sRefuse : Stmt := topS 72
abbrev sDriveA : Stmt := topS 73
abbrev sExtraA : Stmt := topS 74
abbrev sFareA : Stmt := topS 75
abbrev sDropsA : Stmt := topS 76
abbrev sNextA : Stmt := topS 77
abbrev sWouldA : Stmt := topS 78

/-! ### the meter in the heap -/
def mF (vT vH : V) (rest : List (Str × V)) : List (Str × V) := ("tariffs", vT) :: ("hire", vH) :: rest
section
variable {vT vH y : V} {rest : List (Str × V)}
theorem mF_tariffs : (mF vT vH rest).lookup ("tariffs" : Str) = some vT := lk_here
theorem mF_hire : (mF vT vH rest).lookup ("hire" : Str) = some vH := (lk_past (by decide +kernel)).trans lk_here
theorem putM_tariffs : putF "tariffs" y (mF vT vH rest) = mF y vH rest := put_here
theorem putM_hire : putF "hire" y (mF vT vH rest) = mF vT y rest := (put_past (by decide +kernel)).trans (congrArg _ put_here)
end
/-- the rest of a meter: its rank and those away -/
abbrev RRel := Hp → List (Str × V) → List Addr → List Nat → List Mu30.Away → Prop
def RStay (R : RRel) : Prop := ∀ (H H' : Hp) (rest : List (Str × V)) (own : List Addr) (rk : List Nat) (aw : List Mu30.Away), R H rest own rk aw → (∀ b o, H b = some o → (b ∈ own ∨ Imm o) → H' b = some o) → R H' rest own rk aw
def HireV (C : Addr) (K : PySem.W.Frag) (H : Hp) (aM aT : Addr) (vH : V) (ownH : List Addr) (oh : Option Hire) (T : List Tariff) (n : Nat) : Prop := match oh with
  | none => vH = .non ∧ ownH = []
  | some h => ∃ aH aF, vH = .ref aH ∧ ownH = [aH, aF] ∧ aH ≠ aM ∧ HireAt C K H aH aF aT h ∧ HInv h ∧ Fit n h ∧ TOk T
structure MX (C CM : Addr) (K : PySem.W.Frag) (R : RRel) (H : Hp) (aM dx aT : Addr) (as : List Addr) (rest : List (Str × V)) (ownR : List Addr) (vH : V) (ownH : List Addr) (st : Mu30.State) (n : Nat) : Prop where
  obj : H aM = some (.ins CM dx (mF (.ref aT) vH rest))
  few : rest.length ≤ 10
  tar : TarAt H aT as st.tariffs
  tok : st.tariffs = [] ∨ TOk st.tariffs
  rnk : R H rest ownR st.rank st.away
  hire : HireV C K H aM aT vH ownH st.hire st.tariffs n
  apart : ∀ b ∈ aM :: (ownH ++ ownR), b ∉ aT :: as
  sepM : aM ∉ ownR
  sepH : ∀ b ∈ ownH, b ∉ ownR
  here : ∀ b ∈ ownR, ∃ o, H b = some o
  cnt : st.rank.length + st.away.length ≤ n
def MAt (C CM : Addr) (K : PySem.W.Frag) (R : RRel) : MRel := fun H aM own rd st n => ∃ (dx aT : Addr) (as : List Addr) (rest : List (Str × V)) (ownR : List Addr) (vH : V) (ownH : List Addr), MX C CM K R H aM dx aT as rest ownR vH ownH st n ∧ own = aM :: (ownH ++ ownR) ∧ rd = aT :: as
theorem HireAt.stay {C : Addr} {K : PySem.W.Frag} {H H' : Hp} {a aF aT : Addr} {h : Hire} (x : HireAt C K H a aF aT h) (s : ∀ b o, H b = some o → (b = a ∨ b = aF ∨ Imm o) → H' b = some o) : HireAt C K H' a aF aT h := by
  obtain ⟨dx, aG, aP, fs, h1, h2, h3, h4, h5, h6⟩ := x.ex
  have im : ∀ b o, H b = some o → Imm o → H' b = some o := fun b o e i => s b o e (.inr (.inr i))
  exact ⟨dx, aG, aP, fs, s _ _ h1 (.inl rfl), h2.imm im, h3.imm im, s _ _ h4 (.inr (.inl rfl)), h5, fun i b q e1 e2 => (h6 i b q e1 e2).imm im⟩
theorem Fit.more {n m : Nat} {h : Hire} (F : Fit n h) (hm : n ≤ m) : Fit m h := let ⟨L, f⟩ := F; ⟨L, f.more hm⟩
theorem HireV.stay {C : Addr} {K : PySem.W.Frag} {H H' : Hp} {aM aT : Addr} {vH : V} {ownH : List Addr} {oh : Option Hire} {T : List Tariff} {n m : Nat} (x : HireV C K H aM aT vH ownH oh T n) (hm : n ≤ m) (s : ∀ b o, H b = some o → (b ∈ ownH ∨ Imm o) → H' b = some o) : HireV C K H' aM aT vH ownH oh T m := by
  cases oh with
  | none => exact x
  | some h =>
    obtain ⟨aH, aF, e1, e2, e3, hh, I, F, hT⟩ := x
    refine ⟨aH, aF, e1, e2, e3, hh.stay fun b o e z => s b o e ?_, I, F.more hm, hT⟩
    rw [e2]
    rcases z with z | z | z
    · exact .inl (by simp [z])
    · exact .inl (by simp [z])
    · exact .inr z
theorem MX.stay {C CM : Addr} {K : PySem.W.Frag} {R : RRel} {H H' : Hp} {aM dx aT : Addr} {as : List Addr} {rest : List (Str × V)} {ownR : List Addr} {vH : V} {ownH : List Addr} {st : Mu30.State} {n m : Nat} (rs : RStay R) (x : MX C CM K R H aM dx aT as rest ownR vH ownH st n) (hm : n ≤ m)
    (s : ∀ b o, H b = some o → (b ∈ aM :: (ownH ++ ownR) ∨ b ∈ aT :: as ∨ Imm o) → H' b = some o) : MX C CM K R H' aM dx aT as rest ownR vH ownH st m := by
  refine ⟨s _ _ x.obj (.inl (by simp)), x.few, ⟨s _ _ x.tar.top (.inr (.inl (by simp))), x.tar.len, fun i b r e1 e2 => s _ _ (x.tar.row i b r e1 e2) (.inr (.inl ?_))⟩, x.tok, rs _ _ _ _ _ _ x.rnk fun b o e z => s b o e ?_, x.hire.stay hm fun b o e z => s b o e ?_, x.apart, x.sepM, x.sepH, fun b hb => ?_, Nat.le_trans x.cnt hm⟩
  · have := List.mem_of_getElem? e1
    simp [this]
  · rcases z with z | z
    · exact .inl (by simp [z])
    · exact .inr (.inr z)
  · rcases z with z | z
    · exact .inl (by simp [z])
    · exact .inr (.inr z)
  · obtain ⟨o, e⟩ := x.here b hb
    exact ⟨o, s b o e (.inl (by simp [hb]))⟩
theorem MAt.stay {C CM : Addr} {K : PySem.W.Frag} {R : RRel} (rs : RStay R) : MStay (MAt C CM K R) := by
  intro H H' a own rd s n x st
  obtain ⟨dx, aT, as, rest, ownR, vH, ownH, mx, rfl, rfl⟩ := x
  exact ⟨dx, aT, as, rest, ownR, vH, ownH, mx.stay rs (Nat.le_refl _) st, rfl, rfl⟩

/-! ### what an answer owes -/
def Due (M : MRel) (H : Hp) (aM : Addr) (own rd A : List Addr) (st : Mu30.State) (n : Nat) (x : Mu30.Call) (Q : VK) : Prop :=
  ∀ (H' : Hp) (l : Addr) (own' rd' : List Addr), M H' aM own' rd' (Mu30.step st x).1 (n + 400) → H l = none → H' l = some (.lst ((Mu30.step st x).2.map V.int)) → (Mu30.step st x).2.length ≤ 200000 →
    (∀ b o, H b = some o → b ∉ own → H' b = some o) → (∀ b ∈ own', b ∈ own ∨ H b = none) → (∀ b ∈ rd', b ∈ rd ∨ b ∈ A ∨ H b = none) → Q (.ref l) H'
/-- an answer that changes nothing but what is new -/
theorem due_same {C CM : Addr} {K : PySem.W.Frag} {R : RRel} (rs : RStay R) {H H' : Hp} {aM : Addr} {own rd A : List Addr} {st : Mu30.State} {n : Nat} {x : Mu30.Call} {Q : VK} {ans : List Int} (m : MAt C CM K R H aM own rd st n) (D : Due (MAt C CM K R) H aM own rd A st n x Q)
    (e : Mu30.step st x = (st, ans)) (hl : ans.length ≤ 200000) (s : Same H H') {l : Addr} (nl : H l = none) (hl' : H' l = some (.lst (ans.map V.int))) : Q (.ref l) H' := by
  refine D H' l own rd ?_ nl (by rw [e]; exact hl') (by rw [e]; exact hl) (fun b o e _ => s b o e) (fun b hb => .inl hb) (fun b hb => .inl hb)
  rw [e]
  obtain ⟨dx, aT, as, rest, ownR, vH, ownH, mx, e1, e2⟩ := m
  exact ⟨dx, aT, as, rest, ownR, vH, ownH, mx.stay rs (by omega) fun b o e _ => s b o e, e1, e2⟩
theorem due_new {C CM : Addr} {K : PySem.W.Frag} {R : RRel} (rs : RStay R) {H : Hp} {aM : Addr} {own rd A : List Addr} {st : Mu30.State} {n : Nat} {x : Mu30.Call} {Q : VK} {ans : List Int} (m : MAt C CM K R H aM own rd st n) (D : Due (MAt C CM K R) H aM own rd A st n x Q)
    (e : Mu30.step st x = (st, ans)) (hl : ans.length ≤ 200000) {l : Addr} (nl : H l = none) : Q (.ref l) (upd H l (.lst (ans.map V.int))) := due_same rs m D e hl (same_up nl) nl upd_same

theorem MX.tarThere {C CM : Addr} {K : PySem.W.Frag} {R : RRel} {H : Hp} {aM dx aT : Addr} {as : List Addr} {rest : List (Str × V)} {ownR : List Addr} {vH : V} {ownH : List Addr} {st : Mu30.State} {n : Nat} (mx : MX C CM K R H aM dx aT as rest ownR vH ownH st n) : ∀ b ∈ aT :: as, ∃ o, H b = some o := by
  intro b z
  rcases List.mem_cons.mp z with rfl | z
  · exact ⟨_, mx.tar.top⟩
  · obtain ⟨j, ej⟩ := List.getElem?_of_mem z
    obtain ⟨r, er⟩ := some_of (xs := st.tariffs.map tNums) (i := j) (by have := (List.getElem?_eq_some_iff.mp ej).1; have := mx.tar.len; omega)
    exact ⟨_, mx.tar.row _ _ _ ej er⟩
/-- another hire, of new objects -/
theorem MX.newHire {C CM : Addr} {K : PySem.W.Frag} {R : RRel} {H H' : Hp} {aM dx aT : Addr} {as : List Addr} {rest : List (Str × V)} {ownR : List Addr} {vH : V} {ownH : List Addr} {st : Mu30.State} {n m : Nat} {aH aF : Addr} {g : Hire} (rs : RStay R) (mx : MX C CM K R H aM dx aT as rest ownR vH ownH st n)
    (ho : H' aM = some (.ins CM dx (mF (.ref aT) (.ref aH) rest))) (fr : ∀ b o, H b = some o → b ≠ aM → H' b = some o) (nH : H aH = none) (nF : H aF = none) (hh : HireAt C K H' aH aF aT g) (I : HInv g) (Fi : Fit m g) (hT : TOk st.tariffs) (hm : n ≤ m) :
    MX C CM K R H' aM dx aT as rest ownR (.ref aH) [aH, aF] { st with hire := some g } m := by
  have mHne : aH ≠ aM := fun z => by rw [z, mx.obj] at nH; cases nH
  refine ⟨ho, mx.few, ?_, .inr hT, rs _ _ _ _ _ _ mx.rnk fun b o e z => fr b o e fun q => ?_, ⟨aH, aF, rfl, rfl, mHne, hh, I, Fi, hT⟩, ?_, mx.sepM, ?_, fun b hb => ?_, Nat.le_trans mx.cnt hm⟩
  · exact ⟨fr _ _ mx.tar.top (fun q => mx.apart aM (by simp) (by rw [← q]; simp)), mx.tar.len, fun i b r q1 q2 => fr _ _ (mx.tar.row i b r q1 q2) fun q => mx.apart aM (by simp) (by have := List.mem_of_getElem? q1; rw [← q]; simp [this])⟩
  · subst q
    rcases z with z | z
    · exact mx.sepM z
    · rw [mx.obj] at e
      cases e
      exact z.ins
  · intro b hb z
    obtain ⟨o, eo⟩ := mx.tarThere b z
    rcases List.mem_cons.mp hb with rfl | hb
    · exact mx.apart b (by simp) z
    · rcases List.mem_append.mp hb with hb | hb
      · rcases List.mem_cons.mp hb with rfl | hb
        · rw [nH] at eo; cases eo
        · have : b = aF := by simpa using hb
          rw [this, nF] at eo; cases eo
      · exact mx.apart b (by simp [hb]) z
  · intro b hb z
    obtain ⟨o, eo⟩ := mx.here b z
    rcases List.mem_cons.mp hb with rfl | hb
    · rw [nH] at eo; cases eo
    · have : b = aF := by simpa using hb
      rw [this, nF] at eo; cases eo
  · obtain ⟨o, eo⟩ := mx.here b hb
    exact ⟨o, fr b o eo fun q => mx.sepM (q ▸ hb)⟩
theorem due_hire {C CM : Addr} {K : PySem.W.Frag} {R : RRel} {H H' : Hp} {aM dx aT : Addr} {as : List Addr} {rest : List (Str × V)} {ownR : List Addr} {vH : V} {ownH own rd A : List Addr} {st : Mu30.State} {n : Nat} {aH aF : Addr} {g : Hire} {x : Mu30.Call} {Q : VK} {ans : List Int} (rs : RStay R) (mx : MX C CM K R H aM dx aT as rest ownR vH ownH st n)
    (e1 : own = aM :: (ownH ++ ownR)) (e2 : rd = aT :: as) (D : Due (MAt C CM K R) H aM own rd A st n x Q) (due : Mu30.step st x = ({ st with hire := some g }, ans)) (al : ans.length ≤ 200000) {l : Addr} (nl : H l = none) (hl : H' l = some (.lst (ans.map V.int)))
    (ho : H' aM = some (.ins CM dx (mF (.ref aT) (.ref aH) rest))) (fr : ∀ b o, H b = some o → b ≠ aM → H' b = some o) (nH : H aH = none) (nF : H aF = none) (hh : HireAt C K H' aH aF aT g) (I : HInv g) (Fi : Fit (n + 400) g) (hT : TOk st.tariffs) : Q (.ref l) H' := by
  refine D _ l (aM :: ([aH, aF] ++ ownR)) (aT :: as) ?_ nl (by rw [due]; exact hl) (by rw [due]; exact al) (fun b o e q => fr b o e fun z => q (by rw [e1, z]; simp)) ?_ (fun b hb => .inl (by rw [e2]; exact hb))
  · rw [due]
    exact ⟨dx, aT, as, rest, ownR, .ref aH, [aH, aF], mx.newHire rs ho fr nH nF hh I Fi hT (by omega), rfl, rfl⟩
  · intro b hb
    rcases List.mem_cons.mp hb with rfl | hb
    · exact .inl (by rw [e1]; simp)
    · rcases List.mem_append.mp hb with hb | hb
      · rcases List.mem_cons.mp hb with rfl | hb
        · exact .inr nH
        · have : b = aF := by simpa using hb
          exact .inr (by rw [this]; exact nF)
      · exact .inl (by rw [e1]; simp [hb])

structure MTxt (K : PySem.W.Frag) (mg : Str → Option Value) (CM : Addr) : Prop where
  cl : Cls K CM
  n_tariffs : NoAttr K CM "tariffs"
  n_hire : NoAttr K CM "hire"
  gC : mg "Meter" = some (.ref CM)
  fine : ∃ t, mg "FINE" = some (.int 0 t)
  wrong : ∃ t, mg "WRONG" = some (.int (-1) t)
  begun : ∃ t, mg "HAS_BEGUN" = some (.int (-4) t)
  long : ∃ t, mg "TOO_LONG" = some (.int (-5) t)
  noHire : ∃ t, mg "NO_HIRE" = some (.int (-6) t)
  noTar : ∃ t, mg "NO_TARIFFS" = some (.int (-9) t)
  mostS : ∃ t, mg "MOST_SECONDS" = some (.int 20000 t)
  mostM : ∃ t, mg "MOST_METRES" = some (.int 100000 t)
  mostE : ∃ t, mg "MOST_EXTRA" = some (.int 9999 t)

section
variable {P : Program} {w : World} {K : PySem.W.Frag} {mg : Str → Option Value} {base : Heap} {C CC CM : Addr} {R : RRel}

/-! ### hire -/
def spHireA (M : MRel) : Sp := fun vs H Q _ => ∃ (aM : Addr) (own rd : List Addr) (st : Mu30.State) (n x : Nat), vs = [.ref aM, .int (x : Int)] ∧ M H aM own rd st n ∧ n ≤ 80000 ∧ Due M H aM own rd [] st n (.hire x) Q
theorem scHireA : FnScope ["meter", "second"] ["meter", "second"] (defScope sHireA) := ⟨rfl, rfl, rfl, by decide +kernel, rfl, by decide +kernel, by decide +kernel⟩
theorem begun_inv {T : List Tariff} {x : Nat} (hx : x < 86400) : HInv (Mu30.begun T x) := ⟨hx, zero_ok, zero_ok, by show val (Mu30.whole 0) < 1; rw [val_zero]; decide, rfl⟩
theorem begun_fit {T : List Tariff} {x n : Nat} : Fit n (Mu30.begun T x) := by
  refine ⟨1, Nat.one_pos, Nat.one_le_two_pow, ?_, ?_, ?_, Nat.zero_le _⟩
  · show Grid 1 (val (Mu30.whole 0))
    rw [val_zero]
    exact Grid.int 1 0
  · show Grid 1 (val (Mu30.whole 0))
    rw [val_zero]
    exact Grid.int 1 0
  · show val (Mu30.whole 0) ≤ _
    rw [val_zero]
    exact Rat.intCast_nonneg.mpr (by omega)
theorem ok_hireA {f : Addr} {fd : FuncData} (F : Fun K "answer_hire" "answer_hire" sHireA f fd) (rs : RStay R) (L : Low P w K mg base C CC) (T : MTxt K mg CM) : FnOk P w K mg base CX0 40 f fd ["meter", "second"] (spHireA (MAt C CM K R)) := by
  refine F.ok scHireA (fun vs H Q E h => ?_) (fun cdv A outer s H vs Q E hr h => ?_)
  · obtain ⟨aM, own, rd, st, n, x, rfl, _⟩ := h
    rfl
  · obtain ⟨aM, own, rd, st, n, x, rfl, m, hn, D⟩ := h
    obtain ⟨dx, aT, as, rest, ownR, vH, ownH, mx, e1, e2⟩ := id m
    obtain ⟨fI, fdI, Mh, bI, GI⟩ := L.init
    obtain ⟨t9, g9⟩ := T.noTar
    obtain ⟨t1, g1⟩ := T.wrong
    obtain ⟨t4, g4⟩ := T.begun
    obtain ⟨td, gd⟩ := L.names.day
    have sl1 : 1 ≤ sizeLine := by decide
    have tl : ((as.map V.ref).length : Int) = (st.tariffs.length : Int) := by rw [List.length_map, mx.tar.len, List.length_map]
    refine ⟨_, pss_cons (ps_if (pt_cmpR op_eq (pe_len L.names.len rfl (pe_fld (pv 0) rfl)) pe_int (nomark _)) (pss_one (ps_ret (pe_lst (pa_cons (pe_gint rfl g9) pa_nil)))) pss_nil) (pss_cons (ps_if (pt_cmpR op_ge (pv 1) (pe_gint rfl gd) (nomark _)) (pss_one (ps_ret (pe_lst (pa_cons (pe_gint rfl g1) pa_nil)))) pss_nil) (pss_cons (ps_if (pt_cmpR op_notN (pe_fld (pv 0) rfl) pe_non (nomark _)) (pss_one (ps_ret (pe_lst (pa_cons (pe_gint rfl g4) pa_nil)))) pss_nil) (pss_cons (ps_fld (pv 0) (pe_make Mh GI (hr.mono (by decide)) rfl L.hire.gC bI .nil pass0 (pa_cons (pe_fld (pv 0) rfl) (pa_cons (pv 1) (pa_nil)))) rfl) (pss_one (ps_ret (pe_lst (pa_cons (pe_fld (pe_fld (pv 0) rfl) rfl) (pa_nil)))))))), ?_⟩
    refine ⟨_, rfl, aM, CM, dx, _, _, rfl, mx.obj, T.cl, T.n_tariffs, mF_tariffs, aT, _, rfl, .inl (SqL.of mx.tar.top), rfl, _, rfl, ite_eq (fun c => ?_) (fun c => ?_)⟩
    · refine ⟨sl1, fun l hl => ?_⟩
      have em : st.tariffs = [] := List.eq_nil_of_length_eq_zero (by omega)
      exact due_new rs m D (ans := [-9]) (by show (if st.tariffs.isEmpty = true then _ else _) = _; rw [if_pos (by rw [em]; rfl)]) (by decide) hl
    · have nem : ¬ st.tariffs.isEmpty = true := fun z => c (by rw [List.isEmpty_iff.mp z] at tl; exact tl)
      have hT : TOk st.tariffs := by
        rcases mx.tok with z | z
        · exact absurd (by rw [z]; rfl) nem
        · exact z
      refine ⟨_, rfl, _, _, rfl, rfl, _, rfl, ite_dec (fun c1 => ?_) (fun c1 => ?_)⟩
      · refine ⟨sl1, fun l hl => ?_⟩
        exact due_new rs m D (ans := [-1]) (by show (if st.tariffs.isEmpty = true then _ else if 86400 ≤ x then _ else _) = _; rw [if_neg nem, if_pos (by omega)]) (by decide) hl
      · have hx : ¬ 86400 ≤ x := by omega
        have mh := mx.hire
        refine ⟨_, rfl, aM, CM, dx, _, _, rfl, mx.obj, T.cl, T.n_hire, mF_hire, rfl, _, rfl, ?_⟩
        cases eh : st.hire with
        | some h =>
          rw [eh] at mh
          obtain ⟨aH, aF, rfl, _⟩ := mh
          refine iteT ⟨sl1, fun l hl => ?_⟩
          exact due_new rs m D (ans := [-4]) (by show (if st.tariffs.isEmpty = true then _ else if 86400 ≤ x then _ else if st.hire.isSome = true then _ else _) = _; rw [if_neg nem, if_neg hx, if_pos (by rw [eh]; rfl)]) (by decide) hl
        | none =>
          rw [eh] at mh
          obtain ⟨rfl, rfl⟩ := mh
          refine iteF ?_
          have due : Mu30.step st (.hire x) = ({ st with hire := some (Mu30.begun st.tariffs x) }, [((Mu30.begun st.tariffs x).fare : Int)]) := by
            show (if st.tariffs.isEmpty = true then _ else if 86400 ≤ x then _ else if st.hire.isSome = true then _ else _) = _
            rw [if_neg nem, if_neg hx, if_neg (by rw [eh]; decide)]
          refine ⟨_, rfl, aM, CM, dx, _, _, rfl, mx.obj, T.cl, T.n_tariffs, mF_tariffs, _, rfl, ?_⟩
          intro aH dh nH nd ne
          have up : ∀ b o, H b = some o → (upd (upd H dh (.own aH)) aH (.ins C dh [])) b = some o := fun b o e => by
            rw [upd_ne (ne_of_none e nH), upd_ne (ne_of_none e nd)]
            exact e
          refine ⟨aH, dh, aT, as, st.tariffs, x, rfl, upd_same, mx.tar.same up, hT, fun H1 aF hh naF kp => ⟨rfl, ?_⟩⟩
          have s1 : Same H H1 := Same.made nH nd kp
          have naF' : H aF = none := by
            cases z : H aF with
            | none => rfl
            | some o => rw [up _ _ z] at naF; cases naF
          have mHne : aH ≠ aM := fun z => by rw [z, mx.obj] at nH; cases nH
          have mFne : aF ≠ aM := fun z => by rw [z, mx.obj] at naF'; cases naF'
          obtain ⟨dh1, aG, aP, fs, hx1, hG, hP, hF, hfl, hfq⟩ := id hh.ex
          refine ⟨_, rfl, aM, CM, dx, _, rfl, s1 _ _ mx.obj, T.cl, T.n_hire, (by show rest.length + 1 + 1 < 1000; have := mx.few; omega), ?_⟩
          rw [putM_hire]
          have s2 : ∀ b o, H1 b = some o → b ≠ aM → (upd H1 aM (.ins CM dx (mF (.ref aT) (.ref aH) rest))) b = some o := fun b o e z => by rw [upd_ne z]; exact e
          have hM2 : (upd H1 aM (.ins CM dx (mF (.ref aT) (.ref aH) rest))) aM = some (.ins CM dx (mF (.ref aT) (.ref aH) rest)) := upd_same
          generalize upd H1 aM (.ins CM dx (mF (.ref aT) (.ref aH) rest)) = H2 at s2 hM2
          have hh2 : HireAt C K H2 aH aF aT (Mu30.begun st.tariffs x) := hh.stay fun b o e z => s2 b o e fun q => by
            subst q
            rcases z with z | z | z
            · exact mHne z.symm
            · exact mFne z.symm
            · have := s1 _ _ mx.obj
              rw [e] at this
              cases this
              exact z.ins
          refine ⟨_, rfl, aM, CM, dx, _, _, rfl, hM2, T.cl, T.n_hire, mF_hire, aH, C, dh1, _, _, rfl, s2 _ _ hx1 mHne, L.hire.cl, L.hire.n_fare, f7_fare, sl1, fun l hl => ?_⟩
          have nl1 : H1 l = none := by
            cases z : H1 l with
            | none => rfl
            | some o =>
              by_cases q : l = aM
              · rw [q, hM2] at hl; cases hl
              · rw [s2 _ _ z q] at hl; cases hl
          have fr : ∀ b o, H b = some o → b ≠ aM → (upd H2 l (.lst [V.int ((Mu30.begun st.tariffs x).fare : Int)])) b = some o := fun b o e q => same_up hl _ _ (s2 _ _ (s1 _ _ e) q)
          exact due_hire rs mx e1 e2 D due (by show 1 ≤ 200000; decide) (s1.free nl1) upd_same (same_up hl _ _ hM2) fr nH naF' (hh2.same (same_up hl)) (begun_inv (by omega)) begun_fit hT

/-! ### a way -/
def refusalOf (st : Mu30.State) (s m : Nat) : Int := match st.hire with
  | none => -6
  | some _ => if Mu30.goodWay s m = false then -1 else 0
theorem good_iff {s m : Nat} : Mu30.goodWay s m = true ↔ 1 ≤ s ∧ s ≤ 20000 ∧ m ≤ 100000 := by
  unfold Mu30.goodWay
  simp
theorem good_no {s m : Nat} (h : ¬ (1 ≤ s ∧ s ≤ 20000 ∧ m ≤ 100000)) : Mu30.goodWay s m = false := bool_not fun z => h (good_iff.mp z)
def spRefuse (M : MRel) : Sp := fun vs H Q _ => ∃ (aM : Addr) (own rd : List Addr) (st : Mu30.State) (n s m : Nat), vs = [.ref aM, .int (s : Int), .int (m : Int)] ∧ M H aM own rd st n ∧ Q (.int (refusalOf st s m)) H
theorem scRefuse : FnScope ["meter", "s", "m"] ["meter", "s", "m"] (defScope sRefuse) := ⟨rfl, rfl, rfl, by decide +kernel, rfl, by decide +kernel, by decide +kernel⟩
theorem ok_refuse {f : Addr} {fd : FuncData} (F : Fun K "way_refusal" "way_refusal" sRefuse f fd) (T : MTxt K mg CM) : FnOk P w K mg base CX0 1 f fd ["meter", "s", "m"] (spRefuse (MAt C CM K R)) := by
  refine F.ok scRefuse (fun vs H Q E h => ?_) (fun cdv A outer s H vs Q E hr h => ?_)
  · obtain ⟨aM, own, rd, st, n, s, m, rfl, _⟩ := h
    rfl
  · obtain ⟨aM, own, rd, st, n, s, m, rfl, ⟨dx, aT, as, rest, ownR, vH, ownH, mx, e1, e2⟩, k⟩ := h
    obtain ⟨t0, g0⟩ := T.fine
    obtain ⟨t1, g1⟩ := T.wrong
    obtain ⟨t6, g6⟩ := T.noHire
    obtain ⟨tS, gS⟩ := T.mostS
    obtain ⟨tM, gM⟩ := T.mostM
    have mh := mx.hire
    unfold refusalOf at k
    refine ⟨_, pss_cons (ps_if (pt_cmpR op_isN (pe_fld (pv 0) rfl) pe_non (nomark _)) (pss_one (ps_ret (pe_gint rfl g6))) pss_nil) (pss_cons (ps_if (PW.pt (pw_or (pt_cmpR op_lt (pv 1) pe_int (nomark _)) (pw_or (pt_cmpR op_gt (pv 1) (pe_gint rfl gS) (nomark _)) (pw_or1 (pt_cmpR op_gt (pv 2) (pe_gint rfl gM) (nomark _)))))) (pss_one (ps_ret (pe_gint rfl g1))) pss_nil) (pss_one (ps_ret (pe_gint rfl g0)))), ?_⟩
    refine ⟨_, rfl, aM, CM, dx, _, _, rfl, mx.obj, T.cl, T.n_hire, mF_hire, rfl, _, rfl, ?_⟩
    cases eh : st.hire with
    | none =>
      rw [eh] at mh k
      obtain ⟨rfl, rfl⟩ := mh
      exact iteT k
    | some h =>
      rw [eh] at mh k
      obtain ⟨aH, aF, rfl, _⟩ := mh
      refine iteF ?_
      have k' : Q (.int (if Mu30.goodWay s m = false then -1 else 0)) H := k
      refine ⟨_, rfl, _, _, rfl, rfl, _, rfl, ite_dec (fun c1 => iteT ?_) (fun c1 => ?_)⟩
      · rw [if_pos (good_no (by omega))] at k'
        exact k'
      · refine ⟨_, rfl, _, _, rfl, rfl, _, rfl, ite_dec (fun c2 => iteT ?_) (fun c2 => ?_)⟩
        · rw [if_pos (good_no (by omega))] at k'
          exact k'
        · refine ⟨_, rfl, _, _, rfl, rfl, _, rfl, ite_dec (fun c3 => ?_) (fun c3 => ?_)⟩
          · rw [if_pos (good_no (by omega))] at k'
            exact k'
          · have : Mu30.goodWay s m = true := good_iff.mpr (by omega)
            rw [if_neg (by rw [this]; decide)] at k'
            exact k'
/-- a way that is refused, one that is gone -/
def WayNo (st : Mu30.State) (s m : Nat) (c : Int) : Prop := (st.hire = none ∧ c = -6) ∨ ∃ h, st.hire = some h ∧ ((Mu30.goodWay s m = false ∧ c = -1) ∨ (Mu30.goodWay s m = true ∧ Mu30.drive st.tariffs 400 (Mu30.nat s) (Mu30.speed s m) h = none ∧ c = -5))
structure WayYes (st : Mu30.State) (s m : Nat) (h g : Hire) : Prop where
  hire : st.hire = some h
  good : Mu30.goodWay s m = true
  way : Mu30.drive st.tariffs 400 (Mu30.nat s) (Mu30.speed s m) h = some g
theorem drive_no {st : Mu30.State} {s m : Nat} {c : Int} (h : WayNo st s m c) : Mu30.step st (.drive s m) = (st, [c]) := by
  show Mu30.withHire st _ = _
  unfold Mu30.withHire
  rcases h with ⟨e, rfl⟩ | ⟨h, e, ⟨g, rfl⟩ | ⟨g, d, rfl⟩⟩
  · rw [e]
  · rw [e]
    exact if_pos g
  · rw [e]
    simp only
    rw [if_neg (by rw [g]; decide)]
    show (match Mu30.drive st.tariffs 400 _ _ h with | some g => _ | none => _) = _
    rw [d]
theorem would_no {st : Mu30.State} {s m : Nat} {c : Int} (h : WayNo st s m c) : Mu30.step st (.would s m) = (st, [c]) := by
  show Mu30.withHire st _ = _
  unfold Mu30.withHire
  rcases h with ⟨e, rfl⟩ | ⟨h, e, ⟨g, rfl⟩ | ⟨g, d, rfl⟩⟩
  · rw [e]
  · rw [e]
    exact if_pos g
  · rw [e]
    simp only
    rw [if_neg (by rw [g]; decide)]
    show (match Mu30.drive st.tariffs 400 _ _ h with | some g => _ | none => _) = _
    rw [d]
theorem drive_yes {st : Mu30.State} {s m : Nat} {h g : Hire} (y : WayYes st s m h g) : Mu30.step st (.drive s m) = ({ st with hire := some g }, [((g.fare + g.extras : Nat) : Int), ((g.drops.length - h.drops.length : Nat) : Int)]) := by
  show Mu30.withHire st _ = _
  unfold Mu30.withHire
  rw [y.hire]
  simp only
  rw [if_neg (by rw [y.good]; decide)]
  show (match Mu30.drive st.tariffs 400 _ _ h with | some g => _ | none => _) = _
  rw [y.way]
  rfl
theorem would_yes {st : Mu30.State} {s m : Nat} {h g : Hire} (y : WayYes st s m h g) : Mu30.step st (.would s m) = (st, [((g.fare + g.extras : Nat) : Int)]) := by
  show Mu30.withHire st _ = _
  unfold Mu30.withHire
  rw [y.hire]
  simp only
  rw [if_neg (by rw [y.good]; decide)]
  show (match Mu30.drive st.tariffs 400 _ _ h with | some g => _ | none => _) = _
  rw [y.way]
theorem driveM_len {T : List Tariff} {s m : Nat} {e : Mu30.Q} : ∀ (k : Nat) (h g : Hire), driveM T s m e k h = some g → h.drops.length ≤ g.drops.length := by
  intro k
  induction k with
  | zero =>
    intro h g d
    rw [driveM] at d
    split at d
    · cases d
    · cases d
      exact Nat.le_refl _
  | succ k ih =>
    intro h g d
    rw [driveM] at d
    split at d
    · exact Nat.le_trans stretch_len (ih _ _ d)
    · cases d
      exact Nat.le_refl _
def spDriveA (C CM : Addr) (K : PySem.W.Frag) (R : RRel) : Sp := fun vs H Q _ => ∃ (aM dx aT : Addr) (as : List Addr) (rest : List (Str × V)) (ownR : List Addr) (vH : V) (ownH : List Addr) (st : Mu30.State) (n s m : Nat), vs = [.ref aM, .int (s : Int), .int (m : Int)] ∧ MX C CM K R H aM dx aT as rest ownR vH ownH st n ∧ n ≤ 80000 ∧
  (∀ (H' : Hp) (l : Addr) (c : Int), WayNo st s m c → Same H H' → H l = none → H' l = some (.lst [.int c]) → Q (.ref l) H') ∧
  (∀ (H' : Hp) (l aH aF : Addr) (h g : Hire), WayYes st s m h g → H' aM = some (.ins CM dx (mF (.ref aT) (.ref aH) rest)) → (∀ b o, H b = some o → b ≠ aM → H' b = some o) → H aH = none → H aF = none → HireAt C K H' aH aF aT g → HInv g → Fit (n + 400) g → TOk st.tariffs → H l = none →
    H' l = some (.lst [.int ((g.fare + g.extras : Nat) : Int), .int ((g.drops.length - h.drops.length : Nat) : Int)]) → Q (.ref l) H')
theorem scDriveA : FnScope ["meter", "s", "m", "refusal", "driven", "fallen"] ["meter", "s", "m"] (defScope sDriveA) := ⟨rfl, rfl, rfl, by decide +kernel, rfl, by decide +kernel, by decide +kernel⟩
theorem MX.apartNew {H : Hp} {aM dx aT : Addr} {as : List Addr} {rest : List (Str × V)} {ownR : List Addr} {vH : V} {ownH : List Addr} {st : Mu30.State} {n : Nat} (mx : MX C CM K R H aM dx aT as rest ownR vH ownH st n) {aF : Addr} (nF : H aF = none) : Apart aF aT as := by
  refine ⟨fun z => ?_, fun b hb z => ?_⟩
  · obtain ⟨o, e⟩ := mx.tarThere aT (by simp)
    rw [z, nF] at e
    cases e
  · obtain ⟨o, e⟩ := mx.tarThere b (by simp [hb])
    rw [z, nF] at e
    cases e
theorem ok_driveA {f : Addr} {fd : FuncData} (F : Fun K "answer_drive" "answer_drive" sDriveA f fd) (rs : RStay R) (L : Low P w K mg base C CC) (T : MTxt K mg CM) (GR : DefAt P w K mg base "way_refusal" 1 ["meter", "s", "m"] (spRefuse (MAt C CM K R))) : FnOk P w K mg base CX0 40 f fd ["meter", "s", "m"] (spDriveA C CM K R) := by
  refine F.ok scDriveA (fun vs H Q E h => ?_) (fun cdv A outer s H vs Q E hr h => ?_)
  · obtain ⟨aM, dx, aT, as, rest, ownR, vH, ownH, st, n, s, m, rfl, _⟩ := h
    rfl
  · obtain ⟨aM, dx, aT, as, rest, ownR, vH, ownH, st, n, s, m, rfl, mx, hn, kN, kY⟩ := h
    obtain ⟨t0, g0⟩ := T.fine
    obtain ⟨t5, g5⟩ := T.long
    have sl1 : 1 ≤ sizeLine := by decide
    have mh := mx.hire
    have rv : refusalOf st s m = refusalOf st s m := rfl
    refine ⟨_, pss_cons (ps_set (i := 3) scDriveA.nd rfl (.inl rfl) (pe_def GR hr (by decide) rfl (pa_cons (pv 0) (pa_cons (pv 1) (pa_cons (pv 2) (pa_nil)))))) (pss_cons (ps_if (pt_cmpR op_ne (pv 3) (pe_gint rfl g0) (nomark _)) (pss_one (ps_ret (pe_lst (pa_cons (pv 3) pa_nil)))) pss_nil) (pss_cons (ps_set (i := 4) scDriveA.nd rfl (.inl rfl) (pe_def L.d_copied hr (by decide) rfl (pa_cons (pe_fld (pv 0) rfl) (pa_nil)))) (pss_cons (ps_if (pt_not (pt_val (pe_def L.d_drive_way hr (by decide) rfl (pa_cons (pv 4) (pa_cons (pv 1) (pa_cons (pv 2) (pa_nil))))))) (pss_one (ps_ret (pe_lst (pa_cons (pe_gint rfl g5) pa_nil)))) pss_nil) (pss_cons (ps_set (i := 5) scDriveA.nd rfl (.inl rfl) (pe_op op_sub (pe_len L.names.len rfl (pe_fld (pv 4) rfl)) (pe_len L.names.len rfl (pe_fld (pe_fld (pv 0) rfl) rfl)))) (pss_cons (ps_fld (pv 0) (pv 4) rfl) (pss_one (ps_ret (pe_lst (pa_cons (pe_def L.d_fare_with_extras hr (by decide) rfl (pa_cons (pv 4) (pa_nil))) (pa_cons (pv 5) (pa_nil))))))))))), ?_⟩
    refine ⟨_, rfl, _, rfl, _, rfl, aM, _, _, st, n, s, m, rfl, ⟨dx, aT, as, rest, ownR, vH, ownH, mx, rfl, rfl⟩, _, rfl, rfl, _, rfl, ite_ne (fun c => ?_) (fun c => ?_)⟩
    · refine ⟨_, rfl, sl1, fun l hl => ?_⟩
      refine kN _ l (refusalOf st s m) ?_ (same_up hl) hl upd_same
      cases eh : st.hire with
      | none => exact .inl ⟨eh, by unfold refusalOf; rw [eh]⟩
      | some h =>
        refine .inr ⟨h, eh, .inl ?_⟩
        unfold refusalOf at c ⊢
        rw [eh] at c ⊢
        by_cases gw : Mu30.goodWay s m = false
        · exact ⟨gw, if_pos gw⟩
        · exact absurd (if_neg gw) c
    · cases eh : st.hire with
      | none =>
        unfold refusalOf at c
        rw [eh] at c
        have c' : (-6 : Int) = 0 := c
        exact absurd c' (by decide)
      | some h =>
        have gw : Mu30.goodWay s m = true := by
          unfold refusalOf at c
          rw [eh] at c
          cases z : Mu30.goodWay s m with
          | true => rfl
          | false =>
            have c' : (if Mu30.goodWay s m = false then (-1 : Int) else 0) = 0 := c
            rw [z] at c'
            exact absurd c' (by decide)
        obtain ⟨hs, hs2, hm⟩ := good_iff.mp gw
        rw [eh] at mh
        obtain ⟨aH, aF, rfl, rfl, mHne, hh, I, Fi, hT⟩ := mh
        obtain ⟨dh, aG, aP, fs, hx, hG, hP, hF, hfl, hfq⟩ := id hh.ex
        refine ⟨_, rfl, aM, CM, dx, _, _, rfl, mx.obj, T.cl, T.n_hire, mF_hire, aH, aF, aT, as, st.tariffs, h, rfl, hh, mx.tar, hT, fun H1 a' aF' s1 n' nF' hh' => ?_⟩
        have ap := mx.apartNew nF'
        have whole := drive_whole (m := m) hT I hs 399
        refine ⟨_, rfl, _, rfl, _, rfl, a', aF', aT, as, st.tariffs, h, s, m, n, rfl, hh', mx.tar.same s1, ap, hT, I, hs, hs2, hm, Fi, by omega, fun H2 g dr cg hg Ig Fg => ⟨_, rfl, iteF ?_⟩, fun dr H2 cg => ⟨_, rfl, iteT ?_⟩⟩
        · have s2 := same_chg s1 cg n' nF'
          obtain ⟨dg, aG', aP', fs', hx', hG', hP', hF', hfl', hfq'⟩ := id hg.ex
          refine ⟨_, rfl, a', C, dg, _, _, rfl, hx', L.hire.cl, L.hire.n_falls, f7_falls, aF', _, rfl, .inl (SqL.of hF'), _, rfl, aM, CM, dx, _, _, rfl, s2 _ _ mx.obj, T.cl, T.n_hire, mF_hire, aH, C, dh, _, _, rfl, s2 _ _ hx, L.hire.cl, L.hire.n_falls, f7_falls, aF, _, rfl, .inl (SqL.of (s2 _ _ hF)), _, _, rfl, rfl, ?_⟩
          refine ⟨_, rfl, _, rfl, aM, CM, dx, _, rfl, s2 _ _ mx.obj, T.cl, T.n_hire, (by show rest.length + 1 + 1 < 1000; have := mx.few; omega), ?_⟩
          rw [putM_hire]
          have s3 : ∀ b o, H2 b = some o → b ≠ aM → (upd H2 aM (.ins CM dx (mF (.ref aT) (.ref a') rest))) b = some o := fun b o e z => by rw [upd_ne z]; exact e
          have hM3 : (upd H2 aM (.ins CM dx (mF (.ref aT) (.ref a') rest))) aM = some (.ins CM dx (mF (.ref aT) (.ref a') rest)) := upd_same
          generalize upd H2 aM (.ins CM dx (mF (.ref aT) (.ref a') rest)) = H3 at s3 hM3
          have a'ne : a' ≠ aM := fun z => by rw [z, mx.obj] at n'; cases n'
          have aF'ne : aF' ≠ aM := fun z => by rw [z, mx.obj] at nF'; cases nF'
          have hg3 : HireAt C K H3 a' aF' aT g := hg.stay fun b o e z => s3 b o e fun q => by
            subst q
            rcases z with z | z | z
            · exact a'ne z.symm
            · exact aF'ne z.symm
            · rw [s2 _ _ mx.obj] at e
              cases e
              exact z.ins
          refine ⟨_, rfl, a', aF', aT, g, rfl, hg3, _, rfl, (by show 2 ≤ sizeLine; decide), fun l hl => ?_⟩
          have nl : H l = none := by
            cases z : H l with
            | none => rfl
            | some o =>
              by_cases q : l = aM
              · rw [q, hM3] at hl; cases hl
              · rw [s3 _ _ (s2 _ _ z) q] at hl; cases hl
          have le := driveM_len _ _ _ dr
          have yes : WayYes st s m h g := ⟨eh, gw, by rw [show (400 : Nat) = 399 + 1 from rfl, whole]; exact dr⟩
          have num : (((fs'.map V.ref).length : Nat) : Int) - (((fs.map V.ref).length : Nat) : Int) = ((g.drops.length - h.drops.length : Nat) : Int) := by
            rw [List.length_map, List.length_map, hfl, hfl']
            omega
          refine kY _ l a' aF' h g yes (same_up hl _ _ hM3) (fun b o e q => same_up hl _ _ (s3 _ _ (s2 _ _ e) q)) n' nF' (hg3.same (same_up hl)) Ig (Fg.more (by omega)) hT nl ?_
          rw [← num]
          exact upd_same
        · have s2 := same_chg s1 cg n' nF'
          refine ⟨sl1, fun l hl => ?_⟩
          refine kN _ l (-5) (.inr ⟨h, eh, .inr ⟨gw, ?_, rfl⟩⟩) (s2.trans (same_up hl)) (s2.free hl) upd_same
          rw [show (400 : Nat) = 399 + 1 from rfl, whole]
          exact dr

/-! ### extra -/
theorem MX.setHire {H H' : Hp} {aM dx aT : Addr} {as : List Addr} {rest : List (Str × V)} {ownR : List Addr} {st : Mu30.State} {n m : Nat} {aH aF : Addr} {g : Hire} (rs : RStay R) (mx : MX C CM K R H aM dx aT as rest ownR (.ref aH) [aH, aF] st n) {Ch dh : Addr} {fh : List (Str × V)} (ha : H aH = some (.ins Ch dh fh)) (hne : aH ≠ aM)
    (fr : ∀ b o, H b = some o → b ≠ aH → H' b = some o) (hh : HireAt C K H' aH aF aT g) (I : HInv g) (Fi : Fit m g) (hT : TOk st.tariffs) (hm : n ≤ m) :
    MX C CM K R H' aM dx aT as rest ownR (.ref aH) [aH, aF] { st with hire := some g } m := by
  have nT : aH ∉ aT :: as := mx.apart aH (by simp)
  refine ⟨fr _ _ mx.obj (Ne.symm hne), mx.few, ⟨fr _ _ mx.tar.top fun q => nT (by rw [← q]; simp), mx.tar.len, fun i b r q1 q2 => fr _ _ (mx.tar.row i b r q1 q2) fun q => nT (by have := List.mem_of_getElem? q1; rw [← q]; simp [this])⟩, .inr hT, rs _ _ _ _ _ _ mx.rnk fun b o e z => fr b o e fun q => ?_, ⟨aH, aF, rfl, rfl, hne, hh, I, Fi, hT⟩, mx.apart, mx.sepM, mx.sepH, fun b hb => ?_, Nat.le_trans mx.cnt hm⟩
  · subst q
    rcases z with z | z
    · exact mx.sepH b (by simp) z
    · rw [ha] at e
      cases e
      exact z.ins
  · obtain ⟨o, e⟩ := mx.here b hb
    exact ⟨o, fr _ _ e fun q => mx.sepH aH (by simp) (q ▸ hb)⟩
def spExtraA (M : MRel) : Sp := fun vs H Q _ => ∃ (aM : Addr) (own rd : List Addr) (st : Mu30.State) (n x : Nat), vs = [.ref aM, .int (x : Int)] ∧ M H aM own rd st n ∧ n ≤ 80000 ∧ Due M H aM own rd [] st n (.extra x) Q
theorem scExtraA : FnScope ["meter", "n"] ["meter", "n"] (defScope sExtraA) := ⟨rfl, rfl, rfl, by decide +kernel, rfl, by decide +kernel, by decide +kernel⟩
theorem step_none {st : Mu30.State} (eh : st.hire = none) (f : Hire → Mu30.State × Mu30.Ans) : Mu30.withHire st f = (st, [-6]) := by
  unfold Mu30.withHire
  rw [eh]
theorem step_some {st : Mu30.State} {h : Hire} (eh : st.hire = some h) (f : Hire → Mu30.State × Mu30.Ans) : Mu30.withHire st f = f h := by
  unfold Mu30.withHire
  rw [eh]
theorem ok_extraA {f : Addr} {fd : FuncData} (F : Fun K "answer_extra" "answer_extra" sExtraA f fd) (rs : RStay R) (L : Low P w K mg base C CC) (T : MTxt K mg CM) : FnOk P w K mg base CX0 40 f fd ["meter", "n"] (spExtraA (MAt C CM K R)) := by
  refine F.ok scExtraA (fun vs H Q E h => ?_) (fun cdv A outer s H vs Q E hr h => ?_)
  · obtain ⟨aM, own, rd, st, n, x, rfl, _⟩ := h
    rfl
  · obtain ⟨aM, own, rd, st, n, x, rfl, m, hn, D⟩ := h
    obtain ⟨dx, aT, as, rest, ownR, vH, ownH, mx, e1, e2⟩ := id m
    obtain ⟨t1, g1⟩ := T.wrong
    obtain ⟨t6, g6⟩ := T.noHire
    obtain ⟨tE, gE⟩ := T.mostE
    have sl1 : 1 ≤ sizeLine := by decide
    have mh := mx.hire
    refine ⟨_, pss_cons (ps_if (pt_cmpR op_isN (pe_fld (pv 0) rfl) pe_non (nomark _)) (pss_one (ps_ret (pe_lst (pa_cons (pe_gint rfl g6) pa_nil)))) pss_nil) (pss_cons (ps_if (pt_cmpR op_gt (pv 1) (pe_gint rfl gE) (nomark _)) (pss_one (ps_ret (pe_lst (pa_cons (pe_gint rfl g1) pa_nil)))) pss_nil) (pss_cons (ps_fldaug (pe_fld (pv 0) rfl) (pv 1) in_add) (pss_one (ps_ret (pe_lst (pa_cons (pe_def L.d_fare_with_extras hr (by decide) rfl (pa_cons (pe_fld (pv 0) rfl) (pa_nil))) pa_nil)))))), ?_⟩
    refine ⟨_, rfl, aM, CM, dx, _, _, rfl, mx.obj, T.cl, T.n_hire, mF_hire, rfl, _, rfl, ?_⟩
    cases eh : st.hire with
    | none =>
      rw [eh] at mh
      obtain ⟨rfl, rfl⟩ := mh
      refine iteT ⟨sl1, fun l hl => ?_⟩
      exact due_new rs m D (ans := [-6]) (step_none eh _) (by decide) hl
    | some h =>
      rw [eh] at mh
      obtain ⟨aH, aF, rfl, rfl, mHne, hh, I, Fi, hT⟩ := mh
      obtain ⟨dh, aG, aP, fs, hx, hG, hP, hF, hfl, hfq⟩ := id hh.ex
      refine iteF ?_
      refine ⟨_, rfl, _, _, rfl, rfl, _, rfl, ite_dec (fun c => ?_) (fun c => ?_)⟩
      · refine ⟨sl1, fun l hl => ?_⟩
        exact due_new rs m D (ans := [-1]) (by show Mu30.withHire st _ = _; rw [step_some eh]; exact if_pos (by omega)) (by decide) hl
      · refine ⟨_, rfl, aM, CM, dx, _, _, rfl, mx.obj, T.cl, T.n_hire, mF_hire, aH, C, dh, _, _, rfl, hx, L.hire.cl, L.hire.n_extras, f7_extras, _, rfl, _, _, rfl, rfl, dh, _, hx, (by show 7 < 1000; decide), ?_⟩
        rw [put7_extras]
        have fr : ∀ b o, H b = some o → b ≠ aH → (upd H aH (.ins C dh (f7 (.ref aT) (.int (h.began : Int)) (.int (h.fare : Int)) (.int ((h.extras : Int) + (x : Int))) (.ref aG) (.ref aP) (.ref aF)))) b = some o := fun b o e z => by rw [upd_ne z]; exact e
        have h2 : (upd H aH (.ins C dh (f7 (.ref aT) (.int (h.began : Int)) (.int (h.fare : Int)) (.int ((h.extras : Int) + (x : Int))) (.ref aG) (.ref aP) (.ref aF)))) aH = some (.ins C dh (f7 (.ref aT) (.int (h.began : Int)) (.int (h.fare : Int)) (.int ((h.extras + x : Nat) : Int)) (.ref aG) (.ref aP) (.ref aF))) := by rw [Int.natCast_add]; exact upd_same
        generalize upd H aH (.ins C dh (f7 (.ref aT) (.int (h.began : Int)) (.int (h.fare : Int)) (.int ((h.extras : Int) + (x : Int))) (.ref aG) (.ref aP) (.ref aF))) = H2 at fr h2
        have im : ∀ b o, H b = some o → Imm o → H2 b = some o := fun b o e i => fr b o e fun q => by
          rw [q, hx] at e
          cases e
          exact i.ins
        have hh2 : HireAt C K H2 aH aF aT { h with extras := h.extras + x } := ⟨dh, aG, aP, fs, h2, hG.imm im, hP.imm im, fr _ _ hF (ne_of hF hx (by intro z; cases z)), hfl, fun i b q q1 q2 => (hfq i b q q1 q2).imm im⟩
        have I2 : HInv { h with extras := h.extras + x } := ⟨I.began, I.gone, I.part, I.lt1, I.first⟩
        have F2 : Fit n { h with extras := h.extras + x } := by
          obtain ⟨L0, f0⟩ := Fi
          exact ⟨L0, f0.pos, f0.le, f0.gone, f0.part, f0.time, f0.few⟩
        have due : Mu30.step st (.extra x) = ({ st with hire := some { h with extras := h.extras + x } }, [((h.fare + h.extras + x : Nat) : Int)]) := by
          show Mu30.withHire st _ = _
          rw [step_some eh]
          exact if_neg (by omega)
        refine ⟨_, rfl, aM, CM, dx, _, _, rfl, fr _ _ mx.obj (Ne.symm mHne), T.cl, T.n_hire, mF_hire, aH, aF, aT, _, rfl, hh2, sl1, fun l hl => ?_⟩
        have nl : H l = none := by
          cases z : H l with
          | none => rfl
          | some o =>
            by_cases q : l = aH
            · rw [q, h2] at hl; cases hl
            · rw [fr _ _ z q] at hl; cases hl
        have s3 := same_up (o := HO.lst [V.int ((h.fare + (h.extras + x) : Nat) : Int)]) hl
        refine D _ l own rd ?_ nl ?_ (by rw [due]; show 1 ≤ 200000; decide) (fun b o e q => s3 _ _ (fr b o e fun z => q (by rw [e1, z]; simp))) (fun b hb => .inl hb) (fun b hb => .inl hb)
        · rw [due]
          exact ⟨dx, aT, as, rest, ownR, .ref aH, [aH, aF], (mx.setHire rs hx mHne fr hh2 I2 F2 hT (Nat.le_refl _)).stay rs (by omega) fun b o e _ => s3 _ _ e, e1, e2⟩
        · rw [due, Nat.add_assoc]
          exact upd_same

/-! ### fare, drops -/
def spFareA (M : MRel) : Sp := fun vs H Q _ => ∃ (aM : Addr) (own rd : List Addr) (st : Mu30.State) (n : Nat), vs = [.ref aM] ∧ M H aM own rd st n ∧ n ≤ 80000 ∧ Due M H aM own rd [] st n .fare Q
theorem scFareA : FnScope ["meter", "hire"] ["meter"] (defScope sFareA) := ⟨rfl, rfl, rfl, by decide +kernel, rfl, by decide +kernel, by decide +kernel⟩
theorem ok_fareA {f : Addr} {fd : FuncData} (F : Fun K "answer_fare" "answer_fare" sFareA f fd) (rs : RStay R) (L : Low P w K mg base C CC) (T : MTxt K mg CM) : FnOk P w K mg base CX0 40 f fd ["meter"] (spFareA (MAt C CM K R)) := by
  refine F.ok scFareA (fun vs H Q E h => ?_) (fun cdv A outer s H vs Q E hr h => ?_)
  · obtain ⟨aM, own, rd, st, n, rfl, _⟩ := h
    rfl
  · obtain ⟨aM, own, rd, st, n, rfl, m, hn, D⟩ := h
    obtain ⟨dx, aT, as, rest, ownR, vH, ownH, mx, e1, e2⟩ := id m
    obtain ⟨t6, g6⟩ := T.noHire
    have sl1 : 1 ≤ sizeLine := by decide
    have mh := mx.hire
    refine ⟨_, pss_cons (ps_set (i := 1) scFareA.nd rfl (.inl rfl) (pe_fld (pv 0) rfl)) (pss_cons (ps_if (pt_cmpR op_isN (pv 1) pe_non (nomark _)) (pss_one (ps_ret (pe_lst (pa_cons (pe_gint rfl g6) pa_nil)))) pss_nil) (pss_one (ps_ret (pe_lst (pa_cons (pe_fld (pv 1) rfl) (pa_cons (pe_fld (pv 1) rfl) (pa_cons (pe_len L.names.len rfl (pe_fld (pv 1) rfl)) (pa_cons (pe_ix ix_tup (pe_fld (pv 1) rfl) pe_int (fun _ _ => rfl)) (pa_cons (pe_ix ix_tup (pe_fld (pv 1) rfl) pe_int (fun _ _ => rfl)) (pa_cons (pe_def L.d_tariff_place hr (by decide) rfl (pa_cons (pv 1) (pa_nil))) (pa_nil))))))))))), ?_⟩
    refine ⟨_, rfl, aM, CM, dx, _, _, rfl, mx.obj, T.cl, T.n_hire, mF_hire, _, rfl, rfl, _, rfl, ?_⟩
    cases eh : st.hire with
    | none =>
      rw [eh] at mh
      obtain ⟨rfl, rfl⟩ := mh
      refine iteT ⟨sl1, fun l hl => ?_⟩
      exact due_new rs m D (ans := [-6]) (step_none eh _) (by decide) hl
    | some h =>
      rw [eh] at mh
      obtain ⟨aH, aF, rfl, rfl, mHne, hh, I, Fi, hT⟩ := mh
      obtain ⟨dh, aG, aP, fs, hx, hG, hP, hF, hfl, hfq⟩ := id hh.ex
      refine iteF ?_
      refine ⟨_, rfl, aH, C, dh, _, _, rfl, hx, L.hire.cl, L.hire.n_fare, f7_fare, _, rfl, aH, C, dh, _, _, rfl, hx, L.hire.cl, L.hire.n_extras, f7_extras, _, rfl, aH, C, dh, _, _, rfl, hx, L.hire.cl, L.hire.n_falls, f7_falls, aF, _, rfl, .inl (SqL.of hF), ?_⟩
      refine ⟨_, rfl, aH, C, dh, _, _, rfl, hx, L.hire.cl, L.hire.n_part, f7_part, aP, _, _, _, rfl, rfl, hP, at0, _, rfl, aH, C, dh, _, _, rfl, hx, L.hire.cl, L.hire.n_part, f7_part, aP, _, _, _, rfl, rfl, hP, at1, ?_⟩
      refine ⟨_, rfl, aH, aF, aT, as, st.tariffs, h, rfl, hh, mx.tar, hT, I, (by show 6 ≤ sizeLine; decide), fun l hl => ?_⟩
      rw [List.length_map, hfl]
      exact due_new rs m D (ans := [(h.fare : Int), (h.extras : Int), (h.drops.length : Int), h.part.n, (h.part.d : Int), ((Mu30.holds st.tariffs (Mu30.secondAt h) : Nat) : Int)]) (by show Mu30.withHire st _ = _; rw [step_some eh]; rfl) (by show 6 ≤ 200000; decide) hl
def spDropsA (M : MRel) : Sp := fun vs H Q _ => ∃ (aM : Addr) (own rd : List Addr) (st : Mu30.State) (n : Nat), vs = [.ref aM] ∧ M H aM own rd st n ∧ n ≤ 80000 ∧ Due M H aM own rd [] st n .drops Q
theorem scDropsA : FnScope ["meter", "told", "gone"] ["meter"] (defScope sDropsA) := ⟨rfl, rfl, rfl, by decide +kernel, rfl, by decide +kernel, by decide +kernel⟩
theorem told_len (qs : List Mu30.Q) : (qs.flatMap Mu30.told).length = 2 * qs.length := by
  induction qs with
  | nil => rfl
  | cons q r ih =>
    rw [List.flatMap_cons, List.length_append, ih]
    show 2 + _ = 2 * (r.length + 1)
    omega
theorem ok_dropsA {f : Addr} {fd : FuncData} (F : Fun K "answer_drops" "answer_drops" sDropsA f fd) (rs : RStay R) (L : Low P w K mg base C CC) (T : MTxt K mg CM) : FnOk P w K mg base CX0 40 f fd ["meter"] (spDropsA (MAt C CM K R)) := by
  refine F.ok scDropsA (fun vs H Q E h => ?_) (fun cdv A outer s H vs Q E hr h => ?_)
  · obtain ⟨aM, own, rd, st, n, rfl, _⟩ := h
    rfl
  · obtain ⟨aM, own, rd, st, n, rfl, m, hn, D⟩ := h
    obtain ⟨dx, aT, as, rest, ownR, vH, ownH, mx, e1, e2⟩ := id m
    obtain ⟨t6, g6⟩ := T.noHire
    have sl1 : 1 ≤ sizeLine := by decide
    have szl : sizeLine = 16777216 := by decide
    have mh := mx.hire
    refine ⟨_, pss_cons (ps_if (pt_cmpR op_isN (pe_fld (pv 0) rfl) pe_non (nomark _)) (pss_one (ps_ret (pe_lst (pa_cons (pe_gint rfl g6) pa_nil)))) pss_nil) (pss_cons (ps_set (i := 1) scDropsA.nd rfl (.inl rfl) (pe_lst (pa_cons (pe_len L.names.len rfl (pe_fld (pe_fld (pv 0) rfl) rfl)) (pa_nil)))) (pss_cons (ps_for PassesOwn.never rfl (pi_list (pe_fld (pe_fld (pv 0) rfl) rfl)) (pg_name (i := 2) scDropsA.nd rfl (.inl rfl)) (pss_cons (ps_expr (pe_bm PySem.F.plainAttrs_list PySem.F.slot_list_append PySem.F.type_list_append mt_append (pv 1) (pa_cons (pe_ix ix_tup (pv 2) pe_int (fun _ _ => rfl)) (pa_nil)))) (pss_one (ps_expr (pe_bm PySem.F.plainAttrs_list PySem.F.slot_list_append PySem.F.type_list_append mt_append (pv 1) (pa_cons (pe_ix ix_tup (pv 2) pe_int (fun _ _ => rfl)) (pa_nil))))))) (pss_one (ps_ret (pv 1))))), ?_⟩
    refine ⟨_, rfl, aM, CM, dx, _, _, rfl, mx.obj, T.cl, T.n_hire, mF_hire, rfl, _, rfl, ?_⟩
    cases eh : st.hire with
    | none =>
      rw [eh] at mh
      obtain ⟨rfl, rfl⟩ := mh
      refine iteT ⟨sl1, fun l hl => ?_⟩
      exact due_new rs m D (ans := [-6]) (step_none eh _) (by decide) hl
    | some h =>
      rw [eh] at mh
      obtain ⟨aH, aF, rfl, rfl, mHne, hh, I, ⟨L0, Fi⟩, hT⟩ := mh
      obtain ⟨dh, aG, aP, fs, hx, hG, hP, hF, hfl, hfq⟩ := id hh.ex
      have few := Fi.few
      refine iteF ?_
      refine ⟨_, rfl, aM, CM, dx, _, _, rfl, mx.obj, T.cl, T.n_hire, mF_hire, aH, C, dh, _, _, rfl, hx, L.hire.cl, L.hire.n_falls, f7_falls, aF, _, rfl, .inl (SqL.of hF), sl1, fun l hl => ?_⟩
      rw [List.length_map, hfl]
      have s1 : Same H (upd H l (.lst [V.int (h.drops.length : Int)])) := same_up hl
      have hl1 : (upd H l (.lst [V.int (h.drops.length : Int)])) l = some (.lst [V.int (h.drops.length : Int)]) := upd_same
      generalize upd H l (.lst [V.int (h.drops.length : Int)]) = H1 at s1 hl1
      refine ⟨_, rfl, aM, CM, dx, _, _, rfl, s1 _ _ mx.obj, T.cl, T.n_hire, mF_hire, aH, C, dh, _, _, rfl, s1 _ _ hx, L.hire.cl, L.hire.n_falls, f7_falls, aF, rfl, ⟨_, SqL.of (s1 _ _ hF)⟩, for_list (K := K) (a := aF) (xs := fs.map V.ref) (fun i σ H' => (∃ v : Option V, σ = [some (.ref aM), some (.ref l), v]) ∧ Same H H' ∧ H' l = some (.lst (((h.drops.length : Int) :: (h.drops.take i).flatMap Mu30.told).map V.int)))
        ⟨⟨none, rfl⟩, s1, hl1⟩ (fun i σ H' _ p => SqL.of (p.2.1 _ _ hF)) ?_ ?_⟩
      · rintro i y σ H' hi ⟨⟨v, rfl⟩, sm, hl'⟩
        rw [List.getElem?_map] at hi
        cases eb : fs[i]? with
        | none => rw [eb] at hi; cases hi
        | some b =>
          rw [eb] at hi
          cases hi
          have hli : i < fs.length := (List.getElem?_eq_some_iff.mp eb).1
          obtain ⟨q, eq⟩ := some_of (xs := h.drops) (i := i) (by omega)
          have qb := (hfq i b q eb eq).same' sm
          have nb : ∀ (o : HO), QAt K (upd H' l o) b q := fun o => qb.imm fun c u e im => by
            by_cases z : c = l
            · rw [z, hl'] at e
              cases e
              exact im.lst.elim
            · rw [upd_ne z]; exact e
          have ln : (((h.drops.length : Int) :: (h.drops.take i).flatMap Mu30.told).map V.int).length = 1 + 2 * i := by
            rw [List.length_map, List.length_cons, told_len, List.length_take]
            omega
          refine ⟨_, rfl, .inl ⟨rfl, _, SqL.of hl'⟩, _, rfl, b, _, _, _, rfl, rfl, qb, at0, l, _, _, rfl, rfl, hl', by omega, ?_⟩
          refine ⟨_, rfl, .inl ⟨rfl, _, SqL.of upd_same⟩, _, rfl, b, _, _, _, rfl, rfl, nb _, at1, l, _, _, rfl, rfl, upd_same, ?_, ?_⟩
          · rw [List.length_append, ln]
            show _ + 1 < _
            omega
          · refine ⟨⟨_, rfl⟩, fun c o e => ?_, ?_⟩
            · have cl : c ≠ l := fun z => by rw [z, hl] at e; cases e
              rw [upd_ne cl, upd_ne cl]
              exact sm _ _ e
            · rw [upd_same, take_next eq, List.flatMap_append]
              simp [Mu30.told]
      · rintro σ H' ⟨⟨v, rfl⟩, sm, hl'⟩
        rw [List.length_map, hfl, List.take_length] at hl'
        refine ⟨_, rfl, ?_⟩
        exact due_same rs m D (ans := (h.drops.length : Int) :: h.drops.flatMap Mu30.told) (by show Mu30.withHire st _ = _; rw [step_some eh]) (by rw [List.length_cons, told_len]; omega) sm hl hl'

/-! ### next -/
def spNextA (M : MRel) : Sp := fun vs H Q _ => ∃ (aM : Addr) (own rd : List Addr) (st : Mu30.State) (n s m : Nat), vs = [.ref aM, .int (s : Int), .int (m : Int)] ∧ M H aM own rd st n ∧ n ≤ 80000 ∧ Due M H aM own rd [] st n (.next s m) Q
theorem scNextA : FnScope ["meter", "s", "m", "refusal", "seconds"] ["meter", "s", "m"] (defScope sNextA) := ⟨rfl, rfl, rfl, by decide +kernel, rfl, by decide +kernel, by decide +kernel⟩
theorem refusal_none {st : Mu30.State} {s m : Nat} (eh : st.hire = none) : refusalOf st s m = -6 := by
  unfold refusalOf
  rw [eh]
theorem refusal_some {st : Mu30.State} {s m : Nat} {h : Hire} (eh : st.hire = some h) : refusalOf st s m = if Mu30.goodWay s m = false then -1 else 0 := by
  unfold refusalOf
  rw [eh]
theorem ok_nextA {f : Addr} {fd : FuncData} (F : Fun K "answer_next" "answer_next" sNextA f fd) (rs : RStay R) (L : Low P w K mg base C CC) (T : MTxt K mg CM) (GR : DefAt P w K mg base "way_refusal" 1 ["meter", "s", "m"] (spRefuse (MAt C CM K R))) : FnOk P w K mg base CX0 40 f fd ["meter", "s", "m"] (spNextA (MAt C CM K R)) := by
  refine F.ok scNextA (fun vs H Q E h => ?_) (fun cdv A outer s H vs Q E hr h => ?_)
  · obtain ⟨aM, own, rd, st, n, s, m, rfl, _⟩ := h
    rfl
  · obtain ⟨aM, own, rd, st, n, s, m, rfl, mm, hn, D⟩ := h
    obtain ⟨dx, aT, as, rest, ownR, vH, ownH, mx, e1, e2⟩ := id mm
    obtain ⟨t0, g0⟩ := T.fine
    obtain ⟨t5, g5⟩ := T.long
    have sl1 : 1 ≤ sizeLine := by decide
    have mh := mx.hire
    refine ⟨_, pss_cons (ps_set (i := 3) scNextA.nd rfl (.inl rfl) (pe_def GR hr (by decide) rfl (pa_cons (pv 0) (pa_cons (pv 1) (pa_cons (pv 2) (pa_nil)))))) (pss_cons (ps_if (pt_cmpR op_ne (pv 3) (pe_gint rfl g0) (nomark _)) (pss_one (ps_ret (pe_lst (pa_cons (pv 3) pa_nil)))) pss_nil) (pss_cons (ps_set (i := 4) scNextA.nd rfl (.inl rfl) (pe_def L.d_seconds_till_drop hr (by decide) rfl (pa_cons (pe_fld (pv 0) rfl) (pa_cons (pe_int) (pa_cons (pv 1) (pa_cons (pv 2) (pa_nil))))))) (pss_cons (ps_if (pt_cmpR op_isN (pv 4) pe_non (nomark _)) (pss_one (ps_ret (pe_lst (pa_cons (pe_gint rfl g5) pa_nil)))) pss_nil) (pss_one (ps_ret (pe_callTy call_list_of (by rfl) L.names.list (by decide +kernel) (pa_cons (pv 4) (pa_nil)))))))), ?_⟩
    refine ⟨_, rfl, _, rfl, _, rfl, aM, own, rd, st, n, s, m, rfl, mm, _, rfl, rfl, _, rfl, ite_ne (fun c => ?_) (fun c => ?_)⟩
    · refine ⟨_, rfl, sl1, fun l hl => ?_⟩
      refine due_new rs mm D (ans := [refusalOf st s m]) ?_ (by show 1 ≤ 200000; decide) hl
      show Mu30.withHire st _ = _
      cases eh : st.hire with
      | none => rw [step_none eh, refusal_none eh]
      | some h =>
        rw [step_some eh]
        rw [refusal_some eh] at c ⊢
        by_cases gw : Mu30.goodWay s m = false
        · rw [if_pos gw, if_pos gw]
        · exact absurd (if_neg gw) c
    · cases eh : st.hire with
      | none =>
        rw [refusal_none eh] at c
        exact absurd c (by decide)
      | some h =>
        have gw : Mu30.goodWay s m = true := by
          rw [refusal_some eh] at c
          cases z : Mu30.goodWay s m with
          | true => rfl
          | false =>
            rw [z] at c
            exact absurd c (by decide)
        obtain ⟨hs, hs2, hm⟩ := good_iff.mp gw
        rw [eh] at mh
        obtain ⟨aH, aF, rfl, rfl, mHne, hh, I, Fi, hT⟩ := mh
        obtain ⟨dh, aG, aP, fs, hx, hG, hP, hF, hfl, hfq⟩ := id hh.ex
        have whole := till_is (m := m) hT hs (h.drops.length + 1) 399 h I
        have stepN : Mu30.step st (.next s m) = (match Mu30.tillDrops st.tariffs (Mu30.speed s m) 400 (h.drops.length + 1) h with
            | some t => (st, Mu30.told (t.less h.gone))
            | none => (st, [-5])) := by
          show Mu30.withHire st _ = _
          rw [step_some eh]
          exact if_neg (by rw [gw]; decide)
        rw [show (400 : Nat) = 399 + 1 from rfl, whole] at stepN
        refine ⟨_, rfl, aM, CM, dx, _, _, rfl, mx.obj, T.cl, T.n_hire, mF_hire, _, rfl, _, rfl, aH, aF, aT, as, st.tariffs, h, 1, s, m, n, rfl, hh, mx.tar, hT, I, hs, hs2, hm, Fi, by omega, fun H2 p g dr s2 hq lo sz => ?_, fun dr H2 s2 => ?_⟩
        · refine ⟨_, rfl, rfl, _, rfl, iteF ⟨_, rfl, p, _, rfl, .inr hq, fun l hl => ?_⟩⟩
          refine due_same rs mm D (ans := Mu30.told (g.gone.less h.gone)) ?_ (by show 2 ≤ 200000; decide) (s2.trans (same_up hl)) (s2.free hl) upd_same
          rw [stepN, dr]
          rfl
        · refine ⟨_, rfl, rfl, _, rfl, iteT ⟨sl1, fun l hl => ?_⟩⟩
          refine due_same rs mm D (ans := [-5]) ?_ (by show 1 ≤ 200000; decide) (s2.trans (same_up hl)) (s2.free hl) upd_same
          rw [stepN, dr]
          rfl

/-! ### would -/
def spWouldA (M : MRel) : Sp := fun vs H Q _ => ∃ (aM : Addr) (own rd : List Addr) (st : Mu30.State) (n s m : Nat), vs = [.ref aM, .int (s : Int), .int (m : Int)] ∧ M H aM own rd st n ∧ n ≤ 80000 ∧ Due M H aM own rd [] st n (.would s m) Q
theorem scWouldA : FnScope ["meter", "s", "m", "before", "told"] ["meter", "s", "m"] (defScope sWouldA) := ⟨rfl, rfl, rfl, by decide +kernel, rfl, by decide +kernel, by decide +kernel⟩
theorem cut_one (x : V) (xs : List V) : cutV (x :: xs) none (some 1) = [x] := by
  unfold cutV
  rw [HT.sIx_none, show (1 : Int) = ((1 : Nat) : Int) from rfl, sIx_nat (by simp)]
  rfl
theorem ok_wouldA {f : Addr} {fd : FuncData} (F : Fun K "answer_would" "answer_would" sWouldA f fd) (rs : RStay R) (L : Low P w K mg base C CC) (T : MTxt K mg CM) (GD : DefAt P w K mg base "answer_drive" 40 ["meter", "s", "m"] (spDriveA C CM K R)) : FnOk P w K mg base CX0 41 f fd ["meter", "s", "m"] (spWouldA (MAt C CM K R)) := by
  refine F.ok scWouldA (fun vs H Q E h => ?_) (fun cdv A outer s H vs Q E hr h => ?_)
  · obtain ⟨aM, own, rd, st, n, s, m, rfl, _⟩ := h
    rfl
  · obtain ⟨aM, own, rd, st, n, s, m, rfl, mm, hn, D⟩ := h
    obtain ⟨dx, aT, as, rest, ownR, vH, ownH, mx, e1, e2⟩ := id mm
    refine ⟨_, pss_cons (ps_set (i := 3) scWouldA.nd rfl (.inl rfl) (pe_fld (pv 0) rfl)) (pss_cons (ps_set (i := 4) scWouldA.nd rfl (.inl rfl) (pe_def GD hr (by decide) rfl (pa_cons (pv 0) (pa_cons (pv 1) (pa_cons (pv 2) (pa_nil)))))) (pss_cons (ps_fld (pv 0) (pv 3) rfl) (pss_one (ps_ret (pe_slice sl_list (pv 4) po_none (po_some pe_int)))))), ?_⟩
    refine ⟨_, rfl, aM, CM, dx, _, _, rfl, mx.obj, T.cl, T.n_hire, mF_hire, _, rfl, _, rfl, _, rfl, aM, dx, aT, as, rest, ownR, vH, ownH, st, n, s, m, rfl, mx, hn, ?_, ?_⟩
    · intro H1 p c no s1 np hp
      refine ⟨_, rfl, _, rfl, aM, CM, dx, _, rfl, s1 _ _ mx.obj, T.cl, T.n_hire, (by show rest.length + 1 + 1 < 1000; have := mx.few; omega), ?_⟩
      rw [putM_hire]
      have s2 : Same H (upd H1 aM (.ins CM dx (mF (.ref aT) vH rest))) := fun b o e => by
        by_cases z : b = aM
        · rw [z, upd_same]
          rw [z, mx.obj] at e
          exact e
        · rw [upd_ne z]
          exact s1 _ _ e
      have pM : p ≠ aM := fun z => by rw [z, mx.obj] at np; cases np
      have hp2 : (upd H1 aM (.ins CM dx (mF (.ref aT) vH rest))) p = some (.lst [.int c]) := by rw [upd_ne pM]; exact hp
      refine ⟨_, rfl, _, rfl, p, _, rfl, SqL.of hp2, fun l hl => ?_⟩
      rw [cut_one]
      exact due_same rs mm D (ans := [c]) (would_no no) (by show 1 ≤ 200000; decide) (s2.trans (same_up hl)) (s2.free hl) upd_same
    · intro H1 p aH aF h g yes hM fr nH nF hg Ig Fg hT np hp
      refine ⟨_, rfl, _, rfl, aM, CM, dx, _, rfl, hM, T.cl, T.n_hire, (by show rest.length + 1 + 1 < 1000; have := mx.few; omega), ?_⟩
      rw [putM_hire]
      have s2 : Same H (upd H1 aM (.ins CM dx (mF (.ref aT) vH rest))) := fun b o e => by
        by_cases z : b = aM
        · rw [z, upd_same]
          rw [z, mx.obj] at e
          exact e
        · rw [upd_ne z]
          exact fr _ _ e z
      have pM : p ≠ aM := fun z => by rw [z, mx.obj] at np; cases np
      have hp2 : (upd H1 aM (.ins CM dx (mF (.ref aT) vH rest))) p = some (.lst [.int ((g.fare + g.extras : Nat) : Int), .int ((g.drops.length - h.drops.length : Nat) : Int)]) := by rw [upd_ne pM]; exact hp
      refine ⟨_, rfl, _, rfl, p, _, rfl, SqL.of hp2, fun l hl => ?_⟩
      rw [cut_one]
      exact due_same rs mm D (ans := [((g.fare + g.extras : Nat) : Int)]) (would_yes yes) (by show 1 ≤ 200000; decide) (s2.trans (same_up hl)) (s2.free hl) upd_same
end
end TR


set_option Elab.async false
set_option linter.all false
set_option maxRecDepth 100000
set_option maxHeartbeats 2000000
namespace TR
open PySem PySem.Spec PyProof.Rows L2
open Mu30 (Q frac Tariff Hire)

abbrev sInitM : Stmt := inClass (topS 69) 0
abbrev sBeginA : Stmt := topS 70
abbrev sPayA : Stmt := topS 79
abbrev sReachA : Stmt := topS 80
abbrev sCallA : Stmt := topS 86

/-- the rest of the meter: its rank -/
def RR (CR : Addr) : RRel := fun H rest own rk aw => ∃ aR dR aW aA, rest = ([("rank", .ref aR)] : List (Str × V)) ∧ own = [aR, aW, aA] ∧ RankAt CR H aR dR aW aA rk aw
theorem RR.stay (CR : Addr) : RStay (RR CR) := by
  intro H H' rest own rk aw x s
  obtain ⟨aR, dR, aW, aA, rfl, rfl, R⟩ := x
  refine ⟨aR, dR, aW, aA, rfl, rfl, R.stay fun b o e z => s b o e (.inl ?_)⟩
  rcases z with z | z | z <;> simp [z]
/-- what the top has written of the meter besides -/
structure MTxt2 (K : PySem.W.Frag) (mg : Str → Option Value) (CM : Addr) : Prop where
  n_rank : NoAttr K CM "rank"
  reach : ∃ t, mg "MOST_REACH" = some (.int 200 t)
theorem due_nil {M : MRel} {H : Hp} {aM : Addr} {own rd A : List Addr} {st : Mu30.State} {n : Nat} {x : Mu30.Call} {Q : VK} (D : Due M H aM own rd A st n x Q) : Due M H aM own rd [] st n x Q :=
  fun H' l own' rd' h1 h2 h3 h4 h5 h6 h7 => D H' l own' rd' h1 h2 h3 h4 h5 h6 fun b hb => by
    rcases h7 b hb with z | z | z
    · exact .inl z
    · cases z
    · exact .inr (.inr z)

section
variable {P : Program} {w : World} {K : PySem.W.Frag} {mg : Str → Option Value} {base : Heap} {C CC CM CR : Addr} {R : RRel}

/-! ### pay -/
theorem MX.noHire {H H' : Hp} {aM dx aT : Addr} {as : List Addr} {rest : List (Str × V)} {ownR : List Addr} {vH : V} {ownH : List Addr} {st : Mu30.State} {n m : Nat} (rs : RStay R) (mx : MX C CM K R H aM dx aT as rest ownR vH ownH st n)
    (ho : H' aM = some (.ins CM dx (mF (.ref aT) .non rest))) (fr : ∀ b o, H b = some o → b ≠ aM → H' b = some o) (hm : n ≤ m) : MX C CM K R H' aM dx aT as rest ownR .non [] { st with hire := none } m := by
  refine ⟨ho, mx.few, ?_, mx.tok, rs _ _ _ _ _ _ mx.rnk fun b o e z => fr b o e fun q => ?_, ⟨rfl, rfl⟩, ?_, mx.sepM, (fun b hb => nomatch hb), fun b hb => ?_, Nat.le_trans mx.cnt hm⟩
  · exact ⟨fr _ _ mx.tar.top (fun q => mx.apart aM (by simp) (by rw [← q]; simp)), mx.tar.len, fun i b r q1 q2 => fr _ _ (mx.tar.row i b r q1 q2) fun q => mx.apart aM (by simp) (by have := List.mem_of_getElem? q1; rw [← q]; simp [this])⟩
  · subst q
    rcases z with z | z
    · exact mx.sepM z
    · rw [mx.obj] at e
      cases e
      exact z.ins
  · intro b hb z
    refine mx.apart b ?_ z
    rcases List.mem_cons.mp hb with rfl | hb
    · simp
    · have : b ∈ ownR := by simpa using hb
      simp [this]
  · obtain ⟨o, eo⟩ := mx.here b hb
    exact ⟨o, fr b o eo fun q => mx.sepM (q ▸ hb)⟩
def spPayA (M : MRel) : Sp := fun vs H Q _ => ∃ (aM : Addr) (own rd : List Addr) (st : Mu30.State) (n : Nat), vs = [.ref aM] ∧ M H aM own rd st n ∧ n ≤ 80000 ∧ Due M H aM own rd [] st n .pay Q
theorem scPayA : FnScope ["meter", "hire"] ["meter"] (defScope sPayA) := ⟨rfl, rfl, rfl, by decide +kernel, rfl, by decide +kernel, by decide +kernel⟩
theorem ok_payA {f : Addr} {fd : FuncData} (F : Fun K "answer_pay" "answer_pay" sPayA f fd) (rs : RStay R) (L : Low P w K mg base C CC) (T : MTxt K mg CM) : FnOk P w K mg base CX0 40 f fd ["meter"] (spPayA (MAt C CM K R)) := by
  refine F.ok scPayA (fun vs H Q E h => ?_) (fun cdv A outer s H vs Q E hr h => ?_)
  · obtain ⟨aM, own, rd, st, n, rfl, _⟩ := h
    rfl
  · obtain ⟨aM, own, rd, st, n, rfl, m, hn, D⟩ := h
    obtain ⟨dx, aT, as, rest, ownR, vH, ownH, mx, e1, e2⟩ := id m
    obtain ⟨t6, g6⟩ := T.noHire
    have sl1 : 1 ≤ sizeLine := by decide
    have mh := mx.hire
    refine ⟨_, pss_cons (ps_set (i := 1) scPayA.nd rfl (.inl rfl) (pe_fld (pv 0) rfl)) (pss_cons (ps_if (pt_cmpR op_isN (pv 1) pe_non (nomark _)) (pss_one (ps_ret (pe_lst (pa_cons (pe_gint rfl g6) pa_nil)))) pss_nil) (pss_cons (ps_fld (pv 0) pe_non rfl) (pss_one (ps_ret (pe_lst (pa_cons (pe_def L.d_fare_with_extras hr (by decide) rfl (pa_cons (pv 1) (pa_nil))) (pa_cons (pe_ix ix_tup (pe_fld (pv 1) rfl) pe_int (fun _ _ => rfl)) (pa_cons (pe_ix ix_tup (pe_fld (pv 1) rfl) pe_int (fun _ _ => rfl)) (pa_nil))))))))), ?_⟩
    refine ⟨_, rfl, aM, CM, dx, _, _, rfl, mx.obj, T.cl, T.n_hire, mF_hire, _, rfl, rfl, _, rfl, ?_⟩
    cases eh : st.hire with
    | none =>
      rw [eh] at mh
      obtain ⟨rfl, rfl⟩ := mh
      refine iteT ⟨sl1, fun l hl => ?_⟩
      exact due_new rs m D (ans := [-6]) (step_none eh _) (by decide) hl
    | some h =>
      rw [eh] at mh
      obtain ⟨aH, aF, rfl, rfl, mHne, hh, I, Fi, hT⟩ := mh
      obtain ⟨dh, aG, aP, fs, hx, hG, hP, hF, hfl, hfq⟩ := id hh.ex
      refine iteF ?_
      refine ⟨_, rfl, aM, CM, dx, _, rfl, mx.obj, T.cl, T.n_hire, (by show rest.length + 1 + 1 < 1000; have := mx.few; omega), ?_⟩
      rw [putM_hire]
      have fr : ∀ b o, H b = some o → b ≠ aM → (upd H aM (.ins CM dx (mF (.ref aT) .non rest))) b = some o := fun b o e z => by rw [upd_ne z]; exact e
      have hM2 : (upd H aM (.ins CM dx (mF (.ref aT) .non rest))) aM = some (.ins CM dx (mF (.ref aT) .non rest)) := upd_same
      generalize upd H aM (.ins CM dx (mF (.ref aT) .non rest)) = H2 at fr hM2
      have im : ∀ b o, H b = some o → Imm o → H2 b = some o := fun b o e i => fr b o e fun q => by
        rw [q, mx.obj] at e
        cases e
        exact i.ins
      have hFne : aF ≠ aM := ne_of hF mx.obj (by intro z; cases z)
      have hh2 : HireAt C K H2 aH aF aT h := ⟨dh, aG, aP, fs, fr _ _ hx mHne, hG.imm im, hP.imm im, fr _ _ hF hFne, hfl, fun i b q q1 q2 => (hfq i b q q1 q2).imm im⟩
      refine ⟨_, rfl, aH, aF, aT, h, rfl, hh2, _, rfl, aH, C, dh, _, _, rfl, fr _ _ hx mHne, L.hire.cl, L.hire.n_gone, f7_gone, aG, _, _, _, rfl, rfl, hG.imm im, at0, _, rfl, aH, C, dh, _, _, rfl, fr _ _ hx mHne, L.hire.cl, L.hire.n_gone, f7_gone, aG, _, _, _, rfl, rfl, hG.imm im, at1, (by show 3 ≤ sizeLine; decide), fun l hl => ?_⟩
      have nl : H l = none := by
        cases z : H l with
        | none => rfl
        | some o =>
          by_cases q : l = aM
          · rw [q, hM2] at hl; cases hl
          · rw [fr _ _ z q] at hl; cases hl
      have due : Mu30.step st .pay = ({ st with hire := none }, [((h.fare + h.extras : Nat) : Int), h.gone.n, (h.gone.d : Int)]) := by
        show Mu30.withHire st _ = _
        rw [step_some eh]
        rfl
      have s3 := same_up (o := HO.lst [V.int ((h.fare + h.extras : Nat) : Int), V.int h.gone.n, V.int (h.gone.d : Int)]) hl
      refine D _ l (aM :: ([] ++ ownR)) (aT :: as) ?_ nl ?_ (by rw [due]; show 3 ≤ 200000; decide) (fun b o e q => s3 _ _ (fr b o e fun z => q (by rw [e1, z]; simp))) (fun b hb => .inl ?_) (fun b hb => .inl (by rw [e2]; exact hb))
      · rw [due]
        exact ⟨dx, aT, as, rest, ownR, .non, [], (mx.noHire rs hM2 fr (Nat.le_refl _)).stay rs (by omega) fun b o e _ => s3 _ _ e, rfl, rfl⟩
      · rw [due]
        exact upd_same
      · rw [e1]
        rcases List.mem_cons.mp hb with rfl | hb
        · simp
        · have : b ∈ ownR := by simpa using hb
          simp [this]

/-! ### reach -/
def spReachA (M : MRel) : Sp := fun vs H Q _ => ∃ (aM : Addr) (own rd : List Addr) (st : Mu30.State) (n x s m : Nat), vs = [.ref aM, .int (x : Int), .int (s : Int), .int (m : Int)] ∧ M H aM own rd st n ∧ n ≤ 80000 ∧ Due M H aM own rd [] st n (.reach x s m) Q
theorem scReachA : FnScope ["meter", "n", "s", "m", "refusal", "seconds"] ["meter", "n", "s", "m"] (defScope sReachA) := ⟨rfl, rfl, rfl, by decide +kernel, rfl, by decide +kernel, by decide +kernel⟩
theorem speed_sz {s m k : Nat} (hs : 1 ≤ s) (hs2 : s ≤ 20000) (hm : m ≤ 100000) (hk : 40 ≤ k) : Sz k (Mu30.speed s m) := by
  refine Sz.mono (j := 40) ?_ hk
  unfold Mu30.speed
  rw [frac_pos (by omega : 0 < s)]
  have h1 := Nat.div_le_self m (Nat.gcd m s)
  have h2 := Nat.div_le_self s (Nat.gcd m s)
  refine ⟨?_, ?_⟩
  · show ((m / Nat.gcd m s : Nat) : Int).natAbs < 2 ^ 40
    rw [Int.natAbs_natCast]
    omega
  · show s / Nat.gcd m s < 2 ^ 40
    omega
theorem ok_reachA {f : Addr} {fd : FuncData} (F : Fun K "answer_reach" "answer_reach" sReachA f fd) (rs : RStay R) (L : Low P w K mg base C CC) (T : MTxt K mg CM) (T2 : MTxt2 K mg CM) (GR : DefAt P w K mg base "way_refusal" 1 ["meter", "s", "m"] (spRefuse (MAt C CM K R))) : FnOk P w K mg base CX0 40 f fd ["meter", "n", "s", "m"] (spReachA (MAt C CM K R)) := by
  refine F.ok scReachA (fun vs H Q E h => ?_) (fun cdv A outer s H vs Q E hr h => ?_)
  · obtain ⟨aM, own, rd, st, n, x, s, m, rfl, _⟩ := h
    rfl
  · obtain ⟨aM, own, rd, st, n, x, s, m, rfl, mm, hn, D⟩ := h
    obtain ⟨dx, aT, as, rest, ownR, vH, ownH, mx, e1, e2⟩ := id mm
    obtain ⟨t0, g0⟩ := T.fine
    obtain ⟨t1, g1⟩ := T.wrong
    obtain ⟨t5, g5⟩ := T.long
    obtain ⟨tX, gX⟩ := T2.reach
    have sl1 : 1 ≤ sizeLine := by decide
    have mh := mx.hire
    refine ⟨_, pss_cons (ps_set (i := 4) scReachA.nd rfl (.inl rfl) (pe_def GR hr (by decide) rfl (pa_cons (pv 0) (pa_cons (pv 2) (pa_cons (pv 3) (pa_nil)))))) (pss_cons (ps_if (pt_cmpR op_ne (pv 4) (pe_gint rfl g0) (nomark _)) (pss_one (ps_ret (pe_lst (pa_cons (pv 4) pa_nil)))) pss_nil) (pss_cons (ps_if (pt_cmpR op_gt (pv 1) (pe_gint rfl gX) (nomark _)) (pss_one (ps_ret (pe_lst (pa_cons (pe_gint rfl g1) pa_nil)))) pss_nil) (pss_cons (ps_set (i := 5) scReachA.nd rfl (.inl rfl) (pe_def L.d_seconds_till_drop hr (by decide) rfl (pa_cons (pe_fld (pv 0) rfl) (pa_cons (pe_op op_add (pv 1) (pe_int)) (pa_cons (pv 2) (pa_cons (pv 3) (pa_nil))))))) (pss_cons (ps_if (pt_cmpR op_isN (pv 5) pe_non (nomark _)) (pss_one (ps_ret (pe_lst (pa_cons (pe_gint rfl g5) pa_nil)))) pss_nil) (pss_one (ps_ret (pe_callTy call_list_of (by rfl) L.names.list (by decide +kernel) (pa_cons (pe_def L.d_times hr (by decide) rfl (pa_cons (pv 5) (pa_cons (pe_def L.d_lowest hr (by decide) rfl (pa_cons (pv 3) (pa_cons (pv 2) (pa_nil)))) (pa_nil)))) (pa_nil))))))))), ?_⟩
    refine ⟨_, rfl, _, rfl, _, rfl, aM, own, rd, st, n, s, m, rfl, mm, _, rfl, rfl, _, rfl, ite_ne (fun c => ?_) (fun c => ?_)⟩
    · refine ⟨_, rfl, sl1, fun l hl => ?_⟩
      refine due_new rs mm D (ans := [refusalOf st s m]) ?_ (by show 1 ≤ 200000; decide) hl
      show Mu30.withHire st _ = _
      cases eh : st.hire with
      | none => rw [step_none eh, refusal_none eh]
      | some h =>
        rw [step_some eh]
        rw [refusal_some eh] at c ⊢
        by_cases gw : Mu30.goodWay s m = false
        · rw [if_pos (.inl gw), if_pos gw]
        · exact absurd (if_neg gw) c
    · cases eh : st.hire with
      | none =>
        rw [refusal_none eh] at c
        exact absurd c (by decide)
      | some h =>
        have gw : Mu30.goodWay s m = true := by
          rw [refusal_some eh] at c
          cases z : Mu30.goodWay s m with
          | true => rfl
          | false =>
            rw [z] at c
            exact absurd c (by decide)
        obtain ⟨hs, hs2, hm⟩ := good_iff.mp gw
        rw [eh] at mh
        obtain ⟨aH, aF, rfl, rfl, mHne, hh, I, Fi, hT⟩ := mh
        obtain ⟨dh, aG, aP, fs, hx, hG, hP, hF, hfl, hfq⟩ := id hh.ex
        have whole := till_is (m := m) hT hs (h.drops.length + (x + 1)) 399 h I
        refine ⟨_, rfl, _, _, rfl, rfl, _, rfl, ite_dec (fun cx => ?_) (fun cx => ?_)⟩
        · refine ⟨sl1, fun l hl => ?_⟩
          refine due_new rs mm D (ans := [-1]) ?_ (by decide) hl
          show Mu30.withHire st _ = _
          rw [step_some eh]
          exact if_pos (.inr (by omega))
        · have stepN : Mu30.step st (.reach x s m) = (match Mu30.tillDrops st.tariffs (Mu30.speed s m) 400 (h.drops.length + (x + 1)) h with
              | some t => (st, Mu30.told ((t.less h.gone).times (Mu30.speed s m)))
              | none => (st, [-5])) := by
            show Mu30.withHire st _ = _
            rw [step_some eh]
            refine if_neg fun z => ?_
            rcases z with z | z
            · rw [gw] at z; cases z
            · omega
          rw [show (400 : Nat) = 399 + 1 from rfl, whole] at stepN
          refine ⟨_, rfl, aM, CM, dx, _, _, rfl, mx.obj, T.cl, T.n_hire, mF_hire, _, rfl, _, _, rfl, rfl, _, rfl, _, rfl, aH, aF, aT, as, st.tariffs, h, x + 1, s, m, n, rfl, hh, mx.tar, hT, I, hs, hs2, hm, Fi, by omega, fun H2 p g dr s2 hq lo sz => ?_, fun dr H2 s2 => ?_⟩
          · refine ⟨_, rfl, rfl, _, rfl, iteF ⟨_, rfl, _, rfl, _, rfl, (m : Int), (s : Int), rfl, Int.natCast_nonneg _, by omega, fun p1 n1 => ?_⟩⟩
            have s3 : Same H2 (upd H2 p1 (qT (Mu30.speed s m))) := same_up n1
            have q3 : QAt K (upd H2 p1 (qT (Mu30.speed s m))) p1 (Mu30.speed s m) := QAt.of upd_same
            refine ⟨p, p1, g.gone.less h.gone, Mu30.speed s m, _, rfl, hq.same' s3, q3, lo, speed_ok hs, sz, speed_sz hs hs2 hm (by omega), by omega, by omega, trivial, fun p2 n2 => ?_⟩
            refine ⟨p2, _, rfl, .inr (SqT.of upd_same), fun l hl => ?_⟩
            have s4 := (s2.trans s3).trans (same_up (o := qT ((g.gone.less h.gone).times (Mu30.speed s m))) n2)
            refine due_same rs mm D (ans := Mu30.told ((g.gone.less h.gone).times (Mu30.speed s m))) ?_ (by show 2 ≤ 200000; decide) (s4.trans (same_up hl)) (s4.free hl) upd_same
            rw [stepN, dr]
            rfl
          · refine ⟨_, rfl, rfl, _, rfl, iteT ⟨sl1, fun l hl => ?_⟩⟩
            refine due_same rs mm D (ans := [-5]) ?_ (by show 1 ≤ 200000; decide) (s2.trans (same_up hl)) (s2.free hl) upd_same
            rw [stepN, dr]
            rfl

/-! ### begin, and a new meter -/
theorem putM_rank {vT vH v y : V} : putF "rank" y (mF vT vH [("rank", v)]) = mF vT vH [("rank", y)] := (put_past (by decide +kernel)).trans (congrArg _ ((put_past (by decide +kernel)).trans (congrArg _ put_here)))
theorem newM_tariffs {v : V} : putF "tariffs" v ([] : List (Str × V)) = ([("tariffs", v)] : List (Str × V)) := put_new
theorem newM_hire {v y : V} : putF "hire" y ([("tariffs", v)] : List (Str × V)) = mF v y [] := (put_past (by decide +kernel)).trans (congrArg _ put_new)
theorem newM_rank {vT vH y : V} : putF "rank" y (mF vT vH []) = mF vT vH [("rank", y)] := (put_past (by decide +kernel)).trans (congrArg _ ((put_past (by decide +kernel)).trans (congrArg _ put_new)))
def spBeginA (M : MRel) : Sp := fun vs H Q _ => ∃ (aM aL : Addr) (asL own rd A : List Addr) (st : Mu30.State) (n : Nat) (xs : List (List Nat)), vs = [.ref aM, .ref aL] ∧ M H aM own rd st n ∧ n ≤ 80000 ∧ RowsT H aL asL (xs.map fun r => r.map fun (n : Nat) => (n : Int)) ∧ (∀ b ∈ aL :: asL, b ∈ A) ∧ (∀ b ∈ A, b ∉ own) ∧ xs.length ≤ 6 ∧ Due M H aM own rd A st n (.begin_ xs) Q
theorem scBeginA : FnScope ["meter", "tariffs"] ["meter", "tariffs"] (defScope sBeginA) := ⟨rfl, rfl, rfl, by decide +kernel, rfl, by decide +kernel, by decide +kernel⟩
theorem rows_nn {xs : List (List Nat)} : ∀ r ∈ (xs.map fun r => r.map fun (n : Nat) => (n : Int)), ∀ n ∈ r, (0 : Int) ≤ n := by
  intro r hr n hn
  obtain ⟨q, _, rfl⟩ := List.mem_map.mp hr
  obtain ⟨k, _, rfl⟩ := List.mem_map.mp hn
  exact Int.natCast_nonneg _
theorem rows_back (xs : List (List Nat)) : ((xs.map fun r => r.map fun (n : Nat) => (n : Int)).map fun r => Mu30.tariffOf (r.map Int.toNat)) = xs.map Mu30.tariffOf := by
  rw [List.map_map]
  refine List.map_congr_left fun r _ => ?_
  show Mu30.tariffOf ((r.map fun (n : Nat) => (n : Int)).map Int.toNat) = _
  rw [List.map_map]
  have : (Int.toNat ∘ fun (n : Nat) => (n : Int)) = id := by funext n; rfl
  rw [this, List.map_id]
/-- a meter made anew -/
theorem MX.fresh {H : Hp} {aM dx aT aR dR aW aA : Addr} {as : List Addr} {T : List Tariff} {n : Nat} (ho : H aM = some (.ins CM dx (mF (.ref aT) .non [("rank", .ref aR)]))) (ht : TarAt H aT as T) (tok : T = [] ∨ TOk T) (R : RankAt CR H aR dR aW aA [] []) (mT : aM ∉ aT :: as) (rT : ∀ b ∈ [aR, aW, aA], b ∉ aT :: as) (mR : aM ≠ aR) :
    MX C CM K (RR CR) H aM dx aT as [("rank", .ref aR)] [aR, aW, aA] .non [] ⟨T, none, [], []⟩ n := by
  refine ⟨ho, by show 1 ≤ 10; decide, ht, tok, ⟨aR, dR, aW, aA, rfl, rfl, R⟩, ⟨rfl, rfl⟩, fun b hb => ?_, fun z => ?_, (fun b hb => nomatch hb), fun b hb => ?_, Nat.zero_le _⟩
  · rcases List.mem_cons.mp hb with rfl | hb
    · exact mT
    · exact rT b (by simpa using hb)
  · rcases List.mem_cons.mp z with z | z
    · exact mR z
    · rcases List.mem_cons.mp z with z | z
      · rw [z, R.wai] at ho; cases ho
      · have : aM = aA := by simpa using z
        rw [this, R.awy] at ho; cases ho
  · rcases List.mem_cons.mp hb with z | hb
    · exact ⟨_, by rw [z]; exact R.obj⟩
    · rcases List.mem_cons.mp hb with z | hb
      · exact ⟨_, by rw [z]; exact R.wai⟩
      · have : b = aA := by simpa using hb
        exact ⟨_, by rw [this]; exact R.awy⟩
theorem ok_beginA {f fR : Addr} {fd fdR : FuncData} (F : Fun K "answer_begin" "answer_begin" sBeginA f fd) (L : Low P w K mg base C CC) (T : MTxt K mg CM) (T2 : MTxt2 K mg CM) (TR : RTxt K mg CR) (MR : Mk K CR fR) (bR : Binds K fdR ["self"] []) (GR : FnOk P w K mg base CX0 1 fR fdR ["self"] (spInitR CR)) :
    FnOk P w K mg base CX0 40 f fd ["meter", "tariffs"] (spBeginA (MAt C CM K (RR CR))) := by
  refine F.ok scBeginA (fun vs H Q E h => ?_) (fun cdv A outer s H vs Q E hr h => ?_)
  · obtain ⟨aM, aL, asL, own, rd, A, st, n, xs, rfl, _⟩ := h
    rfl
  · obtain ⟨aM, aL, asL, own, rd, A, st, n, xs, rfl, m, hn, hL, hLA, hAo, few, D⟩ := h
    obtain ⟨dx, aT, as, rest, ownR, vH, ownH, mx, e1, e2⟩ := id m
    obtain ⟨aR0, dR0, aW0, aA0, er0, eo0, R0⟩ := mx.rnk
    obtain ⟨t1, g1⟩ := T.wrong
    have sl1 : 1 ≤ sizeLine := by decide
    refine ⟨_, pss_cons (ps_if (pt_not (pt_val (pe_def L.d_are_tariffs hr (by decide) rfl (pa_cons (pv 1) (pa_nil))))) (pss_one (ps_ret (pe_lst (pa_cons (pe_gint rfl g1) pa_nil)))) pss_nil) (pss_cons (ps_fld (pv 0) (pv 1) rfl) (pss_cons (ps_fld (pv 0) pe_non rfl) (pss_cons (ps_fld (pv 0) (pe_make0 MR GR (hr.mono (by decide)) rfl TR.gC bR .nil pass0) rfl) (pss_one (ps_ret (pe_lst (pa_cons (pe_int) pa_nil))))))), ?_⟩
    refine ⟨_, rfl, aL, _, rfl, hL.at, by rw [List.length_map]; omega, fun b hb => ⟨_, rfl, ?_⟩⟩
    refine ite_not (fun c => ?_) (fun c => ?_)
    · refine ⟨sl1, fun l hl => ?_⟩
      refine due_new (RR.stay CR) m D (ans := [-1]) ?_ (by decide) hl
      have no : ¬ areT _ := fun z => by rw [hb.mpr z] at c; cases c
      show (match Mu30.allOf (xs.map Mu30.tariffOf) with | some t => if t.isEmpty = true ∨ (4 < t.length ∨ Mu30.rising t = false) then (st, [-1]) else _ | none => (st, [-1])) = _
      cases ea : Mu30.allOf (xs.map Mu30.tariffOf) with
      | none => rfl
      | some t =>
        show (if t.isEmpty = true ∨ (4 < t.length ∨ Mu30.rising t = false) then (st, [-1]) else _) = _
        refine if_pos ?_
        apply Classical.byContradiction
        intro z
        have z1 : ¬ t.isEmpty = true := fun q => z (.inl q)
        have z2 : ¬ 4 < t.length := fun q => z (.inr (.inl q))
        have z3 : Mu30.rising t = true := by
          cases q : Mu30.rising t with
          | true => rfl
          | false => exact absurd (.inr (.inr q)) z
        have z4 : 0 < t.length := Nat.pos_of_ne_zero fun q => z1 (by rw [List.eq_nil_of_length_eq_zero q]; rfl)
        exact no (areT_iff rows_nn (by rw [rows_back]; exact ea) z4 (by omega) z3)
    · have yes := hb.mp c
      obtain ⟨t, f1, f2, f3⟩ := areT_of yes
      rw [rows_back] at f1
      have due : Mu30.step st (.begin_ xs) = (⟨t, none, [], []⟩, [0]) := by
        show (match Mu30.allOf (xs.map Mu30.tariffOf) with | some t => if t.isEmpty = true ∨ (4 < t.length ∨ Mu30.rising t = false) then (st, [-1]) else _ | none => (st, [-1])) = _
        rw [f1]
        refine if_neg fun z => ?_
        have := f3.ne
        rcases z with z | z | z
        · rw [List.isEmpty_iff.mp z] at this
          exact absurd this (by decide)
        · have := f3.most
          omega
        · rw [f3.up] at z
          cases z
      rw [f2] at hL
      subst er0
      have mO : aM ∈ own := by rw [e1]; simp
      have mL : aM ∉ aL :: asL := fun z => hAo aM (hLA aM z) mO
      refine ⟨_, rfl, _, rfl, aM, CM, dx, _, rfl, mx.obj, T.cl, T.n_tariffs, (by show 3 < 1000; decide), ?_⟩
      rw [putM_tariffs]
      refine ⟨_, rfl, aM, CM, dx, _, rfl, upd_same, T.cl, T.n_hire, (by show 3 < 1000; decide), ?_⟩
      rw [putM_hire, upd_upd]
      have fr1 : ∀ b o, H b = some o → b ≠ aM → (upd H aM (.ins CM dx (mF (.ref aL) .non [("rank", .ref aR0)]))) b = some o := fun b o e z => by rw [upd_ne z]; exact e
      have hM1 : (upd H aM (.ins CM dx (mF (.ref aL) .non [("rank", .ref aR0)]))) aM = some (.ins CM dx (mF (.ref aL) .non [("rank", .ref aR0)])) := upd_same
      generalize upd H aM (.ins CM dx (mF (.ref aL) .non [("rank", .ref aR0)])) = H1 at fr1 hM1
      intro aR dR nR nd ne
      have up : ∀ b o, H1 b = some o → (upd (upd H1 dR (.own aR)) aR (.ins CR dR [])) b = some o := fun b o e => by
        rw [upd_ne (ne_of_none e nR), upd_ne (ne_of_none e nd)]
        exact e
      refine ⟨aR, dR, rfl, upd_same, fun H2 aW aA RA nW nA kp => ⟨rfl, ?_⟩⟩
      have s2 : Same H1 H2 := Same.made nR nd kp
      have off : ∀ b, (upd (upd H1 dR (.own aR)) aR (.ins CR dR [])) b = none → H1 b = none := fun b e => by
        cases z : H1 b with
        | none => rfl
        | some o => rw [up _ _ z] at e; cases e
      have nW1 := off _ nW
      have nA1 := off _ nA
      have free1 : ∀ b, H1 b = none → H b = none := fun b e => by
        cases z : H b with
        | none => rfl
        | some o =>
          by_cases q : b = aM
          · rw [q, hM1] at e; cases e
          · rw [fr1 _ _ z q] at e; cases e
      have mR : aM ≠ aR := fun z => by rw [← z, hM1] at nR; cases nR
      have mW : aM ≠ aW := fun z => by rw [← z, hM1] at nW1; cases nW1
      have mA : aM ≠ aA := fun z => by rw [← z, hM1] at nA1; cases nA1
      refine ⟨_, rfl, aM, CM, dx, _, rfl, s2 _ _ hM1, T.cl, T2.n_rank, (by show 3 < 1000; decide), ?_⟩
      rw [putM_rank]
      have fr3 : ∀ b o, H2 b = some o → b ≠ aM → (upd H2 aM (.ins CM dx (mF (.ref aL) .non [("rank", .ref aR)]))) b = some o := fun b o e z => by rw [upd_ne z]; exact e
      have hM3 : (upd H2 aM (.ins CM dx (mF (.ref aL) .non [("rank", .ref aR)]))) aM = some (.ins CM dx (mF (.ref aL) .non [("rank", .ref aR)])) := upd_same
      generalize upd H2 aM (.ins CM dx (mF (.ref aL) .non [("rank", .ref aR)])) = H3 at fr3 hM3
      refine ⟨sl1, fun l hl => ?_⟩
      have s4 := same_up (o := HO.lst [V.int 0]) hl
      have fr : ∀ b o, H b = some o → b ≠ aM → (upd H3 l (.lst [V.int 0])) b = some o := fun b o e z => s4 _ _ (fr3 _ _ (s2 _ _ (fr1 _ _ e z)) z)
      have nl : H l = none := by
        cases z : H l with
        | none => rfl
        | some o =>
          by_cases q : l = aM
          · rw [q, hM3] at hl; cases hl
          · rw [fr3 _ _ (s2 _ _ (fr1 _ _ z q)) q] at hl; cases hl
      have tar4 : TarAt (upd H3 l (.lst [V.int 0])) aL asL t := ⟨fr _ _ hL.top fun z => mL (by rw [← z]; simp), hL.len, fun i b r q1 q2 => fr _ _ (hL.row i b r q1 q2) fun z => mL (by have := List.mem_of_getElem? q1; rw [← z]; simp [this])⟩
      have RA4 : RankAt CR (upd H3 l (.lst [V.int 0])) aR dR aW aA [] [] := RA.stay fun b o e z => s4 _ _ (fr3 _ _ e (by
        rcases z with z | z | z
        · rw [z]; exact Ne.symm mR
        · rw [z]; exact Ne.symm mW
        · rw [z]; exact Ne.symm mA))
      have newR : ∀ b ∈ [aR, aW, aA], H b = none := fun b hb => by
        rcases List.mem_cons.mp hb with z | hb
        · rw [z]; exact free1 _ nR
        · rcases List.mem_cons.mp hb with z | hb
          · rw [z]; exact free1 _ nW1
          · have : b = aA := by simpa using hb
            rw [this]; exact free1 _ nA1
      have rL : ∀ b ∈ [aR, aW, aA], b ∉ aL :: asL := fun b hb z => by
        obtain ⟨o, eo⟩ := hL.there b z
        rw [newR b hb] at eo
        cases eo
      refine D _ l (aM :: ([] ++ [aR, aW, aA])) (aL :: asL) ?_ nl (by rw [due]; exact upd_same) (by rw [due]; show 1 ≤ 200000; decide) (fun b o e q => fr b o e fun z => q (by rw [z]; exact mO)) (fun b hb => ?_) (fun b hb => .inr (.inl (hLA b hb)))
      · rw [due]
        exact ⟨dx, aL, asL, _, _, .non, [], MX.fresh (s4 _ _ hM3) tar4 (.inr f3) RA4 mL rL mR, rfl, rfl⟩
      · rcases List.mem_cons.mp hb with z | hb
        · exact .inl (by rw [z]; exact mO)
        · exact .inr (newR b (by simpa using hb))
theorem scInitM : FnScope ["self"] ["self"] (defScope sInitM) := ⟨rfl, rfl, rfl, by decide +kernel, rfl, by decide +kernel, by decide +kernel⟩
theorem ok_initM {f fR : Addr} {fd fdR : FuncData} (F : Fun K "__init__" "Meter.__init__" sInitM f fd) (T : MTxt K mg CM) (T2 : MTxt2 K mg CM) (TR : RTxt K mg CR) (MR : Mk K CR fR) (bR : Binds K fdR ["self"] []) (GR : FnOk P w K mg base CX0 1 fR fdR ["self"] (spInitR CR)) :
    FnOk P w K mg base CX0 40 f fd ["self"] (spInitM (MAt C CM K (RR CR)) CM) := by
  refine F.ok scInitM (fun vs H Q E h => ?_) (fun cdv A outer s H vs Q E hr h => ?_)
  · obtain ⟨p, dx, rfl, _⟩ := h
    rfl
  · obtain ⟨p, dx, rfl, hp, k⟩ := h
    refine ⟨_, pss_cons (ps_fld (pv 0) (pe_lst pa_nil) rfl) (pss_cons (ps_fld (pv 0) pe_non rfl) (pss_one (ps_fld (pv 0) (pe_make0 MR GR (hr.mono (by decide)) rfl TR.gC bR .nil pass0) rfl))), ?_⟩
    refine ⟨(by show 0 ≤ sizeLine; decide), fun aT nT => ?_⟩
    have s1 : Same H (upd H aT (.lst [])) := same_up nT
    have h1 : (upd H aT (.lst [])) aT = some (.lst []) := upd_same
    generalize upd H aT (.lst []) = H1 at s1 h1
    have pT : aT ≠ p := fun z => by rw [z, hp] at nT; cases nT
    refine ⟨_, rfl, p, CM, dx, _, rfl, s1 _ _ hp, T.cl, T.n_tariffs, (by show 0 < 1000; decide), ?_⟩
    rw [newM_tariffs]
    refine ⟨_, rfl, p, CM, dx, _, rfl, upd_same, T.cl, T.n_hire, (by show 1 < 1000; decide), ?_⟩
    rw [newM_hire, upd_upd]
    have fr2 : ∀ b o, H1 b = some o → b ≠ p → (upd H1 p (.ins CM dx (mF (.ref aT) .non []))) b = some o := fun b o e z => by rw [upd_ne z]; exact e
    have hM2 : (upd H1 p (.ins CM dx (mF (.ref aT) .non []))) p = some (.ins CM dx (mF (.ref aT) .non [])) := upd_same
    generalize upd H1 p (.ins CM dx (mF (.ref aT) .non [])) = H2 at fr2 hM2
    intro aR dR nR nd ne
    have up : ∀ b o, H2 b = some o → (upd (upd H2 dR (.own aR)) aR (.ins CR dR [])) b = some o := fun b o e => by
      rw [upd_ne (ne_of_none e nR), upd_ne (ne_of_none e nd)]
      exact e
    refine ⟨aR, dR, rfl, upd_same, fun H3 aW aA RA nW nA kp => ⟨rfl, ?_⟩⟩
    have s3 : Same H2 H3 := Same.made nR nd kp
    have off : ∀ b, (upd (upd H2 dR (.own aR)) aR (.ins CR dR [])) b = none → H2 b = none := fun b e => by
      cases z : H2 b with
      | none => rfl
      | some o => rw [up _ _ z] at e; cases e
    have nW1 := off _ nW
    have nA1 := off _ nA
    have mR : p ≠ aR := fun z => by rw [← z, hM2] at nR; cases nR
    have mW : p ≠ aW := fun z => by rw [← z, hM2] at nW1; cases nW1
    have mA : p ≠ aA := fun z => by rw [← z, hM2] at nA1; cases nA1
    have hT2 := fr2 _ _ h1 pT
    have tR : aT ≠ aR := fun z => by rw [← z, hT2] at nR; cases nR
    have tW : aT ≠ aW := fun z => by rw [← z, hT2] at nW1; cases nW1
    have tA : aT ≠ aA := fun z => by rw [← z, hT2] at nA1; cases nA1
    refine ⟨_, rfl, p, CM, dx, _, rfl, s3 _ _ hM2, T.cl, T2.n_rank, (by show 2 < 1000; decide), ?_⟩
    rw [newM_rank]
    have fr4 : ∀ b o, H3 b = some o → b ≠ p → (upd H3 p (.ins CM dx (mF (.ref aT) .non [("rank", .ref aR)]))) b = some o := fun b o e z => by rw [upd_ne z]; exact e
    have hM4 : (upd H3 p (.ins CM dx (mF (.ref aT) .non [("rank", .ref aR)]))) p = some (.ins CM dx (mF (.ref aT) .non [("rank", .ref aR)])) := upd_same
    generalize upd H3 p (.ins CM dx (mF (.ref aT) .non [("rank", .ref aR)])) = H4 at fr4 hM4
    have hT4 := fr4 _ _ (s3 _ _ hT2) pT
    have RA4 : RankAt CR H4 aR dR aW aA [] [] := RA.stay fun b o e z => fr4 _ _ e (by
      rcases z with z | z | z
      · rw [z]; exact Ne.symm mR
      · rw [z]; exact Ne.symm mW
      · rw [z]; exact Ne.symm mA)
    have tar4 : TarAt H4 aT [] [] := ⟨hT4, rfl, fun i b r q1 _ => by cases q1⟩
    have mx : MX C CM K (RR CR) H4 p dx aT [] [("rank", .ref aR)] [aR, aW, aA] .non [] ⟨[], none, [], []⟩ 0 := MX.fresh hM4 tar4 (.inl rfl) RA4 (by simpa using Ne.symm pT) (fun b hb z => by
      have zt : b = aT := by simpa using z
      rcases List.mem_cons.mp hb with q | hb
      · exact tR (zt.symm.trans q)
      · rcases List.mem_cons.mp hb with q | hb
        · exact tW (zt.symm.trans q)
        · have : b = aA := by simpa using hb
          exact tA (zt.symm.trans this)) mR
    refine k H4 (p :: ([] ++ [aR, aW, aA])) [aT] ⟨dx, aT, [], _, _, .non, [], mx, rfl, rfl⟩ (fun b o e z => fr4 _ _ (s3 _ _ (fr2 _ _ (s1 _ _ e) z)) z) (fun b hb => ?_) (fun b hb => ?_)
    · rcases List.mem_cons.mp hb with q | hb
      · exact ⟨_, by rw [q]; exact hM4⟩
      · exact mx.here b (by simpa using hb)
    · have : b = aT := by simpa using hb
      exact ⟨_, by rw [this]; exact hT4⟩
end
end TR


set_option Elab.async false
set_option linter.all false
set_option maxRecDepth 100000
set_option maxHeartbeats 2000000
namespace TR
open PySem PySem.Spec PyProof.Rows L2
open Mu30 (Q frac Tariff Hire)
theorem mF_rank {vT vH v : V} : (mF vT vH [("rank", v)]).lookup ("rank" : Str) = some v := (lk_past (by decide +kernel)).trans ((lk_past (by decide +kernel)).trans lk_here)
theorem Imm.dK {kvs : List (Key × V)} (h : Imm (.dK kvs)) : False := by
  rcases h with ⟨_, e⟩ | ⟨_, _, e⟩ <;> cases e
section
variable {P : Program} {w : World} {K : PySem.W.Frag} {mg : Str → Option Value} {base : Heap} {C CC CM CR : Addr}
theorem due_rank {H : Hp} {aM dx aT aR dR aW aA : Addr} {as : List Addr} {rest : List (Str × V)} {ownR : List Addr} {vH : V} {ownH own rd A : List Addr} {st : Mu30.State} {n : Nat} {x : Mu30.Call} {Q : VK} (mx : MX C CM K (RR CR) H aM dx aT as rest ownR vH ownH st n) (e1 : own = aM :: (ownH ++ ownR)) (e2 : rd = aT :: as)
    (D : Due (MAt C CM K (RR CR)) H aM own rd A st n x Q) (er : rest = ([("rank", .ref aR)] : List (Str × V))) (eo : ownR = [aR, aW, aA]) (RA : RankAt CR H aR dR aW aA st.rank st.away) : RDue CR H aR dR aW aA st.rank st.away x Q := by
  intro H' l rk' aw' ans e R' nl hl al cnt ch
  have due := e st rfl rfl
  have wR : aW ∈ ownR := by rw [eo]; simp
  have aR' : aA ∈ ownR := by rw [eo]; simp
  have wO : aW ∈ own := by rw [e1]; simp [wR]
  have aO : aA ∈ own := by rw [e1]; simp [aR']
  have wT : aW ∉ aT :: as := mx.apart aW (by simp [wR])
  have aT' : aA ∉ aT :: as := mx.apart aA (by simp [aR'])
  refine D H' l own rd ?_ nl (by rw [due]; exact hl) (by rw [due]; exact al) (fun b o eb q => ch b o eb (fun z => q (z ▸ wO)) (fun z => q (z ▸ aO))) (fun b hb => .inl hb) (fun b hb => .inl hb)
  rw [due]
  refine ⟨dx, aT, as, rest, ownR, vH, ownH, ⟨?_, mx.few, ?_, mx.tok, ⟨aR, dR, aW, aA, er, eo, R'⟩, ?_, mx.apart, mx.sepM, mx.sepH, fun b hb => ?_, ?_⟩, e1, e2⟩
  · exact ch _ _ mx.obj (fun z => mx.sepM (z ▸ wR)) (fun z => mx.sepM (z ▸ aR'))
  · refine ⟨ch _ _ mx.tar.top (fun z => wT (by rw [← z]; simp)) (fun z => aT' (by rw [← z]; simp)), mx.tar.len, fun i b r q1 q2 => ?_⟩
    have := List.mem_of_getElem? q1
    exact ch _ _ (mx.tar.row i b r q1 q2) (fun z => wT (by rw [← z]; simp [this])) (fun z => aT' (by rw [← z]; simp [this]))
  · refine mx.hire.stay (by omega) fun b o e z => ch b o e (fun q => ?_) (fun q => ?_)
    · rcases z with z | z
      · exact mx.sepH b z (q ▸ wR)
      · rw [q, RA.wai] at e
        cases e
        exact z.lst
    · rcases z with z | z
      · exact mx.sepH b z (q ▸ aR')
      · rw [q, RA.awy] at e
        cases e
        exact z.dK
  · rw [eo] at hb
    rcases List.mem_cons.mp hb with z | hb
    · exact ⟨_, by rw [z]; exact R'.obj⟩
    · rcases List.mem_cons.mp hb with z | hb
      · exact ⟨_, by rw [z]; exact R'.wai⟩
      · have : b = aA := by simpa using hb
        exact ⟨_, by rw [this]; exact R'.awy⟩
  · have := mx.cnt
    show rk'.length + aw'.length ≤ n + 400
    omega

theorem scCallA : FnScope ["meter", "call", "number", "numbers"] ["meter", "call"] (defScope sCallA) := ⟨rfl, rfl, rfl, by decide +kernel, rfl, by decide +kernel, by decide +kernel⟩
theorem ok_callA {f : Addr} {fd : FuncData} (F : Fun K "answer_call" "answer_call" sCallA f fd) (L : Low P w K mg base C CC) (T : MTxt K mg CM) (T2 : MTxt2 K mg CM)
    (GB : DefAt P w K mg base "answer_begin" 40 ["meter", "tariffs"] (spBeginA (MAt C CM K (RR CR)))) (GH : DefAt P w K mg base "answer_hire" 40 ["meter", "second"] (spHireA (MAt C CM K (RR CR)))) (GD : DefAt P w K mg base "answer_drive" 40 ["meter", "s", "m"] (spDriveA C CM K (RR CR)))
    (GE : DefAt P w K mg base "answer_extra" 40 ["meter", "n"] (spExtraA (MAt C CM K (RR CR)))) (GF : DefAt P w K mg base "answer_fare" 40 ["meter"] (spFareA (MAt C CM K (RR CR)))) (GO : DefAt P w K mg base "answer_drops" 40 ["meter"] (spDropsA (MAt C CM K (RR CR)))) (GN : DefAt P w K mg base "answer_next" 40 ["meter", "s", "m"] (spNextA (MAt C CM K (RR CR))))
    (GW : DefAt P w K mg base "answer_would" 41 ["meter", "s", "m"] (spWouldA (MAt C CM K (RR CR)))) (GP : DefAt P w K mg base "answer_pay" 40 ["meter"] (spPayA (MAt C CM K (RR CR)))) (GX : DefAt P w K mg base "answer_reach" 40 ["meter", "n", "s", "m"] (spReachA (MAt C CM K (RR CR)))) (GR : DefAt P w K mg base "answer_rank_call" 4 ["rank", "number", "numbers"] (spRankC CR)) :
    FnOk P w K mg base CX0 44 f fd ["meter", "call"] (spCall (MAt C CM K (RR CR)) CC) := by
  refine F.ok scCallA (fun vs H Q E h => ?_) (fun cdv A outer s H vs Q E hr h => ?_)
  · obtain ⟨aM, aC, own, rd, A, st, n, c, x, rfl, _⟩ := h
    rfl
  · obtain ⟨aM, aC, own, rd, A, st, n, c, x, rfl, m, cin, cA, sh, hn, D⟩ := h
    have D : Due (MAt C CM K (RR CR)) H aM own rd A st n x Q := D
    have D0 := due_nil D
    obtain ⟨p, ns, xs, dc, aN, aL, asL, rfl, hC, hN, hL, eA⟩ := cin.ex
    obtain ⟨dx, aT, as, rest, ownR, vH, ownH, mx, e1, e2⟩ := id m
    obtain ⟨aR, dR, aW, aA, er, eo, RA⟩ := id mx.rnk
    have rs := RR.stay CR
    have few : st.rank.length + st.away.length ≤ 90000 := by have := mx.cnt; omega
    have DR := due_rank mx e1 e2 D er eo RA
    have objR : H aM = some (.ins CM dx (mF (.ref aT) vH [("rank", .ref aR)])) := by rw [← er]; exact mx.obj
    refine ⟨_, pss_cons (ps_set (i := 2) scCallA.nd rfl (.inl rfl) (pe_fld (pv 1) rfl)) (pss_cons (ps_set (i := 3) scCallA.nd rfl (.inl rfl) (pe_fld (pv 1) rfl)) (pss_cons (ps_if (pt_cmpR op_eq (pv 2) pe_int (nomark _)) (pss_one (ps_ret (pe_def GB hr (by decide) rfl (pa_cons (pv 0) (pa_cons (pe_fld (pv 1) rfl) (pa_nil)))))) pss_nil) (pss_cons (ps_if (pt_cmpR op_eq (pv 2) pe_int (nomark _)) (pss_one (ps_ret (pe_def GH hr (by decide) rfl (pa_cons (pv 0) (pa_cons (pe_ix ix_list (pv 3) (pe_int) (fun _ _ => rfl)) (pa_nil)))))) pss_nil) (pss_cons (ps_if (pt_cmpR op_eq (pv 2) pe_int (nomark _)) (pss_one (ps_ret (pe_def GD hr (by decide) rfl (pa_cons (pv 0) (pa_cons (pe_ix ix_list (pv 3) (pe_int) (fun _ _ => rfl)) (pa_cons (pe_ix ix_list (pv 3) (pe_int) (fun _ _ => rfl)) (pa_nil))))))) pss_nil) (pss_cons (ps_if (pt_cmpR op_eq (pv 2) pe_int (nomark _)) (pss_one (ps_ret (pe_def GE hr (by decide) rfl (pa_cons (pv 0) (pa_cons (pe_ix ix_list (pv 3) (pe_int) (fun _ _ => rfl)) (pa_nil)))))) pss_nil) (pss_cons (ps_if (pt_cmpR op_eq (pv 2) pe_int (nomark _)) (pss_one (ps_ret (pe_def GF hr (by decide) rfl (pa_cons (pv 0) (pa_nil))))) pss_nil) (pss_cons (ps_if (pt_cmpR op_eq (pv 2) pe_int (nomark _)) (pss_one (ps_ret (pe_def GO hr (by decide) rfl (pa_cons (pv 0) (pa_nil))))) pss_nil) (pss_cons (ps_if (pt_cmpR op_eq (pv 2) pe_int (nomark _)) (pss_one (ps_ret (pe_def GN hr (by decide) rfl (pa_cons (pv 0) (pa_cons (pe_ix ix_list (pv 3) (pe_int) (fun _ _ => rfl)) (pa_cons (pe_ix ix_list (pv 3) (pe_int) (fun _ _ => rfl)) (pa_nil))))))) pss_nil) (pss_cons (ps_if (pt_cmpR op_eq (pv 2) pe_int (nomark _)) (pss_one (ps_ret (pe_def GW hr (by decide) rfl (pa_cons (pv 0) (pa_cons (pe_ix ix_list (pv 3) (pe_int) (fun _ _ => rfl)) (pa_cons (pe_ix ix_list (pv 3) (pe_int) (fun _ _ => rfl)) (pa_nil))))))) pss_nil) (pss_cons (ps_if (pt_cmpR op_eq (pv 2) pe_int (nomark _)) (pss_one (ps_ret (pe_def GP hr (by decide) rfl (pa_cons (pv 0) (pa_nil))))) pss_nil) (pss_cons (ps_if (pt_cmpR op_eq (pv 2) pe_int (nomark _)) (pss_one (ps_ret (pe_def GX hr (by decide) rfl (pa_cons (pv 0) (pa_cons (pe_ix ix_list (pv 3) (pe_int) (fun _ _ => rfl)) (pa_cons (pe_ix ix_list (pv 3) (pe_int) (fun _ _ => rfl)) (pa_cons (pe_ix ix_list (pv 3) (pe_int) (fun _ _ => rfl)) (pa_nil)))))))) pss_nil) (pss_one (ps_ret (pe_def GR hr (by decide) rfl (pa_cons (pe_fld (pv 0) rfl) (pa_cons (pv 2) (pa_cons (pv 3) (pa_nil)))))))))))))))))), ?_⟩
    refine ⟨_, rfl, aC, CC, dc, _, _, rfl, hC, L.call.cl, L.call.n_number, f3_number, ?_⟩
    refine ⟨_, rfl, aC, CC, dc, _, _, rfl, hC, L.call.cl, L.call.n_numbers, f3_numbers, ?_⟩
    generalize ec : (p :: ns) :: xs = c at sh
    cases sh with
    | begin_ ys h hr =>
      cases ec
      refine ⟨_, rfl, rfl, _, rfl, ite_eq (fun _ => ?_) (fun c => absurd rfl c)⟩
      exact ⟨_, rfl, _, rfl, aC, CC, dc, _, _, rfl, hC, L.call.cl, L.call.n_lists, f3_lists, aM, aL, asL, own, rd, A, st, n, ys, rfl, m, hn, hL, (fun b hb => by rw [eA]; simp only [List.mem_cons] at hb ⊢; exact .inr (.inr hb)), cA, h, D⟩
    | hire x h =>
      cases ec
      refine ⟨_, rfl, rfl, _, rfl, ite_eq (fun c => absurd c (by decide)) (fun _ => ?_)⟩
      refine ⟨_, rfl, rfl, _, rfl, ite_eq (fun _ => ?_) (fun c => absurd rfl c)⟩
      exact ⟨_, rfl, _, rfl, aN, _, _, _, rfl, rfl, SqL.of hN, rfl, aM, own, rd, st, n, x, rfl, m, hn, D0⟩
    | drive s m h h' =>
      cases ec
      refine ⟨_, rfl, rfl, _, rfl, ite_eq (fun c => absurd c (by decide)) (fun _ => ?_)⟩
      refine ⟨_, rfl, rfl, _, rfl, ite_eq (fun c => absurd c (by decide)) (fun _ => ?_)⟩
      refine ⟨_, rfl, rfl, _, rfl, ite_eq (fun _ => ?_) (fun c => absurd rfl c)⟩
      exact ⟨_, rfl, _, rfl, aN, _, _, _, rfl, rfl, SqL.of hN, rfl, _, rfl, aN, _, _, _, rfl, rfl, SqL.of hN, rfl, aM, dx, aT, as, rest, ownR, vH, ownH, st, n, s, m, rfl, mx, hn,
        (fun H' l c no sm nl h' => due_same rs ‹MAt C CM K (RR CR) H aM own rd st n› D0 (ans := [c]) (drive_no no) (by show 1 ≤ 200000; decide) sm nl h'),
        (fun H' l aH aF h g yes hM fr nH nF hh I Fi hT nl hl => due_hire rs mx e1 e2 D0 (drive_yes yes) (by show 2 ≤ 200000; decide) nl hl hM fr nH nF hh I Fi hT)⟩
    | extra x h =>
      cases ec
      refine ⟨_, rfl, rfl, _, rfl, ite_eq (fun c => absurd c (by decide)) (fun _ => ?_)⟩
      refine ⟨_, rfl, rfl, _, rfl, ite_eq (fun c => absurd c (by decide)) (fun _ => ?_)⟩
      refine ⟨_, rfl, rfl, _, rfl, ite_eq (fun c => absurd c (by decide)) (fun _ => ?_)⟩
      refine ⟨_, rfl, rfl, _, rfl, ite_eq (fun _ => ?_) (fun c => absurd rfl c)⟩
      exact ⟨_, rfl, _, rfl, aN, _, _, _, rfl, rfl, SqL.of hN, rfl, aM, own, rd, st, n, x, rfl, m, hn, D0⟩
    | fare  =>
      cases ec
      refine ⟨_, rfl, rfl, _, rfl, ite_eq (fun c => absurd c (by decide)) (fun _ => ?_)⟩
      refine ⟨_, rfl, rfl, _, rfl, ite_eq (fun c => absurd c (by decide)) (fun _ => ?_)⟩
      refine ⟨_, rfl, rfl, _, rfl, ite_eq (fun c => absurd c (by decide)) (fun _ => ?_)⟩
      refine ⟨_, rfl, rfl, _, rfl, ite_eq (fun c => absurd c (by decide)) (fun _ => ?_)⟩
      refine ⟨_, rfl, rfl, _, rfl, ite_eq (fun _ => ?_) (fun c => absurd rfl c)⟩
      exact ⟨_, rfl, aM, own, rd, st, n, rfl, m, hn, D0⟩
    | drops  =>
      cases ec
      refine ⟨_, rfl, rfl, _, rfl, ite_eq (fun c => absurd c (by decide)) (fun _ => ?_)⟩
      refine ⟨_, rfl, rfl, _, rfl, ite_eq (fun c => absurd c (by decide)) (fun _ => ?_)⟩
      refine ⟨_, rfl, rfl, _, rfl, ite_eq (fun c => absurd c (by decide)) (fun _ => ?_)⟩
      refine ⟨_, rfl, rfl, _, rfl, ite_eq (fun c => absurd c (by decide)) (fun _ => ?_)⟩
      refine ⟨_, rfl, rfl, _, rfl, ite_eq (fun c => absurd c (by decide)) (fun _ => ?_)⟩
      refine ⟨_, rfl, rfl, _, rfl, ite_eq (fun _ => ?_) (fun c => absurd rfl c)⟩
      exact ⟨_, rfl, aM, own, rd, st, n, rfl, m, hn, D0⟩
    | next s m' h h' =>
      cases ec
      refine ⟨_, rfl, rfl, _, rfl, ite_eq (fun c => absurd c (by decide)) (fun _ => ?_)⟩
      refine ⟨_, rfl, rfl, _, rfl, ite_eq (fun c => absurd c (by decide)) (fun _ => ?_)⟩
      refine ⟨_, rfl, rfl, _, rfl, ite_eq (fun c => absurd c (by decide)) (fun _ => ?_)⟩
      refine ⟨_, rfl, rfl, _, rfl, ite_eq (fun c => absurd c (by decide)) (fun _ => ?_)⟩
      refine ⟨_, rfl, rfl, _, rfl, ite_eq (fun c => absurd c (by decide)) (fun _ => ?_)⟩
      refine ⟨_, rfl, rfl, _, rfl, ite_eq (fun c => absurd c (by decide)) (fun _ => ?_)⟩
      refine ⟨_, rfl, rfl, _, rfl, ite_eq (fun _ => ?_) (fun c => absurd rfl c)⟩
      exact ⟨_, rfl, _, rfl, aN, _, _, _, rfl, rfl, SqL.of hN, rfl, _, rfl, aN, _, _, _, rfl, rfl, SqL.of hN, rfl, aM, own, rd, st, n, s, m', rfl, m, hn, D0⟩
    | would s m' h h' =>
      cases ec
      refine ⟨_, rfl, rfl, _, rfl, ite_eq (fun c => absurd c (by decide)) (fun _ => ?_)⟩
      refine ⟨_, rfl, rfl, _, rfl, ite_eq (fun c => absurd c (by decide)) (fun _ => ?_)⟩
      refine ⟨_, rfl, rfl, _, rfl, ite_eq (fun c => absurd c (by decide)) (fun _ => ?_)⟩
      refine ⟨_, rfl, rfl, _, rfl, ite_eq (fun c => absurd c (by decide)) (fun _ => ?_)⟩
      refine ⟨_, rfl, rfl, _, rfl, ite_eq (fun c => absurd c (by decide)) (fun _ => ?_)⟩
      refine ⟨_, rfl, rfl, _, rfl, ite_eq (fun c => absurd c (by decide)) (fun _ => ?_)⟩
      refine ⟨_, rfl, rfl, _, rfl, ite_eq (fun c => absurd c (by decide)) (fun _ => ?_)⟩
      refine ⟨_, rfl, rfl, _, rfl, ite_eq (fun _ => ?_) (fun c => absurd rfl c)⟩
      exact ⟨_, rfl, _, rfl, aN, _, _, _, rfl, rfl, SqL.of hN, rfl, _, rfl, aN, _, _, _, rfl, rfl, SqL.of hN, rfl, aM, own, rd, st, n, s, m', rfl, m, hn, D0⟩
    | pay  =>
      cases ec
      refine ⟨_, rfl, rfl, _, rfl, ite_eq (fun c => absurd c (by decide)) (fun _ => ?_)⟩
      refine ⟨_, rfl, rfl, _, rfl, ite_eq (fun c => absurd c (by decide)) (fun _ => ?_)⟩
      refine ⟨_, rfl, rfl, _, rfl, ite_eq (fun c => absurd c (by decide)) (fun _ => ?_)⟩
      refine ⟨_, rfl, rfl, _, rfl, ite_eq (fun c => absurd c (by decide)) (fun _ => ?_)⟩
      refine ⟨_, rfl, rfl, _, rfl, ite_eq (fun c => absurd c (by decide)) (fun _ => ?_)⟩
      refine ⟨_, rfl, rfl, _, rfl, ite_eq (fun c => absurd c (by decide)) (fun _ => ?_)⟩
      refine ⟨_, rfl, rfl, _, rfl, ite_eq (fun c => absurd c (by decide)) (fun _ => ?_)⟩
      refine ⟨_, rfl, rfl, _, rfl, ite_eq (fun c => absurd c (by decide)) (fun _ => ?_)⟩
      refine ⟨_, rfl, rfl, _, rfl, ite_eq (fun _ => ?_) (fun c => absurd rfl c)⟩
      exact ⟨_, rfl, aM, own, rd, st, n, rfl, m, hn, D0⟩
    | reach x s m' h0 h h' =>
      cases ec
      refine ⟨_, rfl, rfl, _, rfl, ite_eq (fun c => absurd c (by decide)) (fun _ => ?_)⟩
      refine ⟨_, rfl, rfl, _, rfl, ite_eq (fun c => absurd c (by decide)) (fun _ => ?_)⟩
      refine ⟨_, rfl, rfl, _, rfl, ite_eq (fun c => absurd c (by decide)) (fun _ => ?_)⟩
      refine ⟨_, rfl, rfl, _, rfl, ite_eq (fun c => absurd c (by decide)) (fun _ => ?_)⟩
      refine ⟨_, rfl, rfl, _, rfl, ite_eq (fun c => absurd c (by decide)) (fun _ => ?_)⟩
      refine ⟨_, rfl, rfl, _, rfl, ite_eq (fun c => absurd c (by decide)) (fun _ => ?_)⟩
      refine ⟨_, rfl, rfl, _, rfl, ite_eq (fun c => absurd c (by decide)) (fun _ => ?_)⟩
      refine ⟨_, rfl, rfl, _, rfl, ite_eq (fun c => absurd c (by decide)) (fun _ => ?_)⟩
      refine ⟨_, rfl, rfl, _, rfl, ite_eq (fun c => absurd c (by decide)) (fun _ => ?_)⟩
      refine ⟨_, rfl, rfl, _, rfl, ite_eq (fun _ => ?_) (fun c => absurd rfl c)⟩
      exact ⟨_, rfl, _, rfl, aN, _, _, _, rfl, rfl, SqL.of hN, rfl, _, rfl, aN, _, _, _, rfl, rfl, SqL.of hN, rfl, _, rfl, aN, _, _, _, rfl, rfl, SqL.of hN, rfl, aM, own, rd, st, n, x, s, m', rfl, m, hn, D0⟩
    | join k h =>
      cases ec
      refine ⟨_, rfl, rfl, _, rfl, ite_eq (fun c => absurd c (by decide)) (fun _ => ?_)⟩
      refine ⟨_, rfl, rfl, _, rfl, ite_eq (fun c => absurd c (by decide)) (fun _ => ?_)⟩
      refine ⟨_, rfl, rfl, _, rfl, ite_eq (fun c => absurd c (by decide)) (fun _ => ?_)⟩
      refine ⟨_, rfl, rfl, _, rfl, ite_eq (fun c => absurd c (by decide)) (fun _ => ?_)⟩
      refine ⟨_, rfl, rfl, _, rfl, ite_eq (fun c => absurd c (by decide)) (fun _ => ?_)⟩
      refine ⟨_, rfl, rfl, _, rfl, ite_eq (fun c => absurd c (by decide)) (fun _ => ?_)⟩
      refine ⟨_, rfl, rfl, _, rfl, ite_eq (fun c => absurd c (by decide)) (fun _ => ?_)⟩
      refine ⟨_, rfl, rfl, _, rfl, ite_eq (fun c => absurd c (by decide)) (fun _ => ?_)⟩
      refine ⟨_, rfl, rfl, _, rfl, ite_eq (fun c => absurd c (by decide)) (fun _ => ?_)⟩
      refine ⟨_, rfl, rfl, _, rfl, ite_eq (fun c => absurd c (by decide)) (fun _ => ?_)⟩
      exact ⟨_, rfl, aM, CM, dx, _, _, rfl, objR, T.cl, T2.n_rank, mF_rank, _, rfl, _, rfl, aR, dR, aW, aA, aN, _, _, _, _, _, rfl, RA, hN, .join k, few, DR⟩
    | take k h =>
      cases ec
      refine ⟨_, rfl, rfl, _, rfl, ite_eq (fun c => absurd c (by decide)) (fun _ => ?_)⟩
      refine ⟨_, rfl, rfl, _, rfl, ite_eq (fun c => absurd c (by decide)) (fun _ => ?_)⟩
      refine ⟨_, rfl, rfl, _, rfl, ite_eq (fun c => absurd c (by decide)) (fun _ => ?_)⟩
      refine ⟨_, rfl, rfl, _, rfl, ite_eq (fun c => absurd c (by decide)) (fun _ => ?_)⟩
      refine ⟨_, rfl, rfl, _, rfl, ite_eq (fun c => absurd c (by decide)) (fun _ => ?_)⟩
      refine ⟨_, rfl, rfl, _, rfl, ite_eq (fun c => absurd c (by decide)) (fun _ => ?_)⟩
      refine ⟨_, rfl, rfl, _, rfl, ite_eq (fun c => absurd c (by decide)) (fun _ => ?_)⟩
      refine ⟨_, rfl, rfl, _, rfl, ite_eq (fun c => absurd c (by decide)) (fun _ => ?_)⟩
      refine ⟨_, rfl, rfl, _, rfl, ite_eq (fun c => absurd c (by decide)) (fun _ => ?_)⟩
      refine ⟨_, rfl, rfl, _, rfl, ite_eq (fun c => absurd c (by decide)) (fun _ => ?_)⟩
      exact ⟨_, rfl, aM, CM, dx, _, _, rfl, objR, T.cl, T2.n_rank, mF_rank, _, rfl, _, rfl, aR, dR, aW, aA, aN, _, _, _, _, _, rfl, RA, hN, .take k, few, DR⟩
    | back k t f h h1 h2 =>
      cases ec
      refine ⟨_, rfl, rfl, _, rfl, ite_eq (fun c => absurd c (by decide)) (fun _ => ?_)⟩
      refine ⟨_, rfl, rfl, _, rfl, ite_eq (fun c => absurd c (by decide)) (fun _ => ?_)⟩
      refine ⟨_, rfl, rfl, _, rfl, ite_eq (fun c => absurd c (by decide)) (fun _ => ?_)⟩
      refine ⟨_, rfl, rfl, _, rfl, ite_eq (fun c => absurd c (by decide)) (fun _ => ?_)⟩
      refine ⟨_, rfl, rfl, _, rfl, ite_eq (fun c => absurd c (by decide)) (fun _ => ?_)⟩
      refine ⟨_, rfl, rfl, _, rfl, ite_eq (fun c => absurd c (by decide)) (fun _ => ?_)⟩
      refine ⟨_, rfl, rfl, _, rfl, ite_eq (fun c => absurd c (by decide)) (fun _ => ?_)⟩
      refine ⟨_, rfl, rfl, _, rfl, ite_eq (fun c => absurd c (by decide)) (fun _ => ?_)⟩
      refine ⟨_, rfl, rfl, _, rfl, ite_eq (fun c => absurd c (by decide)) (fun _ => ?_)⟩
      refine ⟨_, rfl, rfl, _, rfl, ite_eq (fun c => absurd c (by decide)) (fun _ => ?_)⟩
      exact ⟨_, rfl, aM, CM, dx, _, _, rfl, objR, T.cl, T2.n_rank, mF_rank, _, rfl, _, rfl, aR, dR, aW, aA, aN, _, _, _, _, _, rfl, RA, hN, .back k t f, few, DR⟩
    | leave k h =>
      cases ec
      refine ⟨_, rfl, rfl, _, rfl, ite_eq (fun c => absurd c (by decide)) (fun _ => ?_)⟩
      refine ⟨_, rfl, rfl, _, rfl, ite_eq (fun c => absurd c (by decide)) (fun _ => ?_)⟩
      refine ⟨_, rfl, rfl, _, rfl, ite_eq (fun c => absurd c (by decide)) (fun _ => ?_)⟩
      refine ⟨_, rfl, rfl, _, rfl, ite_eq (fun c => absurd c (by decide)) (fun _ => ?_)⟩
      refine ⟨_, rfl, rfl, _, rfl, ite_eq (fun c => absurd c (by decide)) (fun _ => ?_)⟩
      refine ⟨_, rfl, rfl, _, rfl, ite_eq (fun c => absurd c (by decide)) (fun _ => ?_)⟩
      refine ⟨_, rfl, rfl, _, rfl, ite_eq (fun c => absurd c (by decide)) (fun _ => ?_)⟩
      refine ⟨_, rfl, rfl, _, rfl, ite_eq (fun c => absurd c (by decide)) (fun _ => ?_)⟩
      refine ⟨_, rfl, rfl, _, rfl, ite_eq (fun c => absurd c (by decide)) (fun _ => ?_)⟩
      refine ⟨_, rfl, rfl, _, rfl, ite_eq (fun c => absurd c (by decide)) (fun _ => ?_)⟩
      exact ⟨_, rfl, aM, CM, dx, _, _, rfl, objR, T.cl, T2.n_rank, mF_rank, _, rfl, _, rfl, aR, dR, aW, aA, aN, _, _, _, _, _, rfl, RA, hN, .leave k, few, DR⟩
    | rank  =>
      cases ec
      refine ⟨_, rfl, rfl, _, rfl, ite_eq (fun c => absurd c (by decide)) (fun _ => ?_)⟩
      refine ⟨_, rfl, rfl, _, rfl, ite_eq (fun c => absurd c (by decide)) (fun _ => ?_)⟩
      refine ⟨_, rfl, rfl, _, rfl, ite_eq (fun c => absurd c (by decide)) (fun _ => ?_)⟩
      refine ⟨_, rfl, rfl, _, rfl, ite_eq (fun c => absurd c (by decide)) (fun _ => ?_)⟩
      refine ⟨_, rfl, rfl, _, rfl, ite_eq (fun c => absurd c (by decide)) (fun _ => ?_)⟩
      refine ⟨_, rfl, rfl, _, rfl, ite_eq (fun c => absurd c (by decide)) (fun _ => ?_)⟩
      refine ⟨_, rfl, rfl, _, rfl, ite_eq (fun c => absurd c (by decide)) (fun _ => ?_)⟩
      refine ⟨_, rfl, rfl, _, rfl, ite_eq (fun c => absurd c (by decide)) (fun _ => ?_)⟩
      refine ⟨_, rfl, rfl, _, rfl, ite_eq (fun c => absurd c (by decide)) (fun _ => ?_)⟩
      refine ⟨_, rfl, rfl, _, rfl, ite_eq (fun c => absurd c (by decide)) (fun _ => ?_)⟩
      exact ⟨_, rfl, aM, CM, dx, _, _, rfl, objR, T.cl, T2.n_rank, mF_rank, _, rfl, _, rfl, aR, dR, aW, aA, aN, _, _, _, _, _, rfl, RA, hN, .rank, few, DR⟩
end
end TR


set_option Elab.async false
set_option linter.all false
set_option maxRecDepth 100000
set_option maxHeartbeats 2000000
namespace TR
open PySem PySem.Spec PyProof.Rows L2
/-- what k_is finds of the upper part -/
structure UpFacts (K : PySem.W.Frag) (CM CR : Addr) : Prop where
  f_is_known : FnFact K "is_known" sKnown
  f_take_first : FnFact K "take_first" sTake1
  f_keeps_turn : FnFact K "keeps_turn" sKeeps
  f_bring_back : FnFact K "bring_back" sBring
  f_answer_begin : FnFact K "answer_begin" sBeginA
  f_answer_hire : FnFact K "answer_hire" sHireA
  f_way_refusal : FnFact K "way_refusal" sRefuse
  f_answer_drive : FnFact K "answer_drive" sDriveA
  f_answer_extra : FnFact K "answer_extra" sExtraA
  f_answer_fare : FnFact K "answer_fare" sFareA
  f_answer_drops : FnFact K "answer_drops" sDropsA
  f_answer_next : FnFact K "answer_next" sNextA
  f_answer_would : FnFact K "answer_would" sWouldA
  f_answer_pay : FnFact K "answer_pay" sPayA
  f_answer_reach : FnFact K "answer_reach" sReachA
  f_answer_join : FnFact K "answer_join" sJoinA
  f_answer_take : FnFact K "answer_take" sTakeA
  f_answer_back : FnFact K "answer_back" sBackA
  f_answer_leave : FnFact K "answer_leave" sLeaveA
  f_answer_rank : FnFact K "answer_rank" sRankA
  f_answer_rank_call : FnFact K "answer_rank_call" sRankC
  f_answer_call : FnFact K "answer_call" sCallA
  f_answers : FnFact K "answers" sAns
  i_MOST_CAB : IntFact K "MOST_CAB" (99)
  i_SOON : IntFact K "SOON" (900)
  i_WORTH_IT : IntFact K "WORTH_IT" (500)
  i_FINE : IntFact K "FINE" (0)
  i_WRONG : IntFact K "WRONG" (-1)
  i_HAS_BEGUN : IntFact K "HAS_BEGUN" (-4)
  i_IS_THERE : IntFact K "IS_THERE" (-4)
  i_NOT_THERE : IntFact K "NOT_THERE" (-4)
  i_TOO_LONG : IntFact K "TOO_LONG" (-5)
  i_NO_HIRE : IntFact K "NO_HIRE" (-6)
  i_NOBODY : IntFact K "NOBODY" (-6)
  i_NO_TARIFFS : IntFact K "NO_TARIFFS" (-9)
  i_MOST_SECONDS : IntFact K "MOST_SECONDS" (20000)
  i_MOST_METRES : IntFact K "MOST_METRES" (100000)
  i_MOST_EXTRA : IntFact K "MOST_EXTRA" (9999)
  i_MOST_REACH : IntFact K "MOST_REACH" (200)
  cR : ClFact K "Rank" "Rank.__init__" sInitR CR
  cM : ClFact K "Meter" "Meter.__init__" sInitM CM
  r_waiting : PySem.W.findIn K (.ref CR) "waiting" = some none
  r_away : PySem.W.findIn K (.ref CR) "away" = some none
  m_tariffs : PySem.W.findIn K (.ref CM) "tariffs" = some none
  m_hire : PySem.W.findIn K (.ref CM) "hire" = some none
  m_rank : PySem.W.findIn K (.ref CM) "rank" = some none
theorem all_mk {P : Program} {w : World} {K : PySem.W.Frag} {h : Heap} {mg : Str → Option Value} {fa C CC CM CR : Addr} (X : K.In h) (G : h.Ns mainGlobals mg) (hfa : mg "answers" = some (.ref fa)) (ht : P.given.tree = none) (LF : LowFacts K C CC) (U : UpFacts K CM CR) :
    ∃ fd : FuncData, (∀ (s : Shared) (us : List Value), us.length = (["calls"] : List Str).length → BindsTo s fd ⟨us, []⟩ ((["calls"] : List Str).zip us)) ∧ ∀ base : Heap, K.In base → base.Ns mainGlobals mg → base.NoSeer → FnOk P w K mg base CX0 45 fa fd ["calls"] (spAns K) := by
  obtain ⟨f, oc, od, kV, dc, pm, an, cd, ct, sl, h1, h2, h3, h4⟩ := U.f_answers
  have e := hfa.symm.trans (PySem.W.mg_of X G h1)
  cases e
  have F1 := fun_mk (st := sAns) h2 h3 h4
  refine ⟨PySem.W.fnOf "answers" "answers" (defArgs sAns) (defBody sAns) (defScope sAns) .none kV dc pm an cd ct, (fun s us hu => match us, hu with | [_], _ => .of_eq rfl), fun base _ _ hN => ?_⟩
  have L : Low P w K mg base C CC := low_mk X G hN ht LF
  have N := L.names
  have rs := RR.stay CR
  have T : MTxt K mg CM := ⟨U.cM.cls, U.m_tariffs, U.m_hire, U.cM.name X G, U.i_FINE.at_ X G, U.i_WRONG.at_ X G, U.i_HAS_BEGUN.at_ X G, U.i_TOO_LONG.at_ X G, U.i_NO_HIRE.at_ X G, U.i_NO_TARIFFS.at_ X G, U.i_MOST_SECONDS.at_ X G, U.i_MOST_METRES.at_ X G, U.i_MOST_EXTRA.at_ X G⟩
  have T2 : MTxt2 K mg CM := ⟨U.m_rank, U.i_MOST_REACH.at_ X G⟩
  have TR : RTxt K mg CR := ⟨U.cR.cls, U.r_waiting, U.r_away, U.cR.name X G, U.i_MOST_CAB.at_ X G, U.i_SOON.at_ X G, U.i_WORTH_IT.at_ X G, U.i_WRONG.at_ X G, U.i_IS_THERE.at_ X G, U.i_NOT_THERE.at_ X G, U.i_NOBODY.at_ X G⟩
  obtain ⟨fR, fdR, iR⟩ := U.cR.init (ps := ["self"]) fun _ _ _ _ _ _ us hl => match us, hl with | [_], _ => rfl
  obtain ⟨fM, fdM, iM⟩ := U.cM.init (ps := ["self"]) fun _ _ _ _ _ _ us hl => match us, hl with | [_], _ => rfl
  have d_is_known : DefAt P w K mg base "is_known" 1 ["rank", "cab"] (spKnown CR) := U.f_is_known.at_ X G (fun _ _ _ _ _ _ us hl => match us, hl with | [_, _], _ => rfl) fun f fd F => ok_known F TR
  have d_take_first : DefAt P w K mg base "take_first" 1 ["rank", "now"] (spTake1 CR) := U.f_take_first.at_ X G (fun _ _ _ _ _ _ us hl => match us, hl with | [_, _], _ => rfl) fun f fd F => ok_take1 F TR
  have d_keeps_turn : DefAt P w K mg base "keeps_turn" 1 ["since", "now", "fare"] spKeeps := U.f_keeps_turn.at_ X G (fun _ _ _ _ _ _ us hl => match us, hl with | [_, _, _], _ => rfl) fun f fd F => ok_keeps F TR
  have d_bring_back : DefAt P w K mg base "bring_back" 2 ["rank", "cab", "now", "fare"] (spBring CR) := U.f_bring_back.at_ X G (fun _ _ _ _ _ _ us hl => match us, hl with | [_, _, _, _], _ => rfl) fun f fd F => ok_bring F N TR d_keeps_turn
  have d_answer_begin : DefAt P w K mg base "answer_begin" 40 ["meter", "tariffs"] (spBeginA (MAt C CM K (RR CR))) := U.f_answer_begin.at_ X G (fun _ _ _ _ _ _ us hl => match us, hl with | [_, _], _ => rfl) fun f fd F => ok_beginA F L T T2 TR iR.mkk iR.bi (ok_initR iR.fn TR)
  have d_answer_hire : DefAt P w K mg base "answer_hire" 40 ["meter", "second"] (spHireA (MAt C CM K (RR CR))) := U.f_answer_hire.at_ X G (fun _ _ _ _ _ _ us hl => match us, hl with | [_, _], _ => rfl) fun f fd F => ok_hireA F rs L T
  have d_way_refusal : DefAt P w K mg base "way_refusal" 1 ["meter", "s", "m"] (spRefuse (MAt C CM K (RR CR))) := U.f_way_refusal.at_ X G (fun _ _ _ _ _ _ us hl => match us, hl with | [_, _, _], _ => rfl) fun f fd F => ok_refuse F T
  have d_answer_drive : DefAt P w K mg base "answer_drive" 40 ["meter", "s", "m"] (spDriveA C CM K (RR CR)) := U.f_answer_drive.at_ X G (fun _ _ _ _ _ _ us hl => match us, hl with | [_, _, _], _ => rfl) fun f fd F => ok_driveA F rs L T d_way_refusal
  have d_answer_extra : DefAt P w K mg base "answer_extra" 40 ["meter", "n"] (spExtraA (MAt C CM K (RR CR))) := U.f_answer_extra.at_ X G (fun _ _ _ _ _ _ us hl => match us, hl with | [_, _], _ => rfl) fun f fd F => ok_extraA F rs L T
  have d_answer_fare : DefAt P w K mg base "answer_fare" 40 ["meter"] (spFareA (MAt C CM K (RR CR))) := U.f_answer_fare.at_ X G (fun _ _ _ _ _ _ us hl => match us, hl with | [_], _ => rfl) fun f fd F => ok_fareA F rs L T
  have d_answer_drops : DefAt P w K mg base "answer_drops" 40 ["meter"] (spDropsA (MAt C CM K (RR CR))) := U.f_answer_drops.at_ X G (fun _ _ _ _ _ _ us hl => match us, hl with | [_], _ => rfl) fun f fd F => ok_dropsA F rs L T
  have d_answer_next : DefAt P w K mg base "answer_next" 40 ["meter", "s", "m"] (spNextA (MAt C CM K (RR CR))) := U.f_answer_next.at_ X G (fun _ _ _ _ _ _ us hl => match us, hl with | [_, _, _], _ => rfl) fun f fd F => ok_nextA F rs L T d_way_refusal
  have d_answer_would : DefAt P w K mg base "answer_would" 41 ["meter", "s", "m"] (spWouldA (MAt C CM K (RR CR))) := U.f_answer_would.at_ X G (fun _ _ _ _ _ _ us hl => match us, hl with | [_, _, _], _ => rfl) fun f fd F => ok_wouldA F rs L T d_answer_drive
  have d_answer_pay : DefAt P w K mg base "answer_pay" 40 ["meter"] (spPayA (MAt C CM K (RR CR))) := U.f_answer_pay.at_ X G (fun _ _ _ _ _ _ us hl => match us, hl with | [_], _ => rfl) fun f fd F => ok_payA F rs L T
  have d_answer_reach : DefAt P w K mg base "answer_reach" 40 ["meter", "n", "s", "m"] (spReachA (MAt C CM K (RR CR))) := U.f_answer_reach.at_ X G (fun _ _ _ _ _ _ us hl => match us, hl with | [_, _, _, _], _ => rfl) fun f fd F => ok_reachA F rs L T T2 d_way_refusal
  have d_answer_join : DefAt P w K mg base "answer_join" 3 ["rank", "cab"] (spJoinA CR) := U.f_answer_join.at_ X G (fun _ _ _ _ _ _ us hl => match us, hl with | [_, _], _ => rfl) fun f fd F => ok_joinA F N TR d_is_known
  have d_answer_take : DefAt P w K mg base "answer_take" 3 ["rank", "now"] (spTakeA CR) := U.f_answer_take.at_ X G (fun _ _ _ _ _ _ us hl => match us, hl with | [_, _], _ => rfl) fun f fd F => ok_takeA F N TR d_take_first
  have d_answer_back : DefAt P w K mg base "answer_back" 3 ["rank", "cab", "now", "fare"] (spBackA CR) := U.f_answer_back.at_ X G (fun _ _ _ _ _ _ us hl => match us, hl with | [_, _, _, _], _ => rfl) fun f fd F => ok_backA F N TR d_bring_back
  have d_answer_leave : DefAt P w K mg base "answer_leave" 3 ["rank", "cab"] (spLeaveA CR) := U.f_answer_leave.at_ X G (fun _ _ _ _ _ _ us hl => match us, hl with | [_, _], _ => rfl) fun f fd F => ok_leaveA F N TR
  have d_answer_rank : DefAt P w K mg base "answer_rank" 3 ["rank"] (spRankA CR) := U.f_answer_rank.at_ X G (fun _ _ _ _ _ _ us hl => match us, hl with | [_], _ => rfl) fun f fd F => ok_rankA F N TR
  have d_answer_rank_call : DefAt P w K mg base "answer_rank_call" 4 ["rank", "number", "numbers"] (spRankC CR) := U.f_answer_rank_call.at_ X G (fun _ _ _ _ _ _ us hl => match us, hl with | [_, _, _], _ => rfl) fun f fd F => ok_rankC F d_answer_join d_answer_take d_answer_back d_answer_leave d_answer_rank
  have d_answer_call : DefAt P w K mg base "answer_call" 44 ["meter", "call"] (spCall (MAt C CM K (RR CR)) CC) := U.f_answer_call.at_ X G (fun _ _ _ _ _ _ us hl => match us, hl with | [_, _], _ => rfl) fun f fd F => ok_callA F L T T2 d_answer_begin d_answer_hire d_answer_drive d_answer_extra d_answer_fare d_answer_drops d_answer_next d_answer_would d_answer_pay d_answer_reach d_answer_rank_call
  exact ok_ans F1 L (MAt.stay rs) (U.cM.name X G) iM.mkk iM.bi (ok_initM iM.fn T T2 TR iR.mkk iR.bi (ok_initR iR.fn TR)) d_answer_call
end TR


set_option Elab.async false
set_option linter.all false
set_option maxRecDepth 100000
open PySem PySem.W PyProof.Rows
set_option maxHeartbeats 8000000 in
theorem PySem.Challenge.cw_taxirank_s01_answers_holds : PySem.Challenge.rw_taxirank_s01_answers.Holds := by
  w_on; k_headS; (case hw => exact ⟨[.list [.int 14, .int 0, .int 0]], by decide +kernel, by decide +kernel⟩)
  k_fillS
  refine TR.walk_seen (r := PySem.Challenge.rw_taxirank_s01_answers) (k := 45) (ps := ["calls"]) (sp := TR.spAns) (by decide +kernel) (by decide +kernel) rfl ⟨rfl, by decide, by decide⟩ (fun w h Y => PySem.W.kIn_of Y) ?F ?S
  case F =>
    intro w mg fa h Y KX G hmg
    refine' TR.all_mk KX G hmg rfl ?L ?U
    case L =>
      refine' ⟨?f_common_divisor, ?f_lowest, ?f_plus, ?f_minus, ?f_times, ?f_divided, ?f_is_below, ?f_rounded_down, ?f_is_tariff, ?f_are_tariffs, ?f_which_holds, ?f_seconds_till_change, ?f_copied, ?f_fare_with_extras, ?f_second_of_day, ?f_tariff_place, ?f_part_in_a_second, ?f_next_change, ?f_let_drop_fall, ?f_go_stretch, ?f_drive_way, ?f_seconds_till_drop, ?f_read_list, ?f_read_lists, ?f_read_calls, ?i_DAY, ?i_MOST_TARIFFS, ?i_HOLDS_FROM, ?i_HIRING_PRICE, ?i_HIRING_METRES, ?i_HIRING_SECONDS, ?i_DROP_PRICE, ?i_DROP_METRES, ?i_DROP_SECONDS, ?i_MOST_STRETCHES, ?t_LEAST, ?t_MOST, ?t_ZERO, ?t_ONE, ?b_len, ?b_range, ?b_min, ?b_sum, ?b_list, ?cH, ?cC, ?h_tariffs, ?h_second, ?h_fare, ?h_extras, ?h_gone, ?h_part, ?h_falls, ?c_number, ?c_numbers, ?c_lists⟩
      (case f_common_divisor => refine' TR.fn_fact ?a ?l ?c ?k; (case a => k_is); (case l => k_is); (case c => k_is); (case k => k_is))
      (case f_lowest => refine' TR.fn_fact ?a ?l ?c ?k; (case a => k_is); (case l => k_is); (case c => k_is); (case k => k_is))
      (case f_plus => refine' TR.fn_fact ?a ?l ?c ?k; (case a => k_is); (case l => k_is); (case c => k_is); (case k => k_is))
      (case f_minus => refine' TR.fn_fact ?a ?l ?c ?k; (case a => k_is); (case l => k_is); (case c => k_is); (case k => k_is))
      (case f_times => refine' TR.fn_fact ?a ?l ?c ?k; (case a => k_is); (case l => k_is); (case c => k_is); (case k => k_is))
      (case f_divided => refine' TR.fn_fact ?a ?l ?c ?k; (case a => k_is); (case l => k_is); (case c => k_is); (case k => k_is))
      (case f_is_below => refine' TR.fn_fact ?a ?l ?c ?k; (case a => k_is); (case l => k_is); (case c => k_is); (case k => k_is))
      (case f_rounded_down => refine' TR.fn_fact ?a ?l ?c ?k; (case a => k_is); (case l => k_is); (case c => k_is); (case k => k_is))
      (case f_is_tariff => refine' TR.fn_fact ?a ?l ?c ?k; (case a => k_is); (case l => k_is); (case c => k_is); (case k => k_is))
      (case f_are_tariffs => refine' TR.fn_fact ?a ?l ?c ?k; (case a => k_is); (case l => k_is); (case c => k_is); (case k => k_is))
      (case f_which_holds => refine' TR.fn_fact ?a ?l ?c ?k; (case a => k_is); (case l => k_is); (case c => k_is); (case k => k_is))
      (case f_seconds_till_change => refine' TR.fn_fact ?a ?l ?c ?k; (case a => k_is); (case l => k_is); (case c => k_is); (case k => k_is))
      (case f_copied => refine' TR.fn_fact ?a ?l ?c ?k; (case a => k_is); (case l => k_is); (case c => k_is); (case k => k_is))
      (case f_fare_with_extras => refine' TR.fn_fact ?a ?l ?c ?k; (case a => k_is); (case l => k_is); (case c => k_is); (case k => k_is))
      (case f_second_of_day => refine' TR.fn_fact ?a ?l ?c ?k; (case a => k_is); (case l => k_is); (case c => k_is); (case k => k_is))
      (case f_tariff_place => refine' TR.fn_fact ?a ?l ?c ?k; (case a => k_is); (case l => k_is); (case c => k_is); (case k => k_is))
      (case f_part_in_a_second => refine' TR.fn_fact ?a ?l ?c ?k; (case a => k_is); (case l => k_is); (case c => k_is); (case k => k_is))
      (case f_next_change => refine' TR.fn_fact ?a ?l ?c ?k; (case a => k_is); (case l => k_is); (case c => k_is); (case k => k_is))
      (case f_let_drop_fall => refine' TR.fn_fact ?a ?l ?c ?k; (case a => k_is); (case l => k_is); (case c => k_is); (case k => k_is))
      (case f_go_stretch => refine' TR.fn_fact ?a ?l ?c ?k; (case a => k_is); (case l => k_is); (case c => k_is); (case k => k_is))
      (case f_drive_way => refine' TR.fn_fact ?a ?l ?c ?k; (case a => k_is); (case l => k_is); (case c => k_is); (case k => k_is))
      (case f_seconds_till_drop => refine' TR.fn_fact ?a ?l ?c ?k; (case a => k_is); (case l => k_is); (case c => k_is); (case k => k_is))
      (case f_read_list => refine' TR.fn_fact ?a ?l ?c ?k; (case a => k_is); (case l => k_is); (case c => k_is); (case k => k_is))
      (case f_read_lists => refine' TR.fn_fact ?a ?l ?c ?k; (case a => k_is); (case l => k_is); (case c => k_is); (case k => k_is))
      (case f_read_calls => refine' TR.fn_fact ?a ?l ?c ?k; (case a => k_is); (case l => k_is); (case c => k_is); (case k => k_is))
      (case i_DAY => refine' TR.int_fact ?a; (case a => k_is))
      (case i_MOST_TARIFFS => refine' TR.int_fact ?a; (case a => k_is))
      (case i_HOLDS_FROM => refine' TR.int_fact ?a; (case a => k_is))
      (case i_HIRING_PRICE => refine' TR.int_fact ?a; (case a => k_is))
      (case i_HIRING_METRES => refine' TR.int_fact ?a; (case a => k_is))
      (case i_HIRING_SECONDS => refine' TR.int_fact ?a; (case a => k_is))
      (case i_DROP_PRICE => refine' TR.int_fact ?a; (case a => k_is))
      (case i_DROP_METRES => refine' TR.int_fact ?a; (case a => k_is))
      (case i_DROP_SECONDS => refine' TR.int_fact ?a; (case a => k_is))
      (case i_MOST_STRETCHES => refine' TR.int_fact ?a; (case a => k_is))
      (case t_LEAST => refine' TR.tup_fact ?a ?l ?v; (case a => k_is); (case l => k_is); (case v => rfl))
      (case t_MOST => refine' TR.tup_fact ?a ?l ?v; (case a => k_is); (case l => k_is); (case v => rfl))
      (case t_ZERO => refine' TR.tup_fact ?a ?l ?v; (case a => k_is); (case l => k_is); (case v => rfl))
      (case t_ONE => refine' TR.tup_fact ?a ?l ?v; (case a => k_is); (case l => k_is); (case v => rfl))
      (case b_len => k_is)
      (case b_range => k_is)
      (case b_min => k_is)
      (case b_sum => k_is)
      (case b_list => k_is)
      (case cH => refine' TR.cl_fact ?a ?b ?c ?d ?e ?f ?g ?h ?i ?j ?k ?l; (case a => k_is); (case b => k_is); (case c => k_is); (case d => k_is); (case e => k_is); (case f => k_is); (case g => k_is); (case h => k_is); (case i => k_is); (case j => k_is); (case k => k_is); (case l => k_is))
      (case cC => refine' TR.cl_fact ?a ?b ?c ?d ?e ?f ?g ?h ?i ?j ?k ?l; (case a => k_is); (case b => k_is); (case c => k_is); (case d => k_is); (case e => k_is); (case f => k_is); (case g => k_is); (case h => k_is); (case i => k_is); (case j => k_is); (case k => k_is); (case l => k_is))
      (case h_tariffs => k_is)
      (case h_second => k_is)
      (case h_fare => k_is)
      (case h_extras => k_is)
      (case h_gone => k_is)
      (case h_part => k_is)
      (case h_falls => k_is)
      (case c_number => k_is)
      (case c_numbers => k_is)
      (case c_lists => k_is)
    case U =>
      refine' ⟨?f_is_known, ?f_take_first, ?f_keeps_turn, ?f_bring_back, ?f_answer_begin, ?f_answer_hire, ?f_way_refusal, ?f_answer_drive, ?f_answer_extra, ?f_answer_fare, ?f_answer_drops, ?f_answer_next, ?f_answer_would, ?f_answer_pay, ?f_answer_reach, ?f_answer_join, ?f_answer_take, ?f_answer_back, ?f_answer_leave, ?f_answer_rank, ?f_answer_rank_call, ?f_answer_call, ?f_answers, ?i_MOST_CAB, ?i_SOON, ?i_WORTH_IT, ?i_FINE, ?i_WRONG, ?i_HAS_BEGUN, ?i_IS_THERE, ?i_NOT_THERE, ?i_TOO_LONG, ?i_NO_HIRE, ?i_NOBODY, ?i_NO_TARIFFS, ?i_MOST_SECONDS, ?i_MOST_METRES, ?i_MOST_EXTRA, ?i_MOST_REACH, ?cR, ?cM, ?r_waiting, ?r_away, ?m_tariffs, ?m_hire, ?m_rank⟩
      (case f_is_known => refine' TR.fn_fact ?a ?l ?c ?k; (case a => k_is); (case l => k_is); (case c => k_is); (case k => k_is))
      (case f_take_first => refine' TR.fn_fact ?a ?l ?c ?k; (case a => k_is); (case l => k_is); (case c => k_is); (case k => k_is))
      (case f_keeps_turn => refine' TR.fn_fact ?a ?l ?c ?k; (case a => k_is); (case l => k_is); (case c => k_is); (case k => k_is))
      (case f_bring_back => refine' TR.fn_fact ?a ?l ?c ?k; (case a => k_is); (case l => k_is); (case c => k_is); (case k => k_is))
      (case f_answer_begin => refine' TR.fn_fact ?a ?l ?c ?k; (case a => k_is); (case l => k_is); (case c => k_is); (case k => k_is))
      (case f_answer_hire => refine' TR.fn_fact ?a ?l ?c ?k; (case a => k_is); (case l => k_is); (case c => k_is); (case k => k_is))
      (case f_way_refusal => refine' TR.fn_fact ?a ?l ?c ?k; (case a => k_is); (case l => k_is); (case c => k_is); (case k => k_is))
      (case f_answer_drive => refine' TR.fn_fact ?a ?l ?c ?k; (case a => k_is); (case l => k_is); (case c => k_is); (case k => k_is))
      (case f_answer_extra => refine' TR.fn_fact ?a ?l ?c ?k; (case a => k_is); (case l => k_is); (case c => k_is); (case k => k_is))
      (case f_answer_fare => refine' TR.fn_fact ?a ?l ?c ?k; (case a => k_is); (case l => k_is); (case c => k_is); (case k => k_is))
      (case f_answer_drops => refine' TR.fn_fact ?a ?l ?c ?k; (case a => k_is); (case l => k_is); (case c => k_is); (case k => k_is))
      (case f_answer_next => refine' TR.fn_fact ?a ?l ?c ?k; (case a => k_is); (case l => k_is); (case c => k_is); (case k => k_is))
      (case f_answer_would => refine' TR.fn_fact ?a ?l ?c ?k; (case a => k_is); (case l => k_is); (case c => k_is); (case k => k_is))
      (case f_answer_pay => refine' TR.fn_fact ?a ?l ?c ?k; (case a => k_is); (case l => k_is); (case c => k_is); (case k => k_is))
      (case f_answer_reach => refine' TR.fn_fact ?a ?l ?c ?k; (case a => k_is); (case l => k_is); (case c => k_is); (case k => k_is))
      (case f_answer_join => refine' TR.fn_fact ?a ?l ?c ?k; (case a => k_is); (case l => k_is); (case c => k_is); (case k => k_is))
      (case f_answer_take => refine' TR.fn_fact ?a ?l ?c ?k; (case a => k_is); (case l => k_is); (case c => k_is); (case k => k_is))
      (case f_answer_back => refine' TR.fn_fact ?a ?l ?c ?k; (case a => k_is); (case l => k_is); (case c => k_is); (case k => k_is))
      (case f_answer_leave => refine' TR.fn_fact ?a ?l ?c ?k; (case a => k_is); (case l => k_is); (case c => k_is); (case k => k_is))
      (case f_answer_rank => refine' TR.fn_fact ?a ?l ?c ?k; (case a => k_is); (case l => k_is); (case c => k_is); (case k => k_is))
      (case f_answer_rank_call => refine' TR.fn_fact ?a ?l ?c ?k; (case a => k_is); (case l => k_is); (case c => k_is); (case k => k_is))
      (case f_answer_call => refine' TR.fn_fact ?a ?l ?c ?k; (case a => k_is); (case l => k_is); (case c => k_is); (case k => k_is))
      (case f_answers => refine' TR.fn_fact ?a ?l ?c ?k; (case a => k_is); (case l => k_is); (case c => k_is); (case k => k_is))
      (case i_MOST_CAB => refine' TR.int_fact ?a; (case a => k_is))
      (case i_SOON => refine' TR.int_fact ?a; (case a => k_is))
      (case i_WORTH_IT => refine' TR.int_fact ?a; (case a => k_is))
      (case i_FINE => refine' TR.int_fact ?a; (case a => k_is))
      (case i_WRONG => refine' TR.int_fact ?a; (case a => k_is))
      (case i_HAS_BEGUN => refine' TR.int_fact ?a; (case a => k_is))
      (case i_IS_THERE => refine' TR.int_fact ?a; (case a => k_is))
      (case i_NOT_THERE => refine' TR.int_fact ?a; (case a => k_is))
      (case i_TOO_LONG => refine' TR.int_fact ?a; (case a => k_is))
      (case i_NO_HIRE => refine' TR.int_fact ?a; (case a => k_is))
      (case i_NOBODY => refine' TR.int_fact ?a; (case a => k_is))
      (case i_NO_TARIFFS => refine' TR.int_fact ?a; (case a => k_is))
      (case i_MOST_SECONDS => refine' TR.int_fact ?a; (case a => k_is))
      (case i_MOST_METRES => refine' TR.int_fact ?a; (case a => k_is))
      (case i_MOST_EXTRA => refine' TR.int_fact ?a; (case a => k_is))
      (case i_MOST_REACH => refine' TR.int_fact ?a; (case a => k_is))
      (case cR => refine' TR.cl_fact ?a ?b ?c ?d ?e ?f ?g ?h ?i ?j ?k ?l; (case a => k_is); (case b => k_is); (case c => k_is); (case d => k_is); (case e => k_is); (case f => k_is); (case g => k_is); (case h => k_is); (case i => k_is); (case j => k_is); (case k => k_is); (case l => k_is))
      (case cM => refine' TR.cl_fact ?a ?b ?c ?d ?e ?f ?g ?h ?i ?j ?k ?l; (case a => k_is); (case b => k_is); (case c => k_is); (case d => k_is); (case e => k_is); (case f => k_is); (case g => k_is); (case h => k_is); (case i => k_is); (case j => k_is); (case k => k_is); (case l => k_is))
      (case r_waiting => k_is)
      (case r_away => k_is)
      (case m_tariffs => k_is)
      (case m_hire => k_is)
      (case m_rank => k_is)
  case S =>
    intro K H xs a hO hwi hask hx
    cases hx with
    | cons h1 h2 =>
      cases h2
      cases h1 with
      | lst hs ha =>
        have e := L2.ints_dw a.1 _ ha
        subst e
        have q : ((Codec.inLen 0 4200 a.1 && a.1.all (Codec.inInt 0 200000)) && true) = true := hwi
        rw [Bool.and_eq_true, Bool.and_eq_true] at q
        exact ⟨_, a.1, rfl, hs, (Codec.inNat_iff.mp q.1.1).2, hask, fun H' p hp => .lst (L2.SqL.of hp) (L2.dw_ints _)⟩
#print axioms PySem.Challenge.cw_taxirank_s01_answers_holds
