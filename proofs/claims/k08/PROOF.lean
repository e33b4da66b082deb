import PyProof.Rows.All
import Wide.All
import OpenK.AllK
import Wide.FinOn
import HandS.ForMost
import HandS.IsInst
import HandS.Wide
import HandS.FStr
import PyProof.FString3
import PyProof.Rows.StrIntSpec
import HandS.ForExc
import HandS.ExcIs
import HandS.AnyAll
import HandS.EndTab
import HandS.EndOwn
import KE.KNestM
import HandS.Evl
import HandS.Lambda
import PySem.Challenge.RW_reels_k08_whole_undone
set_option Elab.async false
set_option linter.all false
set_option maxRecDepth 100000
set_option maxHeartbeats 4000000
namespace R
/-! the greatest common divisor as the loops reckon it, and fractions as Rat -/
theorem fmod_nat (a b : Nat) : ((a : Int).fmod (b : Int)) = ((a % b : Nat) : Int) := by
  rw [Int.fmod_eq_emod_of_nonneg _ (by omega)]
  rfl
theorem gcd_turn (a b : Nat) : Nat.gcd b (a % b) = Nat.gcd a b := by
  rw [Nat.gcd_comm a b, Nat.gcd_rec b a, Nat.gcd_comm]
theorem gcd_pos {t b : Int} (h : b ≠ 0) : 0 < Nat.gcd t.natAbs b.natAbs := Nat.gcd_pos_of_pos_right _ (by omega)
theorem abs_nat (i : Int) : (if i < 0 then -i else i) = (i.natAbs : Int) := by
  split <;> omega
def frI (t b : Int) : Int := if b < 0 then -(Nat.gcd t.natAbs b.natAbs : Int) else (Nat.gcd t.natAbs b.natAbs : Int)
theorem frI_ne {t b : Int} (h : b ≠ 0) : frI t b ≠ 0 := by
  have := gcd_pos (t := t) h
  unfold frI
  split <;> omega
theorem frI_dt (t b : Int) : frI t b ∣ t := by
  have h : ((Nat.gcd t.natAbs b.natAbs : Nat) : Int) ∣ t := Int.ofNat_dvd_left.mpr (Nat.gcd_dvd_left _ _)
  unfold frI
  split
  · exact Int.neg_dvd.mpr h
  · exact h
theorem frI_db (t b : Int) : frI t b ∣ b := by
  have h : ((Nat.gcd t.natAbs b.natAbs : Nat) : Int) ∣ b := Int.ofNat_dvd_left.mpr (Nat.gcd_dvd_right _ _)
  unfold frI
  split
  · exact Int.neg_dvd.mpr h
  · exact h
theorem gcd_eq (t b : Int) : (b.gcd t) = Nat.gcd t.natAbs b.natAbs := by
  unfold Int.gcd
  exact Nat.gcd_comm _ _
theorem fdiv_exact {t d : Int} (hd : d ≠ 0) (h : d ∣ t) : t.fdiv d = t / d := by
  obtain ⟨k, rfl⟩ := h
  rw [Int.mul_fdiv_cancel_left _ hd, Int.mul_ediv_cancel_left _ hd]
theorem fr_num {t b : Int} (h : b ≠ 0) : t.fdiv (frI t b) = (Rat.divInt t b).num := by
  rw [fdiv_exact (frI_ne h) (frI_dt t b), Rat.num_divInt, gcd_eq]
  unfold frI
  split
  · rename_i h0
    rw [Int.sign_eq_neg_one_of_neg h0, Int.ediv_neg, Int.neg_one_mul]
    have hd : ((Nat.gcd t.natAbs b.natAbs : Nat) : Int) ∣ t := Int.ofNat_dvd_left.mpr (Nat.gcd_dvd_left _ _)
    rw [Int.neg_ediv_of_dvd hd]
  · rename_i h0
    rw [Int.sign_eq_one_of_pos (by omega), Int.one_mul]
theorem fr_den {t b : Int} (h : b ≠ 0) : b.fdiv (frI t b) = ((Rat.divInt t b).den : Int) := by
  rw [fdiv_exact (frI_ne h) (frI_db t b), Rat.den_divInt, gcd_eq, if_neg h]
  unfold frI
  split
  · rename_i h0
    rw [Int.ediv_neg]
    have hd : ((Nat.gcd t.natAbs b.natAbs : Nat) : Int) ∣ b := Int.ofNat_dvd_left.mpr (Nat.gcd_dvd_right _ _)
    rw [← Int.neg_ediv_of_dvd hd, show -b = ((b.natAbs : Nat) : Int) by omega, ← Int.natCast_ediv]
  · rename_i h0
    rw [show (b / ((Nat.gcd t.natAbs b.natAbs : Nat) : Int)) = (((b.natAbs : Nat) : Int) / ((Nat.gcd t.natAbs b.natAbs : Nat) : Int)) by
      rw [show ((b.natAbs : Nat) : Int) = b by omega], ← Int.natCast_ediv]
theorem frI_natAbs {t b : Int} (h : b ≠ 0) : (frI t b).natAbs ≤ b.natAbs := by
  have h1 : Nat.gcd t.natAbs b.natAbs ≤ b.natAbs := Nat.gcd_le_right _ (by omega)
  unfold frI
  split <;> omega
/-! sums and products of fractions by their parts -/
theorem den_ne (x : Rat) : ((x.den : Nat) : Int) ≠ 0 := by
  have := x.den_nz
  omega
theorem den_pos (x : Rat) : (0 : Int) < ((x.den : Nat) : Int) := by
  have := x.den_nz
  omega
theorem add_parts (x y : Rat) : Rat.divInt (x.num * y.den + y.num * x.den) ((x.den : Int) * y.den) = x + y := by
  conv => rhs; rw [← Rat.num_divInt_den x, ← Rat.num_divInt_den y]
  rw [Rat.divInt_add_divInt _ _ (den_ne x) (den_ne y)]
theorem sub_parts (x y : Rat) : Rat.divInt (x.num * y.den - y.num * x.den) ((x.den : Int) * y.den) = x - y := by
  conv => rhs; rw [← Rat.num_divInt_den x, ← Rat.num_divInt_den y]
  rw [Rat.divInt_sub_divInt _ _ (den_ne x) (den_ne y)]
theorem mul_parts (x y : Rat) : Rat.divInt (x.num * y.num) ((x.den : Int) * y.den) = x * y := by
  conv => rhs; rw [← Rat.num_divInt_den x, ← Rat.num_divInt_den y]
  rw [Rat.divInt_mul_divInt]
theorem div_parts (x y : Rat) : Rat.divInt (x.num * y.den) ((x.den : Int) * y.num) = x / y := by
  rw [Rat.div_def, Rat.inv_def]
  conv => rhs; rw [← Rat.num_divInt_den x]
  rw [Rat.divInt_mul_divInt]
theorem lt_parts (x y : Rat) : decide (x.num * y.den < y.num * x.den) = decide (x < y) := by
  rw [decide_eq_decide, Rat.lt_iff]
/-! sizes -/
structure Sz (n : Nat) (x : Rat) : Prop where
  num : x.num.natAbs < 2 ^ n
  den : x.den < 2 ^ n
theorem Sz.mono {n m : Nat} {x : Rat} (h : Sz n x) (k : n ≤ m) : Sz m x :=
  ⟨Nat.lt_of_lt_of_le h.num (Nat.pow_le_pow_right (by decide) k), Nat.lt_of_lt_of_le h.den (Nat.pow_le_pow_right (by decide) k)⟩
theorem divInt_num_le (t b : Int) : (Rat.divInt t b).num.natAbs ≤ t.natAbs := by
  by_cases h : b = 0
  · subst h
    rw [Rat.divInt_zero]
    exact Nat.zero_le _
  · rw [← fr_num h, fdiv_exact (frI_ne h) (frI_dt t b)]
    exact Int.natAbs_ediv_le_natAbs _ _
theorem divInt_den_le {t b : Int} (h : b ≠ 0) : (Rat.divInt t b).den ≤ b.natAbs := by
  rw [Rat.den_divInt, if_neg h]
  exact Nat.div_le_self _ _
theorem sz_divInt {n : Nat} {t b : Int} (ht : t.natAbs < 2 ^ n) (hb : b.natAbs < 2 ^ n) (h : b ≠ 0) : Sz n (Rat.divInt t b) :=
  ⟨Nat.lt_of_le_of_lt (divInt_num_le t b) ht, Nat.lt_of_le_of_lt (divInt_den_le h) hb⟩
theorem mul_bits {i j : Int} {a b : Nat} (ha : i.natAbs < 2 ^ a) (hb : j.natAbs < 2 ^ b) : (i * j).natAbs < 2 ^ (a + b) := by
  rw [Int.natAbs_mul, Nat.pow_add]
  exact Nat.mul_lt_mul'' ha hb
theorem add_bits {i j : Int} {a : Nat} (ha : i.natAbs < 2 ^ a) (hb : j.natAbs < 2 ^ a) : (i + j).natAbs < 2 ^ (a + 1) := by
  have : (i + j).natAbs ≤ i.natAbs + j.natAbs := Int.natAbs_add_le _ _
  rw [Nat.pow_succ]
  omega
theorem sub_bits {i j : Int} {a : Nat} (ha : i.natAbs < 2 ^ a) (hb : j.natAbs < 2 ^ a) : (i - j).natAbs < 2 ^ (a + 1) := by
  rw [Int.sub_eq_add_neg]
  exact add_bits ha (by omega)
theorem Sz.den' {n : Nat} {x : Rat} (h : Sz n x) : ((x.den : Nat) : Int).natAbs < 2 ^ n := h.den
theorem den_mul_ne (x y : Rat) : ((x.den : Int) * y.den) ≠ 0 := Int.mul_ne_zero (den_ne x) (den_ne y)
theorem up1 {i : Int} {a : Nat} (h : i.natAbs < 2 ^ a) : i.natAbs < 2 ^ (a + 1) := Nat.lt_of_lt_of_le h (Nat.pow_le_pow_right (by decide) (by omega))
theorem sz_add {n m : Nat} {x y : Rat} (hx : Sz n x) (hy : Sz m y) : Sz (n + m + 1) (x + y) := by
  rw [← add_parts]
  refine sz_divInt (add_bits (mul_bits hx.num hy.den') ?_) (up1 (mul_bits hx.den' hy.den')) (den_mul_ne x y)
  rw [Nat.add_comm n m]
  exact mul_bits hy.num hx.den'
theorem sz_sub {n m : Nat} {x y : Rat} (hx : Sz n x) (hy : Sz m y) : Sz (n + m + 1) (x - y) := by
  rw [← sub_parts]
  refine sz_divInt (sub_bits (mul_bits hx.num hy.den') ?_) (up1 (mul_bits hx.den' hy.den')) (den_mul_ne x y)
  rw [Nat.add_comm n m]
  exact mul_bits hy.num hx.den'
theorem sz_mul {n m : Nat} {x y : Rat} (hx : Sz n x) (hy : Sz m y) : Sz (n + m) (x * y) := by
  rw [← mul_parts]
  exact sz_divInt (mul_bits hx.num hy.num) (mul_bits hx.den' hy.den') (den_mul_ne x y)
theorem num_ne {y : Rat} (h : y ≠ 0) : y.num ≠ 0 := fun e => h (Rat.num_eq_zero.mp e)
theorem sz_div {n m : Nat} {x y : Rat} (hx : Sz n x) (hy : Sz m y) (h : y ≠ 0) : Sz (n + m) (x / y) := by
  rw [← div_parts]
  exact sz_divInt (mul_bits hx.num hy.den') (mul_bits hx.den' hy.num) (Int.mul_ne_zero (den_ne x) (num_ne h))
theorem sz_int {n : Nat} {i : Int} (hn : 0 < n) (h : i.natAbs < 2 ^ n) : Sz n (i : Rat) :=
  ⟨h, by
    show 1 < 2 ^ n
    exact Nat.one_lt_two_pow (by omega)⟩
/-! the sum as it is reckoned by what the bottoms have in common -/
theorem add_split (x y : Rat) : (x + y).num = (x.num * ((y.den / (x.den.gcd y.den) : Nat) : Int) + y.num * ((x.den / (x.den.gcd y.den) : Nat) : Int)) / (((x.num * ((y.den / (x.den.gcd y.den) : Nat) : Int) + y.num * ((x.den / (x.den.gcd y.den) : Nat) : Int)).natAbs.gcd (x.den.gcd y.den) : Nat) : Int) ∧
   (x + y).den = x.den / (x.den.gcd y.den) * (y.den / ((x.num * ((y.den / (x.den.gcd y.den) : Nat) : Int) + y.num * ((x.den / (x.den.gcd y.den) : Nat) : Int)).natAbs.gcd (x.den.gcd y.den))) := by
  have e : x + y = Rat.add x y := rfl
  rw [e]
  unfold Rat.add
  dsimp only
  by_cases hg : x.den.gcd y.den = 1
  · rw [dif_pos hg]
    constructor
    · show x.num * (y.den : Int) + y.num * (x.den : Int) = _
      rw [hg, Nat.div_one, Nat.div_one, Nat.gcd_one_right]
      exact (Int.ediv_one _).symm
    · show x.den * y.den = _
      rw [hg, Nat.div_one, Nat.div_one, Nat.gcd_one_right, Nat.div_one]
  · rw [dif_neg hg]
    unfold Rat.maybeNormalize
    split
    · rename_i h1
      refine ⟨?_, ?_⟩
      · show x.num * ((y.den / (x.den.gcd y.den) : Nat) : Int) + y.num * ((x.den / (x.den.gcd y.den) : Nat) : Int) = _
        rw [h1]
        exact (Int.ediv_one _).symm
      · show x.den / (x.den.gcd y.den) * y.den = _
        rw [h1, Nat.div_one]
    · refine ⟨?_, ?_⟩
      · exact Int.divExact_eq_ediv (Int.ofNat_dvd_left.mpr (Nat.gcd_dvd_left _ _))
      · show _ / _ = _
        rw [Nat.mul_div_assoc]
        exact Nat.dvd_trans (Nat.gcd_dvd_right _ _) (Nat.gcd_dvd_right _ _)
theorem fdiv_nat (a b : Nat) : ((a : Int).fdiv (b : Int)) = ((a / b : Nat) : Int) := by
  rw [Int.fdiv_eq_ediv_of_nonneg _ (by omega)]
  rfl
theorem fdiv_natR (a : Int) (b : Nat) : (a.fdiv (b : Int)) = a / (b : Int) := Int.fdiv_eq_ediv_of_nonneg _ (by omega)
def sG (x y : Rat) : Nat := x.den.gcd y.den
def sT (x y : Rat) : Int := x.num * ((y.den / sG x y : Nat) : Int) + y.num * ((x.den / sG x y : Nat) : Int)
def sD (x y : Rat) : Nat := (sT x y).natAbs.gcd (sG x y)
theorem sum_num (x y : Rat) : (sT x y).fdiv (sD x y : Int) = (x + y).num := by
  rw [fdiv_natR]
  exact (add_split x y).1.symm
theorem sum_den (x y : Rat) : (((x.den / sG x y : Nat) : Int) * ((y.den / sD x y : Nat) : Int)) = (((x + y).den : Nat) : Int) := by
  rw [show (x + y).den = x.den / sG x y * (y.den / sD x y) from (add_split x y).2]
  rfl
theorem sG_pos (x y : Rat) : 0 < sG x y := Nat.gcd_pos_of_pos_left _ x.den_pos
theorem sD_pos (x y : Rat) : 0 < sD x y := Nat.gcd_pos_of_pos_right _ (sG_pos x y)
theorem sG_le (x y : Rat) : sG x y ≤ x.den := Nat.gcd_le_left _ x.den_pos
theorem sD_le (x y : Rat) : sD x y ≤ x.den := Nat.le_trans (Nat.gcd_le_right _ (sG_pos x y)) (sG_le x y)
end R
namespace R
/-! ### what a fraction becomes whole by -/
def Iz (D : Nat) (x : Rat) : Prop := ∃ k : Int, x * (D : Rat) = (k : Rat)
theorem Iz.add {D : Nat} {x y : Rat} (hx : Iz D x) (hy : Iz D y) : Iz D (x + y) := by
  obtain ⟨k, h⟩ := hx
  obtain ⟨m, g⟩ := hy
  exact ⟨k + m, by rw [Rat.intCast_add, ← h, ← g]; grind⟩
theorem Iz.sub {D : Nat} {x y : Rat} (hx : Iz D x) (hy : Iz D y) : Iz D (x - y) := by
  obtain ⟨k, h⟩ := hx
  obtain ⟨m, g⟩ := hy
  exact ⟨k - m, by rw [Rat.intCast_sub, ← h, ← g]; grind⟩
theorem Iz.mul {D E : Nat} {x y : Rat} (hx : Iz D x) (hy : Iz E y) : Iz (D * E) (x * y) := by
  obtain ⟨k, h⟩ := hx
  obtain ⟨m, g⟩ := hy
  exact ⟨k * m, by rw [Rat.intCast_mul, ← h, ← g, Rat.natCast_mul]; grind⟩
theorem Iz.up {D : Nat} {x : Rat} (hx : Iz D x) (E : Nat) : Iz (D * E) x := by
  obtain ⟨k, h⟩ := hx
  exact ⟨k * E, by rw [Rat.intCast_mul, ← h, Rat.natCast_mul]; show x * ((D : Rat) * (E : Rat)) = x * (D : Rat) * ((E : Int) : Rat); rw [Rat.intCast_natCast]; grind⟩
theorem Iz.dvd {D E : Nat} {x : Rat} (hx : Iz D x) (h : D ∣ E) : Iz E x := by
  obtain ⟨c, rfl⟩ := h
  exact hx.up c
theorem iz_zero (D : Nat) : Iz D 0 := ⟨0, by grind⟩
theorem iz_int (D : Nat) (i : Int) : Iz D (i : Rat) := by
  refine ⟨i * D, ?_⟩
  rw [Rat.intCast_mul]
  rfl
theorem iz_divInt {t c : Int} {D : Nat} (hc : 0 < c) (h : c ∣ (D : Int)) : Iz D (Rat.divInt t c) := by
  obtain ⟨k, e⟩ := h
  refine ⟨t * k, ?_⟩
  have hc' : (c : Rat) ≠ 0 := fun z => by
    have := Rat.intCast_inj.mp (show (c : Rat) = ((0 : Int) : Rat) from z)
    omega
  have e2 : (D : Rat) = (c : Rat) * (k : Rat) := by
    rw [← Rat.intCast_mul, ← e]
    rfl
  rw [Rat.divInt_eq_div, e2, Rat.intCast_mul, Rat.div_def]
  have := Rat.mul_inv_cancel _ hc'
  grind
theorem Iz.eq {D : Nat} {x : Rat} (hD : 0 < D) (h : Iz D x) : ∃ k : Int, x = Rat.divInt k D ∧ x * (D : Rat) = (k : Rat) := by
  obtain ⟨k, h⟩ := h
  refine ⟨k, ?_, h⟩
  have hD' : (D : Rat) ≠ 0 := fun z => by
    have := Rat.natCast_inj.mp (show (D : Rat) = ((0 : Nat) : Rat) from z)
    omega
  rw [Rat.divInt_eq_div, ← h]
  show x = x * (D : Rat) / (((D : Nat) : Int) : Rat)
  rw [Rat.intCast_natCast, Rat.div_def]
  have := Rat.mul_inv_cancel _ hD'
  grind
/-- the size, by what it becomes whole by and how far it is from nought -/
theorem Iz.sz {D M n : Nat} {x : Rat} (hD : 0 < D) (h : Iz D x) (h1 : -(M : Rat) ≤ x) (h2 : x ≤ (M : Rat)) (hn : M * D < 2 ^ n) (hm : D < 2 ^ n) : Sz n x := by
  obtain ⟨k, e, g⟩ := h.eq hD
  rw [e]
  refine sz_divInt ?_ hm (by omega)
  have d0 : (0 : Rat) ≤ (D : Rat) := Rat.natCast_nonneg
  have a1 : (k : Rat) ≤ (((M * D : Nat) : Int) : Rat) := by
    rw [← g, Rat.intCast_natCast, Rat.natCast_mul]
    exact Rat.mul_le_mul_of_nonneg_right h2 d0
  have a2 : ((-((M * D : Nat) : Int) : Int) : Rat) ≤ (k : Rat) := by
    rw [← g, Rat.intCast_neg, Rat.intCast_natCast, Rat.natCast_mul, ← Rat.neg_mul]
    exact Rat.mul_le_mul_of_nonneg_right h1 d0
  have b1 := Rat.intCast_le_intCast.mp a1
  have b2 := Rat.intCast_le_intCast.mp a2
  omega
end R
namespace R
open PySem PySem.Spec PyProof.Rows L2
/-! ### a def of the text, and what it promises -/
structure Df (K : PySem.W.Frag) (mg : Str → Option Value) (x : Str) (st : Stmt) (ps : List Str) : Prop where
  ex : ∃ (f : Addr) (fd : FuncData), Fun K x x st f fd ∧ mg x = some (.ref f) ∧ Binds K fd ps []
structure Cl (P : Program) (w : World) (K : PySem.W.Frag) (mg : Str → Option Value) (base : Heap) (CX : CXT) (k : Nat) (x : Str) (sp : Sp) : Prop where
  ex : ∃ (f : Addr) (fd : FuncData) (ps : List Str), FnOk P w K mg base CX k f fd ps sp ∧ mg x = some (.ref f) ∧ PySem.W.keepIn K (.ref f) = true ∧ Binds K fd ps []
section
variable {P : Program} {w : World} {K : PySem.W.Frag} {mg : Str → Option Value} {base : Heap}
theorem Df.cl {x : Str} {st : Stmt} {N ps : List Str} {k : Nat} {sp : Sp} (D : Df K mg x st ps) (S : FnScope N ps (defScope st)) (len : ∀ vs H Q E, sp vs H Q E → vs.length = ps.length)
    (hbody : ∀ (f : Addr) (cdv : Value) (A : Around) (outer : List Env) (s : Shared) (H : Hp) (vs : List V) (Q : VK) (E : XK), Room k (A.deeper (envOfC x (defScope st) s.heap.objs.size f cdv)) → sp vs H Q E →
      ∃ t, PSs (cxOf CX0 P w K mg base N x (defScope st) f cdv A outer s H E).nox (defBody st) t ∧ t { nx := fun _ H' => Q .non H', rt := Q } (start N vs) H) : Cl P w K mg base CX0 (k + 1) x sp := by
  obtain ⟨f, fd, F, g, b⟩ := D.ex
  exact ⟨f, fd, ps, F.ok S len (hbody f), g, F.kp, b⟩
end
section
variable {X : Cx}
theorem pe_cl {k j : Nat} {x : Str} {sp : Sp} {p pos : Pos} {e : Expr} {es : List Expr} {t : TA} (c : Cl X.prog X.w X.K X.mg X.base CX0 k x sp) (hr : Room j X.A) (hk : k ≤ j) (hg : Gl X x) (ha : PA X (e :: es) t)
    (hdb : (x == ("__debug__" : Str)) = false := by decide) (he : starEach (e :: es) X.env = (false, eval e X.env) :: starEach es X.env := by rfl) (hpl : (backTo pos (starEach es X.env)).any (·.1) = false := by rfl) :
    PE X (.Call (.Name x p) (e :: es) [] pos) (tCall sp [] E0 t) := by
  obtain ⟨f, fd, ps, F, hm, kp, b⟩ := c.ex
  exact pe_call F (hr.mono hk) hg hm kp b .nil pass0 ha hdb he hpl
/-- // by any divisor but 0, below 2 ^ 9000 -/
def CDivX (_ j : Int) : Prop := j ≠ 0 ∧ j.natAbs.log2 < 9000
theorem op_fdivX : OpR X (binaryOp .FloorDiv) (rI CDivX fun i j => .int (i.fdiv j)) := opI fun i j _ _ _ _ _ hc q =>
  floordiv_int hc.1 q (.inl (PyProof.noPylong_of_log2 hc.2))
end
theorem cdiv {i j : Int} {b : Nat} (h : j ≠ 0) (hb : j.natAbs < 2 ^ b) (h0 : 0 < b) (h9 : b ≤ 9000) : CDivX i j := ⟨h, Nat.lt_of_lt_of_le (PySem.Flt.log2_lt_of h0 hb) h9⟩
/-! ### data at a heap -/
theorem Same.tup {K : PySem.W.Frag} {H H' : Hp} {a : Addr} {xs : List V} (e : Same H H') (h : SqT K H a xs) : SqT K H' a xs := by
  rcases h with (h | ⟨o, h⟩) | h
  · exact .inl (.inl (e _ _ h))
  · exact .inl (.inr ⟨o, e _ _ h⟩)
  · exact .inr h
theorem Same.new {H : Hp} {p : Addr} {o : HO} (h : H p = none) : Same H (upd H p o) := fun b x e => by
  rw [upd_ne (ne_of_none e h)]
  exact e
mutual
theorem dp_mono {K : PySem.W.Frag} {H H' : Hp} (s : Same H H') : ∀ (d : PyData) (v : V), Dp K H v d → Dp K H' v d
  | .none, _, h => by cases h; exact .non
  | .bool _, _, h => by cases h; exact .bl _
  | .int _, _, h => by cases h; exact .int _
  | .str _, _, h => by cases h; exact .str _
  | .list ds, _, h => by
    cases h with
    | lst hs ha => exact .lst (s.seq hs) (dpa_mono s ds _ ha)
  | .tuple ds, _, h => by
    cases h with
    | tup hs ha => exact .tup (Same.tup s hs) (dpa_mono s ds _ ha)
  | .dict _, _, h => by cases h
theorem dpa_mono {K : PySem.W.Frag} {H H' : Hp} (s : Same H H') : ∀ (ds : List PyData) (vs : List V), DpAll K H vs ds → DpAll K H' vs ds
  | [], _, h => by cases h; exact .nil
  | d :: ds, _, h => by
    cases h with
    | cons h1 h2 => exact .cons (dp_mono s d _ h1) (dpa_mono s ds _ h2)
end
end R
namespace R
section
open PySem PySem.Spec PyProof.Rows L2 Builtin Builtin.Str Builtin.Int Builtin.Float
/-! ### the field {x:02d} of an int that is not negative -/
def f02 : FormatSpec := { fill := 48, align := 61, width := some 2, type := some 100 }
theorem p02 : parseFormatSpec [48, 50, 100] "int" 62 = .ok f02 := rfl
theorem gives_02d (a : Int) (t u : Tok) (hs : a.natAbs.log2 < 1920) : Gives («int.__format__» ⟨[.int a t, .str "02d" u], []⟩) (.str (intSpecText f02 a)) := by
  intro prog w A R s hq
  unfold Builtin.«int.__format__»
  simp only [selfAndOne, noKeywords, Int.intOfSelf, asInt?, asStr?, List.isEmpty_nil, if_true, pure_bind, bind_pure, bind_assoc]
  rw [show (Value.str (Str.ofString "02d") u == Value.none) = false from rfl]
  simp only [Bool.false_eq_true, if_false]
  refine wpAny_bind (wpAny_typeNameOf (T := "str") (typeIs_str _ _ _) (by decide) fun _ => ?_)
  rw [show ((Str.ofString "02d").length == 0) = false by decide +kernel]
  simp only [Bool.false_eq_true, if_false, pure_bind]
  rw [show (((Str.ofString "02d").cps.toList.drop 1).any (fun x => decide (x ≥ 128)) || (decide ((Str.ofString "02d").cps.getD 0 0 ≥ 128) && !([60, 62, 61, 94] : List Nat).contains ((Str.ofString "02d").cps.getD 1 0))) = false by decide +kernel]
  simp only [Bool.false_eq_true, if_false, pure_bind]
  refine wpAny_bind (wpAny_typeNameOfCut_int ?_)
  rw [show (Str.ofString "02d").cps.toList = [48, 50, 100] by decide +kernel, p02]
  dsimp only
  rw [if_pos (by decide +kernel)]
  show wpAny _ _ (do let r ← Builtin.overDigitLimit? a; _) _ _ _
  rw [PySem.overDigitLimit_small hs, pure_bind]
  show wpAny _ _ (retStr _) _ _ _
  refine Gives.of_eq (m := .str (intSpecText f02 a)) ?_ prog w A R s hq
  unfold intSpecText
  rfl
end
open PySem PySem.Spec PyProof.Rows L2
/-! ### texts of numbers -/
def sI (i : Int) : Str := Str.ofString (toString i)
def pad2 (i : Int) : Str := if i < 10 then (⟨#[48]⟩ : Str) ++ sI i else sI i
theorem sapp (a b c : Str) : (a ++ b) ++ c = a ++ (b ++ c) := by
  refine Str.ext' ?_
  rw [Str.cps_append, Str.cps_append, Str.cps_append, Str.cps_append, Array.append_assoc]
theorem sapp_nil (a : Str) : a ++ Str.empty = a := Str.append_right_empty rfl
theorem nil_sapp (a : Str) : Str.empty ++ a = a := Str.append_left_empty rfl
theorem slen (a b : Str) : (a ++ b).length = a.length + b.length := by
  unfold Str.length
  rw [Str.cps_append, Array.size_append]
theorem sI_nat (m : Nat) : sI (m : Int) = ⟨((Nat.toDigits 10 m).map Char.toNat).toArray⟩ := text_ofNat m
theorem sI_len {i : Int} (h0 : 0 ≤ i) (h : i < 10 ^ 30) : (sI i).length ≤ 30 := by
  obtain ⟨m, rfl⟩ := Int.eq_ofNat_of_zero_le h0
  rw [sI_nat]
  show ((Nat.toDigits 10 m).map Char.toNat).toArray.size ≤ 30
  rw [List.size_toArray, List.length_map]
  exact digits10_le (by decide) (by
    have : ((m : Nat) : Int) < ((10 ^ 30 : Nat) : Int) := h
    omega)
theorem lg {i : Int} (h0 : 0 ≤ i) (h : i < 10 ^ 30) : i.natAbs.log2 < 1920 :=
  PySem.Flt.log2_lt_of (by decide) (Nat.lt_of_lt_of_le (show i.natAbs < 2 ^ 128 by omega) (Nat.pow_le_pow_right (by decide) (by decide)))
theorem pad2_len {i : Int} (h0 : 0 ≤ i) (h : i < 10 ^ 30) : (pad2 i).length ≤ 31 := by
  have := sI_len h0 h
  unfold pad2
  split
  · rw [slen]
    show 1 + _ ≤ 31
    omega
  · omega
theorem f02_text {a : Int} (h0 : 0 ≤ a) : intSpecText f02 a = pad2 a := by
  rw [intSpecText_zero (f := f02) rfl rfl rfl rfl h0]
  have D := digitsFacts10 a.natAbs
  unfold pad2
  split
  · rename_i h
    rw [D.lt10 (by omega)]
    rfl
  · rename_i h
    have := D.ge10 (by omega)
    rw [show f02.width.getD 0 - (Nat.toDigits 10 a.natAbs).length = 0 by
      show 2 - _ = 0
      omega]
    exact nil_sapp _
section
variable {X : Cx}
def tFmt02 (te : TE) : TE := fun σ H Q => te σ H fun x H1 => ∃ i : Int, x = .int i ∧ 0 ≤ i ∧ i < 10 ^ 30 ∧ Q (.str (pad2 i)) H1
theorem pe_fmt02 {e : Expr} {te : TE} {k : Nat} {p1 p2 pos : Pos} (he : PE X e te) : PE X (.FormattedValue e (-1) (some (.JoinedStr [.Constant (.str "02d") k p1] p2)) pos) (tFmt02 te) := by
  refine ⟨fun pins s σ H Q I h => ?_⟩
  refine wpAny_FormattedValue_spec (thn (he.run pins s σ H _ I h) fun v s1 hv => ?_)
  obtain ⟨x, H1, I1, r1, i, rfl, h0, h1, q⟩ := hv
  obtain ⟨t, rfl⟩ := r1
  refine thn ((pe_joined1 (pe_str (x := "02d"))).run pins s1 σ H1 (fun v H' => v = .str "02d" ∧ H' = H1) I1 ⟨rfl, rfl⟩) fun u s2 hu => ?_
  obtain ⟨y, H2, I2, r2, rfl, rfl⟩ := hu
  obtain ⟨t2, rfl⟩ := r2
  refine ⟨"02d", t2, rfl, ?_⟩
  refine wpAny_formatField_spec (by decide +kernel) (fun s' => typeIs_int s' i t) F.slot_int_format F.entry_int_format F.args_int_format_2 (fun u => gives_02d i t u (lg h0 h1)) ?_ (by decide +kernel) ?_
  · rw [f02_text h0]
    exact ⟨.str (pad2 i), H2, I2.tok _, ⟨_, rfl⟩, q⟩
  · rw [f02_text h0]
    exact Nat.le_trans (pad2_len h0 h1) (by decide)
theorem pe_gl {x : Str} {pos : Pos} {v : V} (hg : Gl X x) (h : ∃ u, X.mg x = some u ∧ RelV v u) (hd : (x == ("__debug__" : Str)) = false := by decide) : PE X (.Name x pos) (tC v) := by
  obtain ⟨u, h1, h2⟩ := h
  exact pe_glob hg h1 h2 hd
end
end R
namespace R
/-! ### shows, as plain data: the mathematics -/
abbrev St3 := Rat × Rat × Rat
def lst3 (s : St3) : Rat := (s.2.1 - s.1) / s.2.2
def lenS : List St3 → Rat
  | [] => 0
  | s :: r => lst3 s + lenS r
theorem lenS_app : ∀ (a b : List St3), lenS (a ++ b) = lenS a + lenS b
  | [], b => by
    show lenS b = 0 + lenS b
    rw [Rat.zero_add]
  | s :: r, b => by
    show lst3 s + lenS (r ++ b) = lst3 s + lenS r + lenS b
    rw [lenS_app r b, Rat.add_assoc]
theorem take_more {α : Type} : ∀ {l : List α} {i : Nat} {x : α}, l[i]? = some x → l.take (i + 1) = l.take i ++ [x]
  | [], i, x, h => by simp at h
  | a :: l, 0, x, h => by
    have e : a = x := Option.some.inj h
    subst e
    rfl
  | a :: l, i + 1, x, h => by
    have ih := take_more (l := l) (i := i) (x := x) h
    show a :: l.take (i + 1) = a :: l.take i ++ [x]
    rw [ih]
    rfl
theorem drop_more {α : Type} : ∀ {l : List α} {i : Nat} {x : α}, l[i]? = some x → l.drop i = x :: l.drop (i + 1)
  | [], i, x, h => by simp at h
  | a :: l, 0, x, h => by
    have e : a = x := Option.some.inj h
    subst e
    rfl
  | a :: l, i + 1, x, h => drop_more (l := l) (i := i) (x := x) h
theorem lenS_more {l : List St3} {i : Nat} {x : St3} (h : l[i]? = some x) : lenS (l.take (i + 1)) = lenS (l.take i) + lst3 x := by
  rw [take_more h, lenS_app]
  show lenS (l.take i) + (lst3 x + 0) = _
  rw [Rat.add_zero]
structure StOk (N : Nat) (s : St3) : Prop where
  b : Sz N s.1
  e : Sz N s.2.1
  p : Sz N s.2.2
  pos : 0 < s.2.2
structure ShOk (N : Nat) (xs : List St3) : Prop where
  each : ∀ s ∈ xs, StOk N s
  sums : ∀ k, Sz N (lenS (xs.take k))
  lasts : ∀ s ∈ xs, Sz N (lst3 s)
theorem ne_of_pos {x : Rat} (h : 0 < x) : x ≠ 0 := fun e => by
  rw [e] at h
  exact Rat.lt_irrefl h
theorem sz_lst {N : Nat} {s : St3} (h : StOk N s) : Sz (3 * N + 1) (lst3 s) := by
  have := sz_div (sz_sub h.e h.b) h.p (ne_of_pos h.pos)
  exact this.mono (by omega)
/-- what is shown at a time -/
def seen : List St3 → Rat → Option Rat
  | [], _ => none
  | s :: r, t => if t < lst3 s then some (s.1 + t * s.2.2) else seen r (t - lst3 s)
/-- the rows of a timetable -/
def tabF (t0 : Rat) : List St3 → List (Rat × Rat × St3)
  | [] => []
  | s :: r => (t0, t0 + lst3 s, s) :: tabF (t0 + lst3 s) r
theorem tabF_get : ∀ (t0 : Rat) (xs : List St3) (i : Nat), (tabF t0 xs)[i]? = (xs[i]?).map fun s => (t0 + lenS (xs.take i), t0 + lenS (xs.take (i + 1)), s)
  | _, [], i => by simp [tabF]
  | t0, s :: r, 0 => by
    show some (t0, t0 + lst3 s, s) = some (t0 + 0, t0 + (lst3 s + 0), s)
    rw [Rat.add_zero, Rat.add_zero]
  | t0, s :: r, i + 1 => by
    show (tabF (t0 + lst3 s) r)[i]? = _
    rw [tabF_get (t0 + lst3 s) r i]
    show (r[i]?).map _ = (r[i]?).map _
    congr 1
    funext z
    show (t0 + lst3 s + lenS (r.take i), t0 + lst3 s + lenS (r.take (i + 1)), z) = (t0 + (lst3 s + lenS (r.take i)), t0 + (lst3 s + lenS (r.take (i + 1))), z)
    rw [Rat.add_assoc, Rat.add_assoc]
theorem tabF_len : ∀ (t0 : Rat) (xs : List St3), (tabF t0 xs).length = xs.length
  | _, [] => rfl
  | t0, s :: r => by
    show (tabF (t0 + lst3 s) r).length + 1 = r.length + 1
    rw [tabF_len]
theorem seen_turn {xs : List St3} {i : Nat} {s : St3} {t : Rat} (h : xs[i]? = some s) : seen (xs.drop i) (t - lenS (xs.take i)) =
    if t < lenS (xs.take (i + 1)) then some (s.1 + (t - lenS (xs.take i)) * s.2.2) else seen (xs.drop (i + 1)) (t - lenS (xs.take (i + 1))) := by
  rw [drop_more h, lenS_more h]
  show (if t - lenS (xs.take i) < lst3 s then _ else _) = _
  by_cases c : t - lenS (xs.take i) < lst3 s
  · rw [if_pos c, if_pos (by grind)]
  · rw [if_neg c, if_neg (by grind), show t - lenS (xs.take i) - lst3 s = t - (lenS (xs.take i) + lst3 s) by grind]
/-- stretches that go on are made one -/
def nstep (acc : List St3) (s : St3) : List St3 := match acc.getLast? with
  | some l => if l.2.1 = s.1 ∧ l.2.2 = s.2.2 then acc.dropLast ++ [(l.1, s.2.1, s.2.2)] else acc ++ [s]
  | none => [s]
def normM (xs : List St3) : List St3 := xs.foldl nstep []
theorem normM_more {xs : List St3} {i : Nat} {s : St3} (h : xs[i]? = some s) : normM (xs.take (i + 1)) = nstep (normM (xs.take i)) s := by
  unfold normM
  rw [take_more h, List.foldl_append]
  rfl
/-- what lies between two times, from the show's start -/
def piece (s : St3) (b e : Rat) : List St3 :=
  if (if 0 < b then b else 0) < (if e < lst3 s then e else lst3 s) then [(s.1 + (if 0 < b then b else 0) * s.2.2, s.1 + (if e < lst3 s then e else lst3 s) * s.2.2, s.2.2)] else []
def cutM : List St3 → Rat → Rat → List St3
  | [], _, _ => []
  | s :: r, b, e => piece s b e ++ cutM r (b - lst3 s) (e - lst3 s)
theorem cutM_turn {xs : List St3} {i : Nat} {s : St3} {b e : Rat} (h : xs[i]? = some s) : cutM (xs.drop i) (b - lenS (xs.take i)) (e - lenS (xs.take i)) =
    piece s (b - lenS (xs.take i)) (e - lenS (xs.take i)) ++ cutM (xs.drop (i + 1)) (b - lenS (xs.take (i + 1))) (e - lenS (xs.take (i + 1))) := by
  rw [drop_more h, lenS_more h]
  show _ ++ cutM (xs.drop (i + 1)) (b - lenS (xs.take i) - lst3 s) (e - lenS (xs.take i) - lst3 s) = _
  rw [show b - lenS (xs.take i) - lst3 s = b - (lenS (xs.take i) + lst3 s) by grind, show e - lenS (xs.take i) - lst3 s = e - (lenS (xs.take i) + lst3 s) by grind]
end R
namespace R
theorem divInt_pos {t b : Int} (ht : 0 < t) (hb : 0 < b) : 0 < Rat.divInt t b := by
  rw [Rat.divInt_eq_div, Rat.div_def]
  exact Rat.mul_pos (Rat.intCast_pos.mpr ht) (Rat.inv_pos.mpr (Rat.intCast_pos.mpr hb))
theorem piece_eq (s : St3) (b e st : Rat) : piece s (b - st) (e - st) =
    if (if b < st then st else b) < (if st + lst3 s < e then st + lst3 s else e) then
      [(s.1 + ((if b < st then st else b) - st) * s.2.2, s.1 + ((if st + lst3 s < e then st + lst3 s else e) - st) * s.2.2, s.2.2)] else [] := by
  have e1 : (if 0 < b - st then b - st else 0) = (if b < st then st else b) - st := by
    split <;> split <;> grind
  have e2 : (if e - st < lst3 s then e - st else lst3 s) = (if st + lst3 s < e then st + lst3 s else e) - st := by
    split <;> split <;> grind
  unfold piece
  rw [e1, e2]
  by_cases c : (if b < st then st else b) < (if st + lst3 s < e then st + lst3 s else e)
  · rw [if_pos c, if_pos (by grind)]
  · rw [if_neg c, if_neg (by grind)]
theorem piece_len (s : St3) (b e : Rat) : (piece s b e).length ≤ 1 := by
  unfold piece
  generalize (if 0 < b then b else 0) = f
  generalize (if e < lst3 s then e else lst3 s) = g
  by_cases c : f < g
  · rw [if_pos c]
    exact Nat.le_refl _
  · rw [if_neg c]
    exact Nat.zero_le _
/-- one turn of making stretches one: the part that stays, and what stands last -/
theorem nstep_cases (acc : List St3) (s : St3) : (acc = [] ∧ nstep acc s = [] ++ [(s.1, s.2.1, s.2.2)]) ∨ ∃ pre l, acc = pre ++ [l] ∧
    ((l.2.1 = s.1 ∧ l.2.2 = s.2.2 ∧ nstep acc s = pre ++ [(l.1, s.2.1, s.2.2)]) ∨ (¬ (l.2.1 = s.1 ∧ l.2.2 = s.2.2) ∧ nstep acc s = acc ++ [(s.1, s.2.1, s.2.2)])) := by
  unfold nstep
  cases h : acc.getLast? with
  | none => exact .inl ⟨List.getLast?_eq_none_iff.mp h, rfl⟩
  | some l =>
    obtain ⟨pre, rfl⟩ := List.getLast?_eq_some_iff.mp h
    refine .inr ⟨pre, l, rfl, ?_⟩
    dsimp only
    by_cases c : l.2.1 = s.1 ∧ l.2.2 = s.2.2
    · rw [if_pos c, List.dropLast_concat]
      exact .inl ⟨c.1, c.2, rfl⟩
    · rw [if_neg c]
      exact .inr ⟨c, rfl⟩
theorem nstep_len (acc : List St3) (s : St3) : (nstep acc s).length ≤ acc.length + 1 := by
  rcases nstep_cases acc s with ⟨h, e⟩ | ⟨pre, l, h, (⟨_, _, e⟩ | ⟨_, e⟩)⟩
  · rw [e]
    simp
  · rw [e, h]
    simp
  · rw [e]
    simp
end R
namespace R
/-! ### normal shows: making one is a way of reading -/
theorem nstep_join (acc : List St3) (s t : St3) (h1 : s.2.1 = t.1) (h2 : s.2.2 = t.2.2) : nstep (nstep acc s) t = nstep acc (s.1, t.2.1, t.2.2) := by
  have key : ∀ (pre : List St3) (f : Rat), nstep (pre ++ [(f, s.2.1, s.2.2)]) t = pre ++ [(f, t.2.1, t.2.2)] := by
    intro pre f
    unfold nstep
    rw [List.getLast?_append, List.getLast?_singleton]
    dsimp only [Option.some_or]
    rw [if_pos ⟨h1, h2⟩, List.dropLast_concat]
  rcases nstep_cases acc s with ⟨e0, e1⟩ | ⟨pre, l, e0, (⟨c1, c2, e1⟩ | ⟨c, e1⟩)⟩
  · rw [e1, key, e0]
    rfl
  · rw [e1, key, e0]
    unfold nstep
    rw [List.getLast?_append, List.getLast?_singleton]
    dsimp only [Option.some_or]
    rw [if_pos ⟨c1, by rw [← h2]; exact c2⟩, List.dropLast_concat]
  · rw [e1, key, e0]
    unfold nstep
    rw [List.getLast?_append, List.getLast?_singleton]
    dsimp only [Option.some_or]
    rw [if_neg (fun z => c ⟨z.1, by rw [h2]; exact z.2⟩)]
theorem snoc_ind {α : Type} {P : List α → Prop} (h0 : P []) (h1 : ∀ b s, P b → P (b ++ [s])) (b : List α) : P b := by
  have : ∀ l : List α, P l.reverse := by
    intro l
    induction l with
    | nil => exact h0
    | cons x l ih =>
      rw [List.reverse_cons]
      exact h1 _ _ ih
  have h := this b.reverse
  rw [List.reverse_reverse] at h
  exact h
/-- behind anything, a show and its normal one come to the same -/
theorem fold_norm (acc0 : List St3) : ∀ (b : List St3), (normM b).foldl nstep acc0 = b.foldl nstep acc0 := by
  intro b
  refine snoc_ind (P := fun b => (normM b).foldl nstep acc0 = b.foldl nstep acc0) rfl (fun b s ih => ?_) b
  · have e : normM (b ++ [s]) = nstep (normM b) s := by
      unfold normM
      rw [List.foldl_append]
      rfl
    rw [e, List.foldl_append, ← ih]
    show _ = nstep ((normM b).foldl nstep acc0) s
    rcases nstep_cases (normM b) s with ⟨e0, e1⟩ | ⟨pre, l, e0, (⟨c1, c2, e1⟩ | ⟨c, e1⟩)⟩
    · rw [e1, e0]
      rfl
    · rw [e1, e0, List.foldl_append, List.foldl_append]
      show nstep (pre.foldl nstep acc0) (l.1, s.2.1, s.2.2) = nstep (nstep (pre.foldl nstep acc0) l) s
      rw [nstep_join _ _ _ c1 c2]
    · rw [e1, List.foldl_append]
      rfl
theorem norm_app (a b : List St3) : normM (a ++ b) = b.foldl nstep (normM a) := by
  unfold normM
  rw [List.foldl_append]
theorem norm_norm (b : List St3) : normM (normM b) = normM b := fold_norm [] b
theorem norm_left (a b : List St3) : normM (normM a ++ b) = normM (a ++ b) := by
  rw [norm_app, norm_app, norm_norm]
theorem norm_right (a b : List St3) : normM (a ++ normM b) = normM (a ++ b) := by
  rw [norm_app, norm_app, fold_norm]
theorem norm_congr {a a' b b' : List St3} (h1 : normM a = normM a') (h2 : normM b = normM b') : normM (a ++ b) = normM (a' ++ b') := by
  rw [← norm_left, h1, norm_left, ← norm_right, h2, norm_right]
/-! ### what is cut out of a show and of its normal one -/
def Pos3 (xs : List St3) : Prop := ∀ s ∈ xs, 0 < s.2.2
theorem lst_join {s t : St3} (h1 : s.2.1 = t.1) (h2 : s.2.2 = t.2.2) : lst3 (s.1, t.2.1, t.2.2) = lst3 s + lst3 t := by
  unfold lst3
  dsimp only
  rw [h2, Rat.div_def, Rat.div_def, Rat.div_def, ← Rat.add_mul, h1]
  congr 1
  grind
theorem lst_mul {s : St3} (h : 0 < s.2.2) : lst3 s * s.2.2 = s.2.1 - s.1 := by
  unfold lst3
  rw [Rat.div_mul_cancel (ne_of_pos h)]
theorem cutM_app : ∀ (xs ys : List St3) (b e : Rat), cutM (xs ++ ys) b e = cutM xs b e ++ cutM ys (b - lenS xs) (e - lenS xs)
  | [], ys, b, e => by
    show cutM ys b e = cutM ys (b - 0) (e - 0)
    rw [show b - 0 = b by grind, show e - 0 = e by grind]
  | s :: r, ys, b, e => by
    show piece s b e ++ cutM (r ++ ys) (b - lst3 s) (e - lst3 s) = (piece s b e ++ cutM r (b - lst3 s) (e - lst3 s)) ++ cutM ys (b - (lst3 s + lenS r)) (e - (lst3 s + lenS r))
    rw [cutM_app r ys, List.append_assoc, show b - lst3 s - lenS r = b - (lst3 s + lenS r) by grind, show e - lst3 s - lenS r = e - (lst3 s + lenS r) by grind]
theorem cutM_one (s : St3) (b e : Rat) : cutM [s] b e = piece s b e := by
  show piece s b e ++ [] = _
  rw [List.append_nil]
/-- the first and the last time of a piece -/
def pf (b : Rat) : Rat := if 0 < b then b else 0
def pg (l e : Rat) : Rat := if e < l then e else l
theorem piece_pf (s : St3) (b e : Rat) : piece s b e = if pf b < pg (lst3 s) e then [(s.1 + pf b * s.2.2, s.1 + pg (lst3 s) e * s.2.2, s.2.2)] else [] := rfl
theorem norm_two (x y : St3) (h1 : x.2.1 = y.1) (h2 : x.2.2 = y.2.2) : normM [x, y] = normM [(x.1, y.2.1, y.2.2)] := by
  show nstep (nstep [] x) y = nstep [] _
  exact nstep_join [] x y h1 h2
theorem pg_shift (u v e : Rat) : pg (u + v) e = u + pg v (e - u) := by
  unfold pg
  grind
theorem pf0 (b : Rat) : 0 ≤ pf b := by
  unfold pf
  grind
theorem pfb (b : Rat) : b ≤ pf b := by
  unfold pf
  grind
theorem pf_neg {b : Rat} (h : b ≤ 0) : pf b = 0 := by
  unfold pf
  grind
theorem pf_pos {b : Rat} (h : 0 ≤ b) : pf b = b := by
  unfold pf
  grind
theorem pge (l e : Rat) : pg l e ≤ e := by
  unfold pg
  grind
theorem pgl (l e : Rat) : pg l e ≤ l := by
  unfold pg
  grind
theorem pg_l {l e : Rat} (h : l ≤ e) : pg l e = l := by
  unfold pg
  grind
theorem pg_e {l e : Rat} (h : e ≤ l) : pg l e = e := by
  unfold pg
  grind
theorem pfg1 {u v b e : Rat} (c1 : pf b < pg u e) (c2 : pf (b - u) < pg v (e - u)) : pf (b - u) = 0 ∧ pg u e = u := by
  have h1 := pf0 (b - u)
  have h2 := pge v (e - u)
  have h3 := pgl u e
  have h4 := pfb b
  have h5 : u ≤ e := by grind
  have h6 : b - u ≤ 0 := by grind
  exact ⟨pf_neg h6, pg_l h5⟩
theorem pfg2 {u v b e : Rat} (l1 : 0 ≤ u) (l2 : 0 ≤ v) (c1 : pf b < pg u e) (c2 : ¬ pf (b - u) < pg v (e - u)) : pg (u + v) e = pg u e := by
  by_cases h : e ≤ u
  · rw [pg_e h, pg_e (by grind)]
  · have h3 := pgl u e
    have h4 := pfb b
    have h5 : pf (b - u) = 0 := pf_neg (by grind)
    rw [pg_l (show u ≤ e by grind), pg_shift]
    rw [h5] at c2
    by_cases h6 : e - u ≤ v
    · rw [pg_e h6] at c2
      grind
    · rw [pg_l (show v ≤ e - u by grind)] at c2 ⊢
      grind
theorem pfg3 {u v b e : Rat} (l1 : 0 ≤ u) (c1 : ¬ pf b < pg u e) (c2 : pf (b - u) < pg v (e - u)) : pf (b - u) = pf b - u := by
  have h1 := pf0 (b - u)
  have h2 := pge v (e - u)
  have h5 : pg u e = u := pg_l (by grind)
  rw [h5] at c1
  by_cases h6 : b ≤ 0
  · have h7 := pf_neg h6
    rw [h7] at c1 ⊢
    rw [pf_neg (show b - u ≤ 0 by grind)]
    grind
  · have h7 := pf_pos (show 0 ≤ b by grind)
    rw [h7] at c1 ⊢
    rw [pf_pos (show 0 ≤ b - u by grind)]
theorem pfg4 {u v b e : Rat} (l1 : 0 ≤ u) (l2 : 0 ≤ v) (c1 : ¬ pf b < pg u e) (c2 : ¬ pf (b - u) < pg v (e - u)) : ¬ pf b < pg (u + v) e := by
  by_cases h : e ≤ u
  · rw [pg_e h] at c1
    rw [pg_e (by grind)]
    exact c1
  · rw [pg_l (show u ≤ e by grind)] at c1
    rw [pg_shift]
    by_cases h6 : b - u ≤ 0
    · rw [pf_neg h6] at c2
      grind
    · rw [pf_pos (show 0 ≤ b - u by grind)] at c2
      rw [pf_pos (show 0 ≤ b by grind)] at c1 ⊢
      grind
theorem piece_join {s t : St3} (h1 : s.2.1 = t.1) (h2 : s.2.2 = t.2.2) (hp : 0 < s.2.2) (l1 : 0 ≤ lst3 s) (l2 : 0 ≤ lst3 t) (b e : Rat) :
    normM (piece s b e ++ piece t (b - lst3 s) (e - lst3 s)) = normM (piece (s.1, t.2.1, t.2.2) b e) := by
  have m1 := lst_mul hp
  have hm : s.2.1 = s.1 + lst3 s * s.2.2 := by grind
  rw [piece_pf, piece_pf, piece_pf, lst_join h1 h2]
  dsimp only
  rw [← h2, ← h1, hm]
  clear hm m1 h1 h2 hp
  generalize lst3 s = u at *
  generalize lst3 t = v at *
  generalize s.2.2 = p at *
  generalize s.1 = a at *
  by_cases c1 : pf b < pg u e
  · by_cases c2 : pf (b - u) < pg v (e - u)
    · obtain ⟨e1, e2⟩ := pfg1 c1 c2
      have e3 := pg_shift u v e
      have c3 : pf b < pg (u + v) e := by
        rw [e3]
        rw [e2] at c1
        rw [e1] at c2
        grind
      rw [if_pos c1, if_pos c2, if_pos c3, e1, e2, e3]
      generalize pg v (e - u) = w
      generalize pf b = z
      refine (norm_two (a + z * p, a + u * p, p) (a + u * p + 0 * p, a + u * p + w * p, p) ?_ rfl).trans ?_
      · show a + u * p = a + u * p + 0 * p
        grind
      · show normM [(a + z * p, a + u * p + w * p, p)] = _
        rw [show a + u * p + w * p = a + (u + w) * p by grind]
    · rw [if_pos c1, if_neg c2, pfg2 l1 l2 c1 c2, if_pos c1]
      rfl
  · by_cases c2 : pf (b - u) < pg v (e - u)
    · have e1 := pfg3 l1 c1 c2
      have e3 := pg_shift u v e
      have c3 : pf b < pg (u + v) e := by
        rw [e3]
        rw [e1] at c2
        generalize pg v (e - u) = w at *
        generalize pf b = z at *
        clear c1 e1 e3
        grind
      rw [if_neg c1, if_pos c2, if_pos c3, e1, e3]
      generalize pg v (e - u) = w
      generalize pf b = z
      rw [show a + u * p + (z - u) * p = a + z * p by grind, show a + u * p + w * p = a + (u + w) * p by grind]
      rfl
    · rw [if_neg c1, if_neg c2, if_neg (pfg4 l1 l2 c1 c2)]
      rfl
structure Gd3 (s : St3) : Prop where
  p : 0 < s.2.2
  l : 0 ≤ lst3 s
theorem nstep_all {P : St3 → Prop} (hj : ∀ s t : St3, s.2.1 = t.1 → s.2.2 = t.2.2 → P s → P t → P (s.1, t.2.1, t.2.2)) {acc : List St3} {s : St3} (h : ∀ x ∈ acc, P x) (hs : P s) : ∀ x ∈ nstep acc s, P x := by
  intro x hx
  rcases nstep_cases acc s with ⟨e0, e1⟩ | ⟨pre, l, e0, (⟨c1, c2, e1⟩ | ⟨c, e1⟩)⟩
  · rw [e1] at hx
    have : x = s := List.mem_singleton.mp hx
    rw [this]
    exact hs
  · rw [e1] at hx
    rcases List.mem_append.mp hx with h1 | h1
    · exact h x (by rw [e0]; exact List.mem_append_left _ h1)
    · rw [List.mem_singleton.mp h1]
      exact hj l s c1 c2 (h l (by rw [e0]; exact List.mem_append_right _ (List.mem_singleton.mpr rfl))) hs
  · rw [e1] at hx
    rcases List.mem_append.mp hx with h1 | h1
    · exact h x h1
    · have : x = s := List.mem_singleton.mp h1
      rw [this]
      exact hs
theorem norm_snoc (b : List St3) (s : St3) : normM (b ++ [s]) = nstep (normM b) s := by
  unfold normM
  rw [List.foldl_append]
  rfl
theorem norm_all {P : St3 → Prop} (hj : ∀ s t : St3, s.2.1 = t.1 → s.2.2 = t.2.2 → P s → P t → P (s.1, t.2.1, t.2.2)) (xs : List St3) : (∀ x ∈ xs, P x) → ∀ x ∈ normM xs, P x := by
  refine snoc_ind (P := fun xs => (∀ x ∈ xs, P x) → ∀ x ∈ normM xs, P x) (fun h => h) (fun b s ih h => ?_) xs
  rw [norm_snoc]
  exact nstep_all hj (ih fun x hx => h x (List.mem_append_left _ hx)) (h s (List.mem_append_right _ (List.mem_singleton.mpr rfl)))
theorem gd_join (s t : St3) (h1 : s.2.1 = t.1) (h2 : s.2.2 = t.2.2) (a : Gd3 s) (b : Gd3 t) : Gd3 (s.1, t.2.1, t.2.2) := ⟨b.p, by rw [lst_join h1 h2]; have := a.l; have := b.l; grind⟩
theorem lenS_one (s : St3) : lenS [s] = lst3 s := by
  show lst3 s + 0 = _
  rw [Rat.add_zero]
theorem lenS_norm (xs : List St3) : lenS (normM xs) = lenS xs := by
  refine snoc_ind (P := fun xs => lenS (normM xs) = lenS xs) rfl (fun b s ih => ?_) xs
  rw [norm_snoc, lenS_app, ← ih]
  rcases nstep_cases (normM b) s with ⟨e0, e1⟩ | ⟨pre, l, e0, (⟨c1, c2, e1⟩ | ⟨c, e1⟩)⟩
  · rw [e1, e0]
    show lenS [(s.1, s.2.1, s.2.2)] = 0 + lenS [s]
    rw [Rat.zero_add]
  · rw [e1, e0, lenS_app, lenS_app, lenS_one, lenS_one, lenS_one, lst_join c1 c2]
    grind
  · rw [e1, lenS_app]
theorem cut_norm (xs : List St3) (b e : Rat) : (∀ s ∈ xs, Gd3 s) → normM (cutM (normM xs) b e) = normM (cutM xs b e) := by
  refine snoc_ind (P := fun xs => (∀ s ∈ xs, Gd3 s) → normM (cutM (normM xs) b e) = normM (cutM xs b e)) (fun _ => rfl) (fun ys s ih h => ?_) xs
  have hy : ∀ s ∈ ys, Gd3 s := fun x hx => h x (List.mem_append_left _ hx)
  have hs : Gd3 s := h s (List.mem_append_right _ (List.mem_singleton.mpr rfl))
  have ih := ih hy
  have gn := norm_all gd_join ys hy
  rw [norm_snoc, cutM_app, cutM_one, ← norm_left, ← ih, norm_left, ← lenS_norm ys]
  rcases nstep_cases (normM ys) s with ⟨e0, e1⟩ | ⟨pre, l, e0, (⟨c1, c2, e1⟩ | ⟨c, e1⟩)⟩
  · rw [e1, e0]
    show normM (piece (s.1, s.2.1, s.2.2) b e ++ []) = normM ([] ++ piece s (b - 0) (e - 0))
    rw [List.append_nil, List.nil_append, show b - 0 = b by grind, show e - 0 = e by grind]
  · rw [e1, e0]
    have hl : Gd3 l := gn l (by rw [e0]; exact List.mem_append_right _ (List.mem_singleton.mpr rfl))
    rw [cutM_app, cutM_app, cutM_one, cutM_one, lenS_app, lenS_one, List.append_assoc]
    refine norm_congr rfl ?_
    rw [show b - (lenS pre + lst3 l) = b - lenS pre - lst3 l by grind, show e - (lenS pre + lst3 l) = e - lenS pre - lst3 l by grind]
    exact (piece_join c1 c2 hl.p hl.l hs.l _ _).symm
  · rw [e1, cutM_app, cutM_one]
/-! ### the deeds -/
theorem fill_norm (xs st : List St3) (b e : Rat) (h : ∀ s ∈ xs, Gd3 s) :
    normM (normM (cutM (normM xs) 0 b) ++ st ++ normM (cutM (normM xs) e (lenS (normM xs)))) = normM (cutM xs 0 b ++ st ++ cutM xs e (lenS xs)) := by
  refine norm_congr (norm_congr ?_ rfl) ?_
  · rw [norm_norm, cut_norm xs 0 b h]
  · rw [norm_norm, cut_norm xs e _ h, lenS_norm]
def fastM (f : Rat) (zs : List St3) : List St3 := zs.map fun s => (s.1, s.2.1, s.2.2 * f)
theorem fast_norm {f : Rat} (hf : 0 < f) (zs : List St3) : fastM f (normM zs) = normM (fastM f zs) := by
  refine snoc_ind (P := fun zs => fastM f (normM zs) = normM (fastM f zs)) rfl (fun b s ih => ?_) zs
  have e : fastM f (b ++ [s]) = fastM f b ++ [(s.1, s.2.1, s.2.2 * f)] := by
    unfold fastM
    rw [List.map_append]
    rfl
  have hi : ∀ p q : Rat, p * f = q * f ↔ p = q := fun p q => ⟨fun h => by
    have h1 : (p - q) * f = 0 := by grind
    rcases Rat.mul_eq_zero.mp h1 with h2 | h2
    · grind
    · exact absurd h2 (ne_of_pos hf), fun h => by rw [h]⟩
  rw [norm_snoc, e, norm_snoc, ← ih]
  generalize normM b = acc
  have em : ∀ (pre : List St3) (l : St3), fastM f (pre ++ [l]) = fastM f pre ++ [(l.1, l.2.1, l.2.2 * f)] := fun pre l => by
    unfold fastM
    rw [List.map_append]
    rfl
  rcases nstep_cases acc s with ⟨e0, e1⟩ | ⟨pre, l, e0, (⟨c1, c2, e1⟩ | ⟨c, e1⟩)⟩
  · rw [e1, e0]
    rfl
  · rw [e1, e0, em, em]
    unfold nstep
    rw [List.getLast?_append, List.getLast?_singleton]
    dsimp only [Option.some_or]
    rw [if_pos ⟨c1, (hi _ _).mpr c2⟩, List.dropLast_concat]
  · rw [e1, em, e0, em]
    unfold nstep
    rw [List.getLast?_append, List.getLast?_singleton]
    dsimp only [Option.some_or]
    rw [if_neg (fun z => c ⟨z.1, (hi _ _).mp z.2⟩)]
end R
namespace R
/-! ### what lies between two times, in two parts -/
theorem piece_neg {s : St3} {b b' e : Rat} (h : b ≤ 0) (h' : b' ≤ 0) : piece s b e = piece s b' e := by
  rw [piece_pf, piece_pf, pf_neg h, pf_neg h']
theorem cut_neg : ∀ (xs : List St3) (b b' e : Rat), (∀ s ∈ xs, Gd3 s) → b ≤ 0 → b' ≤ 0 → cutM xs b e = cutM xs b' e
  | [], _, _, _, _, _, _ => rfl
  | s :: r, b, b', e, h, hb, hb' => by
    have hl := (h s List.mem_cons_self).l
    show piece s b e ++ cutM r (b - lst3 s) (e - lst3 s) = piece s b' e ++ cutM r (b' - lst3 s) (e - lst3 s)
    rw [piece_neg hb hb', cut_neg r (b - lst3 s) (b' - lst3 s) (e - lst3 s) (fun z hz => h z (List.mem_cons_of_mem _ hz)) (by grind) (by grind)]
theorem piece_none {s : St3} {b e : Rat} (h : e ≤ 0) : piece s b e = [] := by
  rw [piece_pf]
  have h1 := pf0 b
  have h2 := pge (lst3 s) e
  rw [if_neg (by grind)]
theorem piece_late {s : St3} {b e : Rat} (h : lst3 s ≤ b) : piece s b e = [] := by
  rw [piece_pf]
  have h1 := pfb b
  have h2 := pgl (lst3 s) e
  rw [if_neg (by grind)]
theorem cut_none' : ∀ (xs : List St3) (lo b : Rat), (∀ s ∈ xs, Gd3 s) → b ≤ 0 → cutM xs lo b = []
  | [], _, _, _, _ => rfl
  | s :: r, lo, b, h, hb => by
    have hs := (h s List.mem_cons_self).l
    show piece s lo b ++ cutM r (lo - lst3 s) (b - lst3 s) = []
    rw [piece_none hb, cut_none' r _ _ (fun z hz => h z (List.mem_cons_of_mem _ hz)) (by grind)]
    rfl
theorem piece_two {s : St3} {b m e : Rat} (h1 : b ≤ m) (h2 : m ≤ e) (hl : m ≤ lst3 s) : normM (piece s b m ++ piece s m e) = normM (piece s b e) := by
  by_cases c0 : m ≤ 0
  · rw [piece_none c0, piece_neg (b' := b) c0 (by grind)]
    rfl
  · have em : pf m = m := pf_pos (by grind)
    have gm : pg (lst3 s) m = m := pg_e hl
    have hb : pf b ≤ m := by
      unfold pf
      split <;> grind
    have ge : m ≤ pg (lst3 s) e := by
      unfold pg
      split <;> grind
    rw [piece_pf, piece_pf, piece_pf, em, gm]
    generalize pg (lst3 s) e = g at *
    generalize pf b = f at *
    by_cases c1 : f < m
    · by_cases c2 : m < g
      · rw [if_pos c1, if_pos c2, if_pos (by grind)]
        exact norm_two _ _ rfl rfl
      · have e1 : g = m := by grind
        rw [if_pos c1, if_neg c2, e1, if_pos c1]
        rfl
    · have e1 : f = m := by grind
      rw [if_neg c1, e1]
      rfl
theorem cut_two : ∀ (xs : List St3) (b m e : Rat), (∀ s ∈ xs, Gd3 s) → b ≤ m → m ≤ e → normM (cutM xs b m ++ cutM xs m e) = normM (cutM xs b e)
  | [], _, _, _, _, _, _ => rfl
  | s :: r, b, m, e, h, h1, h2 => by
    have hr : ∀ z ∈ r, Gd3 z := fun z hz => h z (List.mem_cons_of_mem _ hz)
    have hl := (h s List.mem_cons_self).l
    show normM (piece s b m ++ cutM r (b - lst3 s) (m - lst3 s) ++ (piece s m e ++ cutM r (m - lst3 s) (e - lst3 s))) = normM (piece s b e ++ cutM r (b - lst3 s) (e - lst3 s))
    by_cases c : m ≤ lst3 s
    · rw [cut_none' r (b - lst3 s) (m - lst3 s) hr (by grind), List.append_nil, ← List.append_assoc, cut_neg r (m - lst3 s) (b - lst3 s) (e - lst3 s) hr (by grind) (by grind)]
      exact norm_congr (piece_two h1 h2 c) rfl
    · rw [piece_late (b := m) (by grind), List.nil_append, List.append_assoc]
      have e1 : piece s b m = piece s b e := by
        rw [piece_pf, piece_pf, pg_l (show lst3 s ≤ m by grind), pg_l (show lst3 s ≤ e by grind)]
      rw [e1]
      exact norm_congr rfl (cut_two r _ _ _ hr (by grind) (by grind))
/-! the deeds, on the reel's show and on another one that shows the same -/
theorem deed_out (xs : List St3) (b e : Rat) (h : ∀ s ∈ xs, Gd3 s) : normM (normM (cutM (normM xs) 0 b) ++ [] ++ normM (cutM (normM xs) e (lenS (normM xs)))) = normM (cutM xs 0 b ++ cutM xs e (lenS xs)) := by
  rw [fill_norm xs [] b e h, List.append_nil]
theorem deed_into (xs st : List St3) (b e : Rat) (h : ∀ s ∈ xs, Gd3 s) (h1 : b ≤ e) (h2 : e ≤ lenS xs) : normM (normM (cutM (normM xs) 0 b) ++ st ++ normM (cutM (normM xs) b (lenS (normM xs)))) = normM (cutM xs 0 b ++ st ++ cutM xs b e ++ cutM xs e (lenS xs)) := by
  rw [fill_norm xs st b b h, List.append_assoc (cutM xs 0 b ++ st)]
  exact norm_congr rfl (cut_two xs b e (lenS xs) h h1 h2).symm
theorem deed_fast {f : Rat} (hf : 0 < f) (xs : List St3) (b e : Rat) (h : ∀ s ∈ xs, Gd3 s) : normM (normM (cutM (normM xs) 0 b) ++ fastM f (normM (cutM (normM xs) b e)) ++ normM (cutM (normM xs) e (lenS (normM xs)))) = normM (cutM xs 0 b ++ fastM f (cutM xs b e) ++ cutM xs e (lenS xs)) := by
  rw [fill_norm xs _ b e h, cut_norm xs b e h, fast_norm hf]
  refine norm_congr (norm_congr rfl (norm_norm _)) rfl
end R
namespace R
def L30 : Nat := 2329089562800
theorem l30_dvd : ∀ c : Nat, c < 31 → 0 < c → c ∣ L30 := by decide
theorem t2520_dvd : ∀ c : Nat, c < 10 → 0 < c → c ∣ 2520 := by decide
/-! ### paces as they are drawn -/
structure Pc (p : Rat) : Prop where
  pos : 0 < p
  n9 : p.num.natAbs ≤ 9
  d9 : p.den ≤ 9
theorem num_pos' {p : Rat} (h : 0 < p) : 0 < p.num := by
  have h1 := (Rat.lt_iff 0 p).mp h
  have e1 : (0 : Rat).num = 0 := rfl
  have e2 : (0 : Rat).den = 1 := rfl
  rw [e1, e2, Int.zero_mul] at h1
  omega
theorem mul_den (p : Rat) : p * (p.den : Rat) = (p.num : Rat) := by
  have h := Rat.num_divInt_den p
  rw [Rat.divInt_eq_div, Rat.intCast_natCast] at h
  have hd : (p.den : Rat) ≠ 0 := fun z => p.den_nz (Rat.natCast_inj.mp (show (p.den : Rat) = ((0 : Nat) : Rat) from z))
  have hc := Rat.inv_mul_cancel _ hd
  rw [Rat.div_def] at h
  generalize (p.den : Rat) = d at *
  generalize (p.num : Rat) = n at *
  rw [← h]
  grind
theorem iz_den (p : Rat) : Iz p.den p := ⟨p.num, mul_den p⟩
theorem iz_num {p : Rat} (h : 0 < p) : Iz p.num.natAbs p⁻¹ := by
  have h1 := num_pos' h
  refine ⟨(p.den : Int), ?_⟩
  have e : ((p.num.natAbs : Nat) : Rat) = (p.num : Rat) := by
    rw [← Rat.intCast_natCast]
    congr 1
    omega
  rw [e, ← mul_den p, Rat.intCast_natCast]
  have h2 := Rat.inv_mul_cancel p (ne_of_pos h)
  grind
theorem Pc.iz {p : Rat} (h : Pc p) : Iz 2520 p := (iz_den p).dvd (t2520_dvd _ (by have := h.d9; omega) p.den_pos)
theorem Pc.iv {p : Rat} (h : Pc p) : Iz 2520 p⁻¹ := (iz_num h.pos).dvd (t2520_dvd _ (by have := h.n9; omega) (by have := num_pos' h.pos; omega))
def gm (p : Rat) : Nat := p.num.natAbs * p.den
theorem Pc.gm_le {p : Rat} (h : Pc p) : gm p ≤ 81 := Nat.mul_le_mul h.n9 h.d9
theorem Pc.gm_pos {p : Rat} (h : Pc p) : 0 < gm p := Nat.mul_pos (by have := num_pos' h.pos; omega) p.den_pos
theorem Pc.izg {p : Rat} (h : Pc p) : Iz (gm p) p := (iz_den p).dvd (Nat.dvd_mul_left _ _)
theorem Pc.ivg {p : Rat} (h : Pc p) : Iz (gm p) p⁻¹ := (iz_num h.pos).dvd (Nat.dvd_mul_right _ _)
theorem den_pos_q (p : Rat) : (1 : Rat) ≤ (p.den : Rat) := by
  have : ((1 : Nat) : Rat) ≤ (p.den : Rat) := Rat.natCast_le_natCast.mpr p.den_pos
  exact this
theorem Pc.hi {p : Rat} (h : Pc p) : p ≤ 9 := by
  have h1 : (p.num : Rat) ≤ ((9 : Int) : Rat) := Rat.intCast_le_intCast.mpr (by have := h.n9; omega)
  rw [← mul_den p] at h1
  have h2 := den_pos_q p
  have h3 : p * 1 ≤ p * (p.den : Rat) := Rat.mul_le_mul_of_nonneg_left h2 (by have := h.pos; grind)
  have h4 : ((9 : Int) : Rat) = 9 := rfl
  grind
theorem Pc.lo {p : Rat} (h : Pc p) : p⁻¹ ≤ 9 := by
  have n1 : ((1 : Int) : Rat) ≤ (p.num : Rat) := Rat.intCast_le_intCast.mpr (by have := num_pos' h.pos; omega)
  have h1 : (p.den : Rat) ≤ ((9 : Nat) : Rat) := Rat.natCast_le_natCast.mpr h.d9
  have h2 := mul_den p
  have hi := Rat.inv_pos.mpr h.pos
  have hc := Rat.inv_mul_cancel p (ne_of_pos h.pos)
  have e : p⁻¹ * (p.num : Rat) = (p.den : Rat) := by
    rw [← h2]
    grind
  have h5 : p⁻¹ * 1 ≤ p⁻¹ * (p.num : Rat) := Rat.mul_le_mul_of_nonneg_left n1 (by grind)
  have h4 : ((9 : Nat) : Rat) = 9 := rfl
  grind
/-! ### products of some of the factors -/
inductive Fx : List Rat → Rat → Prop
  | nil : Fx [] 1
  | skip {f : Rat} {fs : List Rat} {x : Rat} : Fx fs x → Fx (f :: fs) x
  | take {f : Rat} {fs : List Rat} {x : Rat} : Fx fs x → Fx (f :: fs) (x * f)
def Gam : List Rat → Nat
  | [] => 1
  | f :: fs => Gam fs * gm f
theorem fx_one : ∀ fs : List Rat, Fx fs 1
  | [] => .nil
  | _ :: fs => .skip (fx_one fs)
theorem Gam_pos : ∀ fs : List Rat, (∀ f ∈ fs, Pc f) → 0 < Gam fs
  | [], _ => Nat.one_pos
  | f :: fs, h => Nat.mul_pos (Gam_pos fs fun g hg => h g (List.mem_cons_of_mem _ hg)) (h f List.mem_cons_self).gm_pos
theorem Gam_le : ∀ fs : List Rat, (∀ f ∈ fs, Pc f) → Gam fs ≤ 81 ^ fs.length
  | [], _ => Nat.le_refl _
  | f :: fs, h => by
    show Gam fs * gm f ≤ 81 ^ (fs.length + 1)
    rw [Nat.pow_succ]
    exact Nat.mul_le_mul (Gam_le fs fun g hg => h g (List.mem_cons_of_mem _ hg)) (h f List.mem_cons_self).gm_le
theorem fx_pos : ∀ {fs : List Rat} {x : Rat}, (∀ f ∈ fs, Pc f) → Fx fs x → 0 < x
  | [], _, _, .nil => by decide
  | f :: fs, _, h, .skip g => fx_pos (fun a ha => h a (List.mem_cons_of_mem _ ha)) g
  | f :: fs, _, h, .take g => Rat.mul_pos (fx_pos (fun a ha => h a (List.mem_cons_of_mem _ ha)) g) (h f List.mem_cons_self).pos
theorem inv_mul2 {x y : Rat} (hx : 0 < x) (hy : 0 < y) : (x * y)⁻¹ = x⁻¹ * y⁻¹ := by
  have h1 := Rat.inv_mul_cancel x (ne_of_pos hx)
  have h2 := Rat.inv_mul_cancel y (ne_of_pos hy)
  have h3 := Rat.inv_mul_cancel (x * y) (ne_of_pos (Rat.mul_pos hx hy))
  have : (x * y)⁻¹ * ((x * y) * (x⁻¹ * y⁻¹)) = x⁻¹ * y⁻¹ := by grind
  have h4 : (x * y) * (x⁻¹ * y⁻¹) = 1 := by grind
  rw [h4] at this
  grind
theorem fx_ratio : ∀ {fs : List Rat} {x y : Rat}, (∀ f ∈ fs, Pc f) → Fx fs x → Fx fs y → Iz (Gam fs) (x * y⁻¹)
  | [], _, _, _, .nil, .nil => ⟨1, by show (1 : Rat) * 1⁻¹ * ((1 : Nat) : Rat) = ((1 : Int) : Rat); grind⟩
  | f :: fs, _, _, h, .skip a, .skip b => (fx_ratio (fun c hc => h c (List.mem_cons_of_mem _ hc)) a b).up _
  | f :: fs, _, _, h, @Fx.take _ _ x a, .skip b => by
    have ih := fx_ratio (fun c hc => h c (List.mem_cons_of_mem _ hc)) a b
    have := ih.mul (h f List.mem_cons_self).izg
    rename_i y
    rw [show x * f * y⁻¹ = x * y⁻¹ * f by grind]
    exact this
  | f :: fs, _, _, h, @Fx.skip _ _ x a, @Fx.take _ _ y b => by
    have h' : ∀ c ∈ fs, Pc c := fun c hc => h c (List.mem_cons_of_mem _ hc)
    have ih := fx_ratio h' a b
    have := ih.mul (h f List.mem_cons_self).ivg
    rw [inv_mul2 (fx_pos h' b) (h f List.mem_cons_self).pos, show x * (y⁻¹ * f⁻¹) = x * y⁻¹ * f⁻¹ by grind]
    exact this
  | f :: fs, _, _, h, @Fx.take _ _ x a, @Fx.take _ _ y b => by
    have h' : ∀ c ∈ fs, Pc c := fun c hc => h c (List.mem_cons_of_mem _ hc)
    have ih := fx_ratio h' a b
    have hf := (h f List.mem_cons_self).pos
    have h2 := Rat.inv_mul_cancel f (ne_of_pos hf)
    rw [inv_mul2 (fx_pos h' b) hf, show x * f * (y⁻¹ * f⁻¹) = x * y⁻¹ by grind]
    exact ih.up _
def p9 : Nat → Rat
  | 0 => 1
  | n + 1 => p9 n * 9
theorem p9_pos : ∀ n, 0 < p9 n
  | 0 => by decide
  | n + 1 => Rat.mul_pos (p9_pos n) (by decide)
theorem mul_le2 {a b c d : Rat} (ha : 0 ≤ a) (hc : 0 ≤ c) (h1 : a ≤ b) (h2 : c ≤ d) : a * c ≤ b * d := by
  have e1 := Rat.mul_le_mul_of_nonneg_right h1 hc
  have e2 := Rat.mul_le_mul_of_nonneg_left h2 (show 0 ≤ b by grind)
  grind
theorem fx_le : ∀ {fs : List Rat} {x : Rat}, (∀ f ∈ fs, Pc f) → Fx fs x → x ≤ p9 fs.length ∧ x⁻¹ ≤ p9 fs.length
  | [], _, _, .nil => ⟨by decide, by show (1 : Rat)⁻¹ ≤ 1; grind⟩
  | f :: fs, _, h, .skip g => by
    have h' : ∀ c ∈ fs, Pc c := fun c hc => h c (List.mem_cons_of_mem _ hc)
    obtain ⟨h1, h2⟩ := fx_le h' g
    have := p9_pos fs.length
    show _ ≤ p9 fs.length * 9 ∧ _ ≤ p9 fs.length * 9
    grind
  | f :: fs, _, h, @Fx.take _ _ x g => by
    have h' : ∀ c ∈ fs, Pc c := fun c hc => h c (List.mem_cons_of_mem _ hc)
    obtain ⟨h1, h2⟩ := fx_le h' g
    have hf := h f List.mem_cons_self
    have hx := fx_pos h' g
    have hi := Rat.inv_pos.mpr hf.pos
    have hj := Rat.inv_pos.mpr hx
    have l1 := hf.hi
    have l2 := hf.lo
    have l3 := hf.pos
    show _ ≤ p9 fs.length * 9 ∧ _ ≤ p9 fs.length * 9
    rw [inv_mul2 hx hf.pos]
    exact ⟨mul_le2 (by grind) (by grind) h1 l1, mul_le2 (by grind) (by grind) h2 l2⟩
end R
namespace R
/-! ### stretches: what they become whole by, their paces -/
structure Fs (D : Nat) (fs : List Rat) (s : St3) : Prop where
  b0 : 0 ≤ s.1
  lt : s.1 < s.2.1
  hi : s.2.1 ≤ 300
  zb : Iz D s.1
  ze : Iz D s.2.1
  pc : ∃ p x, s.2.2 = p * x ∧ Pc p ∧ Fx fs x
section
variable {D : Nat} {fs : List Rat}
theorem fs_join (s t : St3) (h1 : s.2.1 = t.1) (h2 : s.2.2 = t.2.2) (a : Fs D fs s) (b : Fs D fs t) : Fs D fs (s.1, t.2.1, t.2.2) :=
  ⟨a.b0, by have := a.lt; have := b.lt; show s.1 < t.2.1; grind, b.hi, a.zb, b.ze, b.pc⟩
theorem Fs.pos {s : St3} (hf : ∀ f ∈ fs, Pc f) (a : Fs D fs s) : 0 < s.2.2 := by
  obtain ⟨p, x, e, h1, h2⟩ := a.pc
  rw [e]
  exact Rat.mul_pos h1.pos (fx_pos hf h2)
theorem Fs.inv {s : St3} (hf : ∀ f ∈ fs, Pc f) (a : Fs D fs s) : Iz (2520 * Gam fs) s.2.2⁻¹ ∧ s.2.2⁻¹ ≤ 9 * p9 fs.length ∧ Iz (2520 * Gam fs) s.2.2 ∧ s.2.2 ≤ 9 * p9 fs.length := by
  obtain ⟨p, x, e, h1, h2⟩ := a.pc
  have hx := fx_pos hf h2
  have r := fx_ratio hf (fx_one fs) h2
  rw [Rat.one_mul] at r
  have r2 := fx_ratio hf h2 (fx_one fs)
  rw [show x * (1 : Rat)⁻¹ = x by grind] at r2
  obtain ⟨l1, l2⟩ := fx_le hf h2
  have q1 := Rat.inv_pos.mpr h1.pos
  have q2 := Rat.inv_pos.mpr hx
  have q3 := h1.pos
  rw [e, inv_mul2 h1.pos hx]
  exact ⟨h1.iv.mul r, mul_le2 (by grind) (by grind) h1.lo l2, h1.iz.mul r2, mul_le2 (by grind) (by grind) h1.hi l1⟩
theorem Fs.gd {s : St3} (hf : ∀ f ∈ fs, Pc f) (a : Fs D fs s) : Gd3 s := by
  have hp := a.pos hf
  refine ⟨hp, ?_⟩
  unfold lst3
  rw [Rat.div_def]
  have h1 := a.lt
  have h2 := Rat.inv_pos.mpr hp
  have := Rat.mul_nonneg (show 0 ≤ s.2.1 - s.1 by grind) (show 0 ≤ s.2.2⁻¹ by grind)
  exact this
theorem Fs.lst {s : St3} (hf : ∀ f ∈ fs, Pc f) (a : Fs D fs s) : Iz (D * (2520 * Gam fs)) (lst3 s) ∧ 0 ≤ lst3 s ∧ lst3 s ≤ 300 * (9 * p9 fs.length) := by
  refine ⟨?_, (a.gd hf).l, ?_⟩
  · unfold lst3
    rw [Rat.div_def]
    exact (a.ze.sub a.zb).mul (a.inv hf).1
  · unfold lst3
    rw [Rat.div_def]
    have h1 := a.lt
    have h2 := Rat.inv_pos.mpr (a.pos hf)
    have h3 := a.hi
    have h4 := a.b0
    exact mul_le2 (by grind) (by grind) (by grind) (a.inv hf).2.1
def G9 (fs : List Rat) : Nat := 2520 * 2520 * Gam fs
theorem Fs.ratio {s t : St3} (hf : ∀ f ∈ fs, Pc f) (a : Fs D fs s) (b : Fs D fs t) : Iz (G9 fs) (s.2.2⁻¹ * t.2.2) := by
  obtain ⟨p, x, e, h1, h2⟩ := a.pc
  obtain ⟨q, y, e2, h3, h4⟩ := b.pc
  rw [e, e2, inv_mul2 h1.pos (fx_pos hf h2), show p⁻¹ * x⁻¹ * (q * y) = p⁻¹ * q * (y * x⁻¹) by grind]
  exact (h1.iv.mul h3.iz).mul (fx_ratio hf h4 h2)
/-- times of the show: by each pace places of the reel -/
def Tz (D E : Nat) (fs : List Rat) (t : Rat) : Prop := ∀ s, Fs D fs s → Iz E (t * s.2.2)
theorem tz_lst {s : St3} (hf : ∀ f ∈ fs, Pc f) (a : Fs D fs s) : Tz D (D * G9 fs) fs (lst3 s) := by
  intro t ht
  unfold lst3
  rw [Rat.div_def, Rat.mul_assoc]
  exact (a.ze.sub a.zb).mul (a.ratio hf ht)
theorem tz_sub {E : Nat} {x y : Rat} (hx : Tz D E fs x) (hy : Tz D E fs y) : Tz D E fs (x - y) := fun s hs => by
  rw [show (x - y) * s.2.2 = x * s.2.2 - y * s.2.2 by grind]
  exact (hx s hs).sub (hy s hs)
theorem tz_add {E : Nat} {x y : Rat} (hx : Tz D E fs x) (hy : Tz D E fs y) : Tz D E fs (x + y) := fun s hs => by
  rw [Rat.add_mul]
  exact (hx s hs).add (hy s hs)
theorem tz_zero {E : Nat} : Tz D E fs 0 := fun s _ => by
  rw [Rat.zero_mul]
  exact iz_zero _
theorem tz_len (hf : ∀ f ∈ fs, Pc f) : ∀ (xs : List St3), (∀ s ∈ xs, Fs D fs s) → Tz D (D * G9 fs) fs (lenS xs)
  | [], _ => tz_zero
  | s :: r, h => tz_add (tz_lst hf (h s List.mem_cons_self)) (tz_len hf r fun z hz => h z (List.mem_cons_of_mem _ hz))
theorem Tz.part {E : Nat} {x q : Rat} (hx : Tz D E fs x) (hq : Iz 1100 q) : Tz D (E * 1100) fs (x * q) := fun s hs => by
  rw [show x * q * s.2.2 = x * s.2.2 * q by grind]
  exact (hx s hs).mul hq
theorem Tz.up {E : Nat} {x : Rat} (hx : Tz D E fs x) (n : Nat) : Tz D (E * n) fs x := fun s hs => (hx s hs).up n
theorem pf_cases (b : Rat) : pf b = b ∨ pf b = 0 := by
  unfold pf
  split
  · exact .inl rfl
  · exact .inr rfl
theorem pg_cases (l e : Rat) : pg l e = e ∨ pg l e = l := by
  unfold pg
  split
  · exact .inl rfl
  · exact .inr rfl
theorem piece_fs {E : Nat} {s : St3} {b e : Rat} (hf : ∀ f ∈ fs, Pc f) (a : Fs D fs s) (hE : D ∣ E) (hl : Tz D E fs (lst3 s)) (hb : Tz D E fs b) (he : Tz D E fs e) : ∀ t ∈ piece s b e, Fs E fs t := by
  intro t ht
  rw [piece_pf] at ht
  have hp := a.pos hf
  split at ht
  · rename_i c
    rw [List.mem_singleton.mp ht]
    have f0 := pf0 b
    have g0 := pgl (lst3 s) e
    have m := lst_mul hp
    have h1 : 0 ≤ pf b * s.2.2 := Rat.mul_nonneg f0 (by grind)
    have h2 : pf b * s.2.2 < pg (lst3 s) e * s.2.2 := Rat.mul_lt_mul_of_pos_right c hp
    have h3 : pg (lst3 s) e * s.2.2 ≤ lst3 s * s.2.2 := Rat.mul_le_mul_of_nonneg_right g0 (by grind)
    have h4 := a.b0
    have h5 := a.hi
    have zf : Iz E (pf b * s.2.2) := by
      rcases pf_cases b with z | z
      · rw [z]
        exact hb s a
      · rw [z]
        exact tz_zero (E := E) s a
    have zg : Iz E (pg (lst3 s) e * s.2.2) := by
      rcases pg_cases (lst3 s) e with z | z
      · rw [z]
        exact he s a
      · rw [z]
        exact hl s a
    refine ⟨?_, ?_, ?_, (a.zb.dvd hE).add zf, (a.zb.dvd hE).add zg, a.pc⟩
    · show 0 ≤ s.1 + pf b * s.2.2
      grind
    · show s.1 + pf b * s.2.2 < s.1 + pg (lst3 s) e * s.2.2
      grind
    · show s.1 + pg (lst3 s) e * s.2.2 ≤ 300
      grind
  · cases ht
theorem cut_fs {E : Nat} (hf : ∀ f ∈ fs, Pc f) (hE : D * G9 fs ∣ E) : ∀ (xs : List St3) (b e : Rat), (∀ s ∈ xs, Fs D fs s) → Tz D E fs b → Tz D E fs e → ∀ t ∈ cutM xs b e, Fs E fs t
  | [], _, _, _, _, _, t, ht => by cases ht
  | s :: r, b, e, h, hb, he, t, ht => by
    have a := h s List.mem_cons_self
    have hl : Tz D E fs (lst3 s) := fun u hu => (tz_lst hf a u hu).dvd hE
    rcases List.mem_append.mp (show t ∈ piece s b e ++ cutM r (b - lst3 s) (e - lst3 s) from ht) with h1 | h1
    · exact piece_fs hf a (Nat.dvd_trans (Nat.dvd_mul_right _ _) hE) hl hb he t h1
    · exact cut_fs hf hE r _ _ (fun z hz => h z (List.mem_cons_of_mem _ hz)) (tz_sub hb hl) (tz_sub he hl) t h1
theorem Fs.dvd {E : Nat} {s : St3} (a : Fs D fs s) (h : D ∣ E) : Fs E fs s := ⟨a.b0, a.lt, a.hi, a.zb.dvd h, a.ze.dvd h, a.pc⟩
theorem Fs.more {f : Rat} {s : St3} (a : Fs D fs s) : Fs D (f :: fs) s := by
  obtain ⟨p, x, e, h1, h2⟩ := a.pc
  exact ⟨a.b0, a.lt, a.hi, a.zb, a.ze, p, x, e, h1, .skip h2⟩
theorem Fs.fast {f : Rat} {s : St3} (a : Fs D fs s) : Fs D (f :: fs) (s.1, s.2.1, s.2.2 * f) := by
  obtain ⟨p, x, e, h1, h2⟩ := a.pc
  exact ⟨a.b0, a.lt, a.hi, a.zb, a.ze, p, x * f, by show s.2.2 * f = p * (x * f); rw [e]; grind, h1, .take h2⟩
end
/-! how many pieces there are -/
theorem cut_none : ∀ (xs : List St3) (lo b : Rat), (∀ s ∈ xs, Gd3 s) → b ≤ 0 → cutM xs lo b = []
  | [], _, _, _, _ => rfl
  | s :: r, lo, b, h, hb => by
    have hs := (h s List.mem_cons_self).l
    have e : piece s lo b = [] := by
      rw [piece_pf]
      have h1 := pf0 lo
      have h2 := pge (lst3 s) b
      rw [if_neg (by grind)]
    show piece s lo b ++ cutM r (lo - lst3 s) (b - lst3 s) = []
    rw [e, cut_none r _ _ (fun z hz => h z (List.mem_cons_of_mem _ hz)) (by grind)]
    rfl
theorem piece_lt {s : St3} {b e : Rat} (h : (piece s b e).length ≠ 0) : b < lst3 s ∧ 0 < e := by
  rw [piece_pf] at h
  split at h
  · rename_i c
    have h1 := pfb b
    have h2 := pf0 b
    have h3 := pge (lst3 s) e
    have h4 := pgl (lst3 s) e
    grind
  · exact absurd rfl h
theorem cut_len1 (xs : List St3) (b e : Rat) : (cutM xs b e).length ≤ xs.length := by
  induction xs generalizing b e with
  | nil => exact Nat.le_refl _
  | cons s r ih =>
    have h1 := piece_len s b e
    have h2 := ih (b - lst3 s) (e - lst3 s)
    show (piece s b e ++ cutM r (b - lst3 s) (e - lst3 s)).length ≤ r.length + 1
    rw [List.length_append]
    omega
theorem cut_len2 : ∀ (xs : List St3) (lo b e hi : Rat), (∀ s ∈ xs, Gd3 s) → b ≤ e → (cutM xs lo b).length + (cutM xs e hi).length ≤ xs.length + 1
  | [], _, _, _, _, _, _ => by show 0 + 0 ≤ 0 + 1; omega
  | s :: r, lo, b, e, hi, h, hbe => by
    have hr : ∀ z ∈ r, Gd3 z := fun z hz => h z (List.mem_cons_of_mem _ hz)
    have ih := cut_len2 r (lo - lst3 s) (b - lst3 s) (e - lst3 s) (hi - lst3 s) hr (by grind)
    have p1 := piece_len s lo b
    have p2 := piece_len s e hi
    have c2 := cut_len1 r (e - lst3 s) (hi - lst3 s)
    show (piece s lo b ++ cutM r (lo - lst3 s) (b - lst3 s)).length + (piece s e hi ++ cutM r (e - lst3 s) (hi - lst3 s)).length ≤ r.length + 1 + 1
    rw [List.length_append, List.length_append]
    by_cases c : (piece s e hi).length = 0
    · omega
    · have := (piece_lt c).1
      rw [cut_none r (lo - lst3 s) (b - lst3 s) hr (by grind)]
      show _ + 0 + _ ≤ _
      omega
theorem cut_len3 : ∀ (xs : List St3) (lo b e hi : Rat), (∀ s ∈ xs, Gd3 s) → b ≤ e → (cutM xs lo b).length + (cutM xs b e).length + (cutM xs e hi).length ≤ xs.length + 2
  | [], _, _, _, _, _, _ => by show 0 + 0 + 0 ≤ 0 + 2; omega
  | s :: r, lo, b, e, hi, h, hbe => by
    have hr : ∀ z ∈ r, Gd3 z := fun z hz => h z (List.mem_cons_of_mem _ hz)
    have ih := cut_len3 r (lo - lst3 s) (b - lst3 s) (e - lst3 s) (hi - lst3 s) hr (by grind)
    have ih2 := cut_len2 r (b - lst3 s) (e - lst3 s) (e - lst3 s) (hi - lst3 s) hr (Rat.le_refl)
    have p1 := piece_len s lo b
    have p2 := piece_len s e hi
    have p3 := piece_len s b e
    have c2 := cut_len1 r (e - lst3 s) (hi - lst3 s)
    show (piece s lo b ++ cutM r (lo - lst3 s) (b - lst3 s)).length + (piece s b e ++ cutM r (b - lst3 s) (e - lst3 s)).length + (piece s e hi ++ cutM r (e - lst3 s) (hi - lst3 s)).length ≤ r.length + 1 + 2
    rw [List.length_append, List.length_append, List.length_append]
    by_cases c : (piece s e hi).length = 0
    · by_cases c' : (piece s b e).length = 0
      · omega
      · have := (piece_lt c').1
        rw [cut_none r (lo - lst3 s) (b - lst3 s) hr (by grind)]
        show _ + 0 + _ + _ ≤ _
        omega
    · have := (piece_lt c).1
      rw [cut_none r (lo - lst3 s) (b - lst3 s) hr (by grind), cut_none r (b - lst3 s) (e - lst3 s) hr (by grind)]
      show _ + 0 + (_ + 0) + _ ≤ _
      omega
end R
namespace R
/-! ### shows behind so many deeds -/
def gB (i : Nat) : Nat := 2520 * 2520 * 81 ^ i
def dB : Nat → Nat
  | 0 => L30
  | i + 1 => dB i * gB i * 1100
structure SdX (i D : Nat) (fs : List Rat) (xs : List St3) : Prop where
  d0 : 0 < D
  dl : L30 ∣ D
  db : D ≤ dB i
  fl : fs.length ≤ i
  pf : ∀ f ∈ fs, Pc f
  each : ∀ s ∈ xs, Fs D fs s
  len : xs.length ≤ 6 + 4 * i
def Sd (i : Nat) (xs : List St3) : Prop := ∃ D fs, SdX i D fs xs
theorem dB_pos : ∀ i, 0 < dB i
  | 0 => by decide
  | i + 1 => Nat.mul_pos (Nat.mul_pos (dB_pos i) (Nat.mul_pos (by decide) (Nat.pow_pos (by decide)))) (by decide)
theorem dB_step (i : Nat) : dB i ≤ dB (i + 1) := by
  show dB i ≤ dB i * gB i * 1100
  have h1 : 0 < gB i := Nat.mul_pos (by decide) (Nat.pow_pos (by decide))
  calc dB i = dB i * 1 * 1 := by omega
    _ ≤ dB i * gB i * 1100 := Nat.mul_le_mul (Nat.mul_le_mul (Nat.le_refl _) h1) (by decide)
theorem dB_mono {i j : Nat} (h : i ≤ j) : dB i ≤ dB j := by
  induction h with
  | refl => exact Nat.le_refl _
  | step _ ih => exact Nat.le_trans ih (dB_step _)
theorem p9_nat : ∀ n : Nat, p9 n = ((9 ^ n : Nat) : Rat)
  | 0 => rfl
  | n + 1 => by
    show p9 n * 9 = _
    rw [p9_nat n, Nat.pow_succ, Rat.natCast_mul]
    rfl
theorem len_le {D : Nat} {fs : List Rat} (hf : ∀ f ∈ fs, Pc f) : ∀ (xs : List St3), (∀ s ∈ xs, Fs D fs s) → Iz (D * (2520 * Gam fs)) (lenS xs) ∧ 0 ≤ lenS xs ∧ lenS xs ≤ ((xs.length * (300 * (9 * 9 ^ fs.length)) : Nat) : Rat)
  | [], _ => ⟨iz_zero _, Rat.le_refl, by show (0 : Rat) ≤ _; exact Rat.natCast_nonneg⟩
  | s :: r, h => by
    obtain ⟨h1, h2, h3⟩ := (h s List.mem_cons_self).lst hf
    obtain ⟨g1, g2, g3⟩ := len_le hf r fun z hz => h z (List.mem_cons_of_mem _ hz)
    refine ⟨h1.add g1, Rat.add_nonneg h2 g2, ?_⟩
    rw [p9_nat] at h3
    have e : (((s :: r).length * (300 * (9 * 9 ^ fs.length)) : Nat) : Rat) = ((r.length * (300 * (9 * 9 ^ fs.length)) : Nat) : Rat) + 300 * (9 * ((9 ^ fs.length : Nat) : Rat)) := by
      rw [List.length_cons, Nat.add_mul, Nat.one_mul, Rat.natCast_add, Rat.natCast_mul 300, Rat.natCast_mul 9]
      rfl
    rw [e]
    show lst3 s + lenS r ≤ _
    grind
theorem big1 : 76400 * (9 * 9 ^ 19) * (dB 19 * (2520 * 81 ^ 19) * 1100) < 2 ^ 2240 := by decide +kernel
theorem big {M E : Nat} (hM : M ≤ 76400 * (9 * 9 ^ 19)) (hE : E ≤ dB 19 * (2520 * 81 ^ 19) * 1100) : M * E < 2 ^ 2240 := Nat.lt_of_le_of_lt (Nat.mul_le_mul hM hE) big1
theorem big' {E : Nat} (hE : E ≤ dB 19 * (2520 * 81 ^ 19) * 1100) : E < 2 ^ 2240 := by
  have := big (M := 1) (by decide +kernel) hE
  omega
theorem szB {E M : Nat} {x : Rat} (h0 : 0 < E) (hE : E ≤ dB 19 * (2520 * 81 ^ 19) * 1100) (hz : Iz E x) (h1 : 0 ≤ x) (h2 : x ≤ (M : Rat)) (hM : M ≤ 76400 * (9 * 9 ^ 19)) : Sz 2240 x := by
  refine hz.sz h0 (M := M) ?_ h2 (big hM hE) (big' hE)
  have : (0 : Rat) ≤ (M : Rat) := Rat.natCast_nonneg
  grind
section
variable {i D : Nat} {fs : List Rat} {xs : List St3}
theorem SdX.gam (h : SdX i D fs xs) (hi : i ≤ 19) : 0 < Gam fs ∧ Gam fs ≤ 81 ^ 19 := ⟨Gam_pos fs h.pf, Nat.le_trans (Gam_le fs h.pf) (Nat.pow_le_pow_right (by decide) (Nat.le_trans h.fl hi))⟩
theorem SdX.E1 (h : SdX i D fs xs) (hi : i ≤ 19) : D * (2520 * Gam fs) * 1100 ≤ dB 19 * (2520 * 81 ^ 19) * 1100 :=
  Nat.mul_le_mul (Nat.mul_le_mul (Nat.le_trans h.db (dB_mono hi)) (Nat.mul_le_mul (Nat.le_refl _) (h.gam hi).2)) (Nat.le_refl _)
theorem SdX.E1p (h : SdX i D fs xs) (hi : i ≤ 19) : 0 < D * (2520 * Gam fs) * 1100 := Nat.mul_pos (Nat.mul_pos h.d0 (Nat.mul_pos (by decide) (h.gam hi).1)) (by decide)
theorem SdX.M1 (h : SdX i D fs xs) (hi : i ≤ 19) {n : Nat} (hn : n ≤ 82) : n * (300 * (9 * 9 ^ fs.length)) ≤ 76400 * (9 * 9 ^ 19) := by
  have h1 : 9 ^ fs.length ≤ 9 ^ 19 := Nat.pow_le_pow_right (by decide) (Nat.le_trans h.fl hi)
  calc n * (300 * (9 * 9 ^ fs.length)) ≤ 82 * (300 * (9 * 9 ^ 19)) := Nat.mul_le_mul hn (Nat.mul_le_mul (Nat.le_refl _) (Nat.mul_le_mul (Nat.le_refl _) h1))
    _ ≤ 76400 * (9 * 9 ^ 19) := by decide +kernel
theorem SdX.ok (h : SdX i D fs xs) (hi : i ≤ 19) : ShOk 2240 xs := by
  have hl : ∀ ys : List St3, (∀ s ∈ ys, s ∈ xs) → ys.length ≤ 82 → Sz 2240 (lenS ys) := by
    intro ys hy hn
    obtain ⟨h1, h2, h3⟩ := len_le h.pf ys fun s hs => h.each s (hy s hs)
    exact szB (h.E1p hi) (h.E1 hi) (h1.up 1100) h2 h3 (h.M1 hi hn)
  have hD : ∀ s ∈ xs, Iz (D * (2520 * Gam fs) * 1100) s.1 ∧ Iz (D * (2520 * Gam fs) * 1100) s.2.1 ∧ Iz (D * (2520 * Gam fs) * 1100) s.2.2 := by
    intro s hs
    have a := h.each s hs
    refine ⟨(a.zb.up _).up _, (a.ze.up _).up _, ?_⟩
    rw [Nat.mul_comm D]
    exact ((a.inv h.pf).2.2.1.up D).up _
  refine ⟨fun s hs => ?_, fun k => ?_, fun s hs => ?_⟩
  · have a := h.each s hs
    obtain ⟨z1, z2, z3⟩ := hD s hs
    have hp := a.pos h.pf
    have b1 := a.b0
    have b2 := a.lt
    have b3 := a.hi
    have m3 : ((300 : Nat) : Rat) = 300 := rfl
    refine ⟨szB (M := 300) (h.E1p hi) (h.E1 hi) z1 b1 (by grind) (by decide +kernel), szB (M := 300) (h.E1p hi) (h.E1 hi) z2 (by grind) (by grind) (by decide +kernel), szB (M := 1 * (300 * (9 * 9 ^ fs.length))) (h.E1p hi) (h.E1 hi) z3 (by grind) ?_ (h.M1 hi (by decide)), hp⟩
    have := (a.inv h.pf).2.2.2
    rw [p9_nat] at this
    rw [Nat.one_mul, Rat.natCast_mul 300, Rat.natCast_mul 9]
    have q : (0 : Rat) ≤ ((9 ^ fs.length : Nat) : Rat) := Rat.natCast_nonneg
    show s.2.2 ≤ 300 * (9 * ((9 ^ fs.length : Nat) : Rat))
    grind
  · refine hl _ (fun s hs => List.mem_of_mem_take hs) ?_
    have := h.len
    rw [List.length_take]
    omega
  · have := hl [s] (fun t ht => by rw [List.mem_singleton.mp ht]; exact hs) (by show 1 ≤ 82; decide)
    rw [lenS_one] at this
    exact this
theorem SdX.gd (h : SdX i D fs xs) : ∀ s ∈ xs, Gd3 s := fun s hs => (h.each s hs).gd h.pf
/-- a time of a show -/
def Tq (xs : List St3) (t : Rat) : Prop := ∃ q, Iz 1100 q ∧ 0 ≤ q ∧ q ≤ 1 ∧ t = lenS xs * q
theorem SdX.time (h : SdX i D fs xs) (hi : i ≤ 19) {t : Rat} (ht : Tq xs t) : Sz 2240 t ∧ 0 ≤ t ∧ t ≤ lenS xs := by
  obtain ⟨q, h1, h2, h3, rfl⟩ := ht
  obtain ⟨g1, g2, g3⟩ := len_le h.pf xs h.each
  have p1 : lenS xs * q ≤ lenS xs * 1 := Rat.mul_le_mul_of_nonneg_left h3 g2
  have p0 := Rat.mul_nonneg g2 h2
  refine ⟨szB (h.E1p hi) (h.E1 hi) (g1.mul h1) p0 ?_ (h.M1 hi (n := xs.length) (by have := h.len; omega)), p0, by grind⟩
  grind
theorem tq_zero (xs : List St3) : Tq xs 0 := ⟨0, iz_zero _, Rat.le_refl, by decide, by grind⟩
theorem tq_all (xs : List St3) : Tq xs (lenS xs) := ⟨1, iz_int 1100 1, by decide, Rat.le_refl, by grind⟩
theorem Tq.tz (h : SdX i D fs xs) {t : Rat} (ht : Tq xs t) : Tz D (D * G9 fs * 1100) fs t := by
  obtain ⟨q, h1, _, _, rfl⟩ := ht
  exact (tz_len h.pf xs h.each).part h1
theorem SdX.cut (h : SdX i D fs xs) {b e : Rat} (hb : Tq xs b) (he : Tq xs e) : ∀ s ∈ cutM xs b e, Fs (D * G9 fs * 1100) fs s :=
  cut_fs h.pf (Nat.dvd_mul_right _ _) xs b e h.each (hb.tz h) (he.tz h)
theorem SdX.next (h : SdX i D fs xs) {ys : List St3} {gs : List Rat} (hg : gs.length ≤ i + 1) (pg : ∀ f ∈ gs, Pc f) (he : ∀ s ∈ ys, Fs (D * G9 fs * 1100) gs s) (hl : ys.length ≤ xs.length + 4) : SdX (i + 1) (D * G9 fs * 1100) gs ys := by
  refine ⟨Nat.mul_pos (Nat.mul_pos h.d0 (Nat.mul_pos (by decide) (Gam_pos fs h.pf))) (by decide), Nat.dvd_trans h.dl (Nat.dvd_trans (Nat.dvd_mul_right _ _) (Nat.dvd_mul_right _ _)), ?_, hg, pg, he, by have := h.len; omega⟩
  refine Nat.mul_le_mul (Nat.mul_le_mul h.db ?_) (Nat.le_refl _)
  exact Nat.mul_le_mul (Nat.le_refl _) (Nat.le_trans (Gam_le fs h.pf) (Nat.pow_le_pow_right (by decide) h.fl))
theorem mem_app {P : St3 → Prop} {a b : List St3} (ha : ∀ s ∈ a, P s) (hb : ∀ s ∈ b, P s) : ∀ s ∈ a ++ b, P s := fun s hs => (List.mem_append.mp hs).elim (ha s) (hb s)
theorem Sd.out (h : Sd i xs) {b e : Rat} (hb : Tq xs b) (he : Tq xs e) (hbe : b ≤ e) : Sd (i + 1) (cutM xs 0 b ++ cutM xs e (lenS xs)) := by
  obtain ⟨D, fs, h⟩ := h
  refine ⟨_, fs, h.next (by have := h.fl; omega) h.pf (mem_app (h.cut (tq_zero xs) hb) (h.cut he (tq_all xs))) ?_⟩
  rw [List.length_append]
  have := cut_len2 xs 0 b e (lenS xs) h.gd hbe
  omega
theorem fs_new {E : Nat} {gs : List Rat} {s : St3} (a : Fs L30 [] s) (h : L30 ∣ E) : Fs E gs s := by
  obtain ⟨p, x, e, h1, h2⟩ := a.pc
  cases h2
  exact ⟨a.b0, a.lt, a.hi, a.zb.dvd h, a.ze.dvd h, p, 1, e, h1, fx_one gs⟩
theorem Sd.into (h : Sd i xs) {b e : Rat} (hb : Tq xs b) (he : Tq xs e) (hbe : b ≤ e) {ys : List St3} (hy : ∀ s ∈ ys, Fs L30 [] s) (ly : ys.length ≤ 2) : Sd (i + 1) (cutM xs 0 b ++ ys ++ cutM xs b e ++ cutM xs e (lenS xs)) := by
  obtain ⟨D, fs, h⟩ := h
  refine ⟨_, fs, h.next (by have := h.fl; omega) h.pf (mem_app (mem_app (mem_app (h.cut (tq_zero xs) hb) fun s hs => fs_new (hy s hs) (Nat.dvd_trans h.dl (Nat.dvd_trans (Nat.dvd_mul_right _ _) (Nat.dvd_mul_right _ _)))) (h.cut hb he)) (h.cut he (tq_all xs))) ?_⟩
  rw [List.length_append, List.length_append, List.length_append]
  have := cut_len3 xs 0 b e (lenS xs) h.gd hbe
  omega
theorem Sd.faster (h : Sd i xs) {b e f : Rat} (hb : Tq xs b) (he : Tq xs e) (hbe : b ≤ e) (hf : Pc f) : Sd (i + 1) (cutM xs 0 b ++ fastM f (cutM xs b e) ++ cutM xs e (lenS xs)) := by
  obtain ⟨D, fs, h⟩ := h
  refine ⟨_, f :: fs, h.next (by have := h.fl; show fs.length + 1 ≤ _; omega) ?_ (mem_app (mem_app (fun s hs => (h.cut (tq_zero xs) hb s hs).more) ?_) (fun s hs => (h.cut he (tq_all xs) s hs).more)) ?_⟩
  · intro g hg
    rcases List.mem_cons.mp hg with z | z
    · rw [z]
      exact hf
    · exact h.pf g z
  · intro s hs
    obtain ⟨t, ht, rfl⟩ := List.mem_map.mp hs
    exact (h.cut hb he t ht).fast
  · rw [List.length_append, List.length_append, show (fastM f (cutM xs b e)).length = (cutM xs b e).length from List.length_map ..]
    have := cut_len3 xs 0 b e (lenS xs) h.gd hbe
    omega
theorem norm_le (xs : List St3) : (normM xs).length ≤ xs.length := by
  refine snoc_ind (P := fun xs => (normM xs).length ≤ xs.length) (Nat.le_refl _) (fun b s ih => ?_) xs
  rw [norm_snoc, List.length_append]
  have := nstep_len (normM b) s
  show _ ≤ _ + 1
  omega
theorem Sd.norm (h : Sd i xs) : Sd i (normM xs) := by
  obtain ⟨D, fs, h⟩ := h
  exact ⟨D, fs, h.d0, h.dl, h.db, h.fl, h.pf, norm_all fs_join xs h.each, Nat.le_trans (norm_le xs) h.len⟩
theorem Sd.start (hy : ∀ s ∈ xs, Fs L30 [] s) (ly : xs.length ≤ 6) : Sd 0 xs := ⟨L30, [], by decide, Nat.dvd_refl _, Nat.le_refl _, Nat.le_refl _, (fun f hf => nomatch hf), hy, by omega⟩
theorem Sd.ok (h : Sd i xs) (hi : i ≤ 19) : ShOk 2240 xs := let ⟨_, _, h⟩ := h; h.ok hi
theorem Sd.gd (h : Sd i xs) : ∀ s ∈ xs, Gd3 s := let ⟨_, _, h⟩ := h; h.gd
theorem Sd.time (h : Sd i xs) (hi : i ≤ 19) {t : Rat} (ht : Tq xs t) : Sz 2240 t ∧ 0 ≤ t ∧ t ≤ lenS xs := let ⟨_, _, h⟩ := h; h.time hi ht
theorem Sd.len (h : Sd i xs) : xs.length ≤ 6 + 4 * i := let ⟨_, _, h⟩ := h; h.len
end
end R
namespace R
/-! ### what is drawn -/
structure Tm (m : Int) (x : Rat) : Prop where
  iz : Iz L30 x
  lo : 0 ≤ x
  hi : x ≤ (m : Rat)
  sz : Sz 17 x
  s6 : m ≤ 60 → Sz 6 x
  dn : x.den ≤ 30
theorem l30_int {c : Int} (h0 : 0 < c) (h1 : c ≤ 30) : c ∣ (L30 : Int) := by
  have := l30_dvd c.natAbs (by omega) (by omega)
  exact Int.natAbs_dvd_natAbs.mp this
theorem div_le {r c : Int} (h0 : 0 ≤ r) (c0 : 0 < c) : 0 ≤ Rat.divInt r c ∧ Rat.divInt r c ≤ (r : Rat) := by
  have hr : (0 : Rat) ≤ (r : Rat) := Rat.intCast_nonneg.mpr h0
  have hc : (0 : Rat) < (c : Rat) := Rat.intCast_pos.mpr c0
  have h1 : ((1 : Int) : Rat) ≤ (c : Rat) := Rat.intCast_le_intCast.mpr (by omega)
  have hi := Rat.inv_pos.mpr hc
  have hm := Rat.inv_mul_cancel _ (ne_of_pos hc)
  have e1 : ((1 : Int) : Rat) = 1 := rfl
  rw [Rat.divInt_eq_div, Rat.div_def]
  refine ⟨Rat.mul_nonneg hr (by grind), ?_⟩
  have h2 : (c : Rat)⁻¹ * 1 ≤ (c : Rat)⁻¹ * (c : Rat) := Rat.mul_le_mul_of_nonneg_left (by grind) (by grind)
  have h3 : (r : Rat) * (c : Rat)⁻¹ ≤ (r : Rat) * 1 := Rat.mul_le_mul_of_nonneg_left (by grind) hr
  grind
theorem tm_frac {m r c : Int} (h0 : 0 ≤ r) (h1 : r < m) (hm : m ≤ 100000) (c0 : 0 < c) (c1 : c ≤ 30) : Tm m (Rat.divInt r c) := by
  obtain ⟨a1, a2⟩ := div_le h0 c0
  have h2 : (r : Rat) ≤ (m : Rat) := Rat.intCast_le_intCast.mpr (by omega)
  refine ⟨iz_divInt c0 (l30_int c0 c1), a1, Rat.le_trans a2 h2, sz_divInt (by omega) (by omega) (by omega), fun hh => sz_divInt (by omega) (by omega) (by omega), ?_⟩
  have := divInt_den_le (t := r) (b := c) (by omega)
  omega
theorem tm_int {m r : Int} (h0 : 0 ≤ r) (h1 : r < m) (hm : m ≤ 100000) : Tm m (r : Rat) := by
  refine ⟨iz_int _ _, Rat.intCast_nonneg.mpr h0, Rat.intCast_le_intCast.mpr (by omega), sz_int (by decide) (by omega), fun hh => sz_int (by decide) (by omega), by show 1 ≤ 30; decide⟩
theorem pc_frac {a b : Int} (a0 : 1 ≤ a) (a9 : a ≤ 9) (b0 : 1 ≤ b) (b9 : b ≤ 9) : Pc (Rat.divInt a b) := by
  refine ⟨?_, ?_, ?_⟩
  · rw [Rat.divInt_eq_div, Rat.div_def]
    exact Rat.mul_pos (Rat.intCast_pos.mpr (by omega)) (Rat.inv_pos.mpr (Rat.intCast_pos.mpr (by omega)))
  · have := divInt_num_le a b
    omega
  · have := divInt_den_le (t := a) (b := b) (by omega)
    omega
structure Wq (q : Rat) : Prop where
  iz : Iz 1100 q
  lo : 0 ≤ q
  hi : q ≤ 1
  sz : Sz 7 q
theorem wq_frac {r c : Int} (h0 : 0 ≤ r) (h1 : r ≤ c) (c0 : 0 < c) (hc : c ∣ 1100) (h7 : c ≤ 100) : Wq (Rat.divInt r c) := by
  refine ⟨iz_divInt c0 hc, (div_le h0 c0).1, ?_, sz_divInt (by omega) (by omega) (by omega)⟩
  have hp : (0 : Rat) < (c : Rat) := Rat.intCast_pos.mpr c0
  have hi := Rat.inv_pos.mpr hp
  have hm := Rat.mul_inv_cancel _ (ne_of_pos hp)
  have h2 : (r : Rat) ≤ (c : Rat) := Rat.intCast_le_intCast.mpr h1
  rw [Rat.divInt_eq_div, Rat.div_def]
  have := Rat.mul_le_mul_of_nonneg_right h2 (show 0 ≤ (c : Rat)⁻¹ by grind)
  grind
def bnd : Nat → Rat
  | 0 => 60
  | n + 1 => bnd n + 31
theorem bnd_le : ∀ n, 60 ≤ bnd n
  | 0 => by decide
  | n + 1 => by
    have := bnd_le n
    show 60 ≤ bnd n + 31
    grind
theorem bnd_step (n : Nat) : bnd n ≤ bnd (n + 1) := by
  show bnd n ≤ bnd n + 31
  grind
theorem bnd_300 : ∀ n, n ≤ 6 → bnd n ≤ 300
  | 0, _ => by decide
  | 1, _ => by show (60 : Rat) + 31 ≤ (300 : Rat); grind
  | 2, _ => by show (60 : Rat) + 31 + 31 ≤ (300 : Rat); grind
  | 3, _ => by show (60 : Rat) + 31 + 31 + 31 ≤ (300 : Rat); grind
  | 4, _ => by show (60 : Rat) + 31 + 31 + 31 + 31 ≤ (300 : Rat); grind
  | 5, _ => by show (60 : Rat) + 31 + 31 + 31 + 31 + 31 ≤ (300 : Rat); grind
  | 6, _ => by show (60 : Rat) + 31 + 31 + 31 + 31 + 31 + 31 ≤ (300 : Rat); grind
  | n + 7, h => absurd h (by omega)
/-- a stretch as it is drawn -/
theorem fs_drawn {i : Nat} (hi : i ≤ 5) {b t p : Rat} (zb : Iz L30 b) (b0 : 0 ≤ b) (bb : b ≤ bnd i) (ht : Tm 30 t) (hp : Pc p) : Fs L30 [] (b, b + (Rat.divInt 1 2 + t), p) ∧ b + (Rat.divInt 1 2 + t) ≤ bnd (i + 1) := by
  have h1 : (0 : Rat) < Rat.divInt 1 2 := by decide
  have h2 : Rat.divInt 1 2 ≤ 1 := by decide
  have h3 := ht.lo
  have h4 := ht.hi
  have e30 : ((30 : Int) : Rat) = 30 := rfl
  rw [e30] at h4
  have h5 : b + (Rat.divInt 1 2 + t) ≤ bnd (i + 1) := by
    show _ ≤ bnd i + 31
    grind
  have h6 := bnd_300 (i + 1) (by omega)
  refine ⟨⟨b0, ?_, Rat.le_trans h5 h6, zb, zb.add ((iz_divInt (by decide) (l30_int (by decide) (by decide))).add ht.iz), p, 1, by show p = p * 1; grind, hp, .nil⟩, h5⟩
  show b < b + (Rat.divInt 1 2 + t)
  grind
end R
namespace R
open PySem PySem.Spec PyProof.Rows L2
/-! ### defs that raise; classes of errors over ValueError, without methods of their own -/
structure ExcT (K : PySem.W.Frag) (mg : Str → Option Value) (x : Str) (C : Addr) : Prop where
  g : mg x = some (.ref C)
  x : PySem.W.excIn K C [.type "ValueError", .type "Exception", .type "BaseException", .type "object"] "ValueError.__new__" = true
  k : PySem.W.keepIn K (.ref C) = true
  b : PySem.W.subIn K (.ref C) (.type "BaseException") = some true
  t : PySem.W.typeIn K (.ref C) = some (.type "type")
  e : PySem.W.exmOne K (.ref C) (.ref C) = some true
theorem exm_gen {K : PySem.W.Frag} {S C : Addr} {r : Bool} (h1 : PySem.W.subIn K (.ref C) (.type "BaseException") = some true) (h2 : PySem.W.isClsIn K C = true)
    (h3 : PySem.W.typeIn K (.ref C) = some (.type "type")) (h4 : PySem.W.subIn K (.ref S) (.ref C) = some r) : PySem.W.exmOne K (.ref S) (.ref C) = some r := by
  unfold PySem.W.exmOne
  rw [if_pos (by rw [h1]; rfl)]
  unfold PySem.W.kitCls
  dsimp only
  rw [if_pos (by rw [show (PySem.W.clsIn K C).isSome = true from h2, h3]; rfl)]
  exact h4
section
variable {P : Program} {w : World} {K : PySem.W.Frag} {mg : Str → Option Value} {base : Heap}
theorem Df.clX {x : Str} {st : Stmt} {N ps : List Str} {k : Nat} {sp : Sp} (D : Df K mg x st ps) (S : FnScope N ps (defScope st)) (len : ∀ vs H Q E, sp vs H Q E → vs.length = ps.length)
    (hbody : ∀ (f : Addr) (cdv : Value) (A : Around) (outer : List Env) (s : Shared) (H : Hp) (vs : List V) (Q : VK) (E : XK), Room k (A.deeper (envOfC x (defScope st) s.heap.objs.size f cdv)) → sp vs H Q E →
      ∃ t, PSs (cxOf (L2.CX P w) P w K mg base N x (defScope st) f cdv A outer s H E) (defBody st) t ∧ t { nx := fun _ H' => Q .non H', rt := Q } (start N vs) H) : Cl P w K mg base (L2.CX P w) (k + 1) x sp := by
  obtain ⟨f, fd, F, g, b⟩ := D.ex
  exact ⟨f, fd, ps, F.okX S len (hbody f), g, F.kp, b⟩
end
section
variable {X : Cx}
theorem pe_clS {W : WX} {k j : Nat} {x : Str} {sp : Sp} {p pos : Pos} {e : Expr} {es : List Expr} {t : TA} (c : Cl X.prog X.w X.K X.mg X.base (L2.CX X.prog X.w) k x sp) (hr : Room j X.A) (hk : k ≤ j) (hg : Gl X x) (tk : Takes X W) (ha : PA X (e :: es) t)
    (hdb : (x == ("__debug__" : Str)) = false := by decide) (he : starEach (e :: es) X.env = (false, eval e X.env) :: starEach es X.env := by rfl) (hpl : (backTo pos (starEach es X.env)).any (·.1) = false := by rfl) :
    PE X (.Call (.Name x p) (e :: es) [] pos) (tCallS sp (WE W) t) := by
  obtain ⟨f, fd, ps, F, hm, kp, b⟩ := c.ex
  exact pe_callS F (hr.mono hk) hg hm kp b (fun σ => passAt tk σ) ha hdb he hpl
theorem pe_clN {k j : Nat} {x : Str} {sp : Sp} {p pos : Pos} {e : Expr} {es : List Expr} {t : TA} (c : Cl X.prog X.w X.K X.mg X.base (L2.CX X.prog X.w) k x sp) (hr : Room j X.A) (hk : k ≤ j) (hg : Gl X x) (ha : PA X (e :: es) t)
    (hdb : (x == ("__debug__" : Str)) = false := by decide) (he : starEach (e :: es) X.env = (false, eval e X.env) :: starEach es X.env := by rfl) (hpl : (backTo pos (starEach es X.env)).any (·.1) = false := by rfl) :
    PE X (.Call (.Name x p) (e :: es) [] pos) (tCall sp [] E0 t) := by
  obtain ⟨f, fd, ps, F, hm, kp, b⟩ := c.ex
  exact pe_call F (hr.mono hk) hg hm kp b .nil passL ha hdb he hpl
end
end R
namespace R
open PySem PySem.Spec PyProof.Rows L2
/-! ### isinstance(e, c) of a caught error e, its class told behind -/
def rIsX (K : PySem.W.Frag) (D a : Addr) (cls : Value) (d : Option Addr) : List V → Hp → VK → Prop := fun xs H Q => cls = .ref D ∧ d = none ∧ rIsE K D a xs H Q
theorem call_isX {X : Cx} {a D : Addr} {oe : Obj} {cls : Value} {d : Option Addr} {pn : List (Addr × Obj)} (C : ExcC X.K D) (hz : Zc cls d oe) (hf : ∃ vs, oe.data = .fields vs) :
    CallR (X.suite a ((a, oe) :: pn)) (.builtin "isinstance") (rIsX X.K D a cls d) := by
  intro pins s σ H xs us Q I r h
  obtain ⟨h1, h2, h⟩ := h
  subst h1 h2
  exact call_isE C hz hf pins s σ H xs us Q I r h
theorem op_eqDS {X : Cx} {a : Addr} {pn : List (Addr × Obj)} (hu : X.A.units + 64 < cLine) : OpR (X.suite a pn) (compareOp .Eq) (rEqD X.K) := op_eqD (X := X.suite a pn) hu
theorem kit_self {K : PySem.W.Frag} {S : Addr} : PySem.W.kitOne K (.ref S) (.ref S) = some true := by
  unfold PySem.W.kitOne
  rw [if_pos (beq_self_eq_true _)]
theorem kit_gen {K : PySem.W.Frag} {S C : Addr} {r : Bool} (h1 : PySem.W.subIn K (.ref S) (.ref C) = some r) (h2 : PySem.W.isClsIn K C = true) (h3 : PySem.W.typeIn K (.ref C) = some (.type "type"))
    (h4 : (Value.ref S == Value.ref C) = false) : PySem.W.kitOne K (.ref S) (.ref C) = some r := by
  unfold PySem.W.kitOne
  rw [if_neg (by rw [h4]; exact Bool.false_ne_true)]
  unfold PySem.W.kitCls
  dsimp only
  rw [if_pos (by rw [show (PySem.W.clsIn K C).isSome = true from h2, h3]; rfl)]
  exact h1
theorem kit_ve {K : PySem.W.Frag} {S : Addr} {r : Bool} (h1 : PySem.W.subIn K (.ref S) (.type "ValueError") = some r) : PySem.W.kitOne K (.ref S) (.type "ValueError") = some r := by
  unfold PySem.W.kitOne
  rw [show (Value.ref S == Value.type "ValueError") = false from rfl, if_neg Bool.false_ne_true]
  unfold PySem.W.kitCls
  dsimp only
  rw [if_pos (by decide +kernel)]
  exact h1
/-! the rules of lists and tuples with the written part told by a letter: within a comprehension -/
theorem sl_listK {X : Cx} {K : PySem.W.Frag} (h : X.K = K) : SlR X (rSlL K) := h ▸ sl_list
theorem ix_listK {X : Cx} {K : PySem.W.Frag} (h : X.K = K) : IxR X (rIxL K) := h ▸ ix_list
theorem ix_tupK {X : Cx} {K : PySem.W.Frag} (h : X.K = K) : IxR X (rIxT K) := h ▸ ix_tup
theorem pe_gC {X : Cx} {x : Str} {pos : Pos} {C : Addr} (hg : Gl X x) (h : X.mg x = some (.ref C)) (hd : (x == ("__debug__" : Str)) = false := by decide) : PE X (.Name x pos) (tC (.ref C)) := pe_glob hg h rfl hd
end R
namespace R
open PySem PySem.Spec PyProof.Rows L2
/-! ### methods of an own class -/
structure Dm (K : PySem.W.Frag) (C : Addr) (m q : Str) (st : Stmt) (ps : List Str) : Prop where
  ex : ∃ (f : Addr) (fd : FuncData), Fun K m q st f fd ∧ Meth K C m f ∧ Binds K fd ps []
structure ClM (P : Program) (w : World) (K : PySem.W.Frag) (mg : Str → Option Value) (base : Heap) (CX : CXT) (k : Nat) (C : Addr) (m : Str) (sp : Sp) : Prop where
  ex : ∃ (f : Addr) (fd : FuncData) (ps : List Str), FnOk P w K mg base CX k f fd ps sp ∧ Meth K C m f ∧ Binds K fd ps []
section
variable {P : Program} {w : World} {K : PySem.W.Frag} {mg : Str → Option Value} {base : Heap}
theorem Dm.cl {C : Addr} {m q : Str} {st : Stmt} {N ps : List Str} {k : Nat} {sp : Sp} (D : Dm K C m q st ps) (S : FnScope N ps (defScope st)) (len : ∀ vs H Q E, sp vs H Q E → vs.length = ps.length)
    (hbody : ∀ (f : Addr) (cdv : Value) (A : Around) (outer : List Env) (s : Shared) (H : Hp) (vs : List V) (Q : VK) (E : XK), Room k (A.deeper (envOfC q (defScope st) s.heap.objs.size f cdv)) → sp vs H Q E →
      ∃ t, PSs (cxOf CX0 P w K mg base N q (defScope st) f cdv A outer s H E).nox (defBody st) t ∧ t { nx := fun _ H' => Q .non H', rt := Q } (start N vs) H) : ClM P w K mg base CX0 (k + 1) C m sp := by
  obtain ⟨f, fd, F, g, b⟩ := D.ex
  exact ⟨f, fd, ps, F.ok S len (hbody f), g, b⟩
theorem Dm.clX {C : Addr} {m q : Str} {st : Stmt} {N ps : List Str} {k : Nat} {sp : Sp} (D : Dm K C m q st ps) (S : FnScope N ps (defScope st)) (len : ∀ vs H Q E, sp vs H Q E → vs.length = ps.length)
    (hbody : ∀ (f : Addr) (cdv : Value) (A : Around) (outer : List Env) (s : Shared) (H : Hp) (vs : List V) (Q : VK) (E : XK), Room k (A.deeper (envOfC q (defScope st) s.heap.objs.size f cdv)) → sp vs H Q E →
      ∃ t, PSs (cxOf (L2.CX P w) P w K mg base N q (defScope st) f cdv A outer s H E) (defBody st) t ∧ t { nx := fun _ H' => Q .non H', rt := Q } (start N vs) H) : ClM P w K mg base (L2.CX P w) (k + 1) C m sp := by
  obtain ⟨f, fd, F, g, b⟩ := D.ex
  exact ⟨f, fd, ps, F.okX S len (hbody f), g, b⟩
end
/-- what is asked of the class, besides its methods -/
structure OwnC (K : PySem.W.Frag) (mg : Str → Option Value) (x : Str) (C : Addr) : Prop where
  g : mg x = some (.ref C)
  cl : Cls K C
  ms : PySem.W.makesIn K C = true
  kp : PySem.W.keepIn K (.ref C) = true
section
variable {X : Cx} {k j : Nat} {C : Addr} {m : Str} {sp : Sp} {p pos apos : Pos} {o e : Expr} {es : List Expr} {ta : TE} {t : TA} {W : WX}
/-- o.m(e, ..), what is raised is wished for at the caller's slots -/
def tMethS (C : Addr) (m : Str) (sp : Sp) (E : L2.St → XK) (ta : TE) (t : TA) : TE := fun σ H Q => ta σ H fun x H1 => ∃ a dx fs, x = .ref a ∧ H1 a = some (.ins C dx fs) ∧ fs.lookup m = none ∧ t σ H1 fun vs H2 => sp (x :: vs) H2 Q (E σ)
theorem pe_mt {pl : Sem Bool} (c : ClM X.prog X.w X.K X.mg X.base CX0 k C m sp) (hr : Room j X.A) (hk : k ≤ j) (cl : Cls X.K C) (he : PE X o ta) (ha : PA X (e :: es) t)
    (hst : starEach (e :: es) X.env = (false, eval e X.env) :: starEach es X.env := by rfl) (hpl : (backTo pos (starEach es X.env)).any (·.1) = false := by rfl)
    (ht : eval (.Call (.Attribute o m apos) (e :: es) [] pos) X.env = (do
      let ov ← eval o X.env
      standAt apos.atName
      let (f, first) ← holding [ov] (getMethod ov m pl)
      callWith pos f first (backTo pos (starEach (e :: es) X.env)) (backToKw pos (keywordEach [] X.env))) := by rfl) :
    PE X (.Call (.Attribute o m apos) (e :: es) [] pos) (tMeth C m sp [] E0 ta t) := by
  obtain ⟨f, fd, ps, F, hm, b⟩ := c.ex
  exact pe_meth (pl := pl) he cl hm F (hr.mono hk) b .nil pass0 ha hst hpl ht
theorem pe_mt0 {pl : Sem Bool} (c : ClM X.prog X.w X.K X.mg X.base CX0 k C m sp) (hr : Room j X.A) (hk : k ≤ j) (cl : Cls X.K C) (he : PE X o ta)
    (ht : eval (.Call (.Attribute o m apos) [] [] pos) X.env = (do
      let ov ← eval o X.env
      standAt apos.atName
      let (f, first) ← holding [ov] (getMethod ov m pl)
      callWith pos f first (backTo pos (starEach [] X.env)) (backToKw pos (keywordEach [] X.env))) := by rfl) :
    PE X (.Call (.Attribute o m apos) [] [] pos) (tMeth C m sp [] E0 ta tNil) := by
  obtain ⟨f, fd, ps, F, hm, b⟩ := c.ex
  exact pe_meth0 (pl := pl) he cl hm F (hr.mono hk) b .nil pass0 ht
/-- a method that may raise, where it does not -/
theorem pe_mtN {pl : Sem Bool} (c : ClM X.prog X.w X.K X.mg X.base (L2.CX X.prog X.w) k C m sp) (hr : Room j X.A) (hk : k ≤ j) (cl : Cls X.K C) (he : PE X o ta) (ha : PA X (e :: es) t)
    (hst : starEach (e :: es) X.env = (false, eval e X.env) :: starEach es X.env := by rfl) (hpl : (backTo pos (starEach es X.env)).any (·.1) = false := by rfl)
    (ht : eval (.Call (.Attribute o m apos) (e :: es) [] pos) X.env = (do
      let ov ← eval o X.env
      standAt apos.atName
      let (f, first) ← holding [ov] (getMethod ov m pl)
      callWith pos f first (backTo pos (starEach (e :: es) X.env)) (backToKw pos (keywordEach [] X.env))) := by rfl) :
    PE X (.Call (.Attribute o m apos) (e :: es) [] pos) (tMeth C m sp [] E0 ta t) := by
  obtain ⟨f, fd, ps, F, hm, b⟩ := c.ex
  exact pe_meth (pl := pl) he cl hm F (hr.mono hk) b .nil passL ha hst hpl ht
theorem pe_mt0N {pl : Sem Bool} (c : ClM X.prog X.w X.K X.mg X.base (L2.CX X.prog X.w) k C m sp) (hr : Room j X.A) (hk : k ≤ j) (cl : Cls X.K C) (he : PE X o ta)
    (ht : eval (.Call (.Attribute o m apos) [] [] pos) X.env = (do
      let ov ← eval o X.env
      standAt apos.atName
      let (f, first) ← holding [ov] (getMethod ov m pl)
      callWith pos f first (backTo pos (starEach [] X.env)) (backToKw pos (keywordEach [] X.env))) := by rfl) :
    PE X (.Call (.Attribute o m apos) [] [] pos) (tMeth C m sp [] E0 ta tNil) := by
  obtain ⟨f, fd, ps, F, hm, b⟩ := c.ex
  exact pe_meth0 (pl := pl) he cl hm F (hr.mono hk) b .nil passL ht
theorem pe_mtS {pl : Sem Bool} (c : ClM X.prog X.w X.K X.mg X.base (L2.CX X.prog X.w) k C m sp) (hr : Room j X.A) (hk : k ≤ j) (cl : Cls X.K C) (tk : Takes X W) (he : PE X o ta) (ha : PA X (e :: es) t)
    (hst : starEach (e :: es) X.env = (false, eval e X.env) :: starEach es X.env := by rfl) (hpl : (backTo pos (starEach es X.env)).any (·.1) = false := by rfl)
    (ht : eval (.Call (.Attribute o m apos) (e :: es) [] pos) X.env = (do
      let ov ← eval o X.env
      standAt apos.atName
      let (f, first) ← holding [ov] (getMethod ov m pl)
      callWith pos f first (backTo pos (starEach (e :: es) X.env)) (backToKw pos (keywordEach [] X.env))) := by rfl) :
    PE X (.Call (.Attribute o m apos) (e :: es) [] pos) (tMethS C m sp (WE W) ta t) := by
  obtain ⟨f, fd, ps, F, hm, b⟩ := c.ex
  refine ⟨fun pins s σ H Q I h => ?_⟩
  refine PySem.W.methodCall_KW (pl := pl) (thn (he.run pins s σ H _ I h) fun u s1 ⟨x, H1, I1, rx, a, dx, fs, ex, ea, l, q⟩ => ?_) ht
  subst ex
  obtain rfl : u = Value.ref a := rx
  refine getmeth_ok I1 ea cl hm l ?_
  refine PySem.W.callWith_K (first := [.ref a]) (h₀ := X.base) I.ok.mod.kin hm.kp (thn (ha.run pos pins s1 σ H1 _ I1 q) fun us s2 ⟨vs, H2, I2, r, q2⟩ => ⟨I2.kIn, ?_⟩) hst hpl
  exact run_fnS (us := .ref a :: us) (vs := .ref a :: vs) (E := WE W) F (hr.mono hk) b (passAt tk σ) I2 (.cons rfl r) q2
theorem pe_mt0S {pl : Sem Bool} (c : ClM X.prog X.w X.K X.mg X.base (L2.CX X.prog X.w) k C m sp) (hr : Room j X.A) (hk : k ≤ j) (cl : Cls X.K C) (tk : Takes X W) (he : PE X o ta)
    (ht : eval (.Call (.Attribute o m apos) [] [] pos) X.env = (do
      let ov ← eval o X.env
      standAt apos.atName
      let (f, first) ← holding [ov] (getMethod ov m pl)
      callWith pos f first (backTo pos (starEach [] X.env)) (backToKw pos (keywordEach [] X.env))) := by rfl) :
    PE X (.Call (.Attribute o m apos) [] [] pos) (tMethS C m sp (WE W) ta tNil) := by
  obtain ⟨f, fd, ps, F, hm, b⟩ := c.ex
  refine ⟨fun pins s σ H Q I h => ?_⟩
  refine PySem.W.methodCall_KW (pl := pl) (thn (he.run pins s σ H _ I h) fun u s1 ⟨x, H1, I1, rx, a, dx, fs, ex, ea, l, q⟩ => ?_) ht
  subst ex
  obtain rfl : u = Value.ref a := rx
  refine getmeth_ok I1 ea cl hm l ?_
  exact PySem.W.callWith_K0 (first := [.ref a]) I1.kIn hm.kp (run_fnS (us := [.ref a]) (vs := [.ref a]) (E := WE W) F (hr.mono hk) b (passAt tk σ) I1 (.cons rfl .nil) q)
/-- C(e, ..) -/
theorem pe_mkC {x : Str} (c : ClM X.prog X.w X.K X.mg X.base CX0 k C "__init__" sp) (oc : OwnC X.K X.mg x C) (hr : Room j X.A) (hk : k + 1 ≤ j) (hg : Gl X x) (ha : PA X (e :: es) t)
    (hdb : (x == ("__debug__" : Str)) = false := by decide) (he : starEach (e :: es) X.env = (false, eval e X.env) :: starEach es X.env := by rfl) (hpl : (backTo pos (starEach es X.env)).any (·.1) = false := by rfl) :
    PE X (.Call (.Name x p) (e :: es) [] pos) (tMake C sp [] E0 t) := by
  obtain ⟨f, fd, ps, F, hm, b⟩ := c.ex
  exact pe_make ⟨oc.ms, hm.at_, hm.fn, oc.kp⟩ F (hr.mono hk) hg oc.g b .nil pass0 ha hdb he hpl
end
end R
namespace R
open PySem PySem.Spec PyProof.Rows L2 GxR
/-! ### all(sign in NAME for sign in text), NAME a text of the module: as the layer's rule, but the element may read the module's names -/
def EltG (prog : Program) (w : World) (mg : Str → Option Value) (sc : Scope) (x : Str) (el : Expr) (pb : Nat → Bool) : Prop :=
  ∀ (ce : Env) (B : Around) (R : Value → Shared → Prop) (n : Nat) (tk : Tok) (z : Shared) (ml : Str → Option Value), ce.scope = sc → ce.globals = mainGlobals → z.heap.Ns mainGlobals mg →
    z.heap.Ns ce.locals ml → ml x = some (.str ⟨#[n]⟩ tk) → wpAny (model prog w) B (eval el ce) (fun y z' => y = .bool (pb n) ∧ Keeps z z') R z
theorem elt_in {prog : Program} {w : World} {mg : Str → Option Value} {sc : Scope} {x g : Str} {t : Str} {p1 p2 p3 : Pos} (hk : sc.kind = .function) (hl : sc.names.lookup x = some .local) (hg : sc.names.lookup g = some .globalImplicit)
    (hm : ∃ u, mg g = some u ∧ RelV (.str t) u) (d1 : (x == ("__debug__" : Str)) = false := by decide) (d2 : (g == ("__debug__" : Str)) = false := by decide) :
    EltG prog w mg sc x (.Compare (.Name x p1) [.In] [.Name g p2] p3) (fun c => decide (c ∈ t.cps.toList)) := by
  intro ce B R n tk z ml es eg hG hL hx
  obtain ⟨u, hu, tk2, rfl⟩ := hm
  have k1 : ce.scope.kind = .function := es ▸ hk
  have k2 : ce.kindOf x = some .local := show ce.scope.names.lookup x = _ from es ▸ hl
  have k3 : ce.kindOf g = some .globalImplicit := show ce.scope.names.lookup g = _ from es ▸ hg
  refine wpAny_Compare1 (wpAny_Name (wpAny_loadName_local k1 k2 hL hx ?_) d1)
  refine Calls.Name_function_global k1 k3 (Calls.loadGlobal_global (mg := mg) (by rw [eg]; exact hG) hu ?_) d2
  refine PyProof.Rows.in_str ⟨?_, keeps_refl _⟩
  rw [PySem.StrLaws.found_one t n]
theorem noFree {sc : Scope} {env : Env} (h : ∀ y ∈ sc.names, y.2 ≠ .free) : ∀ y ∈ sc.names, y.2 = .free → ∃ c, env.cells.lookup y.1 = some c := fun y hy e => absurd e (h y hy)
section
variable {X : Cx} {pins : List (Addr × Obj)} {σ : L2.St} {H : Hp} {s : Shared}
theorem gen_strG {c P : Addr} {el it : Expr} {x : Str} {px gp : Pos} {sc : Scope} {pb : Nat → Bool} {te : TE} {k : Nat} {Z : Value → Shared → Prop} {Y : Str → Hp → Prop}
    (hr : Room k X.A) (tb : TabB X.base X.mg c P) (hc : X.env.code = .ref c) (gs : GenS X.env sc x) (pit : PE X it te) (hel : EltG X.prog X.w X.mg sc x el pb) (hf : ∀ v, genFold it X.env v = pure v) (I : Inv X pins σ H s)
    (h : te σ H fun v H1 => ∃ a : Str, v = .str a ∧ TabG H1 P ∧ Y a H1) (hZ : ∀ a H1 g z, Y a H1 → Ready X pins σ H1 P a pb g z → Z (.ref g) z) :
    wpAny (model X.prog X.w) X.A (eval (.GeneratorExp el [⟨.Name x px, it, [], 0⟩] sc gp) X.env) Z X.xe s := by
  refine wpAny_GeneratorExp_walksQ hr.hd gs.co (closure_ok gs.free) gs.cell gs.dot gs.loc gs.kind hr.depth (thn (pit.run pins s σ H _ I h) fun xv s1 q => ?_) hf
  obtain ⟨v, H1, J, rv, a, rfl, ⟨ps, eP, tri⟩, hY⟩ := q
  obtain ⟨tk, rfl⟩ := (show ∃ tk, xv = Value.str a tk from rv)
  refine wpAny_pyIter_str fun o Si W st => ?_
  have oP : s1.heap.get? P = some { cls := .none, data := .fields ps } := J.hok P _ eP
  have ltP : P < s1.heap.objs.size := Heap.lt_size oP
  have oP2 : (s1.heap.push o).get? P = some { cls := .none, data := .fields ps } := Heap.get?_push_of_some _ oP
  have hd : PySem.W.CodeHd (s1.heap.push o) c P := tb.code.keeps fun b u e => Heap.get?_push_of_some _ (J.bk b u e)
  have nl : (s1.heap.push o).NoLimit := J.nolimit.push o
  have go : ∀ (cv : Value) (h3 : Heap) (t3 : Nat) (ps3 : Array Value), Heap.ExtBut P (s1.heap.push o) h3 → (s1.heap.push o).objs.size ≤ h3.objs.size → h3.get? P = some { cls := .none, data := .fields ps3 } → (∃ more, ps3 = ps ++ more) → TriplesOk ps3.toList →
      wpAny (model X.prog X.w) X.A (builtinsFor X.env.globals X.env.builtins) (fun bi s4 => ∃ Ia fp wr n0 Pf St0 pz F, Value.ref s1.heap.objs.size = .ref Ia ∧ (∀ B : Around, B.handled = none → Walks X.prog X.w B Ia fp wr n0 Pf St0) ∧ St0 0 s4.heap ∧
          (∀ b ∈ fp, b < s4.heap.objs.size) ∧ s4.heap.NoLimit ∧ cStatics ∉ wr ∧
          (∀ href : Heap, (∀ b o, s4.heap.get? b = some o → href.get? b = some o) → QuietGen X.prog X.w (genEnv sc (cloFrom X.env.cells sc.names []) s4.heap.objs.size cv bi X.env) x [] el (List.range s4.heap.objs.size) wr Pf pz F href) ∧
          (∀ g h5 t5 gst, gst.bare = true → s4.heap.objs.size < g → h5.objs.size = g + 1 → (∀ b o, s4.heap.get? b = some o → h5.get? b = some o) →
            WalksS X.prog X.w X.A.in4 g (g :: s4.heap.objs.size :: List.range s4.heap.objs.size) (s4.heap.objs.size :: wr) (GenOnlyQ s4.gens.size) (passing pz n0 0).length (fun j y => ∃ i, (passing pz n0 0)[j]? = some i ∧ F i y)
              (GenAt X.prog X.w X.A.in4 g s4.gens.size s4.heap.objs.size (List.range s4.heap.objs.size) wr pz n0 F) →
            GenAt X.prog X.w X.A.in4 g s4.gens.size s4.heap.objs.size (List.range s4.heap.objs.size) wr pz n0 F 0 { s4 with gens := s4.gens.push gst, toks := t5, heap := h5 } →
            Z (.ref g) { s4 with gens := s4.gens.push gst, toks := t5, heap := h5 })) X.xe { s1 with heap := h3, toks := t3 } := by
    intro cv h3 t3 ps3 ext szl oP3 hmore tri3
    have keep : ∀ b u, b ≠ P → s1.heap.get? b = some u → h3.get? b = some u := fun b u nb e => ext b u nb (Heap.get?_push_of_some _ e)
    have glob3 : h3.Ns mainGlobals X.mg := ((J.mod.glob.keeps J.bk).push o).extBut ext tb.gP
    have neC : cStatics ≠ P := fun e => by
      obtain ⟨_, ⟨o', es, ep, ho, hdt, _⟩, _⟩ := J.nolimit
      rw [e, oP] at ho
      cases ho
      cases hdt
    have ltC : cStatics < s1.heap.objs.size := let ⟨_, hns, _⟩ := J.nolimit; hns.lt
    have ltG : mainGlobals < s1.heap.objs.size := (J.mod.glob.keeps J.bk).lt
    have szp : (s1.heap.push o).objs.size = s1.heap.objs.size + 1 := Heap.size_push ..
    obtain ⟨bm, ob, b1, b2, b3, b4, b5, b6, b7, b8⟩ := tb.bm
    refine wpAny_builtinsFor (m := X.mg) (by rw [J.ok.glob]; exact glob3) b1 b2 (keep _ _ b4 (J.bk _ _ b5)) b6 b7 b8 ?_
    refine ⟨s1.heap.objs.size, [s1.heap.objs.size], [s1.heap.objs.size], a.cps.size, SignAt a, Si, fun _ => true, fun i y => ∃ n, a.cps[i]? = some n ∧ y = .bool (pb n), rfl, W, ?_, ?_, nl.extBut ext neC, ?_, ?_, ?_⟩
    · exact (W X.A hr.hd).frame _ _ _ st fun b hb u e => ext b u (by rw [List.mem_singleton.mp hb]; exact (Nat.ne_of_lt ltP).symm) e
    · intro b hb
      rw [List.mem_singleton.mp hb]
      show s1.heap.objs.size < h3.objs.size
      omega
    · intro e
      exact Nat.ne_of_lt ltC (List.mem_singleton.mp e)
    · intro href hx
      constructor
      · intro B R i v z ml _ _ _ _ _
        rw [List.forIn_nil]
        exact wpAny_pure ⟨rfl, keeps_refl _⟩
      · intro B R i v z ml _ pv' _ hL hm hold
        obtain ⟨n, u, en, rfl⟩ := pv'
        have gz : z.heap.Ns mainGlobals X.mg := by
          obtain ⟨og, eg, ep, ho, rest⟩ := glob3
          refine ⟨og, eg, ep, hold mainGlobals (List.mem_range.mpr ?_) (fun e => Nat.ne_of_lt ltG (List.mem_singleton.mp e)) og (hx _ _ ho), rest⟩
          exact Heap.lt_size ho
        exact wpAny_mono (hel _ B R n u z ml rfl (show X.env.globals = mainGlobals from J.ok.glob) gz hL hm) (fun y z' q => ⟨⟨n, en, q.1⟩, q.2⟩) fun _ _ e => e
    · intro g h5 t5 gst gb lg sz5 keep5 W5 at5
      simp only [GxR.passing_true, List.length_range] at W5
      refine hZ a H1 g _ hY ⟨_, _, _, _, _, W5.in4_1, at5, ?_, fun s' mv => ?_⟩
      · intro j y sj Qj Ej fy hQ
        obtain ⟨i, ei, n, en, rfl⟩ := fy
        obtain ⟨hj, ej⟩ := List.getElem?_eq_some_iff.mp ei
        rw [List.getElem_range] at ej
        subst ej
        have e9 : a.cps.toList[j]? = some n := by
          rw [Array.getElem?_toList]
          exact en
        have hQ' : Qj (trF pb a.cps.toList j) sj := hQ
        rw [trF_some e9] at hQ'
        exact wpAny_truthy_bool hQ'
      · obtain ⟨more, rfl⟩ := hmore
        have nw : ∀ b u, s1.heap.get? b = some u → b ∉ h3.objs.size :: [s1.heap.objs.size] := fun b u e hb => by
          have lb := Heap.lt_size e
          rcases List.mem_cons.mp hb with q | q
          · rw [q] at lb
            have : (h3.objs.size : Nat) < s1.heap.objs.size := lb
            omega
          · rw [List.mem_singleton.mp q] at lb
            exact Nat.lt_irrefl _ lb
        have V := inv_tab (more := more) (h' := s'.heap) (g' := s'.gens) (d' := s'.drawn) (t' := s'.toks) J eP (fun b u nb e => mv.heap b u (nw b u e) (keep5 b u (keep b u nb e))) (mv.heap P _ (nw P _ oP) (keep5 P _ oP3)) (AllBare.movedS (J.bare.push gb) mv)
        rw [sh_eta s1 s' mv.os] at V
        exact ⟨_, ⟨⟨ps ++ more, upd_same, tri3⟩, fun b nb => upd_ne nb⟩, V⟩
  refine ⟨nl, ?_⟩
  cases cf : codeAmong gp ps.toList with
  | some cv => exact wpAny_genexprCode_hit hc (hd.code oP2 tri) cf (go cv (s1.heap.push o) s1.toks ps (Heap.ExtBut.refl _ _) (Nat.le_refl _) oP2 ⟨#[], by simp⟩ tri)
  | none =>
    refine wpAny_genexprCodeX hc (hd.code oP2 tri) (hd.tab oP2) cf fun c' h' tk' hx ge lt co _ tab _ => ?_
    obtain ⟨o1, vs, f1, tf, fl, tg, inF, tx, tt, op, _, _, _, _, _, _, _, _, _, htr, _⟩ := co
    exact go _ h' tk' _ hx (Nat.le_trans ge (Nat.le_of_lt lt)) tab.2 ⟨_, rfl⟩ htr
theorem pe_allG {c P : Addr} {el it : Expr} {x : Str} {px p pos gp : Pos} {sc : Scope} {pb : Nat → Bool} {te : TE} {k : Nat} (hr : Room k X.A) (hg : Gl X "all") (hm : X.mg "all" = none) (tb : TabB X.base X.mg c P) (hc : X.env.code = .ref c)
    (gs : GenS X.env sc x) (pit : PE X it te) (hel : EltG X.prog X.w X.mg sc x el pb) (hf : ∀ v, genFold it X.env v = pure v)
    (he : starEach [.GeneratorExp el [⟨.Name x px, it, [], 0⟩] sc gp] X.env = (false, eval (.GeneratorExp el [⟨.Name x px, it, [], 0⟩] sc gp) X.env) :: starEach [] X.env := by rfl) :
    PE X (.Call (.Name "all" p) [.GeneratorExp el [⟨.Name x px, it, [], 0⟩] sc gp] [] pos) (tAllS P pb te) := by
  constructor
  intro pins s σ H Q I h
  have hb : bootBuiltins "all" = some (.builtin "all") := by decide +kernel
  refine wpAny_Call_Name_kw (ld_blt I hg hm hb (PyProof.Rows.callWith_builtin1 ?_ he (by rfl)))
  rw [he]
  show wpAny _ _ (spliced ((false, eval (.GeneratorExp el [⟨.Name x px, it, [], 0⟩] sc gp) X.env) :: backTo pos (starEach [] X.env))) _ _ s
  refine Calls.spliced_cons (gen_strG (Y := fun a H1 => ∀ H2, Tabbed P H1 H2 → Q (.bl (a.cps.toList.all pb)) H2) hr tb hc gs pit hel hf I h fun a H1 g z hY rd => Calls.spliced_nil ?_)
  obtain ⟨fp, wr, G, F, St, W, st, tr, back⟩ := rd
  refine call_all_walkS (W.self 0 _ _ _ st ⟨g, fp, wr, G, _, F, St, _, rfl, W, st, tr, fun z' mv => ?_⟩)
  obtain ⟨H2, tbd, J⟩ := back z' mv
  exact ⟨.bl _, H2, J, rfl, by rw [all_signs a pb]; exact hY H2 tbd⟩
end
end R
namespace R
open PySem PySem.Spec PyProof.Rows L2
/-! ### the law's end, where the table of one def's code is told to be empty -/
theorem walk_tab {l : PySem.W.OpenLaw} {n k : Nat} {q : Program} {loose : List Str} {XP : (Str → Option Value) → Heap → Prop} {YP : World → Heap → Prop} {d : DefRec} {K : Params → PySem.W.Frag} {CX : World → CXT} {x : Str} (nm : Str)
    (hn : l.most = some n) (hn2 : n ≤ sizeLine) (hdf : d.params.defaults = []) (hr : Room k callerA) (hrec : ((recsOf q).any fun e => e.name == nm) = true) (hY : ∀ (w : World) (h : Heap), YP w h → (K w.params).In h)
    (F : ∀ (w : World) (mg : Str → Option Value) (fa : Addr) (h : Heap), (K w.params).In h → h.Ns mainGlobals mg → mg d.name = some (.ref fa) → (∀ f, mg nm = some (.ref f) → LamX.OwnTab (K w.params) f h) → LamX.LawAtS l w (K w.params) (CX w) k n x mg fa h)
    (hCX : ∀ (w : World) (H : Hp) (s : Shared) (e : Value) (s' : Shared), CX w [] H s (fun _ _ _ => False) e s' → False) : PySem.W.WalkO q loose XP YP l.row.toRowW d [] (fun f vs => PySem.call f vs) := by
  refine Att.attach_callB hn hdf fun w s₀ s₁ mg mb fa o pm cd doc a vs ns G Y ho hd hcd hmg hobj hints hlen hbits hg => ?_
  have inK := hY w _ Y
  have tabs : ∀ f, mg nm = some (.ref f) → LamX.OwnTab (K w.params) f s₁.heap := by
    intro f hf c P o1 fd1 e dd vc sl e1 e2 e3 e4 e5
    obtain ⟨dL, hm, he⟩ := List.any_eq_true.mp hrec
    obtain ⟨a', o', fd', c', P', g1, g2, g3, g4, g5, g6⟩ := G.T.tab dL hm
    rw [beq_iff_eq.mp he, hf] at g1
    cases g1
    have q1 := (inK _ _ e1).symm.trans g2
    cases q1
    have q2 := e2.symm.trans g3
    cases q2
    have q3 := e3.symm.trans g4
    cases q3
    obtain ⟨⟨oc, vc', r1, _, r3, r4⟩, rP⟩ := g6
    have q4 := (inK _ _ e4).symm.trans r1
    cases q4
    cases r3
    have q5 := e5.symm.trans r4
    cases q5
    exact rP
  obtain ⟨fd, cs, sp, hT, nT, C, hb, hsp, hF⟩ := F w mg fa _ inK G.T.g hmg tabs
  exact LamX.law_callTs inK G.T.g G.T.b G.T.builtins G.T.nolimit hg hT nT C G.T.bmain hobj hints (Nat.le_trans hlen hn2) hr hF hb (fun H hH hS => hsp H a ns hlen hbits hH hS) fun H e s' => hCX w H s₁ e s'
theorem walk_tabs {l : PySem.W.OpenLaw} {n k : Nat} {q : Program} {loose : List Str} {XP : (Str → Option Value) → Heap → Prop} {YP : World → Heap → Prop} {d : DefRec} {K : Params → PySem.W.Frag} {CX : World → CXT} {x : Str} (nms : List Str)
    (hn : l.most = some n) (hn2 : n ≤ sizeLine) (hdf : d.params.defaults = []) (hr : Room k callerA) (hrec : ∀ nm ∈ nms, ((recsOf q).any fun e => e.name == nm) = true) (hY : ∀ (w : World) (h : Heap), YP w h → (K w.params).In h)
    (F : ∀ (w : World) (mg : Str → Option Value) (fa : Addr) (h : Heap), (K w.params).In h → h.Ns mainGlobals mg → mg d.name = some (.ref fa) → (∀ nm ∈ nms, ∀ f, mg nm = some (.ref f) → LamX.OwnTab (K w.params) f h) → LamX.LawAtS l w (K w.params) (CX w) k n x mg fa h)
    (hCX : ∀ (w : World) (H : Hp) (s : Shared) (e : Value) (s' : Shared), CX w [] H s (fun _ _ _ => False) e s' → False) : PySem.W.WalkO q loose XP YP l.row.toRowW d [] (fun f vs => PySem.call f vs) := by
  refine Att.attach_callB hn hdf fun w s₀ s₁ mg mb fa o pm cd doc a vs ns G Y ho hd hcd hmg hobj hints hlen hbits hg => ?_
  have inK := hY w _ Y
  have tabs : ∀ nm ∈ nms, ∀ f, mg nm = some (.ref f) → LamX.OwnTab (K w.params) f s₁.heap := by
    intro nm hnm f hf c P o1 fd1 e dd vc sl e1 e2 e3 e4 e5
    obtain ⟨dL, hm, he⟩ := List.any_eq_true.mp (hrec nm hnm)
    obtain ⟨a', o', fd', c', P', g1, g2, g3, g4, g5, g6⟩ := G.T.tab dL hm
    rw [beq_iff_eq.mp he, hf] at g1
    cases g1
    have q1 := (inK _ _ e1).symm.trans g2
    cases q1
    have q2 := e2.symm.trans g3
    cases q2
    have q3 := e3.symm.trans g4
    cases q3
    obtain ⟨⟨oc, vc', r1, _, r3, r4⟩, rP⟩ := g6
    have q4 := (inK _ _ e4).symm.trans r1
    cases q4
    cases r3
    have q5 := e5.symm.trans r4
    cases q5
    exact rP
  obtain ⟨fd, cs, sp, hT, nT, C, hb, hsp, hF⟩ := F w mg fa _ inK G.T.g hmg tabs
  exact LamX.law_callTs inK G.T.g G.T.b G.T.builtins G.T.nolimit hg hT nT C G.T.bmain hobj hints (Nat.le_trans hlen hn2) hr hF hb (fun H hH hS => hsp H a ns hlen hbits hH hS) fun H e s' => hCX w H s₁ e s'
end R
namespace R
open PySem PySem.Spec PyProof.Rows L2
def topS (i : Nat) : Stmt := PySem.Challenge.pw_reels_k08_whole_undone.main.body.getD i (.Pass ⟨0, 0, 0, 0⟩)
abbrev s_common_divisor : Stmt := topS 6
theorem sc_common_divisor : FnScope ["one", "two"] ["one", "two"] (defScope s_common_divisor) := ⟨rfl, rfl, rfl, by decide +kernel, rfl, by decide +kernel, by decide +kernel⟩
abbrev s_made : Stmt := topS 7
theorem sc_made : FnScope ["top", "bottom", "divisor"] ["top", "bottom"] (defScope s_made) := ⟨rfl, rfl, rfl, by decide +kernel, rfl, by decide +kernel, by decide +kernel⟩
abbrev s_added : Stmt := topS 8
theorem sc_added : FnScope ["one", "two", "shared", "top", "divisor"] ["one", "two"] (defScope s_added) := ⟨rfl, rfl, rfl, by decide +kernel, rfl, by decide +kernel, by decide +kernel⟩
abbrev s_less : Stmt := topS 9
theorem sc_less : FnScope ["one", "two"] ["one", "two"] (defScope s_less) := ⟨rfl, rfl, rfl, by decide +kernel, rfl, by decide +kernel, by decide +kernel⟩
abbrev s_timed : Stmt := topS 10
theorem sc_timed : FnScope ["one", "two"] ["one", "two"] (defScope s_timed) := ⟨rfl, rfl, rfl, by decide +kernel, rfl, by decide +kernel, by decide +kernel⟩
abbrev s_over : Stmt := topS 11
theorem sc_over : FnScope ["one", "two"] ["one", "two"] (defScope s_over) := ⟨rfl, rfl, rfl, by decide +kernel, rfl, by decide +kernel, by decide +kernel⟩
abbrev s_is_below : Stmt := topS 12
theorem sc_is_below : FnScope ["one", "two"] ["one", "two"] (defScope s_is_below) := ⟨rfl, rfl, rfl, by decide +kernel, rfl, by decide +kernel, by decide +kernel⟩
abbrev s_smaller : Stmt := topS 13
theorem sc_smaller : FnScope ["one", "two"] ["one", "two"] (defScope s_smaller) := ⟨rfl, rfl, rfl, by decide +kernel, rfl, by decide +kernel, by decide +kernel⟩
abbrev s_larger : Stmt := topS 14
theorem sc_larger : FnScope ["one", "two"] ["one", "two"] (defScope s_larger) := ⟨rfl, rfl, rfl, by decide +kernel, rfl, by decide +kernel, by decide +kernel⟩
abbrev s_lasting : Stmt := topS 16
theorem sc_lasting : FnScope ["stretch", "begin", "end", "pace"] ["stretch"] (defScope s_lasting) := ⟨rfl, rfl, rfl, by decide +kernel, rfl, by decide +kernel, by decide +kernel⟩
abbrev s_timetable : Stmt := topS 17
theorem sc_timetable : FnScope ["show", "rows", "start", "stretch", "stop"] ["show"] (defScope s_timetable) := ⟨rfl, rfl, rfl, by decide +kernel, rfl, by decide +kernel, by decide +kernel⟩
abbrev s_length : Stmt := topS 18
theorem sc_length : FnScope ["show", "total", "stretch"] ["show"] (defScope s_length) := ⟨rfl, rfl, rfl, by decide +kernel, rfl, by decide +kernel, by decide +kernel⟩
abbrev s_normal : Stmt := topS 19
theorem sc_normal : FnScope ["show", "joined", "begin", "end", "pace", "first"] ["show"] (defScope s_normal) := ⟨rfl, rfl, rfl, by decide +kernel, rfl, by decide +kernel, by decide +kernel⟩
abbrev s_place_in : Stmt := topS 20
theorem sc_place_in : FnScope ["stretch", "since", "begin", "end", "pace"] ["stretch", "since"] (defScope s_place_in) := ⟨rfl, rfl, rfl, by decide +kernel, rfl, by decide +kernel, by decide +kernel⟩
abbrev s_taken : Stmt := topS 21
theorem sc_taken : FnScope ["show", "begin", "end", "pieces", "start", "stop", "stretch", "first", "last"] ["show", "begin", "end"] (defScope s_taken) := ⟨rfl, rfl, rfl, by decide +kernel, rfl, by decide +kernel, by decide +kernel⟩
abbrev s_piece : Stmt := topS 22
theorem sc_piece : FnScope ["stretch", "since", "until"] ["stretch", "since", "until"] (defScope s_piece) := ⟨rfl, rfl, rfl, by decide +kernel, rfl, by decide +kernel, by decide +kernel⟩
abbrev s_Lbegun : Stmt := topS 26
theorem sc_Lbegun : FnScope ["_law_script", "_law_stirred", "_law_cell"] ["_law_script"] (defScope s_Lbegun) := ⟨rfl, rfl, rfl, by decide +kernel, rfl, by decide +kernel, by decide +kernel⟩
abbrev s_Ltake : Stmt := topS 27
theorem sc_Ltake : FnScope ["_law_box", "_law_many", "_law_number"] ["_law_box", "_law_many"] (defScope s_Ltake) := ⟨rfl, rfl, rfl, by decide +kernel, rfl, by decide +kernel, by decide +kernel⟩
abbrev s_Lalike : Stmt := topS 28
theorem sc_Lalike : FnScope ["_law_found", "_law_due", "_law_k"] ["_law_found", "_law_due"] (defScope s_Lalike) := ⟨rfl, rfl, rfl, by decide +kernel, rfl, by decide +kernel, by decide +kernel⟩
abbrev s_Lfr : Stmt := topS 29
theorem sc_Lfr : FnScope ["_law_top", "_law_bottom", "_law_one_here", "_law_two", "_law_rest"] ["_law_top", "_law_bottom"] (defScope s_Lfr) := ⟨rfl, rfl, rfl, by decide +kernel, rfl, by decide +kernel, by decide +kernel⟩
abbrev s_Lsum : Stmt := topS 30
theorem sc_Lsum : FnScope ["_law_one_here", "_law_two"] ["_law_one_here", "_law_two"] (defScope s_Lsum) := ⟨rfl, rfl, rfl, by decide +kernel, rfl, by decide +kernel, by decide +kernel⟩
abbrev s_Lminus : Stmt := topS 31
theorem sc_Lminus : FnScope ["_law_one_here", "_law_two"] ["_law_one_here", "_law_two"] (defScope s_Lminus) := ⟨rfl, rfl, rfl, by decide +kernel, rfl, by decide +kernel, by decide +kernel⟩
abbrev s_Ltimes : Stmt := topS 32
theorem sc_Ltimes : FnScope ["_law_one_here", "_law_two"] ["_law_one_here", "_law_two"] (defScope s_Ltimes) := ⟨rfl, rfl, rfl, by decide +kernel, rfl, by decide +kernel, by decide +kernel⟩
abbrev s_Lby : Stmt := topS 33
theorem sc_Lby : FnScope ["_law_one_here", "_law_two"] ["_law_one_here", "_law_two"] (defScope s_Lby) := ⟨rfl, rfl, rfl, by decide +kernel, rfl, by decide +kernel, by decide +kernel⟩
abbrev s_Llow : Stmt := topS 34
theorem sc_Llow : FnScope ["_law_one_here", "_law_two"] ["_law_one_here", "_law_two"] (defScope s_Llow) := ⟨rfl, rfl, rfl, by decide +kernel, rfl, by decide +kernel, by decide +kernel⟩
abbrev s_Ltime : Stmt := topS 35
theorem sc_Ltime : FnScope ["_law_box", "_law_most", "_law_top", "_law_bottom"] ["_law_box", "_law_most"] (defScope s_Ltime) := ⟨rfl, rfl, rfl, by decide +kernel, rfl, by decide +kernel, by decide +kernel⟩
abbrev s_Lpace : Stmt := topS 36
theorem sc_Lpace : FnScope ["_law_box"] ["_law_box"] (defScope s_Lpace) := ⟨rfl, rfl, rfl, by decide +kernel, rfl, by decide +kernel, by decide +kernel⟩
abbrev s_Lshow : Stmt := topS 37
theorem sc_Lshow : FnScope ["_law_box", "_law_show_here", "_law_k", "_law_begin", "_law_pace_here"] ["_law_box"] (defScope s_Lshow) := ⟨rfl, rfl, rfl, by decide +kernel, rfl, by decide +kernel, by decide +kernel⟩
abbrev s_Llast : Stmt := topS 38
theorem sc_Llast : FnScope ["_law_stretch"] ["_law_stretch"] (defScope s_Llast) := ⟨rfl, rfl, rfl, by decide +kernel, rfl, by decide +kernel, by decide +kernel⟩
abbrev s_Llong : Stmt := topS 39
theorem sc_Llong : FnScope ["_law_show_here", "_law_whole", "_law_stretch"] ["_law_show_here"] (defScope s_Llong) := ⟨rfl, rfl, rfl, by decide +kernel, rfl, by decide +kernel, by decide +kernel⟩
abbrev s_Lone : Stmt := topS 40
theorem sc_Lone : FnScope ["_law_show_here", "_law_found", "_law_stretch", "_law_elder"] ["_law_show_here"] (defScope s_Lone) := ⟨rfl, rfl, rfl, by decide +kernel, rfl, by decide +kernel, by decide +kernel⟩
abbrev s_Lcut : Stmt := topS 42
theorem sc_Lcut : FnScope ["_law_show_here", "_law_begin", "_law_end", "_law_found", "_law_stretch", "_law_last_here", "_law_first", "_law_behind", "_law_one_here", "_law_two"] ["_law_show_here", "_law_begin", "_law_end"] (defScope s_Lcut) := ⟨rfl, rfl, rfl, by decide +kernel, rfl, by decide +kernel, by decide +kernel⟩
abbrev s_Lwithin : Stmt := topS 43
theorem sc_Lwithin : FnScope ["_law_box", "_law_most", "_law_part"] ["_law_box", "_law_most"] (defScope s_Lwithin) := ⟨rfl, rfl, rfl, by decide +kernel, rfl, by decide +kernel, by decide +kernel⟩
abbrev s_Ldeed : Stmt := topS 44
theorem sc_Ldeed : FnScope ["_law_box", "_law_reel", "_law_show_here", "_law_whole", "_law_pair", "_law_head", "_law_middle", "_law_tail", "_law_way", "_law_found", "_law_other", "_law_handed", "_law_factor", "_law_part"] ["_law_box", "_law_reel", "_law_show_here"] (defScope s_Ldeed) := ⟨rfl, rfl, rfl, by decide +kernel, rfl, by decide +kernel, by decide +kernel⟩
abbrev s_Lstepped : Stmt := topS 45
theorem sc_Lstepped : FnScope ["_law_work", "e"] ["_law_work"] (defScope s_Lstepped) := ⟨rfl, rfl, rfl, by decide +kernel, rfl, by decide +kernel, by decide +kernel⟩
abbrev s_Lis_off : Stmt := topS 46
theorem sc_Lis_off : FnScope ["_law_reel", "_law_way", "_law_whole", "_law_far"] ["_law_reel", "_law_way", "_law_whole"] (defScope s_Lis_off) := ⟨rfl, rfl, rfl, by decide +kernel, rfl, by decide +kernel, by decide +kernel⟩
abbrev s_law : Stmt := topS 47
theorem sc_law : FnScope ["_law_script", "_law_box", "_law_row", "_law_many", "_law_at", "_law_turn", "_law_way", "_law_due", "_law_show_here", "_law_reel"] ["_law_script"] (defScope s_law) := ⟨rfl, rfl, rfl, by decide +kernel, rfl, by decide +kernel, by decide +kernel⟩
abbrev s_Reel___init__ : Stmt := inClass (topS 24) 0
theorem sc_Reel___init__ : FnScope ["self", "show"] ["self", "show"] (defScope s_Reel___init__) := ⟨rfl, rfl, rfl, by decide +kernel, rfl, by decide +kernel, by decide +kernel⟩
abbrev s_Reel_show : Stmt := inClass (topS 24) 1
theorem sc_Reel_show : FnScope ["self"] ["self"] (defScope s_Reel_show) := ⟨rfl, rfl, rfl, by decide +kernel, rfl, by decide +kernel, by decide +kernel⟩
abbrev s_Reel_out : Stmt := inClass (topS 24) 2
theorem sc_Reel_out : FnScope ["self", "begin", "end", "told"] ["self", "begin", "end"] (defScope s_Reel_out) := ⟨rfl, rfl, rfl, by decide +kernel, rfl, by decide +kernel, by decide +kernel⟩
abbrev s_Reel_into : Stmt := inClass (topS 24) 3
theorem sc_Reel_into : FnScope ["self", "time", "other"] ["self", "time", "other"] (defScope s_Reel_into) := ⟨rfl, rfl, rfl, by decide +kernel, rfl, by decide +kernel, by decide +kernel⟩
abbrev s_Reel_faster : Stmt := inClass (topS 24) 4
theorem sc_Reel_faster : FnScope ["self", "begin", "end", "factor", "slower", "first", "last", "pace"] ["self", "begin", "end", "factor"] (defScope s_Reel_faster) := ⟨rfl, rfl, rfl, by decide +kernel, rfl, by decide +kernel, by decide +kernel⟩
abbrev s_Reel_fill : Stmt := inClass (topS 24) 5
theorem sc_Reel_fill : FnScope ["self", "begin", "end", "stretches", "ahead", "behind"] ["self", "begin", "end", "stretches"] (defScope s_Reel_fill) := ⟨rfl, rfl, rfl, by decide +kernel, rfl, by decide +kernel, by decide +kernel⟩
abbrev s_Reel_back : Stmt := inClass (topS 24) 6
theorem sc_Reel_back : FnScope ["self"] ["self"] (defScope s_Reel_back) := ⟨rfl, rfl, rfl, by decide +kernel, rfl, by decide +kernel, by decide +kernel⟩
abbrev s_Reel_again : Stmt := inClass (topS 24) 7
theorem sc_Reel_again : FnScope ["self"] ["self"] (defScope s_Reel_again) := ⟨rfl, rfl, rfl, by decide +kernel, rfl, by decide +kernel, by decide +kernel⟩
structure C_Reel (K : PySem.W.Frag) (mg : Str → Option Value) (C : Addr) : Prop where
  oc : OwnC K mg "Reel" C
  n_current : NoAttr K C "current"
  n_earlier : NoAttr K C "earlier"
  n_undone : NoAttr K C "undone"
  d___init__ : Dm K C "__init__" "Reel.__init__" s_Reel___init__ ["self", "show"]
  d_show : Dm K C "show" "Reel.show" s_Reel_show ["self"]
  d_out : Dm K C "out" "Reel.out" s_Reel_out ["self", "begin", "end"]
  d_into : Dm K C "into" "Reel.into" s_Reel_into ["self", "time", "other"]
  d_faster : Dm K C "faster" "Reel.faster" s_Reel_faster ["self", "begin", "end", "factor"]
  d_fill : Dm K C "fill" "Reel.fill" s_Reel_fill ["self", "begin", "end", "stretches"]
  d_back : Dm K C "back" "Reel.back" s_Reel_back ["self"]
  d_again : Dm K C "again" "Reel.again" s_Reel_again ["self"]
structure Txt (K : PySem.W.Frag) (mg : Str → Option Value) : Prop where
  d_common_divisor : Df K mg "common_divisor" s_common_divisor ["one", "two"]
  d_made : Df K mg "made" s_made ["top", "bottom"]
  d_added : Df K mg "added" s_added ["one", "two"]
  d_less : Df K mg "less" s_less ["one", "two"]
  d_timed : Df K mg "timed" s_timed ["one", "two"]
  d_over : Df K mg "over" s_over ["one", "two"]
  d_is_below : Df K mg "is_below" s_is_below ["one", "two"]
  d_smaller : Df K mg "smaller" s_smaller ["one", "two"]
  d_larger : Df K mg "larger" s_larger ["one", "two"]
  d_lasting : Df K mg "lasting" s_lasting ["stretch"]
  d_timetable : Df K mg "timetable" s_timetable ["show"]
  d_length : Df K mg "length" s_length ["show"]
  d_normal : Df K mg "normal" s_normal ["show"]
  d_place_in : Df K mg "place_in" s_place_in ["stretch", "since"]
  d_taken : Df K mg "taken" s_taken ["show", "begin", "end"]
  d_piece : Df K mg "piece" s_piece ["stretch", "since", "until"]
  d_Lbegun : Df K mg "_law_begun" s_Lbegun ["_law_script"]
  d_Ltake : Df K mg "_law_take" s_Ltake ["_law_box", "_law_many"]
  d_Lalike : Df K mg "_law_alike" s_Lalike ["_law_found", "_law_due"]
  d_Lfr : Df K mg "_law_fr" s_Lfr ["_law_top", "_law_bottom"]
  d_Lsum : Df K mg "_law_sum" s_Lsum ["_law_one_here", "_law_two"]
  d_Lminus : Df K mg "_law_minus" s_Lminus ["_law_one_here", "_law_two"]
  d_Ltimes : Df K mg "_law_times" s_Ltimes ["_law_one_here", "_law_two"]
  d_Lby : Df K mg "_law_by" s_Lby ["_law_one_here", "_law_two"]
  d_Llow : Df K mg "_law_low" s_Llow ["_law_one_here", "_law_two"]
  d_Ltime : Df K mg "_law_time" s_Ltime ["_law_box", "_law_most"]
  d_Lpace : Df K mg "_law_pace" s_Lpace ["_law_box"]
  d_Lshow : Df K mg "_law_show" s_Lshow ["_law_box"]
  d_Llast : Df K mg "_law_last" s_Llast ["_law_stretch"]
  d_Llong : Df K mg "_law_long" s_Llong ["_law_show_here"]
  d_Lone : Df K mg "_law_one" s_Lone ["_law_show_here"]
  d_Lcut : Df K mg "_law_cut" s_Lcut ["_law_show_here", "_law_begin", "_law_end"]
  d_Lwithin : Df K mg "_law_within" s_Lwithin ["_law_box", "_law_most"]
  d_Ldeed : Df K mg "_law_deed" s_Ldeed ["_law_box", "_law_reel", "_law_show_here"]
  d_Lstepped : Df K mg "_law_stepped" s_Lstepped ["_law_work"]
  d_Lis_off : Df K mg "_law_is_off" s_Lis_off ["_law_reel", "_law_way", "_law_whole"]
  d_law : Df K mg "law" s_law ["_law_script"]
  m_abs : mg "abs" = none
  m_list : mg "list" = none
  m_int : mg "int" = none
  m_len : mg "len" = none
  m_isinstance : mg "isinstance" = none
  m_bool : mg "bool" = none
  m_str : mg "str" = none
  m_tuple : mg "tuple" = none
  m_range : mg "range" = none
  m_ValueError : mg "ValueError" = none
  m_max : mg "max" = none
  m_min : mg "min" = none
  e_OffReel : ∃ C, ExcT K mg "OffReel" C
  e_NoDeed : ∃ C, ExcT K mg "NoDeed" C
  n_ReelError : ∃ C, mg "ReelError" = some (.ref C)
  o_Reel : ∃ C, C_Reel K mg C
  x_own : ∀ C : Addr, mg "NoDeed" = some (.ref C) → ExcC K C
  x_reel : ∀ C C2 : Addr, mg "NoDeed" = some (.ref C) → mg "ReelError" = some (.ref C2) → PySem.W.kitOne K (.ref C) (.ref C2) = some true
  x_ve : ∀ C : Addr, mg "NoDeed" = some (.ref C) → PySem.W.kitOne K (.ref C) (.type "ValueError") = some true
  x_off : ∀ C C2 : Addr, mg "NoDeed" = some (.ref C) → mg "OffReel" = some (.ref C2) → PySem.W.kitOne K (.ref C) (.ref C2) = some false
  c_NOUGHT : ∃ a : Addr, (∃ u, mg "NOUGHT" = some u ∧ RelV (.ref a) u) ∧ ∀ H : Hp, SqT K H a [.int 0, .int 1]
/-! ### fractions on the heap -/
def dF (q : Rat) : PyData := .tuple [.int q.num, .int (q.den : Int)]
theorem dF_at {K : PySem.W.Frag} {H : Hp} {v : V} {q : Rat} (h : Dp K H v (dF q)) : ∃ a, v = .ref a ∧ SqT K H a [.int q.num, .int (q.den : Int)] := by
  unfold dF at h
  cases h with
  | tup hs ha =>
    cases ha with
    | cons h1 h2 =>
      cases h1
      cases h2 with
      | cons h3 h4 =>
        cases h3
        cases h4
        exact ⟨_, rfl, hs⟩
theorem dF_mk {K : PySem.W.Frag} {H : Hp} {p : Addr} {q : Rat} (h : SqT K H p [.int q.num, .int (q.den : Int)]) : Dp K H (.ref p) (dF q) := .tup h (.cons (.int _) (.cons (.int _) .nil))
def spGcd : Sp := fun vs H Q _ => ∃ i j : Int, vs = [.int i, .int j] ∧ Q (.int (Nat.gcd i.natAbs j.natAbs : Nat)) H
def spMade (K : PySem.W.Frag) : Sp := fun vs H Q _ => ∃ t b : Int, vs = [.int t, .int b] ∧ b ≠ 0 ∧ b.natAbs < 2 ^ 9000 ∧ ∀ H' v, Same H H' → Dp K H' v (dF (Rat.divInt t b)) → Q v H'
def spF2 (K : PySem.W.Frag) (f : Rat → Rat → Rat) (C : Rat → Rat → Prop) : Sp := fun vs H Q _ => ∃ (u v : V) (x y : Rat) (n m : Nat), vs = [u, v] ∧ Dp K H u (dF x) ∧ Dp K H v (dF y) ∧ Sz n x ∧ Sz m y ∧ n + m ≤ 9000 ∧ C x y ∧
  ∀ H' z, Same H H' → Dp K H' z (dF (f x y)) → Q z H'
def spLow (K : PySem.W.Frag) : Sp := fun vs H Q _ => ∃ (u v : V) (x y : Rat) (n m : Nat), vs = [u, v] ∧ Dp K H u (dF x) ∧ Dp K H v (dF y) ∧ Sz n x ∧ Sz m y ∧ n + m ≤ 9000 ∧ Q (.bl (decide (x < y))) H
theorem Sz.pos {n : Nat} {x : Rat} (h : Sz n x) : 0 < n := by
  have h1 := h.den
  have h2 := x.den_nz
  cases n with
  | zero =>
    have : x.den < 1 := h1
    omega
  | succ n => exact Nat.succ_pos n
theorem mnd {n m : Nat} {x y : Rat} (hx : Sz n x) (hy : Sz m y) (h : n + m ≤ 9000) : CMulW x.num (y.den : Int) := wide_mul hx.num hy.den' hx.pos hy.pos (by omega)
theorem mnd' {n m : Nat} {x y : Rat} (hx : Sz n x) (hy : Sz m y) (h : n + m ≤ 9000) : CMulW y.num (x.den : Int) := wide_mul hy.num hx.den' hy.pos hx.pos (by omega)
theorem mdd {n m : Nat} {x y : Rat} (hx : Sz n x) (hy : Sz m y) (h : n + m ≤ 9000) : CMulW (x.den : Int) (y.den : Int) := wide_mul hx.den' hy.den' hx.pos hy.pos (by omega)
theorem mnn {n m : Nat} {x y : Rat} (hx : Sz n x) (hy : Sz m y) (h : n + m ≤ 9000) : CMulW x.num y.num := wide_mul hx.num hy.num hx.pos hy.pos (by omega)
theorem mdn {n m : Nat} {x y : Rat} (hx : Sz n x) (hy : Sz m y) (h : n + m ≤ 9000) : CMulW (x.den : Int) y.num := wide_mul hx.den' hy.num hx.pos hy.pos (by omega)
theorem up9 {i : Int} {n : Nat} (h : i.natAbs < 2 ^ n) (k : n ≤ 9000) : i.natAbs < 2 ^ 9000 := Nat.lt_of_lt_of_le h (Nat.pow_le_pow_right (by decide) k)
theorem num_zero {y : Rat} (h : y.num ≠ 0) : y ≠ 0 := fun e => h (by rw [e]; rfl)
theorem p20 {i : Int} (h : i.natAbs < 2 ^ 20) : i.natAbs < 2 ^ 9000 := Nat.lt_of_lt_of_le h (Nat.pow_le_pow_right (by decide) (by decide))
/-! ### the box of draws: a list of ints and a number, at b and l -/
def hid (b l : Addr) (H : Hp) : Hp := fun a => if a = b ∨ a = l then none else H a
structure Bx (H : Hp) (b l : Addr) : Prop where
  ne : b ≠ l
  ex : ∃ (xs : List Int) (st : Int), H b = some (.lst [.ref l, .int st]) ∧ H l = some (.lst (xs.map V.int))
theorem hid_b {b l : Addr} {H : Hp} {o : HO} : hid b l (upd H b o) = hid b l H := by
  funext a
  unfold hid upd
  split
  · rfl
  · rename_i h
    rw [if_neg (fun e => h (.inl e))]
theorem hid_l {b l : Addr} {H : Hp} {o : HO} : hid b l (upd H l o) = hid b l H := by
  funext a
  unfold hid upd
  split
  · rfl
  · rename_i h
    rw [if_neg (fun e => h (.inr e))]
theorem Same.hid {b l : Addr} {H H' : Hp} (s : Same H H') : Same (hid b l H) (hid b l H') := fun a o h => by
  unfold R.hid at h ⊢
  split at h
  · cases h
  · rename_i k
    rw [if_neg k]
    exact s _ _ h
theorem hid_same {b l : Addr} {H : Hp} : Same (hid b l H) H := fun a o h => by
  unfold hid at h
  split at h
  · cases h
  · exact h
theorem Bx.mono {b l : Addr} {H H' : Hp} (B : Bx H b l) (s : Same H H') : Bx H' b l := by
  obtain ⟨xs, st, h1, h2⟩ := B.ex
  exact ⟨B.ne, xs, st, s _ _ h1, s _ _ h2⟩
theorem dpa_ints {K : PySem.W.Frag} {H : Hp} : ∀ xs : List Int, DpAll K H (xs.map V.int) (xs.map PyData.int)
  | [] => .nil
  | _ :: r => .cons (.int _) (dpa_ints r)
theorem lay_ints : ∀ xs : List Int, PyData.canLayAll0 (xs.map PyData.int) = true
  | [] => rfl
  | _ :: r => by
    show (PyData.canLay0 _ && PyData.canLayAll0 (r.map PyData.int)) = true
    rw [lay_ints r]
    rfl
theorem depth_ints : ∀ xs : List Int, PyData.depthAll (xs.map PyData.int) = 0
  | [] => rfl
  | _ :: r => by
    show max (PyData.depth _) (PyData.depthAll (r.map PyData.int)) = 0
    rw [depth_ints r]
    rfl
theorem shaped_ints (xs : List Int) : SeqAt.shaped (.list (xs.map PyData.int)) = true := by
  unfold SeqAt.shaped
  rw [show PyData.canLay0 (.list (xs.map PyData.int)) = true from lay_ints xs, show PyData.depth (.list (xs.map PyData.int)) = 1 by
    show PyData.depthAll (xs.map PyData.int) + 1 = 1
    rw [depth_ints]]
  rfl
theorem fmod_rg {x m : Int} (h : 0 < m) : 0 ≤ x.fmod m ∧ x.fmod m < m := by
  rw [Int.fmod_eq_emod_of_nonneg _ (by omega)]
  exact ⟨Int.emod_nonneg _ (by omega), Int.emod_lt_of_pos _ h⟩
def spBegun (K : PySem.W.Frag) : Sp := fun vs H Q _ => ∃ (a : Addr) (ns : List Int), vs = [.ref a] ∧ SqL K H a (ns.map V.int) ∧ ∀ H' b l, Same H H' → H b = none → H l = none → Bx H' b l → Q (.ref b) H'
def spTake (K : PySem.W.Frag) : Sp := fun vs H Q _ => ∃ (b l : Addr) (m : Int), vs = [.ref b, .int m] ∧ Bx H b l ∧ 0 < m ∧ m < 1073741824 ∧ ∀ H' (r : Int), Same (hid b l H) (hid b l H') → Bx H' b l → 0 ≤ r → r < m → Q (.int r) H'
theorem ixN0 {n : Nat} : ixN (n + 1) 0 = some 0 := by
  unfold ixN
  rw [if_pos (by decide), if_pos (by omega)]
  rfl
theorem hid_at {b l p : Addr} {H : Hp} {o : HO} (B : Bx H b l) (hp : H p = none) : hid b l (upd H p o) p = some o := by
  obtain ⟨xs, st, h1, h2⟩ := B.ex
  unfold hid
  rw [if_neg, upd_same]
  rintro (e | e)
  · rw [e, h1] at hp
    cases hp
  · rw [e, h2] at hp
    cases hp
theorem hid_tup {K : PySem.W.Frag} {b l a : Addr} {H : Hp} {xs : List V} (B : Bx H b l) (h : SqT K H a xs) : SqT K (hid b l H) a xs := by
  obtain ⟨ys, st, h1, h2⟩ := B.ex
  have key : ∀ u : HO, H a = some u → (∀ zs, u ≠ .lst zs) → hid b l H a = some u := by
    intro u hu hn
    unfold hid
    rw [if_neg, hu]
    rintro (e | e)
    · rw [e, h1] at hu
      exact hn _ (Option.some.inj hu).symm
    · rw [e, h2] at hu
      exact hn _ (Option.some.inj hu).symm
  rcases h with (h | ⟨o, h⟩) | h
  · exact .inl (.inl (key _ h (fun _ z => nomatch z)))
  · exact .inl (.inr ⟨o, key _ h (fun _ z => nomatch z)⟩)
  · exact .inr h
theorem frac_hid {K : PySem.W.Frag} {b l : Addr} {H : Hp} {v : V} {q : Rat} (B : Bx H b l) (h : Dp K H v (dF q)) : Dp K (hid b l H) v (dF q) := by
  obtain ⟨a, rfl, h2⟩ := dF_at h
  exact dF_mk (hid_tup B h2)
theorem frac_keep {K : PySem.W.Frag} {b l : Addr} {H H' : Hp} {v : V} {q : Rat} (h : Dp K H v (dF q)) (B : Bx H b l) (s : Same (hid b l H) (hid b l H')) : Dp K H' v (dF q) := dp_mono hid_same _ _ (dp_mono s _ _ (frac_hid B h))
/-! ### alike: the same data -/
theorem iteY {c : Bool} {A B : Prop} (h : c = true) (a : A) : if c = true then A else B := by
  rw [if_pos h]
  exact a
theorem iteN {c : Bool} {A B : Prop} (h : c = false) (b : B) : if c = true then A else B := by
  rw [if_neg (by rw [h]; exact Bool.false_ne_true)]
  exact b
theorem tyL {K : PySem.W.Frag} {H : Hp} {a : Addr} {xs : List V} (h : SqL K H a xs) : TyX K H (.ref a) (.type "list") := by
  rcases h with (h | ⟨o, h⟩) | ⟨o, its, n, h1, h2, _⟩
  · exact .base (.lst h)
  · exact .base (.frz h)
  · exact .kList h1 h2
theorem tyT {K : PySem.W.Frag} {H : Hp} {a : Addr} {xs : List V} (h : SqT K H a xs) : TyX K H (.ref a) (.type "tuple") := by
  rcases h with (h | ⟨o, h⟩) | ⟨o, its, n, h1, h2, _⟩
  · exact .base (.tup h)
  · exact .fTuple h
  · exact .kTuple h1 h2
theorem rIx_of {K : PySem.W.Frag} {H : Hp} {a : Addr} {xs : List V} {j : Nat} {v : V} {Q : VK} (h : SqL K H a xs ∨ SqT K H a xs) (hv : xs[j]? = some v) (q : Q v H) : rIx K (.ref a) (.int (j : Int)) H Q := by
  rcases h with h | h
  · exact .inl ⟨_, _, _, _, rfl, rfl, h, atI_nat hv, q⟩
  · exact .inr (.inl ⟨_, _, _, _, rfl, rfl, h, atI_nat hv, q⟩)
mutual
def szOk : PyData → Bool
  | .list xs | .tuple xs => decide (xs.length < 2 ^ 62) && szAll xs
  | _ => true
def szAll : List PyData → Bool
  | [] => true
  | x :: xs => szOk x && szAll xs
end
theorem szAll_at : ∀ {ds : List PyData} {i : Nat} {d : PyData}, szAll ds = true → ds[i]? = some d → szOk d = true
  | [], _, _, _, h => by simp at h
  | x :: r, 0, d, a, h => by
    have e : x = d := Option.some.inj h
    have := Bool.and_eq_true_iff.mp (show (szOk x && szAll r) = true from a)
    rw [← e]
    exact this.1
  | x :: r, i + 1, d, a, h => szAll_at (ds := r) (i := i) (Bool.and_eq_true_iff.mp (show (szOk x && szAll r) = true from a)).2 h
theorem depth_at : ∀ {ds : List PyData} {i : Nat} {d : PyData}, ds[i]? = some d → d.depth ≤ PyData.depthAll ds
  | [], _, _, h => by simp at h
  | x :: r, 0, d, h => by
    have e : x = d := Option.some.inj h
    rw [← e]
    exact Nat.le_max_left _ _
  | x :: r, i + 1, d, h => Nat.le_trans (depth_at (ds := r) (i := i) h) (Nat.le_max_right _ _)
theorem dpa_at {K : PySem.W.Frag} {H : Hp} : ∀ {vs : List V} {ds : List PyData} {i : Nat} {v : V}, DpAll K H vs ds → vs[i]? = some v → ∃ d, ds[i]? = some d ∧ Dp K H v d
  | [], _, _, _, _, h => by simp at h
  | x :: r, _, 0, v, .cons h1 h2, h => by
    have e : x = v := Option.some.inj h
    rw [← e]
    exact ⟨_, rfl, h1⟩
  | x :: r, _, i + 1, v, .cons h1 h2, h => dpa_at (vs := r) (i := i) h2 h
theorem dpa_len {K : PySem.W.Frag} {H : Hp} : ∀ {vs : List V} {ds : List PyData}, DpAll K H vs ds → vs.length = ds.length
  | _, _, .nil => rfl
  | _, _, .cons _ h => by rw [List.length_cons, List.length_cons, dpa_len h]
def spAlike (K : PySem.W.Frag) (n : Nat) : Sp := fun vs H Q _ => ∃ (u v : V) (d : PyData), vs = [u, v] ∧ Dp K H u d ∧ Dp K H v d ∧ d.depth < n ∧ szOk d = true ∧ Q (.bl true) H
/-! ### shows on the heap -/
def dS (s : St3) : PyData := .tuple [dF s.1, dF s.2.1, dF s.2.2]
def dSh (xs : List St3) : PyData := .list (xs.map dS)
def dRow (x : Rat × Rat × St3) : PyData := .tuple [dF x.1, dF x.2.1, dS x.2.2]
mutual
def tupD : PyData → Bool
  | .list _ | .dict _ => false
  | .tuple xs => tupA xs
  | _ => true
def tupA : List PyData → Bool
  | [] => true
  | x :: xs => tupD x && tupA xs
end
def IsL (H : Hp) (a : Addr) : Prop := ∃ xs, H a = some (.lst xs)
theorem hid_tupL {K : PySem.W.Frag} {b l a : Addr} {H : Hp} {xs : List V} (Lb : IsL H b) (Ll : IsL H l) (h : SqT K H a xs) : SqT K (hid b l H) a xs := by
  obtain ⟨x1, h1⟩ := Lb
  obtain ⟨x2, h2⟩ := Ll
  have key : ∀ u : HO, H a = some u → (∀ zs, u ≠ .lst zs) → hid b l H a = some u := by
    intro u hu hn
    unfold hid
    rw [if_neg, hu]
    rintro (e | e)
    · rw [e, h1] at hu
      exact hn _ (Option.some.inj hu).symm
    · rw [e, h2] at hu
      exact hn _ (Option.some.inj hu).symm
  rcases h with (h | ⟨o, h⟩) | h
  · exact .inl (.inl (key _ h (fun _ z => nomatch z)))
  · exact .inl (.inr ⟨o, key _ h (fun _ z => nomatch z)⟩)
  · exact .inr h
mutual
theorem dp_hid {K : PySem.W.Frag} {b l : Addr} {H : Hp} (Lb : IsL H b) (Ll : IsL H l) : ∀ (d : PyData) (v : V), tupD d = true → Dp K H v d → Dp K (hid b l H) v d
  | .none, _, _, h => by cases h; exact .non
  | .bool _, _, _, h => by cases h; exact .bl _
  | .int _, _, _, h => by cases h; exact .int _
  | .str _, _, _, h => by cases h; exact .str _
  | .list ds, _, z, _ => by cases z
  | .tuple ds, _, z, h => by
    cases h with
    | tup hs ha => exact .tup (hid_tupL Lb Ll hs) (dpa_hid Lb Ll ds _ z ha)
  | .dict _, _, z, _ => by cases z
theorem dpa_hid {K : PySem.W.Frag} {b l : Addr} {H : Hp} (Lb : IsL H b) (Ll : IsL H l) : ∀ (ds : List PyData) (vs : List V), tupA ds = true → DpAll K H vs ds → DpAll K (hid b l H) vs ds
  | [], _, _, h => by cases h; exact .nil
  | d :: ds, _, z, h => by
    have z2 := Bool.and_eq_true_iff.mp (show (tupD d && tupA ds) = true from z)
    cases h with
    | cons h1 h2 => exact .cons (dp_hid Lb Ll d _ z2.1 h1) (dpa_hid Lb Ll ds _ z2.2 h2)
end
theorem tupD_dF (q : Rat) : tupD (dF q) = true := rfl
theorem tupD_dS (s : St3) : tupD (dS s) = true := rfl
theorem tupA_dS : ∀ xs : List St3, tupA (xs.map dS) = true
  | [] => rfl
  | s :: r => by
    show (tupD (dS s) && tupA (r.map dS)) = true
    rw [tupA_dS r]
    rfl
theorem dS_at {K : PySem.W.Frag} {H : Hp} {v : V} {s : St3} (h : Dp K H v (dS s)) : ∃ a v1 v2 v3, v = .ref a ∧ SqT K H a [v1, v2, v3] ∧ Dp K H v1 (dF s.1) ∧ Dp K H v2 (dF s.2.1) ∧ Dp K H v3 (dF s.2.2) := by
  unfold dS at h
  cases h with
  | tup hs ha =>
    cases ha with
    | cons h1 h2 =>
      cases h2 with
      | cons h3 h4 =>
        cases h4 with
        | cons h5 h6 =>
          cases h6
          exact ⟨_, _, _, _, rfl, hs, h1, h3, h5⟩
theorem dS_mk {K : PySem.W.Frag} {H : Hp} {p : Addr} {v1 v2 v3 : V} {s : St3} (h : SqT K H p [v1, v2, v3]) (h1 : Dp K H v1 (dF s.1)) (h2 : Dp K H v2 (dF s.2.1)) (h3 : Dp K H v3 (dF s.2.2)) : Dp K H (.ref p) (dS s) := .tup h (.cons h1 (.cons h2 (.cons h3 .nil)))
theorem dRow_at {K : PySem.W.Frag} {H : Hp} {v : V} {x : Rat × Rat × St3} (h : Dp K H v (dRow x)) : ∃ a v1 v2 v3, v = .ref a ∧ SqT K H a [v1, v2, v3] ∧ Dp K H v1 (dF x.1) ∧ Dp K H v2 (dF x.2.1) ∧ Dp K H v3 (dS x.2.2) := by
  unfold dRow at h
  cases h with
  | tup hs ha =>
    cases ha with
    | cons h1 h2 =>
      cases h2 with
      | cons h3 h4 =>
        cases h4 with
        | cons h5 h6 =>
          cases h6
          exact ⟨_, _, _, _, rfl, hs, h1, h3, h5⟩
theorem dRow_mk {K : PySem.W.Frag} {H : Hp} {p : Addr} {v1 v2 v3 : V} {x : Rat × Rat × St3} (h : SqT K H p [v1, v2, v3]) (h1 : Dp K H v1 (dF x.1)) (h2 : Dp K H v2 (dF x.2.1)) (h3 : Dp K H v3 (dS x.2.2)) : Dp K H (.ref p) (dRow x) := .tup h (.cons h1 (.cons h2 (.cons h3 .nil)))
theorem dSh_at {K : PySem.W.Frag} {H : Hp} {v : V} {xs : List St3} (h : Dp K H v (dSh xs)) : ∃ a vs, v = .ref a ∧ SqL K H a vs ∧ DpAll K H vs (xs.map dS) := by
  unfold dSh at h
  cases h with
  | lst hs ha => exact ⟨_, _, rfl, hs, ha⟩
theorem dpa_map {α : Type} {K : PySem.W.Frag} {H : Hp} {f : α → PyData} {vs : List V} {xs : List α} {i : Nat} {v : V} (h : DpAll K H vs (xs.map f)) (hv : vs[i]? = some v) : ∃ s, xs[i]? = some s ∧ Dp K H v (f s) := by
  obtain ⟨d, h1, h2⟩ := dpa_at h hv
  rw [List.getElem?_map] at h1
  cases e : xs[i]? with
  | none =>
    rw [e] at h1
    cases h1
  | some s =>
    rw [e] at h1
    exact ⟨s, rfl, by rw [show d = f s from (Option.some.inj h1).symm] at h2; exact h2⟩
theorem dpa_snoc {K : PySem.W.Frag} {H : Hp} : ∀ {vs : List V} {ds : List PyData} {v : V} {d : PyData}, DpAll K H vs ds → Dp K H v d → DpAll K H (vs ++ [v]) (ds ++ [d])
  | _, _, _, _, .nil, h => .cons h .nil
  | _, _, _, _, .cons h1 h2, h => .cons h1 (dpa_snoc h2 h)
/-- what stood at the entry stands beside a list r that was made since -/
theorem hid_old {H H' : Hp} {r : Addr} (s : Same H H') (hr : H r = none) : Same H (hid r r H') := fun a o h => by
  unfold hid
  rw [if_neg, s _ _ h]
  rintro (e | e)
  · rw [e, hr] at h
    cases h
  · rw [e, hr] at h
    cases h
def spSt (K : PySem.W.Frag) (g : St3 → Rat) : Sp := fun vs H Q _ => ∃ (v : V) (s : St3) (N : Nat), vs = [v] ∧ Dp K H v (dS s) ∧ StOk N s ∧ N ≤ 2240 ∧ ∀ H' z, Same H H' → Dp K H' z (dF (g s)) → Q z H'
def spLen (K : PySem.W.Frag) : Sp := fun vs H Q _ => ∃ (v : V) (xs : List St3) (N : Nat), vs = [v] ∧ Dp K H v (dSh xs) ∧ ShOk N xs ∧ N ≤ 2240 ∧ ∀ H' z, Same H H' → Dp K H' z (dF (lenS xs)) → Q z H'
def spTab (K : PySem.W.Frag) : Sp := fun vs H Q _ => ∃ (v : V) (xs : List St3) (N : Nat), vs = [v] ∧ Dp K H v (dSh xs) ∧ ShOk N xs ∧ N ≤ 2240 ∧ xs.length ≤ 1000 ∧ ∀ H' p ys, Same H H' → H p = none → H' p = some (.lst ys) → DpAll K H' ys ((tabF 0 xs).map dRow) → Q (.ref p) H'
def spNorm (K : PySem.W.Frag) : Sp := fun vs H Q _ => ∃ (v : V) (xs : List St3), vs = [v] ∧ Dp K H v (dSh xs) ∧ xs.length ≤ 1000 ∧ ∀ H' p ys, Same H H' → H p = none → H' p = some (.lst ys) → DpAll K H' ys ((normM xs).map dS) → Q (.ref p) H'
def spPlace (K : PySem.W.Frag) : Sp := fun vs H Q _ => ∃ (v u : V) (s : St3) (t : Rat) (N : Nat), vs = [v, u] ∧ Dp K H v (dS s) ∧ Dp K H u (dF t) ∧ StOk N s ∧ Sz (2 * N + 1) t ∧ N ≤ 2240 ∧ ∀ H' z, Same H H' → Dp K H' z (dF (s.1 + t * s.2.2)) → Q z H'
/-! ### data of tuples alone stays, whatever is done to lists -/
theorem keepT {K : PySem.W.Frag} {b l : Addr} {H H' : Hp} {v : V} {d : PyData} (h : Dp K H v d) (hd : tupD d = true) (Lb : IsL H b) (Ll : IsL H l) (s : Same (hid b l H) (hid b l H')) : Dp K H' v d := dp_mono hid_same _ _ (dp_mono s _ _ (dp_hid Lb Ll _ _ hd h))
theorem keepA {K : PySem.W.Frag} {b l : Addr} {H H' : Hp} {vs : List V} {ds : List PyData} (h : DpAll K H vs ds) (hd : tupA ds = true) (Lb : IsL H b) (Ll : IsL H l) (s : Same (hid b l H) (hid b l H')) : DpAll K H' vs ds := dpa_mono hid_same _ _ (dpa_mono s _ _ (dpa_hid Lb Ll _ _ hd h))
theorem keepU {K : PySem.W.Frag} {r : Addr} {H : Hp} {o : HO} {v : V} {d : PyData} (h : Dp K H v d) (hd : tupD d = true) (Lr : IsL H r) : Dp K (upd H r o) v d := keepT h hd Lr Lr (by rw [hid_b]; exact Same.refl _)
theorem keepAU {K : PySem.W.Frag} {r : Addr} {H : Hp} {o : HO} {vs : List V} {ds : List PyData} (h : DpAll K H vs ds) (hd : tupA ds = true) (Lr : IsL H r) : DpAll K (upd H r o) vs ds := keepA h hd Lr Lr (by rw [hid_b]; exact Same.refl _)
theorem Bx.lb {H : Hp} {b l : Addr} (B : Bx H b l) : IsL H b := let ⟨_, _, h, _⟩ := B.ex; ⟨_, h⟩
theorem Bx.ll {H : Hp} {b l : Addr} (B : Bx H b l) : IsL H l := let ⟨_, _, _, h⟩ := B.ex; ⟨_, h⟩
theorem dpa_split {K : PySem.W.Frag} {H : Hp} : ∀ {ds : List PyData} {vs : List V} {d : PyData}, DpAll K H vs (ds ++ [d]) → ∃ vs' v, vs = vs' ++ [v] ∧ DpAll K H vs' ds ∧ Dp K H v d
  | [], _, _, .cons h .nil => ⟨[], _, rfl, .nil, h⟩
  | _ :: ds, _, _, .cons h1 h2 => by
    obtain ⟨vs', v, rfl, h3, h4⟩ := dpa_split (ds := ds) h2
    exact ⟨_ :: vs', v, rfl, .cons h1 h3, h4⟩
theorem rat_eq {x y : Rat} (h1 : x.num = y.num) (h2 : (x.den : Int) = (y.den : Int)) : x = y := Rat.ext h1 (by omega)
theorem eqv_dF (x y : Rat) : PyData.eqv (dF x) (dF y) = decide (x = y) := by
  show ((x.num == y.num) && (((x.den : Int) == (y.den : Int)) && true)) = _
  by_cases h : x = y
  · rw [h, decide_eq_true rfl, beq_self_eq_true, beq_self_eq_true]
    rfl
  · rw [decide_eq_false h]
    cases c1 : (x.num == y.num) with
    | false => rfl
    | true =>
      cases c2 : ((x.den : Int) == (y.den : Int)) with
      | false => rfl
      | true => exact absurd (rat_eq (eq_of_beq c1) (eq_of_beq c2)) h
theorem shaped_dF (x : Rat) : SeqAt.shaped (dF x) = true := rfl
theorem lay_dS : ∀ xs : List St3, PyData.canLayAll0 (xs.map dS) = true
  | [] => rfl
  | s :: r => by
    show (PyData.canLay0 (dS s) && PyData.canLayAll0 (r.map dS)) = true
    rw [lay_dS r]
    rfl
theorem depth_dS : ∀ xs : List St3, PyData.depthAll (xs.map dS) ≤ 2
  | [] => Nat.zero_le _
  | s :: r => Nat.max_le.mpr ⟨Nat.le_refl 2, depth_dS r⟩
theorem shaped_dSh (xs : List St3) : SeqAt.shaped (dSh xs) = true := by
  unfold SeqAt.shaped
  rw [show PyData.canLay0 (dSh xs) = true from lay_dS xs]
  have : PyData.depth (dSh xs) ≤ 64 := by
    show PyData.depthAll (xs.map dS) + 1 ≤ 64
    have := depth_dS xs
    omega
  rw [decide_eq_true this]
  rfl
theorem sz_dS : ∀ xs : List St3, szAll (xs.map dS) = true
  | [] => rfl
  | s :: r => by
    show (szOk (dS s) && szAll (r.map dS)) = true
    rw [sz_dS r]
    rfl
theorem sz_dSh (xs : List St3) (h : xs.length < 2 ^ 62) : szOk (dSh xs) = true := by
  show (decide ((xs.map dS).length < 2 ^ 62) && szAll (xs.map dS)) = true
  rw [sz_dS, List.length_map, decide_eq_true h]
  rfl
theorem dep_dSh (xs : List St3) : (dSh xs).depth < 4 := by
  show PyData.depthAll (xs.map dS) + 1 < 4
  have := depth_dS xs
  omega
def spPick (K : PySem.W.Frag) (g : Rat → Rat → Bool) : Sp := fun vs H Q _ => ∃ (u v : V) (x y : Rat) (n m : Nat), vs = [u, v] ∧ Dp K H u (dF x) ∧ Dp K H v (dF y) ∧ Sz n x ∧ Sz m y ∧ n + m ≤ 9000 ∧ Q (if g x y = true then v else u) H
def spPiece (K : PySem.W.Frag) : Sp := fun vs H Q _ => ∃ (v u1 u2 : V) (s : St3) (t1 t2 : Rat) (N : Nat), vs = [v, u1, u2] ∧ Dp K H v (dS s) ∧ Dp K H u1 (dF t1) ∧ Dp K H u2 (dF t2) ∧ StOk N s ∧ Sz (2 * N + 1) t1 ∧ Sz (2 * N + 1) t2 ∧ N ≤ 2240 ∧
  ∀ H' z, Same H H' → Dp K H' z (dS (s.1 + t1 * s.2.2, s.1 + t2 * s.2.2, s.2.2)) → Q z H'
def refused (xs : List St3) (b e : Rat) : Prop := e < b ∨ lenS xs < e
def spTaken (K : PySem.W.Frag) (C : Addr) : Sp := fun vs H Q E => ∃ (v u1 u2 : V) (xs : List St3) (b e : Rat) (N : Nat), vs = [v, u1, u2] ∧ Dp K H v (dSh xs) ∧ Dp K H u1 (dF b) ∧ Dp K H u2 (dF e) ∧ ShOk N xs ∧ Sz N b ∧ Sz N e ∧ N ≤ 2240 ∧ xs.length ≤ 900 ∧
  (refused xs b e → ∀ H', Same H H' → E (.ref C) none H') ∧
  (¬ refused xs b e → ∀ H' p ys, Same H H' → H p = none → H' p = some (.lst ys) → DpAll K H' ys ((normM (cutM xs b e)).map dS) → Q (.ref p) H')
section
variable {P : Program} {w : World} {K : PySem.W.Frag} {mg : Str → Option Value} {base : Heap}
theorem cl_common_divisor (T : Txt K mg) : Cl P w K mg base CX0 1 "common_divisor" spGcd := by
  refine T.d_common_divisor.cl sc_common_divisor (fun vs H Q E h => ?_) (fun f cdv A outer s H vs Q E hr h => ?_)
  · obtain ⟨i, j, rfl, _⟩ := h
    rfl
  · obtain ⟨i, j, rfl, q⟩ := h
    refine ⟨_, (pss_cons (ps_set (i := 0) sc_common_divisor.nd rfl (.inl rfl) (pe_callB call_abs (by rfl) T.m_abs (by decide +kernel) (pa_cons (pv 0) pa_nil)))
      (pss_cons (ps_set (i := 1) sc_common_divisor.nd rfl (.inl rfl) (pe_callB call_abs (by rfl) T.m_abs (by decide +kernel) (pa_cons (pv 1) pa_nil)))
      (pss_cons (ps_while PassesOwn.never (pt_cmpR op_gt (pv 1) pe_int (nomark _))
        (pss_one (ps_par (i := 0) (j := 1) (by rfl) sc_common_divisor.nd rfl rfl (by decide) rfl rfl (pa_cons (pv 1) (pa_cons (pe_op op_modN (pv 0) (pv 1)) pa_nil)) (by rfl))))
      (pss_one (ps_ret (pv 0)))))), ?_⟩
    refine ⟨_, rfl, _, rfl, _, rfl, _, rfl, ?_⟩
    refine while_by (fun σ H' => ∃ a b : Nat, σ = [some (.int (a : Int)), some (.int (b : Int))] ∧ H' = H ∧ Nat.gcd a b = Nat.gcd i.natAbs j.natAbs) (fun σ _ => match σ with | [_, some (.int b)] => b.natAbs | _ => 0) ?_ ?_ ?_
    · refine ⟨i.natAbs, j.natAbs, ?_, rfl, rfl⟩
      show [some (V.int (if i < 0 then -i else i)), some (V.int (if j < 0 then -j else j))] = _
      rw [abs_nat, abs_nat]
    · intro σ H' h
      obtain ⟨a, b, rfl, rfl, e⟩ := h
      refine ⟨_, rfl, _, _, rfl, rfl, _, rfl, ite2 (fun z => ?_) (fun z => ?_)⟩
      · have hb : 0 < b := by
          have := of_decide_eq_true z
          omega
        refine ⟨_, rfl, _, rfl, _, rfl, _, _, rfl, rfl, (by omega), _, _, rfl, ⟨b, a % b, ?_, rfl, ?_⟩, ?_⟩
        · show [some (V.int (b : Int)), some (V.int ((a : Int).fmod (b : Int)))] = _
          rw [fmod_nat]
        · rw [gcd_turn]
          exact e
        · show Int.natAbs (Int.fmod (a : Int) (b : Int)) < Int.natAbs (b : Int)
          rw [fmod_nat]
          have := Nat.mod_lt a hb
          omega
      · have hb : b = 0 := by
          have z2 : ¬ ((0 : Int) < (b : Int)) := fun y => z (decide_eq_true y)
          omega
        subst hb
        refine ⟨_, rfl, ?_⟩
        rw [Nat.gcd_zero_right] at e
        rw [← e] at q
        exact q
    · intro σ H' Q1 Q2 h12 h
      obtain ⟨v, e, i, j, e1, e2, k, e3, h⟩ := h
      exact ⟨v, e, i, j, e1, e2, k, e3, h12 _ _ h⟩
theorem cl_made (T : Txt K mg) : Cl P w K mg base CX0 2 "made" (spMade K) := by
  have c_common_divisor := cl_common_divisor (P := P) (w := w) (base := base) T
  refine T.d_made.cl sc_made (fun vs H Q E h => ?_) (fun f cdv A outer s H vs Q E hr h => ?_)
  · obtain ⟨i, j, rfl, _⟩ := h
    rfl
  · obtain ⟨t, b, rfl, hb, hs, q⟩ := h
    refine ⟨_, (pss_cons (ps_set (i := 2) sc_made.nd rfl (.inl rfl) (pe_cl c_common_divisor hr (by decide) (by rfl) (pa_cons (pv 0) (pa_cons (pv 1) pa_nil))))
      (pss_cons (ps_if (pt_cmpR op_lt (pv 1) pe_int (nomark _))
        (pss_one (ps_set (i := 2) sc_made.nd rfl (.inl rfl) (pe_un un_neg (pv 2))))
        pss_nil)
      (pss_one (ps_ret (pe_tup (pa_cons (pe_op op_fdivX (pv 0) (pv 2)) (pa_cons (pe_op op_fdivX (pv 1) (pv 2)) pa_nil))))))), ?_⟩
    have last : ∀ d : Int, d = frI t b → ∀ p, H p = none → Q (.ref p) (upd H p (.tup [.int (t.fdiv d), .int (b.fdiv d)])) := by
      intro d e p hp
      subst e
      refine q _ _ (Same.new hp) (dF_mk ?_)
      rw [fr_num hb, fr_den hb]
      exact .inl (.inl upd_same)
    have hd : ∀ d : Int, d = frI t b → CDivX t d ∧ CDivX b d := by
      intro d e
      subst e
      have h1 := Nat.lt_of_le_of_lt (frI_natAbs (t := t) hb) hs
      exact ⟨cdiv (frI_ne hb) h1 (by decide) (by decide), cdiv (frI_ne hb) h1 (by decide) (by decide)⟩
    refine ⟨_, rfl, _, rfl, _, _, rfl, _, rfl, _, _, rfl, rfl, _, rfl, ite2 (fun z => ?_) (fun z => ?_)⟩
    · have z1 : b < 0 := of_decide_eq_true z
      have e : -((Nat.gcd t.natAbs b.natAbs : Nat) : Int) = frI t b := by
        unfold frI
        rw [if_pos z1]
      refine ⟨_, rfl, _, rfl, _, rfl, _, rfl, _, _, rfl, rfl, (hd _ e).1, _, rfl, _, rfl, _, _, rfl, rfl, (hd _ e).2, (show 2 ≤ sizeLine by decide), fun p hp => last _ e p hp⟩
    · have z1 : ¬ b < 0 := fun y => z (decide_eq_true y)
      have e : ((Nat.gcd t.natAbs b.natAbs : Nat) : Int) = frI t b := by
        unfold frI
        rw [if_neg z1]
      refine ⟨_, rfl, _, rfl, _, _, rfl, rfl, (hd _ e).1, _, rfl, _, rfl, _, _, rfl, rfl, (hd _ e).2, (show 2 ≤ sizeLine by decide), fun p hp => last _ e p hp⟩
theorem cl_added (T : Txt K mg) : Cl P w K mg base CX0 2 "added" (spF2 K (fun x y => x + y) (fun x y => True)) := by
  have c_common_divisor := cl_common_divisor (P := P) (w := w) (base := base) T
  refine T.d_added.cl sc_added (fun vs H Q E h => ?_) (fun f cdv A outer s H vs Q E hr h => ?_)
  · obtain ⟨u, v, x, y, n, m, rfl, _⟩ := h
    rfl
  · obtain ⟨u, v, x, y, n, m, rfl, hu, hv, sx, sy, hnm, hc, q⟩ := h
    obtain ⟨a, rfl, h0⟩ := dF_at hu
    obtain ⟨b, rfl, h1⟩ := dF_at hv
    refine ⟨_, (pss_cons (ps_set (i := 2) sc_added.nd rfl (.inl rfl) (pe_cl c_common_divisor hr (by decide) (by rfl) (pa_cons (pe_ix ix_tup (pv 0) pe_int (fun _ _ => rfl)) (pa_cons (pe_ix ix_tup (pv 1) pe_int (fun _ _ => rfl)) pa_nil))))
      (pss_cons (ps_set (i := 3) sc_added.nd rfl (.inl rfl) (pe_op op_add (pe_op op_mulW (pe_ix ix_tup (pv 0) pe_int (fun _ _ => rfl)) (pe_op op_fdivX (pe_ix ix_tup (pv 1) pe_int (fun _ _ => rfl)) (pv 2))) (pe_op op_mulW (pe_ix ix_tup (pv 1) pe_int (fun _ _ => rfl)) (pe_op op_fdivX (pe_ix ix_tup (pv 0) pe_int (fun _ _ => rfl)) (pv 2)))))
      (pss_cons (ps_set (i := 4) sc_added.nd rfl (.inl rfl) (pe_cl c_common_divisor hr (by decide) (by rfl) (pa_cons (pv 3) (pa_cons (pv 2) pa_nil))))
      (pss_one (ps_ret (pe_tup (pa_cons (pe_op op_fdivX (pv 3) (pv 4)) (pa_cons (pe_op op_mulW (pe_op op_fdivX (pe_ix ix_tup (pv 0) pe_int (fun _ _ => rfl)) (pv 2)) (pe_op op_fdivX (pe_ix ix_tup (pv 1) pe_int (fun _ _ => rfl)) (pv 4))) pa_nil)))))))), ?_⟩
    have g0 := sG_pos x y
    have d0 := sD_pos x y
    have gn : ((sG x y : Nat) : Int).natAbs < 2 ^ n := Nat.lt_of_le_of_lt (sG_le x y) sx.den
    have dn : ((sD x y : Nat) : Int).natAbs < 2 ^ n := Nat.lt_of_le_of_lt (sD_le x y) sx.den
    have cg : ∀ i : Int, CDivX i ((sG x y : Nat) : Int) := fun i => cdiv (by omega) gn sx.pos (by omega)
    have cd : ∀ i : Int, CDivX i ((sD x y : Nat) : Int) := fun i => cdiv (by omega) dn sx.pos (by omega)
    have m1 : CMulW x.num (((y.den : Nat) : Int).fdiv ((sG x y : Nat) : Int)) := by
      rw [fdiv_nat]
      exact wide_mul sx.num (Nat.lt_of_le_of_lt (Nat.div_le_self _ _) sy.den) sx.pos sy.pos (by omega)
    have m2 : CMulW y.num (((x.den : Nat) : Int).fdiv ((sG x y : Nat) : Int)) := by
      rw [fdiv_nat]
      exact wide_mul sy.num (Nat.lt_of_le_of_lt (Nat.div_le_self _ _) sx.den) sy.pos sx.pos (by omega)
    have m3 : CMulW (((x.den : Nat) : Int).fdiv ((sG x y : Nat) : Int)) (((y.den : Nat) : Int).fdiv ((sD x y : Nat) : Int)) := by
      rw [fdiv_nat, fdiv_nat]
      exact wide_mul (Nat.lt_of_le_of_lt (Nat.div_le_self _ _) sx.den) (Nat.lt_of_le_of_lt (Nat.div_le_self _ _) sy.den) sx.pos sy.pos (by omega)
    refine ⟨_, rfl, _, _, _, _, rfl, rfl, h0, atI_nat (j := 1) rfl, _, rfl, _, _, _, _, rfl, rfl, h1, atI_nat (j := 1) rfl, _, _, rfl, ?_⟩
    refine ⟨_, rfl, _, _, _, _, rfl, rfl, h0, atI_nat (j := 0) rfl, _, rfl, _, _, _, _, rfl, rfl, h1, atI_nat (j := 1) rfl, _, rfl, _, _, rfl, rfl, cg _, _, _, rfl, rfl, m1, _, rfl, _, _, _, _, rfl, rfl, h1, atI_nat (j := 0) rfl, _, rfl, _, _, _, _, rfl, rfl, h0, atI_nat (j := 1) rfl, _, rfl, _, _, rfl, rfl, cg _, _, _, rfl, rfl, m2, _, _, rfl, rfl, ?_⟩
    have e : x.num * ((y.den : Int).fdiv ((sG x y : Nat) : Int)) + y.num * ((x.den : Int).fdiv ((sG x y : Nat) : Int)) = sT x y := by
      rw [fdiv_nat, fdiv_nat]
      rfl
    refine ⟨.int (sT x y), ?_, .int ((sG x y : Nat) : Int), rfl, _, _, rfl, ?_⟩
    · exact congrArg (fun z => some (some (V.int z))) e
    refine ⟨.int (sT x y), congrArg (fun z => some (some (V.int z))) e, .int ((sD x y : Nat) : Int), rfl, _, _, rfl, rfl, cd _, _, rfl, _, _, _, _, rfl, rfl, h0, atI_nat (j := 1) rfl, .int ((sG x y : Nat) : Int), rfl, _, _, rfl, rfl, cg _, _, rfl, _, _, _, _, rfl, rfl, h1, atI_nat (j := 1) rfl, .int ((sD x y : Nat) : Int), rfl, _, _, rfl, rfl, cd _, _, _, rfl, rfl, m3, (show 2 ≤ sizeLine by decide), fun p hp => ?_⟩
    refine q _ _ (Same.new hp) (dF_mk ?_)
    rw [← sum_num, ← sum_den, ← fdiv_nat, ← fdiv_nat]
    exact .inl (.inl upd_same)
theorem cl_less (T : Txt K mg) : Cl P w K mg base CX0 3 "less" (spF2 K (fun x y => x - y) (fun x y => True)) := by
  have c_added := cl_added (P := P) (w := w) (base := base) T
  refine T.d_less.cl sc_less (fun vs H Q E h => ?_) (fun f cdv A outer s H vs Q E hr h => ?_)
  · obtain ⟨u, v, x, y, n, m, rfl, _⟩ := h
    rfl
  · obtain ⟨u, v, x, y, n, m, rfl, hu, hv, sx, sy, hnm, hc, q⟩ := h
    obtain ⟨b, rfl, h1⟩ := dF_at hv
    refine ⟨_, (pss_one (ps_ret (pe_cl c_added hr (by decide) (by rfl) (pa_cons (pv 0) (pa_cons (pe_tup (pa_cons (pe_un un_neg (pe_ix ix_tup (pv 1) pe_int (fun _ _ => rfl))) (pa_cons (pe_ix ix_tup (pv 1) pe_int (fun _ _ => rfl)) pa_nil))) pa_nil))))), ?_⟩
    refine ⟨_, rfl, _, rfl, _, _, _, _, rfl, rfl, h1, atI_nat (j := 0) rfl, _, rfl, _, rfl, _, _, _, _, rfl, rfl, h1, atI_nat (j := 1) rfl, (show 2 ≤ sizeLine by decide), fun p hp => ?_⟩
    have s1 := Same.new (o := .tup [.int (-y.num), .int (y.den : Int)]) hp
    refine ⟨_, _, x, -y, n, m, rfl, dp_mono s1 _ _ hu, dF_mk (.inl (.inl upd_same)), sx, ⟨by show (-y.num).natAbs < 2 ^ m; rw [Int.natAbs_neg]; exact sy.num, sy.den⟩, hnm, trivial, fun H2 z s2 r2 => ?_⟩
    refine q _ _ (s1.trans s2) ?_
    show Dp K H2 z (dF (x - y))
    rw [Rat.sub_eq_add_neg]
    exact r2
theorem cl_timed (T : Txt K mg) : Cl P w K mg base CX0 3 "timed" (spF2 K (fun x y => x * y) (fun x y => True)) := by
  have c_made := cl_made (P := P) (w := w) (base := base) T
  refine T.d_timed.cl sc_timed (fun vs H Q E h => ?_) (fun f cdv A outer s H vs Q E hr h => ?_)
  · obtain ⟨u, v, x, y, n, m, rfl, _⟩ := h
    rfl
  · obtain ⟨u, v, x, y, n, m, rfl, hu, hv, sx, sy, hnm, hc, q⟩ := h
    obtain ⟨a, rfl, h0⟩ := dF_at hu
    obtain ⟨b, rfl, h1⟩ := dF_at hv
    refine ⟨_, (pss_one (ps_ret (pe_cl c_made hr (by decide) (by rfl) (pa_cons (pe_op op_mulW (pe_ix ix_tup (pv 0) pe_int (fun _ _ => rfl)) (pe_ix ix_tup (pv 1) pe_int (fun _ _ => rfl))) (pa_cons (pe_op op_mulW (pe_ix ix_tup (pv 0) pe_int (fun _ _ => rfl)) (pe_ix ix_tup (pv 1) pe_int (fun _ _ => rfl))) pa_nil))))), ?_⟩
    refine ⟨_, rfl, _, _, _, _, rfl, rfl, h0, atI_nat (j := 0) rfl, _, rfl, _, _, _, _, rfl, rfl, h1, atI_nat (j := 0) rfl, _, _, rfl, rfl, mnn sx sy hnm, _, rfl, _, _, _, _, rfl, rfl, h0, atI_nat (j := 1) rfl, _, rfl, _, _, _, _, rfl, rfl, h1, atI_nat (j := 1) rfl, _, _, rfl, rfl, mdd sx sy hnm, _, _, rfl, ?_, ?_, fun H2 z s2 r2 => ?_⟩
    · exact den_mul_ne x y
    · exact up9 (mul_bits sx.den' sy.den') hnm
    · change Dp K H2 z (dF (Rat.divInt (x.num * y.num) ((x.den : Int) * (y.den : Int)))) at r2
      rw [mul_parts] at r2
      exact q _ _ s2 r2
theorem cl_over (T : Txt K mg) : Cl P w K mg base CX0 3 "over" (spF2 K (fun x y => x / y) (fun x y => y ≠ 0)) := by
  have c_made := cl_made (P := P) (w := w) (base := base) T
  refine T.d_over.cl sc_over (fun vs H Q E h => ?_) (fun f cdv A outer s H vs Q E hr h => ?_)
  · obtain ⟨u, v, x, y, n, m, rfl, _⟩ := h
    rfl
  · obtain ⟨u, v, x, y, n, m, rfl, hu, hv, sx, sy, hnm, hc, q⟩ := h
    obtain ⟨a, rfl, h0⟩ := dF_at hu
    obtain ⟨b, rfl, h1⟩ := dF_at hv
    refine ⟨_, (pss_one (ps_ret (pe_cl c_made hr (by decide) (by rfl) (pa_cons (pe_op op_mulW (pe_ix ix_tup (pv 0) pe_int (fun _ _ => rfl)) (pe_ix ix_tup (pv 1) pe_int (fun _ _ => rfl))) (pa_cons (pe_op op_mulW (pe_ix ix_tup (pv 0) pe_int (fun _ _ => rfl)) (pe_ix ix_tup (pv 1) pe_int (fun _ _ => rfl))) pa_nil))))), ?_⟩
    refine ⟨_, rfl, _, _, _, _, rfl, rfl, h0, atI_nat (j := 0) rfl, _, rfl, _, _, _, _, rfl, rfl, h1, atI_nat (j := 1) rfl, _, _, rfl, rfl, mnd sx sy hnm, _, rfl, _, _, _, _, rfl, rfl, h0, atI_nat (j := 1) rfl, _, rfl, _, _, _, _, rfl, rfl, h1, atI_nat (j := 0) rfl, _, _, rfl, rfl, mdn sx sy hnm, _, _, rfl, ?_, ?_, fun H2 z s2 r2 => ?_⟩
    · exact Int.mul_ne_zero (den_ne x) (num_ne hc)
    · exact up9 (mul_bits sx.den' sy.num) hnm
    · change Dp K H2 z (dF (Rat.divInt (x.num * (y.den : Int)) ((x.den : Int) * y.num))) at r2
      rw [div_parts] at r2
      exact q _ _ s2 r2
theorem cl_Lbegun (T : Txt K mg) : Cl P w K mg base CX0 1 "_law_begun" (spBegun K) := by
  refine T.d_Lbegun.cl sc_Lbegun (fun vs H Q E h => ?_) (fun f cdv A outer s H vs Q E hr h => ?_)
  · obtain ⟨i, j, rfl, _⟩ := h
    rfl
  · obtain ⟨a, ns, rfl, hS, q⟩ := h
    refine ⟨_, (pss_cons (ps_set (i := 1) sc_Lbegun.nd rfl (.inl rfl) pe_int)
      (pss_cons (ps_for PassesOwn.never rfl (pi_list (pv 0)) (pg_name (i := 2) sc_Lbegun.nd rfl (.inl rfl))
        (pss_one (ps_set (i := 1) sc_Lbegun.nd rfl (.inl rfl) (pe_op op_mod (pe_op op_add (pe_op op_add (pe_op op_mul (pv 1) pe_int) (pe_op op_mul (pv 2) pe_int)) pe_int) pe_int))))
      (pss_one (ps_ret (pe_lst (pa_cons (pe_callTy call_list_of (by rfl) T.m_list (by decide +kernel) (pa_cons (pv 0) pa_nil)) (pa_cons (pe_op op_mul (pv 1) (pe_callTy call_int1 (by rfl) T.m_int (by decide +kernel) (pa_cons (pe_cmpR op_gt (pe_callB call_len_seq (by rfl) T.m_len (by decide +kernel) (pa_cons (pv 0) pa_nil)) pe_int (nomark _)) pa_nil))) pa_nil))))))), ?_⟩
    refine ⟨_, rfl, a, rfl, ⟨_, hS⟩, for_list (K := K) (a := a) (xs := ns.map V.int) (fun i σ H' => ∃ (x : Int) (c : Option V), σ = [some (.ref a), some (.int x), c] ∧ H' = H) ⟨0, none, rfl, rfl⟩ (fun i σ H' _ h => ?_) (fun i x σ H' hx h => ?_) (fun σ H' h => ?_)⟩
    · obtain ⟨x, c, rfl, rfl⟩ := h
      exact hS
    · obtain ⟨y, c, rfl, rfl⟩ := h
      obtain ⟨z, hz, rfl⟩ : ∃ z : Int, z ∈ ns ∧ V.int z = x := by
        have := List.mem_of_getElem? hx
        exact List.mem_map.mp this
      refine ⟨_, rfl, _, _, rfl, rfl, .inr ⟨by decide, by decide⟩, _, rfl, _, _, rfl, rfl, .inr ⟨by decide, by decide⟩, _, _, rfl, rfl, _, _, rfl, rfl, _, _, rfl, rfl, (show (0 : Int) < 2147483647 by decide), _, _, rfl, rfl⟩
    · obtain ⟨y, c, rfl, rfl⟩ := h
      refine ⟨_, rfl, a, _, rfl, .inl hS, fun l hl => ?_⟩
      have hS2 : SqL K (upd H' l (.lst (ns.map V.int))) a (ns.map V.int) := (Same.new hl).seq hS
      refine ⟨_, rfl, _, rfl, a, _, rfl, .inl hS2, _, _, rfl, rfl, .inr ⟨_, rfl, _, _, rfl, rfl, .inr ?_, (show 2 ≤ sizeLine by decide), fun b hb => ?_⟩⟩
      · split <;> exact ⟨by decide, by decide⟩
      · refine q _ b l ((Same.new hl).trans (Same.new hb)) ((Same.new hl).free hb) hl ⟨fun e => ?_, ns, _, upd_same, ?_⟩
        · rw [e, upd_same] at hb
          cases hb
        · rw [upd_ne (fun e => ?_), upd_same]
          rw [← e, upd_same] at hb
          cases hb
theorem cl_Ltake (T : Txt K mg) : Cl P w K mg base CX0 1 "_law_take" (spTake K) := by
  refine T.d_Ltake.cl sc_Ltake (fun vs H Q E h => ?_) (fun f cdv A outer s H vs Q E hr h => ?_)
  · obtain ⟨b, l, m, rfl, _⟩ := h
    rfl
  · obtain ⟨b, l, m, rfl, B, m0, m1, q⟩ := h
    obtain ⟨xs, st, hb, hl⟩ := B.ex
    have ne := B.ne
    refine ⟨_, (pss_cons (ps_if (pt_cmpR (op_eqD hr.units) (pe_ix ix_list (pv 0) pe_int (fun _ _ => rfl)) (pe_lst pa_nil) (nomark _))
        (pss_cons (ps_asg (pe_op op_mod (pe_op op_mul (pe_ix ix_list (pv 0) pe_int (fun _ _ => rfl)) pe_int) pe_int) (pg_sub (pv 0) pe_int set_list))
      (pss_one (ps_ret (pe_op op_modN (pe_op op_fdiv (pe_ix ix_list (pv 0) pe_int (fun _ _ => rfl)) pe_int) (pv 1)))))
        pss_nil)
      (pss_cons (ps_set (i := 2) sc_Ltake.nd rfl (.inl rfl) (pe_ix ix_list (pe_ix ix_list (pv 0) pe_int (fun _ _ => rfl)) pe_int (fun _ _ => rfl)))
      (pss_cons (ps_asg (pe_op op_fdivX (pv 2) (pv 1)) (pg_sub (pe_ix ix_list (pv 0) pe_int (fun _ _ => rfl)) pe_int set_list))
      (pss_cons (ps_if (PW.pt (pw_or (pt_cmpR op_eq (pe_ix ix_list (pe_ix ix_list (pv 0) pe_int (fun _ _ => rfl)) pe_int (fun _ _ => rfl)) pe_int (nomark _)) (pw_or1 (pt_cmpR op_eq (pe_ix ix_list (pe_ix ix_list (pv 0) pe_int (fun _ _ => rfl)) pe_int (fun _ _ => rfl)) (pe_un un_neg pe_int) (nomark _)))))
        (pss_one (ps_expr (pe_bm PySem.F.plainAttrs_list PySem.F.slot_list_pop PySem.F.type_list_pop mt_popAt (pe_ix ix_list (pv 0) pe_int (fun _ _ => rfl)) (pa_cons pe_int pa_nil))))
        pss_nil)
      (pss_one (ps_ret (pe_op op_modN (pv 2) (pv 1)))))))), ?_⟩
    refine ⟨_, rfl, _, _, _, _, rfl, rfl, .inl (.inl hb), atI_nat (j := 0) rfl, Nat.zero_le _, fun o no => ?_⟩
    have sH : Same H (upd H o (.lst [])) := Same.new no
    have hb1 := sH _ _ hb
    have hl1 := sH _ _ hl
    have s0 : Same (hid b l H) (hid b l (upd H o (.lst []))) := Same.hid sH
    have he : SqL K (upd H o (.lst [])) o [] := .inl (.inl upd_same)
    generalize upd H o (.lst []) = H1 at hb1 hl1 s0 he ⊢
    refine ⟨.list (xs.map PyData.int), .list [], .lst (.inl (.inl hl1)) (dpa_ints xs), .lst he .nil, shaped_ints xs, rfl, _, rfl, ite2 (fun z => ?_) (fun z => ?_)⟩
    · refine ⟨_, rfl, _, _, _, _, rfl, rfl, .inl (.inl hb1), atI_nat (j := 1) rfl, _, _, rfl, rfl, .inr ⟨by decide, by decide⟩, _, _, rfl, rfl, (show (0 : Int) < 2147483647 by decide), _, rfl, _, _, _, 1, rfl, rfl, hb1, rfl, ?_⟩
      refine ⟨_, rfl, _, _, _, _, rfl, rfl, .inl (.inl upd_same), atI_nat (j := 1) rfl, _, _, rfl, rfl, ⟨by decide, by decide⟩, _, rfl, _, _, rfl, rfl, (by omega), ?_⟩
      refine q _ _ ?_ ⟨ne, xs, _, upd_same, ?_⟩ (fmod_rg m0).1 (fmod_rg m0).2
      · rw [hid_b]
        exact s0
      · rw [upd_ne ne.symm]
        exact hl1
    · cases xs with
      | nil => exact absurd rfl z
      | cons x r =>
        have fin : ∀ H', Same (hid b l H) (hid b l H') → Bx H' b l → Q (.int (x.fmod m)) H' := fun H' s1 B1 => q _ _ s1 B1 (fmod_rg m0).1 (fmod_rg m0).2
        refine ⟨_, rfl, _, _, _, _, rfl, rfl, .inl (.inl hb1), atI_nat (j := 0) rfl, _, _, _, _, rfl, rfl, .inl (.inl hl1), atI_nat (j := 0) rfl, ?_⟩
        refine ⟨_, rfl, _, rfl, _, _, rfl, rfl, cdiv (b := 30) (by omega) (by omega) (by decide) (by decide), _, rfl, _, _, _, _, rfl, rfl, .inl (.inl hb1), atI_nat (j := 0) rfl, _, _, _, 0, rfl, rfl, hl1, ixN0, ?_⟩
        have hb2 : (upd H1 l (.lst ((V.int (x.fdiv m)) :: r.map V.int))) b = some (.lst [.ref l, .int st]) := by
          rw [upd_ne ne]
          exact hb1
        have hl2 : (upd H1 l (.lst ((V.int (x.fdiv m)) :: r.map V.int))) l = some (.lst ((V.int (x.fdiv m)) :: r.map V.int)) := upd_same
        have s2 : Same (hid b l H) (hid b l (upd H1 l (.lst ((V.int (x.fdiv m)) :: r.map V.int)))) := by
          rw [hid_l]
          exact s0
        change tSeq _ _ _ _ (upd H1 l (.lst ((V.int (x.fdiv m)) :: r.map V.int)))
        generalize upd H1 l (.lst ((V.int (x.fdiv m)) :: r.map V.int)) = H2 at hb2 hl2 s2 ⊢
        have pop : ∀ D : Ends, D.nx [some (.ref b), some (.int m), some (.int x)] (upd H2 l (.lst (r.map V.int))) → tDrop (tBM K "list" rPopAt (tOp (rIxL K) (tVar 0) (tC (.int 0))) (tCons (tC (.int 0)) tNil)) D [some (.ref b), some (.int m), some (.int x)] H2 := by
          intro D hD
          exact ⟨_, rfl, _, _, _, _, rfl, rfl, .inl (.inl hb2), atI_nat (j := 0) rfl, .inl ⟨rfl, _, .inl (.inl hl2)⟩, l, _, 0, 0, _, rfl, rfl, hl2, by decide, by decide, (ixN_seq ixN0).1, rfl, hD⟩
        have fin2 : Q (.int (x.fmod m)) (upd H2 l (.lst (r.map V.int))) := by
          refine fin _ ?_ ⟨ne, r, st, ?_, upd_same⟩
          · rw [hid_l]
            exact s2
          · rw [upd_ne ne]
            exact hb2
        refine ⟨_, rfl, _, _, _, _, rfl, rfl, .inl (.inl hb2), atI_nat (j := 0) rfl, _, _, _, _, rfl, rfl, .inl (.inl hl2), atI_nat (j := 0) rfl, rfl, _, rfl, ite2 (fun z => ?_) (fun z => ?_)⟩
        · refine iteT (pop _ ?_)
          exact ⟨_, rfl, _, rfl, _, _, rfl, rfl, (by omega), fin2⟩
        · refine ⟨_, rfl, _, _, _, _, rfl, rfl, .inl (.inl hb2), atI_nat (j := 0) rfl, _, _, _, _, rfl, rfl, .inl (.inl hl2), atI_nat (j := 0) rfl, _, rfl, rfl, _, rfl, ite2 (fun z => ?_) (fun z => ?_)⟩
          · refine pop _ ?_
            exact ⟨_, rfl, _, rfl, _, _, rfl, rfl, (by omega), fin2⟩
          · exact ⟨_, rfl, _, rfl, _, _, rfl, rfl, (by omega), fin _ s2 ⟨ne, x.fdiv m :: r, st, hb2, hl2⟩⟩
theorem cl_Lalike (T : Txt K mg) : ∀ n : Nat, Cl P w K mg base CX0 (n + 1) "_law_alike" (spAlike K n)
  | 0 => by
    refine T.d_Lalike.cl sc_Lalike (fun vs H Q E h => ?_) (fun f cdv A outer s H vs Q E hr h => ?_)
    · obtain ⟨u, v, d, rfl, _⟩ := h
      rfl
    · obtain ⟨u, v, d, rfl, _, _, h, _⟩ := h
      exact absurd h (Nat.not_lt_zero _)
  | n + 1 => by
    have c_Lalike := cl_Lalike T n
    refine T.d_Lalike.cl sc_Lalike (fun vs H Q E h => ?_) (fun f cdv A outer s H vs Q E hr h => ?_)
    · obtain ⟨u, v, d, rfl, _⟩ := h
      rfl
    · obtain ⟨u, v, d, rfl, hu, hv, hd, hz, q⟩ := h
      refine ⟨_, (pss_cons (ps_if (pt_cmpR op_isN (pv 1) pe_non (nomark _))
        (pss_one (ps_ret (pe_cmpR op_isN (pv 0) pe_non (nomark _))))
        pss_nil)
      (pss_cons (ps_if (pt_val (pe_callB call_isi (by rfl) T.m_isinstance (by decide +kernel) (pa_cons (pv 1) (pa_cons (pe_bltn (v := .ty "bool") (by rfl) T.m_bool (by decide +kernel) rfl) pa_nil))))
        (pss_one (ps_ret (pe_and (pe_callB call_isi (by rfl) T.m_isinstance (by decide +kernel) (pa_cons (pv 0) (pa_cons (pe_bltn (v := .ty "bool") (by rfl) T.m_bool (by decide +kernel) rfl) pa_nil))) (pe_one (pe_cmpR op_eq (pv 0) (pv 1) (nomark _))))))
        pss_nil)
      (pss_cons (ps_if (pt_val (pe_callB call_isi (by rfl) T.m_isinstance (by decide +kernel) (pa_cons (pv 1) (pa_cons (pe_bltn (v := .ty "int") (by rfl) T.m_int (by decide +kernel) rfl) pa_nil))))
        (pss_one (ps_ret (pe_and (pe_callB call_isi (by rfl) T.m_isinstance (by decide +kernel) (pa_cons (pv 0) (pa_cons (pe_bltn (v := .ty "int") (by rfl) T.m_int (by decide +kernel) rfl) pa_nil))) (pe_and (pe_not (pe_callB call_isi (by rfl) T.m_isinstance (by decide +kernel) (pa_cons (pv 0) (pa_cons (pe_bltn (v := .ty "bool") (by rfl) T.m_bool (by decide +kernel) rfl) pa_nil)))) (pe_one (pe_cmpR op_eq (pv 0) (pv 1) (nomark _)))))))
        pss_nil)
      (pss_cons (ps_if (pt_val (pe_callB call_isi (by rfl) T.m_isinstance (by decide +kernel) (pa_cons (pv 1) (pa_cons (pe_bltn (v := .ty "str") (by rfl) T.m_str (by decide +kernel) rfl) pa_nil))))
        (pss_one (ps_ret (pe_and (pe_callB call_isi (by rfl) T.m_isinstance (by decide +kernel) (pa_cons (pv 0) (pa_cons (pe_bltn (v := .ty "str") (by rfl) T.m_str (by decide +kernel) rfl) pa_nil))) (pe_one (pe_cmpR op_eq (pv 0) (pv 1) (nomark _))))))
        pss_nil)
      (pss_cons (ps_if (PW.pt (pw_or (pt_cmpR op_ne (pe_callB call_isi (by rfl) T.m_isinstance (by decide +kernel) (pa_cons (pv 1) (pa_cons (pe_bltn (v := .ty "tuple") (by rfl) T.m_tuple (by decide +kernel) rfl) pa_nil))) (pe_callB call_isi (by rfl) T.m_isinstance (by decide +kernel) (pa_cons (pv 0) (pa_cons (pe_bltn (v := .ty "tuple") (by rfl) T.m_tuple (by decide +kernel) rfl) pa_nil))) (nomark _)) (pw_or1 (pt_cmpR op_ne (pe_callB call_isi (by rfl) T.m_isinstance (by decide +kernel) (pa_cons (pv 1) (pa_cons (pe_bltn (v := .ty "list") (by rfl) T.m_list (by decide +kernel) rfl) pa_nil))) (pe_callB call_isi (by rfl) T.m_isinstance (by decide +kernel) (pa_cons (pv 0) (pa_cons (pe_bltn (v := .ty "list") (by rfl) T.m_list (by decide +kernel) rfl) pa_nil))) (nomark _)))))
        (pss_one (ps_ret pe_bl))
        pss_nil)
      (pss_cons (ps_if (pt_cmpR op_ne (pe_callB call_len_seq (by rfl) T.m_len (by decide +kernel) (pa_cons (pv 0) pa_nil)) (pe_callB call_len_seq (by rfl) T.m_len (by decide +kernel) (pa_cons (pv 1) pa_nil)) (nomark _))
        (pss_one (ps_ret pe_bl))
        pss_nil)
      (pss_cons (ps_for PassesOwn.never rfl (pi_range1 (by rfl) T.m_range (pa_cons (pe_callB call_len_seq (by rfl) T.m_len (by decide +kernel) (pa_cons (pv 1) pa_nil)) pa_nil)) (pg_name (i := 2) sc_Lalike.nd rfl (.inl rfl))
        (pss_one (ps_if (pt_not (pt_val (pe_cl c_Lalike hr (Nat.le_refl _) (by rfl) (pa_cons (pe_ix ix_seq (pv 0) (pv 2) (fun _ _ => rfl)) (pa_cons (pe_ix ix_seq (pv 1) (pv 2) (fun _ _ => rfl)) pa_nil)))))
        (pss_one (ps_ret pe_bl))
        pss_nil)))
      (pss_one (ps_ret pe_bl))))))))), ?_⟩
      cases d with
      | none =>
        cases hu
        cases hv
        exact ⟨_, rfl, rfl, _, rfl, iteY rfl ⟨_, rfl, rfl, q⟩⟩
      | bool b =>
        cases hu
        cases hv
        refine ⟨_, rfl, rfl, _, rfl, iteN rfl ?_⟩
        refine ⟨_, rfl, _, _, _, _, _, rfl, .ty _, .base (.bl b), kit_ty (r := true) (by decide +kernel), _, rfl, iteY rfl ?_⟩
        exact ⟨_, rfl, _, _, _, _, _, rfl, .ty _, .base (.bl b), kit_ty (r := true) (by decide +kernel), _, rfl, iteY rfl ⟨_, rfl, _, rfl, rfl, by rw [decide_eq_true rfl]; exact q⟩⟩
      | int i =>
        cases hu
        cases hv
        refine ⟨_, rfl, rfl, _, rfl, iteN rfl ?_⟩
        refine ⟨_, rfl, _, _, _, _, _, rfl, .ty _, .base (.int i), kit_ty (r := false) (by decide +kernel), _, rfl, iteN rfl ?_⟩
        refine ⟨_, rfl, _, _, _, _, _, rfl, .ty _, .base (.int i), kit_ty (r := true) (by decide +kernel), _, rfl, iteY rfl ?_⟩
        refine ⟨_, rfl, _, _, _, _, _, rfl, .ty _, .base (.int i), kit_ty (r := true) (by decide +kernel), _, rfl, iteY rfl ?_⟩
        exact ⟨_, rfl, _, _, _, _, _, rfl, .ty _, .base (.int i), kit_ty (r := false) (by decide +kernel), _, rfl, _, rfl, iteY rfl ⟨_, rfl, _, rfl, rfl, by rw [decide_eq_true rfl]; exact q⟩⟩
      | str x =>
        cases hu
        cases hv
        refine ⟨_, rfl, rfl, _, rfl, iteN rfl ?_⟩
        refine ⟨_, rfl, _, _, _, _, _, rfl, .ty _, .base (.str x), kit_ty (r := false) (by decide +kernel), _, rfl, iteN rfl ?_⟩
        refine ⟨_, rfl, _, _, _, _, _, rfl, .ty _, .base (.str x), kit_ty (r := false) (by decide +kernel), _, rfl, iteN rfl ?_⟩
        refine ⟨_, rfl, _, _, _, _, _, rfl, .ty _, .base (.str x), kit_ty (r := true) (by decide +kernel), _, rfl, iteY rfl ?_⟩
        exact ⟨_, rfl, _, _, _, _, _, rfl, .ty _, .base (.str x), kit_ty (r := true) (by decide +kernel), _, rfl, iteY rfl ⟨_, rfl, _, rfl, rfl, by rw [decide_eq_true rfl]; exact q⟩⟩
      | list ds =>
        cases hu with
        | lst s1 a1 =>
          rename_i a xs
          cases hv with
          | lst s2 a2 =>
            rename_i b ys
            have t1 := tyL s1
            have t2 := tyL s2
            have w1 : SqL K H a xs ∨ SqT K H a xs := .inl s1
            have w2 : SqL K H b ys ∨ SqT K H b ys := .inl s2
            have e1 := dpa_len a1
            have e2 := dpa_len a2
            have hl : ds.length < 2 ^ 62 := of_decide_eq_true (Bool.and_eq_true_iff.mp (show (decide (ds.length < 2 ^ 62) && szAll ds) = true from hz)).1
            have hz2 : szAll ds = true := (Bool.and_eq_true_iff.mp (show (decide (ds.length < 2 ^ 62) && szAll ds) = true from hz)).2
            have hd2 : PyData.depthAll ds < n := Nat.lt_of_succ_lt_succ (show PyData.depthAll ds + 1 < n + 1 from hd)
            refine ⟨_, rfl, rfl, _, rfl, iteN rfl ?_⟩
            refine ⟨_, rfl, _, _, _, _, _, rfl, .ty _, t2, kit_ty (r := false) (by decide +kernel), _, rfl, iteN rfl ?_⟩
            refine ⟨_, rfl, _, _, _, _, _, rfl, .ty _, t2, kit_ty (r := false) (by decide +kernel), _, rfl, iteN rfl ?_⟩
            refine ⟨_, rfl, _, _, _, _, _, rfl, .ty _, t2, kit_ty (r := false) (by decide +kernel), _, rfl, iteN rfl ?_⟩
            refine ⟨_, rfl, _, _, _, _, _, rfl, .ty _, t2, kit_ty (r := false) (by decide +kernel), _, rfl, _, _, _, _, _, rfl, .ty _, t1, kit_ty (r := false) (by decide +kernel), rfl, _, rfl, iteN rfl ?_⟩
            refine ⟨_, rfl, _, _, _, _, _, rfl, .ty _, t2, kit_ty (r := true) (by decide +kernel), _, rfl, _, _, _, _, _, rfl, .ty _, t1, kit_ty (r := true) (by decide +kernel), rfl, _, rfl, iteN rfl ?_⟩
            refine ⟨_, rfl, _, _, rfl, w1, _, rfl, _, _, rfl, w2, rfl, _, rfl, iteN (by rw [e1, e2, decide_eq_true rfl]; rfl) ?_⟩
            refine ⟨_, rfl, _, _, rfl, w2, (ys.length : Int), rfl, (by omega), (by omega), for_range (lo := 0) (n := ys.length) (fun i σ H' => H' = H ∧ ∃ o, σ = [some (.ref a), some (.ref b), o]) ⟨rfl, none, rfl⟩ (fun i σ H' hi h => ?_) (fun σ H' h => ?_)⟩
            · obtain ⟨rfl, o, rfl⟩ := h
              obtain ⟨v1, g1⟩ : ∃ v1, xs[i]? = some v1 := ⟨_, List.getElem?_eq_getElem (show i < xs.length by omega)⟩
              obtain ⟨v2, g2⟩ : ∃ v2, ys[i]? = some v2 := ⟨_, List.getElem?_eq_getElem hi⟩
              obtain ⟨d1, k1, p1⟩ := dpa_at a1 g1
              obtain ⟨d2, k2, p2⟩ := dpa_at a2 g2
              have ed : d1 = d2 := Option.some.inj (k1.symm.trans k2)
              subst ed
              have ei : (0 : Int) + (i : Int) = (i : Int) := Int.zero_add _
              rw [ei]
              refine ⟨_, rfl, _, rfl, rIx_of w1 g1 ?_⟩
              refine ⟨_, rfl, _, rfl, rIx_of w2 g2 ?_⟩
              refine ⟨_, _, d1, rfl, p1, p2, Nat.lt_of_le_of_lt (depth_at k1) hd2, szAll_at hz2 k1, _, rfl, iteN rfl ⟨rfl, _, rfl⟩⟩
            · obtain ⟨rfl, o, rfl⟩ := h
              exact q
      | tuple ds =>
        cases hu with
        | tup s1 a1 =>
          rename_i a xs
          cases hv with
          | tup s2 a2 =>
            rename_i b ys
            have t1 := tyT s1
            have t2 := tyT s2
            have w1 : SqL K H a xs ∨ SqT K H a xs := .inr s1
            have w2 : SqL K H b ys ∨ SqT K H b ys := .inr s2
            have e1 := dpa_len a1
            have e2 := dpa_len a2
            have hl : ds.length < 2 ^ 62 := of_decide_eq_true (Bool.and_eq_true_iff.mp (show (decide (ds.length < 2 ^ 62) && szAll ds) = true from hz)).1
            have hz2 : szAll ds = true := (Bool.and_eq_true_iff.mp (show (decide (ds.length < 2 ^ 62) && szAll ds) = true from hz)).2
            have hd2 : PyData.depthAll ds < n := Nat.lt_of_succ_lt_succ (show PyData.depthAll ds + 1 < n + 1 from hd)
            refine ⟨_, rfl, rfl, _, rfl, iteN rfl ?_⟩
            refine ⟨_, rfl, _, _, _, _, _, rfl, .ty _, t2, kit_ty (r := false) (by decide +kernel), _, rfl, iteN rfl ?_⟩
            refine ⟨_, rfl, _, _, _, _, _, rfl, .ty _, t2, kit_ty (r := false) (by decide +kernel), _, rfl, iteN rfl ?_⟩
            refine ⟨_, rfl, _, _, _, _, _, rfl, .ty _, t2, kit_ty (r := false) (by decide +kernel), _, rfl, iteN rfl ?_⟩
            refine ⟨_, rfl, _, _, _, _, _, rfl, .ty _, t2, kit_ty (r := true) (by decide +kernel), _, rfl, _, _, _, _, _, rfl, .ty _, t1, kit_ty (r := true) (by decide +kernel), rfl, _, rfl, iteN rfl ?_⟩
            refine ⟨_, rfl, _, _, _, _, _, rfl, .ty _, t2, kit_ty (r := false) (by decide +kernel), _, rfl, _, _, _, _, _, rfl, .ty _, t1, kit_ty (r := false) (by decide +kernel), rfl, _, rfl, iteN rfl ?_⟩
            refine ⟨_, rfl, _, _, rfl, w1, _, rfl, _, _, rfl, w2, rfl, _, rfl, iteN (by rw [e1, e2, decide_eq_true rfl]; rfl) ?_⟩
            refine ⟨_, rfl, _, _, rfl, w2, (ys.length : Int), rfl, (by omega), (by omega), for_range (lo := 0) (n := ys.length) (fun i σ H' => H' = H ∧ ∃ o, σ = [some (.ref a), some (.ref b), o]) ⟨rfl, none, rfl⟩ (fun i σ H' hi h => ?_) (fun σ H' h => ?_)⟩
            · obtain ⟨rfl, o, rfl⟩ := h
              obtain ⟨v1, g1⟩ : ∃ v1, xs[i]? = some v1 := ⟨_, List.getElem?_eq_getElem (show i < xs.length by omega)⟩
              obtain ⟨v2, g2⟩ : ∃ v2, ys[i]? = some v2 := ⟨_, List.getElem?_eq_getElem hi⟩
              obtain ⟨d1, k1, p1⟩ := dpa_at a1 g1
              obtain ⟨d2, k2, p2⟩ := dpa_at a2 g2
              have ed : d1 = d2 := Option.some.inj (k1.symm.trans k2)
              subst ed
              have ei : (0 : Int) + (i : Int) = (i : Int) := Int.zero_add _
              rw [ei]
              refine ⟨_, rfl, _, rfl, rIx_of w1 g1 ?_⟩
              refine ⟨_, rfl, _, rfl, rIx_of w2 g2 ?_⟩
              refine ⟨_, _, d1, rfl, p1, p2, Nat.lt_of_le_of_lt (depth_at k1) hd2, szAll_at hz2 k1, _, rfl, iteN rfl ⟨rfl, _, rfl⟩⟩
            · obtain ⟨rfl, o, rfl⟩ := h
              exact q
      | dict _ => cases hu
theorem cl_Lfr (T : Txt K mg) : Cl P w K mg base CX0 1 "_law_fr" (spMade K) := by
  refine T.d_Lfr.cl sc_Lfr (fun vs H Q E h => ?_) (fun f cdv A outer s H vs Q E hr h => ?_)
  · obtain ⟨i, j, rfl, _⟩ := h
    rfl
  · obtain ⟨t, b, rfl, hb, hs, q⟩ := h
    refine ⟨_, (pss_cons (ps_set (i := 2) sc_Lfr.nd rfl (.inl rfl) (pe_callB call_abs (by rfl) T.m_abs (by decide +kernel) (pa_cons (pv 0) pa_nil)))
      (pss_cons (ps_set (i := 3) sc_Lfr.nd rfl (.inl rfl) (pe_callB call_abs (by rfl) T.m_abs (by decide +kernel) (pa_cons (pv 1) pa_nil)))
      (pss_cons (ps_while PassesOwn.never (pt_cmpR op_gt (pv 3) pe_int (nomark _))
        (pss_cons (ps_set (i := 4) sc_Lfr.nd rfl (.inl rfl) (pe_op op_modN (pv 2) (pv 3)))
      (pss_cons (ps_set (i := 2) sc_Lfr.nd rfl (.inl rfl) (pv 3))
      (pss_one (ps_set (i := 3) sc_Lfr.nd rfl (.inl rfl) (pv 4))))))
      (pss_cons (ps_if (pt_cmpR op_lt (pv 1) pe_int (nomark _))
        (pss_one (ps_set (i := 2) sc_Lfr.nd rfl (.inl rfl) (pe_op op_sub pe_int (pv 2))))
        pss_nil)
      (pss_one (ps_ret (pe_tup (pa_cons (pe_op op_fdivX (pv 0) (pv 2)) (pa_cons (pe_op op_fdivX (pv 1) (pv 2)) pa_nil))))))))), ?_⟩
    have last : ∀ d : Int, d = frI t b → ∀ p, H p = none → Q (.ref p) (upd H p (.tup [.int (t.fdiv d), .int (b.fdiv d)])) := by
      intro d e p hp
      subst e
      refine q _ _ (Same.new hp) (dF_mk ?_)
      rw [fr_num hb, fr_den hb]
      exact .inl (.inl upd_same)
    have hd : ∀ d : Int, d = frI t b → CDivX t d ∧ CDivX b d := by
      intro d e
      subst e
      have h1 := Nat.lt_of_le_of_lt (frI_natAbs (t := t) hb) hs
      exact ⟨cdiv (frI_ne hb) h1 (by decide) (by decide), cdiv (frI_ne hb) h1 (by decide) (by decide)⟩
    refine ⟨_, rfl, _, rfl, _, rfl, _, rfl, ?_⟩
    refine while_by (fun σ H' => ∃ (a c : Nat) (o : Option V), σ = [some (.int t), some (.int b), some (.int (a : Int)), some (.int (c : Int)), o] ∧ H' = H ∧ Nat.gcd a c = Nat.gcd t.natAbs b.natAbs) (fun σ _ => match σ with | [_, _, _, some (.int b), _] => b.natAbs | _ => 0) ?_ ?_ ?_
    · refine ⟨t.natAbs, b.natAbs, none, ?_, rfl, rfl⟩
      show [some (V.int t), some (V.int b), some (V.int (if t < 0 then -t else t)), some (V.int (if b < 0 then -b else b)), none] = _
      rw [abs_nat, abs_nat]
    · intro σ H' h
      obtain ⟨a, c, o, rfl, rfl, e⟩ := h
      refine ⟨_, rfl, _, _, rfl, rfl, _, rfl, ite2 (fun z => ?_) (fun z => ?_)⟩
      · have hc : 0 < c := by
          have := of_decide_eq_true z
          omega
        refine ⟨_, rfl, _, rfl, _, _, rfl, rfl, (by omega), _, rfl, _, rfl, ⟨c, a % c, some (V.int ((a : Int).fmod (c : Int))), ?_, rfl, ?_⟩, ?_⟩
        · show [some (V.int t), some (V.int b), some (V.int (c : Int)), some (V.int ((a : Int).fmod (c : Int))), some (V.int ((a : Int).fmod (c : Int)))] = _
          rw [fmod_nat]
        · rw [gcd_turn]
          exact e
        · show Int.natAbs (Int.fmod (a : Int) (c : Int)) < Int.natAbs (c : Int)
          rw [fmod_nat]
          have := Nat.mod_lt a hc
          omega
      · have hc : c = 0 := by
          have z2 : ¬ ((0 : Int) < (c : Int)) := fun y => z (decide_eq_true y)
          omega
        subst hc
        rw [Nat.gcd_zero_right] at e
        refine ⟨_, rfl, _, _, rfl, rfl, _, rfl, ite2 (fun z => ?_) (fun z => ?_)⟩
        · have z1 : b < 0 := of_decide_eq_true z
          have e : 0 - (a : Int) = frI t b := by
            unfold frI
            rw [if_pos z1, ← e]
            omega
          refine ⟨_, rfl, _, _, rfl, rfl, _, rfl, _, rfl, _, _, rfl, rfl, (hd _ e).1, _, rfl, _, rfl, _, _, rfl, rfl, (hd _ e).2, (show 2 ≤ sizeLine by decide), fun p hp => last _ e p hp⟩
        · have z1 : ¬ b < 0 := fun y => z (decide_eq_true y)
          have e : (a : Int) = frI t b := by
            unfold frI
            rw [if_neg z1, ← e]
          refine ⟨_, rfl, _, rfl, _, _, rfl, rfl, (hd _ e).1, _, rfl, _, rfl, _, _, rfl, rfl, (hd _ e).2, (show 2 ≤ sizeLine by decide), fun p hp => last _ e p hp⟩
    · intro σ H' Q1 Q2 h12 h
      obtain ⟨v, e, i, j, e1, e2, k, e3, h⟩ := h
      exact ⟨v, e, i, j, e1, e2, k, e3, h12 _ _ h⟩
theorem cl_Lsum (T : Txt K mg) : Cl P w K mg base CX0 2 "_law_sum" (spF2 K (fun x y => x + y) (fun x y => True)) := by
  have c_Lfr := cl_Lfr (P := P) (w := w) (base := base) T
  refine T.d_Lsum.cl sc_Lsum (fun vs H Q E h => ?_) (fun f cdv A outer s H vs Q E hr h => ?_)
  · obtain ⟨u, v, x, y, n, m, rfl, _⟩ := h
    rfl
  · obtain ⟨u, v, x, y, n, m, rfl, hu, hv, sx, sy, hnm, hc, q⟩ := h
    obtain ⟨a, rfl, h0⟩ := dF_at hu
    obtain ⟨b, rfl, h1⟩ := dF_at hv
    refine ⟨_, (pss_one (ps_ret (pe_cl c_Lfr hr (by decide) (by rfl) (pa_cons (pe_op op_add (pe_op op_mulW (pe_ix ix_tup (pv 0) pe_int (fun _ _ => rfl)) (pe_ix ix_tup (pv 1) pe_int (fun _ _ => rfl))) (pe_op op_mulW (pe_ix ix_tup (pv 1) pe_int (fun _ _ => rfl)) (pe_ix ix_tup (pv 0) pe_int (fun _ _ => rfl)))) (pa_cons (pe_op op_mulW (pe_ix ix_tup (pv 0) pe_int (fun _ _ => rfl)) (pe_ix ix_tup (pv 1) pe_int (fun _ _ => rfl))) pa_nil))))), ?_⟩
    refine ⟨_, rfl, _, _, _, _, rfl, rfl, h0, atI_nat (j := 0) rfl, _, rfl, _, _, _, _, rfl, rfl, h1, atI_nat (j := 1) rfl, _, _, rfl, rfl, mnd sx sy hnm, _, rfl, _, _, _, _, rfl, rfl, h1, atI_nat (j := 0) rfl, _, rfl, _, _, _, _, rfl, rfl, h0, atI_nat (j := 1) rfl, _, _, rfl, rfl, mnd' sx sy hnm, _, _, rfl, rfl, _, rfl, _, _, _, _, rfl, rfl, h0, atI_nat (j := 1) rfl, _, rfl, _, _, _, _, rfl, rfl, h1, atI_nat (j := 1) rfl, _, _, rfl, rfl, mdd sx sy hnm, _, _, rfl, ?_, ?_, fun H2 z s2 r2 => ?_⟩
    · exact den_mul_ne x y
    · exact up9 (mul_bits sx.den' sy.den') hnm
    · change Dp K H2 z (dF (Rat.divInt (x.num * (y.den : Int) + y.num * (x.den : Int)) ((x.den : Int) * (y.den : Int)))) at r2
      rw [add_parts] at r2
      exact q _ _ s2 r2
theorem cl_Lminus (T : Txt K mg) : Cl P w K mg base CX0 2 "_law_minus" (spF2 K (fun x y => x - y) (fun x y => True)) := by
  have c_Lfr := cl_Lfr (P := P) (w := w) (base := base) T
  refine T.d_Lminus.cl sc_Lminus (fun vs H Q E h => ?_) (fun f cdv A outer s H vs Q E hr h => ?_)
  · obtain ⟨u, v, x, y, n, m, rfl, _⟩ := h
    rfl
  · obtain ⟨u, v, x, y, n, m, rfl, hu, hv, sx, sy, hnm, hc, q⟩ := h
    obtain ⟨a, rfl, h0⟩ := dF_at hu
    obtain ⟨b, rfl, h1⟩ := dF_at hv
    refine ⟨_, (pss_one (ps_ret (pe_cl c_Lfr hr (by decide) (by rfl) (pa_cons (pe_op op_sub (pe_op op_mulW (pe_ix ix_tup (pv 0) pe_int (fun _ _ => rfl)) (pe_ix ix_tup (pv 1) pe_int (fun _ _ => rfl))) (pe_op op_mulW (pe_ix ix_tup (pv 1) pe_int (fun _ _ => rfl)) (pe_ix ix_tup (pv 0) pe_int (fun _ _ => rfl)))) (pa_cons (pe_op op_mulW (pe_ix ix_tup (pv 0) pe_int (fun _ _ => rfl)) (pe_ix ix_tup (pv 1) pe_int (fun _ _ => rfl))) pa_nil))))), ?_⟩
    refine ⟨_, rfl, _, _, _, _, rfl, rfl, h0, atI_nat (j := 0) rfl, _, rfl, _, _, _, _, rfl, rfl, h1, atI_nat (j := 1) rfl, _, _, rfl, rfl, mnd sx sy hnm, _, rfl, _, _, _, _, rfl, rfl, h1, atI_nat (j := 0) rfl, _, rfl, _, _, _, _, rfl, rfl, h0, atI_nat (j := 1) rfl, _, _, rfl, rfl, mnd' sx sy hnm, _, _, rfl, rfl, _, rfl, _, _, _, _, rfl, rfl, h0, atI_nat (j := 1) rfl, _, rfl, _, _, _, _, rfl, rfl, h1, atI_nat (j := 1) rfl, _, _, rfl, rfl, mdd sx sy hnm, _, _, rfl, ?_, ?_, fun H2 z s2 r2 => ?_⟩
    · exact den_mul_ne x y
    · exact up9 (mul_bits sx.den' sy.den') hnm
    · change Dp K H2 z (dF (Rat.divInt (x.num * (y.den : Int) - y.num * (x.den : Int)) ((x.den : Int) * (y.den : Int)))) at r2
      rw [sub_parts] at r2
      exact q _ _ s2 r2
theorem cl_Ltimes (T : Txt K mg) : Cl P w K mg base CX0 2 "_law_times" (spF2 K (fun x y => x * y) (fun x y => True)) := by
  have c_Lfr := cl_Lfr (P := P) (w := w) (base := base) T
  refine T.d_Ltimes.cl sc_Ltimes (fun vs H Q E h => ?_) (fun f cdv A outer s H vs Q E hr h => ?_)
  · obtain ⟨u, v, x, y, n, m, rfl, _⟩ := h
    rfl
  · obtain ⟨u, v, x, y, n, m, rfl, hu, hv, sx, sy, hnm, hc, q⟩ := h
    obtain ⟨a, rfl, h0⟩ := dF_at hu
    obtain ⟨b, rfl, h1⟩ := dF_at hv
    refine ⟨_, (pss_one (ps_ret (pe_cl c_Lfr hr (by decide) (by rfl) (pa_cons (pe_op op_mulW (pe_ix ix_tup (pv 0) pe_int (fun _ _ => rfl)) (pe_ix ix_tup (pv 1) pe_int (fun _ _ => rfl))) (pa_cons (pe_op op_mulW (pe_ix ix_tup (pv 0) pe_int (fun _ _ => rfl)) (pe_ix ix_tup (pv 1) pe_int (fun _ _ => rfl))) pa_nil))))), ?_⟩
    refine ⟨_, rfl, _, _, _, _, rfl, rfl, h0, atI_nat (j := 0) rfl, _, rfl, _, _, _, _, rfl, rfl, h1, atI_nat (j := 0) rfl, _, _, rfl, rfl, mnn sx sy hnm, _, rfl, _, _, _, _, rfl, rfl, h0, atI_nat (j := 1) rfl, _, rfl, _, _, _, _, rfl, rfl, h1, atI_nat (j := 1) rfl, _, _, rfl, rfl, mdd sx sy hnm, _, _, rfl, ?_, ?_, fun H2 z s2 r2 => ?_⟩
    · exact den_mul_ne x y
    · exact up9 (mul_bits sx.den' sy.den') hnm
    · change Dp K H2 z (dF (Rat.divInt (x.num * y.num) ((x.den : Int) * (y.den : Int)))) at r2
      rw [mul_parts] at r2
      exact q _ _ s2 r2
theorem cl_Lby (T : Txt K mg) : Cl P w K mg base CX0 2 "_law_by" (spF2 K (fun x y => x / y) (fun x y => y ≠ 0)) := by
  have c_Lfr := cl_Lfr (P := P) (w := w) (base := base) T
  refine T.d_Lby.cl sc_Lby (fun vs H Q E h => ?_) (fun f cdv A outer s H vs Q E hr h => ?_)
  · obtain ⟨u, v, x, y, n, m, rfl, _⟩ := h
    rfl
  · obtain ⟨u, v, x, y, n, m, rfl, hu, hv, sx, sy, hnm, hc, q⟩ := h
    obtain ⟨a, rfl, h0⟩ := dF_at hu
    obtain ⟨b, rfl, h1⟩ := dF_at hv
    refine ⟨_, (pss_one (ps_ret (pe_cl c_Lfr hr (by decide) (by rfl) (pa_cons (pe_op op_mulW (pe_ix ix_tup (pv 0) pe_int (fun _ _ => rfl)) (pe_ix ix_tup (pv 1) pe_int (fun _ _ => rfl))) (pa_cons (pe_op op_mulW (pe_ix ix_tup (pv 0) pe_int (fun _ _ => rfl)) (pe_ix ix_tup (pv 1) pe_int (fun _ _ => rfl))) pa_nil))))), ?_⟩
    refine ⟨_, rfl, _, _, _, _, rfl, rfl, h0, atI_nat (j := 0) rfl, _, rfl, _, _, _, _, rfl, rfl, h1, atI_nat (j := 1) rfl, _, _, rfl, rfl, mnd sx sy hnm, _, rfl, _, _, _, _, rfl, rfl, h0, atI_nat (j := 1) rfl, _, rfl, _, _, _, _, rfl, rfl, h1, atI_nat (j := 0) rfl, _, _, rfl, rfl, mdn sx sy hnm, _, _, rfl, ?_, ?_, fun H2 z s2 r2 => ?_⟩
    · exact Int.mul_ne_zero (den_ne x) (num_ne hc)
    · exact up9 (mul_bits sx.den' sy.num) hnm
    · change Dp K H2 z (dF (Rat.divInt (x.num * (y.den : Int)) ((x.den : Int) * y.num))) at r2
      rw [div_parts] at r2
      exact q _ _ s2 r2
theorem cl_is_below (T : Txt K mg) : Cl P w K mg base CX0 1 "is_below" (spLow K) := by
  refine T.d_is_below.cl sc_is_below (fun vs H Q E h => ?_) (fun f cdv A outer s H vs Q E hr h => ?_)
  · obtain ⟨u, v, x, y, n, m, rfl, _⟩ := h
    rfl
  · obtain ⟨u, v, x, y, n, m, rfl, hu, hv, sx, sy, hnm, q⟩ := h
    obtain ⟨a, rfl, h0⟩ := dF_at hu
    obtain ⟨b, rfl, h1⟩ := dF_at hv
    refine ⟨_, (pss_one (ps_ret (pe_cmpR op_lt (pe_op op_mulW (pe_ix ix_tup (pv 0) pe_int (fun _ _ => rfl)) (pe_ix ix_tup (pv 1) pe_int (fun _ _ => rfl))) (pe_op op_mulW (pe_ix ix_tup (pv 1) pe_int (fun _ _ => rfl)) (pe_ix ix_tup (pv 0) pe_int (fun _ _ => rfl))) (nomark _)))), ?_⟩
    refine ⟨_, rfl, _, _, _, _, rfl, rfl, h0, atI_nat (j := 0) rfl, _, rfl, _, _, _, _, rfl, rfl, h1, atI_nat (j := 1) rfl, _, _, rfl, rfl, mnd sx sy hnm, _, rfl, _, _, _, _, rfl, rfl, h1, atI_nat (j := 0) rfl, _, rfl, _, _, _, _, rfl, rfl, h0, atI_nat (j := 1) rfl, _, _, rfl, rfl, mnd' sx sy hnm, _, _, rfl, rfl, ?_⟩
    show Q (.bl (decide (x.num * (y.den : Int) < y.num * (x.den : Int)))) H
    rw [lt_parts]
    exact q
theorem cl_Llow (T : Txt K mg) : Cl P w K mg base CX0 1 "_law_low" (spLow K) := by
  refine T.d_Llow.cl sc_Llow (fun vs H Q E h => ?_) (fun f cdv A outer s H vs Q E hr h => ?_)
  · obtain ⟨u, v, x, y, n, m, rfl, _⟩ := h
    rfl
  · obtain ⟨u, v, x, y, n, m, rfl, hu, hv, sx, sy, hnm, q⟩ := h
    obtain ⟨a, rfl, h0⟩ := dF_at hu
    obtain ⟨b, rfl, h1⟩ := dF_at hv
    refine ⟨_, (pss_one (ps_ret (pe_cmpR op_lt (pe_op op_mulW (pe_ix ix_tup (pv 0) pe_int (fun _ _ => rfl)) (pe_ix ix_tup (pv 1) pe_int (fun _ _ => rfl))) (pe_op op_mulW (pe_ix ix_tup (pv 1) pe_int (fun _ _ => rfl)) (pe_ix ix_tup (pv 0) pe_int (fun _ _ => rfl))) (nomark _)))), ?_⟩
    refine ⟨_, rfl, _, _, _, _, rfl, rfl, h0, atI_nat (j := 0) rfl, _, rfl, _, _, _, _, rfl, rfl, h1, atI_nat (j := 1) rfl, _, _, rfl, rfl, mnd sx sy hnm, _, rfl, _, _, _, _, rfl, rfl, h1, atI_nat (j := 0) rfl, _, rfl, _, _, _, _, rfl, rfl, h0, atI_nat (j := 1) rfl, _, _, rfl, rfl, mnd' sx sy hnm, _, _, rfl, rfl, ?_⟩
    show Q (.bl (decide (x.num * (y.den : Int) < y.num * (x.den : Int)))) H
    rw [lt_parts]
    exact q
theorem cl_lasting (T : Txt K mg) : Cl P w K mg base CX0 4 "lasting" (spSt K lst3) := by
  have c_over := cl_over (P := P) (w := w) (base := base) T
  have c_less := cl_less (P := P) (w := w) (base := base) T
  refine T.d_lasting.cl sc_lasting (fun vs H Q E h => ?_) (fun f cdv A outer s H vs Q E hr h => ?_)
  · obtain ⟨v, x, N, rfl, _⟩ := h
    rfl
  · obtain ⟨v, x, N, rfl, hv, ok, hN, q⟩ := h
    obtain ⟨a, v1, v2, v3, rfl, h0, d1, d2, d3⟩ := dS_at hv
    refine ⟨_, (pss_cons (ps_asg (pv 0) (pg_tup rfl (pgs_cons (pg_name (i := 1) sc_lasting.nd rfl (.inl rfl)) (pgs_cons (pg_name (i := 2) sc_lasting.nd rfl (.inl rfl)) (pgs_cons (pg_name (i := 3) sc_lasting.nd rfl (.inl rfl)) pgs_nil)))))
      (pss_one (ps_ret (pe_cl c_over hr (by decide) (by rfl) (pa_cons (pe_cl c_less hr (by decide) (by rfl) (pa_cons (pv 2) (pa_cons (pv 1) pa_nil))) (pa_cons (pv 3) pa_nil)))))), ?_⟩
    refine ⟨_, rfl, a, _, rfl, h0, rfl, _, _, rfl, _, _, rfl, _, _, rfl, rfl, ?_⟩
    refine ⟨_, rfl, _, rfl, _, _, _, _, N, N, rfl, d2, d1, ok.e, ok.b, by omega, trivial, fun H1 z1 s1 r1 => ?_⟩
    refine ⟨_, rfl, _, _, _, _, N + N + 1, N, rfl, r1, dp_mono s1 _ _ d3, sz_sub ok.e ok.b, ok.p, by omega, ne_of_pos ok.pos, fun H2 z2 s2 r2 => q _ _ (s1.trans s2) r2⟩
theorem cl_Llast (T : Txt K mg) : Cl P w K mg base CX0 3 "_law_last" (spSt K lst3) := by
  have c_Lby := cl_Lby (P := P) (w := w) (base := base) T
  have c_Lminus := cl_Lminus (P := P) (w := w) (base := base) T
  refine T.d_Llast.cl sc_Llast (fun vs H Q E h => ?_) (fun f cdv A outer s H vs Q E hr h => ?_)
  · obtain ⟨v, x, N, rfl, _⟩ := h
    rfl
  · obtain ⟨v, x, N, rfl, hv, ok, hN, q⟩ := h
    obtain ⟨a, v1, v2, v3, rfl, h0, d1, d2, d3⟩ := dS_at hv
    refine ⟨_, (pss_one (ps_ret (pe_cl c_Lby hr (by decide) (by rfl) (pa_cons (pe_cl c_Lminus hr (by decide) (by rfl) (pa_cons (pe_ix ix_tup (pv 0) pe_int (fun _ _ => rfl)) (pa_cons (pe_ix ix_tup (pv 0) pe_int (fun _ _ => rfl)) pa_nil))) (pa_cons (pe_ix ix_tup (pv 0) pe_int (fun _ _ => rfl)) pa_nil))))), ?_⟩
    refine ⟨_, rfl, _, _, _, _, rfl, rfl, h0, atI_nat (j := 1) rfl, _, rfl, _, _, _, _, rfl, rfl, h0, atI_nat (j := 0) rfl, _, _, _, _, N, N, rfl, d2, d1, ok.e, ok.b, by omega, trivial, fun H1 z1 s1 r1 => ?_⟩
    have h1 := Same.tup s1 h0
    refine ⟨_, rfl, _, _, _, _, rfl, rfl, h1, atI_nat (j := 2) rfl, _, _, _, _, N + N + 1, N, rfl, r1, dp_mono s1 _ _ d3, sz_sub ok.e ok.b, ok.p, by omega, ne_of_pos ok.pos, fun H2 z2 s2 r2 => q _ _ (s1.trans s2) r2⟩
theorem cl_length (T : Txt K mg) : Cl P w K mg base CX0 5 "length" (spLen K) := by
  have c_added := cl_added (P := P) (w := w) (base := base) T
  have c_lasting := cl_lasting (P := P) (w := w) (base := base) T
  obtain ⟨aN, g_NOUGHT, hN⟩ := T.c_NOUGHT
  refine T.d_length.cl sc_length (fun vs H Q E h => ?_) (fun f cdv A outer s H vs Q E hr h => ?_)
  · obtain ⟨v, x, N, rfl, _⟩ := h
    rfl
  · obtain ⟨v, xs, N, rfl, hv, ok, hN2, q⟩ := h
    obtain ⟨a, vs, rfl, h0, ha⟩ := dSh_at hv
    have el : vs.length = xs.length := by rw [dpa_len ha, List.length_map]
    refine ⟨_, (pss_cons (ps_set (i := 1) sc_length.nd rfl (.inl rfl) (pe_gl (by rfl) g_NOUGHT))
      (pss_cons (ps_for PassesOwn.never rfl (pi_list (pv 0)) (pg_name (i := 2) sc_length.nd rfl (.inl rfl))
        (pss_one (ps_set (i := 1) sc_length.nd rfl (.inl rfl) (pe_cl c_added hr (by decide) (by rfl) (pa_cons (pv 1) (pa_cons (pe_cl c_lasting hr (by decide) (by rfl) (pa_cons (pv 2) pa_nil)) pa_nil))))))
      (pss_one (ps_ret (pv 1))))), ?_⟩
    refine ⟨_, rfl, a, rfl, ⟨_, h0⟩, for_list (K := K) (a := a) (xs := vs) (fun i σ H' => ∃ (z : V) (c : Option V), σ = [some (.ref a), some z, c] ∧ Same H H' ∧ Dp K H' z (dF (lenS (xs.take i)))) ⟨_, none, rfl, Same.refl _, dF_mk (hN H)⟩ (fun i σ H' _ h => ?_) (fun i y σ H' hy h => ?_) (fun σ H' h => ?_)⟩
    · obtain ⟨z, c, rfl, s1, d1⟩ := h
      exact s1.seq h0
    · obtain ⟨z, c, rfl, s1, d1⟩ := h
      obtain ⟨x, hx, dx⟩ := dpa_map ha hy
      have okx := ok.each x (List.mem_of_getElem? hx)
      refine ⟨_, rfl, _, rfl, _, x, N, rfl, dp_mono s1 _ _ dx, okx, hN2, fun H2 z2 s2 r2 => ?_⟩
      refine ⟨_, _, _, _, N, 3 * N + 1, rfl, dp_mono s2 _ _ d1, r2, ok.sums i, sz_lst okx, by omega, trivial, fun H3 z3 s3 r3 => ?_⟩
      refine ⟨z3, some y, rfl, (s1.trans s2).trans s3, ?_⟩
      rw [lenS_more hx]
      exact r3
    · obtain ⟨z, c, rfl, s1, d1⟩ := h
      rw [el, List.take_length] at d1
      exact ⟨_, rfl, q _ _ s1 d1⟩
theorem cl_Llong (T : Txt K mg) : Cl P w K mg base CX0 4 "_law_long" (spLen K) := by
  have c_Lsum := cl_Lsum (P := P) (w := w) (base := base) T
  have c_Llast := cl_Llast (P := P) (w := w) (base := base) T
  refine T.d_Llong.cl sc_Llong (fun vs H Q E h => ?_) (fun f cdv A outer s H vs Q E hr h => ?_)
  · obtain ⟨v, x, N, rfl, _⟩ := h
    rfl
  · obtain ⟨v, xs, N, rfl, hv, ok, hN2, q⟩ := h
    obtain ⟨a, vs, rfl, h0, ha⟩ := dSh_at hv
    have el : vs.length = xs.length := by rw [dpa_len ha, List.length_map]
    refine ⟨_, (pss_cons (ps_set (i := 1) sc_Llong.nd rfl (.inl rfl) (pe_tup (pa_cons pe_int (pa_cons pe_int pa_nil))))
      (pss_cons (ps_for PassesOwn.never rfl (pi_list (pv 0)) (pg_name (i := 2) sc_Llong.nd rfl (.inl rfl))
        (pss_one (ps_set (i := 1) sc_Llong.nd rfl (.inl rfl) (pe_cl c_Lsum hr (by decide) (by rfl) (pa_cons (pv 1) (pa_cons (pe_cl c_Llast hr (by decide) (by rfl) (pa_cons (pv 2) pa_nil)) pa_nil))))))
      (pss_one (ps_ret (pv 1))))), ?_⟩
    refine ⟨(show 2 ≤ sizeLine by decide), fun p hp => ?_⟩
    have s0 := Same.new (o := .tup [.int 0, .int 1]) hp
    have z0 : Dp K (upd H p (.tup [.int 0, .int 1])) (.ref p) (dF (lenS (xs.take 0))) := dF_mk (.inl (.inl upd_same))
    refine ⟨_, rfl, a, rfl, ⟨_, s0.seq h0⟩, for_list (K := K) (a := a) (xs := vs) (fun i σ H' => ∃ (z : V) (c : Option V), σ = [some (.ref a), some z, c] ∧ Same H H' ∧ Dp K H' z (dF (lenS (xs.take i)))) ⟨_, none, rfl, s0, z0⟩ (fun i σ H' _ h => ?_) (fun i y σ H' hy h => ?_) (fun σ H' h => ?_)⟩
    · obtain ⟨z, c, rfl, s1, d1⟩ := h
      exact s1.seq h0
    · obtain ⟨z, c, rfl, s1, d1⟩ := h
      obtain ⟨x, hx, dx⟩ := dpa_map ha hy
      have okx := ok.each x (List.mem_of_getElem? hx)
      refine ⟨_, rfl, _, rfl, _, x, N, rfl, dp_mono s1 _ _ dx, okx, hN2, fun H2 z2 s2 r2 => ?_⟩
      refine ⟨_, _, _, _, N, 3 * N + 1, rfl, dp_mono s2 _ _ d1, r2, ok.sums i, sz_lst okx, by omega, trivial, fun H3 z3 s3 r3 => ?_⟩
      refine ⟨z3, some y, rfl, (s1.trans s2).trans s3, ?_⟩
      rw [lenS_more hx]
      exact r3
    · obtain ⟨z, c, rfl, s1, d1⟩ := h
      rw [el, List.take_length] at d1
      exact ⟨_, rfl, q _ _ s1 d1⟩
theorem cl_timetable (T : Txt K mg) : Cl P w K mg base CX0 5 "timetable" (spTab K) := by
  have c_added := cl_added (P := P) (w := w) (base := base) T
  have c_lasting := cl_lasting (P := P) (w := w) (base := base) T
  obtain ⟨aN, g_NOUGHT, hN⟩ := T.c_NOUGHT
  refine T.d_timetable.cl sc_timetable (fun vs H Q E h => ?_) (fun f cdv A outer s H vs Q E hr h => ?_)
  · obtain ⟨v, x, N, rfl, _⟩ := h
    rfl
  · obtain ⟨v, xs, N, rfl, hv, ok, hN2, hn, q⟩ := h
    obtain ⟨a, vs, rfl, h0, ha⟩ := dSh_at hv
    have el : vs.length = xs.length := by rw [dpa_len ha, List.length_map]
    refine ⟨_, (pss_cons (ps_set (i := 1) sc_timetable.nd rfl (.inl rfl) (pe_lst pa_nil))
      (pss_cons (ps_set (i := 2) sc_timetable.nd rfl (.inl rfl) (pe_gl (by rfl) g_NOUGHT))
      (pss_cons (ps_for PassesOwn.never rfl (pi_list (pv 0)) (pg_name (i := 3) sc_timetable.nd rfl (.inl rfl))
        (pss_cons (ps_set (i := 4) sc_timetable.nd rfl (.inl rfl) (pe_cl c_added hr (by decide) (by rfl) (pa_cons (pv 2) (pa_cons (pe_cl c_lasting hr (by decide) (by rfl) (pa_cons (pv 3) pa_nil)) pa_nil))))
      (pss_cons (ps_expr (pe_bm PySem.F.plainAttrs_list PySem.F.slot_list_append PySem.F.type_list_append mt_append (pv 1) (pa_cons (pe_tup (pa_cons (pv 2) (pa_cons (pv 4) (pa_cons (pv 3) pa_nil)))) pa_nil)))
      (pss_one (ps_set (i := 2) sc_timetable.nd rfl (.inl rfl) (pv 4))))))
      (pss_one (ps_ret (pv 1)))))), ?_⟩
    refine ⟨Nat.zero_le _, fun r hr0 => ?_⟩
    have s0 := Same.new (o := .lst []) hr0
    refine ⟨_, rfl, a, rfl, ⟨_, s0.seq h0⟩, for_list (K := K) (a := a) (xs := vs) (fun i σ H' => ∃ (z : V) (c d : Option V) (ys : List V), σ = [some (.ref a), some (.ref r), some z, c, d] ∧ Same H H' ∧ H' r = some (.lst ys) ∧ Dp K H' z (dF (lenS (xs.take i))) ∧ DpAll K (hid r r H') ys (((tabF 0 xs).take i).map dRow)) ⟨_, none, none, [], rfl, s0, upd_same, dF_mk (hN _), .nil⟩ (fun i σ H' _ h => ?_) (fun i y σ H' hy h => ?_) (fun σ H' h => ?_)⟩
    · obtain ⟨z, c, d, ys, rfl, s1, hr1, d1, da⟩ := h
      exact s1.seq h0
    · obtain ⟨z, c, d, ys, rfl, s1, hr1, d1, da⟩ := h
      obtain ⟨x, hx, dx⟩ := dpa_map ha hy
      have okx := ok.each x (List.mem_of_getElem? hx)
      refine ⟨_, rfl, _, rfl, _, x, N, rfl, dp_mono s1 _ _ dx, okx, hN2, fun H2 z2 s2 r2 => ?_⟩
      refine ⟨_, _, _, _, N, 3 * N + 1, rfl, dp_mono s2 _ _ d1, r2, ok.sums i, sz_lst okx, by omega, trivial, fun H3 z3 s3 r3 => ?_⟩
      have hr3 := s3 _ _ (s2 _ _ hr1)
      refine ⟨_, rfl, .inl ⟨rfl, _, .inl (.inl hr3)⟩, _, rfl, _, rfl, _, rfl, (show 3 ≤ sizeLine by decide), fun p hp => ?_⟩
      have s4 := Same.new (o := .tup [z, z3, y]) hp
      have hr4 := s4 _ _ hr3
      have s14 := ((s1.trans s2).trans s3).trans s4
      have il : IsL (upd H3 p (.tup [z, z3, y])) r := ⟨_, hr4⟩
      have hlen : ys.length = i := by
        have := dpa_len da
        rw [List.length_map, List.length_take, tabF_len] at this
        have hi : i < xs.length := by
          obtain ⟨hh, _⟩ := List.getElem?_eq_some_iff.mp hx
          exact hh
        omega
      have hi : i < xs.length := by
        obtain ⟨hh, _⟩ := List.getElem?_eq_some_iff.mp hx
        exact hh
      have row : Dp K (hid r r (upd H3 p (.tup [z, z3, y]))) (.ref p) (dRow (0 + lenS (xs.take i), 0 + lenS (xs.take (i + 1)), x)) := by
        refine dRow_mk (hid_tupL il il (.inl (.inl upd_same))) (dp_hid il il _ _ rfl ?_) (dp_hid il il _ _ rfl ?_) (dp_mono (hid_old s14 hr0) _ _ dx)
        · show Dp K _ z (dF (0 + lenS (xs.take i)))
          rw [Rat.zero_add]
          exact dp_mono ((s2.trans s3).trans s4) _ _ d1
        · show Dp K _ z3 (dF (0 + lenS (xs.take (i + 1))))
          rw [Rat.zero_add, lenS_more hx]
          exact dp_mono s4 _ _ r3
      refine ⟨r, ys, _, rfl, rfl, hr4, small1000 (by omega), ?_⟩
      refine ⟨_, rfl, z3, some y, some z3, ys ++ [.ref p], rfl, ?_, upd_same, ?_, ?_⟩
      · intro b o hb
        rw [upd_ne (ne_of_none hb hr0)]
        exact s14 _ _ hb
      · rw [lenS_more hx]
        obtain ⟨az, rfl, hz⟩ := dF_at r3
        have h5 := hid_tupL (b := r) (l := r) il il (Same.tup s4 hz)
        rw [← hid_b (o := .lst (ys ++ [.ref p]))] at h5
        exact dF_mk (Same.tup hid_same h5)
      · rw [hid_b, take_more (show (tabF 0 xs)[i]? = some (0 + lenS (xs.take i), 0 + lenS (xs.take (i + 1)), x) by rw [tabF_get, hx]; rfl), List.map_append]
        refine dpa_snoc (dpa_mono ?_ _ _ da) row
        exact Same.hid ((s2.trans s3).trans s4)
    · obtain ⟨z, c, d, ys, rfl, s1, hr1, d1, da⟩ := h
      rw [el, List.take_of_length_le (by rw [tabF_len]; exact Nat.le_refl _)] at da
      exact ⟨_, rfl, q _ r ys s1 hr0 hr1 (dpa_mono hid_same _ _ da)⟩
theorem cl_place_in (T : Txt K mg) : Cl P w K mg base CX0 4 "place_in" (spPlace K) := by
  have c_added := cl_added (P := P) (w := w) (base := base) T
  have c_timed := cl_timed (P := P) (w := w) (base := base) T
  refine T.d_place_in.cl sc_place_in (fun vs H Q E h => ?_) (fun f cdv A outer s H vs Q E hr h => ?_)
  · obtain ⟨v, u, x, t, N, rfl, _⟩ := h
    rfl
  · obtain ⟨v, u, x, t, N, rfl, hv, hu, ok, st, hN, q⟩ := h
    obtain ⟨a, v1, v2, v3, rfl, h0, d1, d2, d3⟩ := dS_at hv
    refine ⟨_, (pss_cons (ps_asg (pv 0) (pg_tup rfl (pgs_cons (pg_name (i := 2) sc_place_in.nd rfl (.inl rfl)) (pgs_cons (pg_name (i := 3) sc_place_in.nd rfl (.inl rfl)) (pgs_cons (pg_name (i := 4) sc_place_in.nd rfl (.inl rfl)) pgs_nil)))))
      (pss_one (ps_ret (pe_cl c_added hr (by decide) (by rfl) (pa_cons (pv 2) (pa_cons (pe_cl c_timed hr (by decide) (by rfl) (pa_cons (pv 1) (pa_cons (pv 4) pa_nil))) pa_nil)))))), ?_⟩
    refine ⟨_, rfl, a, _, rfl, h0, rfl, _, _, rfl, _, _, rfl, _, _, rfl, rfl, ?_⟩
    refine ⟨_, rfl, _, rfl, _, rfl, _, _, _, _, 2 * N + 1, N, rfl, hu, d3, st, ok.p, by omega, trivial, fun H1 z1 s1 r1 => ?_⟩
    refine ⟨_, _, _, _, N, 2 * N + 1 + N, rfl, dp_mono s1 _ _ d1, r1, ok.b, sz_mul st ok.p, by omega, trivial, fun H2 z2 s2 r2 => q _ _ (s1.trans s2) r2⟩
theorem cl_smaller (T : Txt K mg) : Cl P w K mg base CX0 2 "smaller" (spPick K (fun x y => decide (y < x))) := by
  have c_is_below := cl_is_below (P := P) (w := w) (base := base) T
  refine T.d_smaller.cl sc_smaller (fun vs H Q E h => ?_) (fun f cdv A outer s H vs Q E hr h => ?_)
  · obtain ⟨u, v, x, y, n, m, rfl, _⟩ := h
    rfl
  · obtain ⟨u, v, x, y, n, m, rfl, hu, hv, sx, sy, hnm, q⟩ := h
    refine ⟨_, (pss_one (ps_ret (pe_ifExp (pt_val (pe_cl c_is_below hr (by decide) (by rfl) (pa_cons (pv 1) (pa_cons (pv 0) pa_nil)))) (pv 1) (pv 0)))), ?_⟩
    refine ⟨_, rfl, _, rfl, _, _, y, x, m, n, rfl, hv, hu, sy, sx, by omega, _, rfl, ite2 (fun z => ?_) (fun z => ?_)⟩
    · rw [if_pos z] at q
      exact ⟨_, rfl, q⟩
    · rw [if_neg z] at q
      exact ⟨_, rfl, q⟩
theorem cl_larger (T : Txt K mg) : Cl P w K mg base CX0 2 "larger" (spPick K (fun x y => decide (x < y))) := by
  have c_is_below := cl_is_below (P := P) (w := w) (base := base) T
  refine T.d_larger.cl sc_larger (fun vs H Q E h => ?_) (fun f cdv A outer s H vs Q E hr h => ?_)
  · obtain ⟨u, v, x, y, n, m, rfl, _⟩ := h
    rfl
  · obtain ⟨u, v, x, y, n, m, rfl, hu, hv, sx, sy, hnm, q⟩ := h
    refine ⟨_, (pss_one (ps_ret (pe_ifExp (pt_val (pe_cl c_is_below hr (by decide) (by rfl) (pa_cons (pv 0) (pa_cons (pv 1) pa_nil)))) (pv 1) (pv 0)))), ?_⟩
    refine ⟨_, rfl, _, rfl, _, _, x, y, n, m, rfl, hu, hv, sx, sy, by omega, _, rfl, ite2 (fun z => ?_) (fun z => ?_)⟩
    · rw [if_pos z] at q
      exact ⟨_, rfl, q⟩
    · rw [if_neg z] at q
      exact ⟨_, rfl, q⟩
theorem cl_piece (T : Txt K mg) : Cl P w K mg base CX0 5 "piece" (spPiece K) := by
  have c_place_in := cl_place_in (P := P) (w := w) (base := base) T
  refine T.d_piece.cl sc_piece (fun vs H Q E h => ?_) (fun f cdv A outer s H vs Q E hr h => ?_)
  · obtain ⟨v, u1, u2, x, t1, t2, N, rfl, _⟩ := h
    rfl
  · obtain ⟨v, u1, u2, x, t1, t2, N, rfl, hv, h1, h2, ok, st1, st2, hN, q⟩ := h
    refine ⟨_, (pss_one (ps_ret (pe_tup (pa_cons (pe_cl c_place_in hr (by decide) (by rfl) (pa_cons (pv 0) (pa_cons (pv 1) pa_nil))) (pa_cons (pe_cl c_place_in hr (by decide) (by rfl) (pa_cons (pv 0) (pa_cons (pv 2) pa_nil))) (pa_cons (pe_ix ix_tup (pv 0) pe_int (fun _ _ => rfl)) pa_nil)))))), ?_⟩
    refine ⟨_, rfl, _, rfl, _, _, x, t1, N, rfl, hv, h1, ok, st1, hN, fun H1 z1 s1 r1 => ?_⟩
    refine ⟨_, rfl, _, rfl, _, _, x, t2, N, rfl, dp_mono s1 _ _ hv, dp_mono s1 _ _ h2, ok, st2, hN, fun H2 z2 s2 r2 => ?_⟩
    have hv2 := dp_mono (s1.trans s2) _ _ hv
    obtain ⟨a, v1, v2, v3, rfl, h0, d1, d2, d3⟩ := dS_at hv2
    refine ⟨_, rfl, _, _, _, _, rfl, rfl, h0, atI_nat (j := 2) rfl, (show 3 ≤ sizeLine by decide), fun p hp => ?_⟩
    have s3 := Same.new (o := .tup [z1, z2, v3]) hp
    exact q _ _ ((s1.trans s2).trans s3) (dS_mk (.inl (.inl upd_same)) (dp_mono (s2.trans s3) _ _ r1) (dp_mono s3 _ _ r2) (dp_mono s3 _ _ d3))
theorem cl_normal (T : Txt K mg) : Cl P w K mg base CX0 1 "normal" (spNorm K) := by
  refine T.d_normal.cl sc_normal (fun vs H Q E h => ?_) (fun f cdv A outer s H vs Q E hr h => ?_)
  · obtain ⟨v, xs, rfl, _⟩ := h
    rfl
  · obtain ⟨v, xs, rfl, hv, hn, q⟩ := h
    obtain ⟨a, vs, rfl, h0, ha⟩ := dSh_at hv
    have el : vs.length = xs.length := by rw [dpa_len ha, List.length_map]
    refine ⟨_, (pss_cons (ps_set (i := 1) sc_normal.nd rfl (.inl rfl) (pe_lst pa_nil))
      (pss_cons (ps_for PassesOwn.never rfl (pi_list (pv 0)) (pg_tup rfl (pgs_cons (pg_name (i := 2) sc_normal.nd rfl (.inl rfl)) (pgs_cons (pg_name (i := 3) sc_normal.nd rfl (.inl rfl)) (pgs_cons (pg_name (i := 4) sc_normal.nd rfl (.inl rfl)) pgs_nil))))
        (pss_cons (ps_set (i := 5) sc_normal.nd rfl (.inl rfl) (pv 2))
      (Evl.pss_cut (ps_if (PW.pt (pw_and (pt_truth (pv 1) (by intro _; rfl)) (pw_and (pt_cmpR (op_eqD hr.units) (pe_ix ix_tup (pe_ix ix_list (pv 1) (pe_un un_neg pe_int) (fun _ _ => rfl)) pe_int (fun _ _ => rfl)) (pv 2) (nomark _)) (pw_and1 (pt_cmpR (op_eqD hr.units) (pe_ix ix_tup (pe_ix ix_list (pv 1) (pe_un un_neg pe_int) (fun _ _ => rfl)) pe_int (fun _ _ => rfl)) (pv 4) (nomark _))))))
        (pss_one (ps_set (i := 5) sc_normal.nd rfl (.inl rfl) (pe_ix ix_tup (pe_bm0 PySem.F.plainAttrs_list PySem.F.slot_list_pop PySem.F.type_list_pop mt_pop (pv 1)) pe_int (fun _ _ => rfl))))
        pss_nil)
      (pss_one (ps_expr (pe_bm PySem.F.plainAttrs_list PySem.F.slot_list_append PySem.F.type_list_append mt_append (pv 1) (pa_cons (pe_tup (pa_cons (pv 5) (pa_cons (pv 3) (pa_cons (pv 4) pa_nil)))) pa_nil)))))))
      (pss_one (ps_ret (pv 1))))), ?_⟩
    refine ⟨Nat.zero_le _, fun r hr0 => ?_⟩
    have s0 := Same.new (o := .lst []) hr0
    refine ⟨_, rfl, a, rfl, ⟨_, s0.seq h0⟩, for_list (K := K) (a := a) (xs := vs) (fun i σ H' => ∃ (c1 c2 c3 c4 : Option V) (ys : List V), σ = [some (.ref a), some (.ref r), c1, c2, c3, c4] ∧ Same H H' ∧ H' r = some (.lst ys) ∧ ys.length ≤ i ∧ DpAll K H' ys ((normM (xs.take i)).map dS)) ⟨none, none, none, none, [], rfl, s0, upd_same, Nat.le_refl _, .nil⟩ (fun i σ H' _ h => ?_) (fun i y σ H' hy h => ?_) (fun σ H' h => ?_)⟩
    · obtain ⟨c1, c2, c3, c4, ys, rfl, s1, hr1, hl, da⟩ := h
      exact s1.seq h0
    · obtain ⟨c1, c2, c3, c4, ys, rfl, s1, hr1, hl, da⟩ := h
      obtain ⟨x, hx, dx⟩ := dpa_map ha hy
      have hi : i < xs.length := (List.getElem?_eq_some_iff.mp hx).1
      obtain ⟨p, v1, v2, v3, rfl, hp, d1, d2, d3⟩ := dS_at (dp_mono s1 _ _ dx)
      refine ⟨p, _, rfl, hp, rfl, _, _, rfl, _, _, rfl, _, _, rfl, rfl, ?_⟩
      refine ⟨_, rfl, ?_⟩
      rw [normM_more hx]
      refine ⟨fun σ' H'' => ∃ (fv : V) (fb : Rat) (pre : List St3) (ys2 : List V), σ' = [some (.ref a), some (.ref r), some v1, some v2, some v3, some fv] ∧ Same H H'' ∧ H'' r = some (.lst ys2) ∧ ys2.length ≤ i ∧ DpAll K H'' ys2 (pre.map dS) ∧ Dp K H'' fv (dF fb) ∧ Dp K H'' v2 (dF x.2.1) ∧ Dp K H'' v3 (dF x.2.2) ∧ nstep (normM (xs.take i)) x = pre ++ [(fb, x.2.1, x.2.2)], ?_, fun σ' H'' hM => ?_⟩
      · rcases nstep_cases (normM (xs.take i)) x with ⟨e0, e1⟩ | ⟨pre, l, e0, e1⟩
        · rw [e0] at da
          cases da
          refine ⟨_, rfl, false, .inl ⟨[], .inl (.inl hr1), rfl⟩, iteN rfl ?_⟩
          refine iteN rfl ⟨v1, x.1, [], [], rfl, s1, hr1, Nat.zero_le _, .nil, d1, d2, d3, e1⟩
        · have da0 := da
          rw [e0, List.map_append] at da
          obtain ⟨ys', lv, rfl, da', dl⟩ := dpa_split da
          obtain ⟨pl, l1, l2, l3, rfl, hpl, dl1, dl2, dl3⟩ := dS_at dl
          have sq : SqL K H' r (ys' ++ [.ref pl]) := .inl (.inl hr1)
          refine ⟨_, rfl, true, .inl ⟨_, sq, ?_⟩, iteY rfl ?_⟩
          · cases ys' <;> rfl
          refine ⟨_, rfl, _, rfl, _, _, _, _, rfl, rfl, sq, atI_last _ _, _, _, _, _, rfl, rfl, hpl, atI_nat (j := 1) rfl, _, rfl, ?_⟩
          refine ⟨_, _, dl2, d1, shaped_dF _, shaped_dF _, _, rfl, ?_⟩
          rw [eqv_dF]
          by_cases c1 : l.2.1 = x.1
          · rw [decide_eq_true c1]
            refine iteY rfl ?_
            refine ⟨_, rfl, _, rfl, _, _, _, _, rfl, rfl, sq, atI_last _ _, _, _, _, _, rfl, rfl, hpl, atI_nat (j := 2) rfl, _, rfl, ?_⟩
            refine ⟨_, _, dl3, d3, shaped_dF _, shaped_dF _, _, rfl, ?_⟩
            rw [eqv_dF]
            by_cases c2 : l.2.2 = x.2.2
            · rw [decide_eq_true c2]
              refine iteY rfl ?_
              have Lr : IsL H' r := ⟨_, hr1⟩
              have hpl2 : SqT K (upd H' r (.lst (ys' ++ [V.ref pl]).dropLast)) pl [l1, l2, l3] := Same.tup hid_same (by rw [hid_b]; exact hid_tupL Lr Lr hpl)
              refine ⟨_, rfl, .inl ⟨rfl, _, sq⟩, r, _, .ref pl, rfl, rfl, hr1, ?_, ?_⟩
              · rw [List.length_append]
                show (ys' ++ [V.ref pl])[ys'.length + 1 - 1]? = _
                rw [Nat.add_sub_cancel]
                simp
              refine ⟨_, _, _, _, rfl, rfl, hpl2, atI_nat (j := 0) rfl, l1, l.1, pre, ys', rfl, ?_, ?_, ?_, ?_, ?_, ?_, ?_, ?_⟩
              · intro b o hb
                rw [upd_ne (ne_of_none hb hr0)]
                exact s1 _ _ hb
              · rw [upd_same, List.dropLast_concat]
              · rw [List.length_append] at hl
                simp at hl
                omega
              · exact keepAU da' (tupA_dS _) Lr
              · exact keepU dl1 rfl Lr
              · exact keepU d2 rfl Lr
              · exact keepU d3 rfl Lr
              · rcases e1 with ⟨_, _, e1⟩ | ⟨z, _⟩
                · exact e1
                · exact absurd ⟨c1, c2⟩ z
            · rw [decide_eq_false c2]
              refine iteN rfl ⟨v1, x.1, normM (xs.take i), ys' ++ [.ref pl], rfl, s1, hr1, hl, da0, d1, d2, d3, ?_⟩
              rcases e1 with ⟨_, z, _⟩ | ⟨_, e1⟩
              · exact absurd z c2
              · exact e1
          · rw [decide_eq_false c1]
            refine iteN rfl (iteN rfl ⟨v1, x.1, normM (xs.take i), ys' ++ [.ref pl], rfl, s1, hr1, hl, da0, d1, d2, d3, ?_⟩)
            rcases e1 with ⟨z, _, _⟩ | ⟨_, e1⟩
            · exact absurd z c1
            · exact e1
      · obtain ⟨fv, fb, pre, ys2, rfl, s2, hr2, hl2, da2, d0, d2, d3, e1⟩ := hM
        refine ⟨_, rfl, .inl ⟨rfl, _, .inl (.inl hr2)⟩, _, rfl, _, rfl, _, rfl, (show 3 ≤ sizeLine by decide), fun t ht => ?_⟩
        have s3 := Same.new (o := .tup [fv, v2, v3]) ht
        have hr3 := s3 _ _ hr2
        have Lr : IsL (upd H'' t (.tup [fv, v2, v3])) r := ⟨_, hr3⟩
        refine ⟨r, ys2, _, rfl, rfl, hr3, small1000 (by omega), ?_⟩
        refine ⟨some v1, some v2, some v3, some fv, ys2 ++ [.ref t], rfl, ?_, upd_same, ?_, ?_⟩
        · intro b o hb
          rw [upd_ne (ne_of_none hb hr0)]
          exact s3 _ _ (s2 _ _ hb)
        · rw [List.length_append]
          show ys2.length + 1 ≤ i + 1
          omega
        · rw [e1, List.map_append]
          refine dpa_snoc (keepAU (dpa_mono s3 _ _ da2) (tupA_dS _) Lr) (keepU (d := dS (fb, x.2.1, x.2.2)) ?_ rfl Lr)
          exact dS_mk (.inl (.inl upd_same)) (dp_mono s3 _ _ d0) (dp_mono s3 _ _ d2) (dp_mono s3 _ _ d3)
    · obtain ⟨c1, c2, c3, c4, ys, rfl, s1, hr1, hl, da⟩ := h
      rw [el, List.take_length] at da
      exact ⟨_, rfl, q _ r ys s1 hr0 hr1 da⟩
theorem cl_Lone (T : Txt K mg) : Cl P w K mg base CX0 1 "_law_one" (spNorm K) := by
  refine T.d_Lone.cl sc_Lone (fun vs H Q E h => ?_) (fun f cdv A outer s H vs Q E hr h => ?_)
  · obtain ⟨v, xs, rfl, _⟩ := h
    rfl
  · obtain ⟨v, xs, rfl, hv, hn, q⟩ := h
    obtain ⟨a, vs, rfl, h0, ha⟩ := dSh_at hv
    have el : vs.length = xs.length := by rw [dpa_len ha, List.length_map]
    refine ⟨_, (pss_cons (ps_set (i := 1) sc_Lone.nd rfl (.inl rfl) (pe_lst pa_nil))
      (pss_cons (ps_for PassesOwn.never rfl (pi_list (pv 0)) (pg_name (i := 2) sc_Lone.nd rfl (.inl rfl))
        (Evl.pss_cut (ps_if (PW.pt (pw_and (pt_cmpR (op_neD hr.units) (pv 1) (pe_lst pa_nil) (nomark _)) (pw_and (pt_cmpR (op_eqD hr.units) (pe_ix ix_tup (pe_ix ix_list (pv 1) (pe_un un_neg pe_int) (fun _ _ => rfl)) pe_int (fun _ _ => rfl)) (pe_ix ix_tup (pv 2) pe_int (fun _ _ => rfl)) (nomark _)) (pw_and1 (pt_cmpR (op_eqD hr.units) (pe_ix ix_tup (pe_ix ix_list (pv 1) (pe_un un_neg pe_int) (fun _ _ => rfl)) pe_int (fun _ _ => rfl)) (pe_ix ix_tup (pv 2) pe_int (fun _ _ => rfl)) (nomark _))))))
        (pss_cons (ps_set (i := 3) sc_Lone.nd rfl (.inl rfl) (pe_bm0 PySem.F.plainAttrs_list PySem.F.slot_list_pop PySem.F.type_list_pop mt_pop (pv 1)))
      (pss_one (ps_set (i := 2) sc_Lone.nd rfl (.inl rfl) (pe_tup (pa_cons (pe_ix ix_tup (pv 3) pe_int (fun _ _ => rfl)) (pa_cons (pe_ix ix_tup (pv 2) pe_int (fun _ _ => rfl)) (pa_cons (pe_ix ix_tup (pv 2) pe_int (fun _ _ => rfl)) pa_nil)))))))
        pss_nil)
      (pss_one (ps_expr (pe_bm PySem.F.plainAttrs_list PySem.F.slot_list_append PySem.F.type_list_append mt_append (pv 1) (pa_cons (pv 2) pa_nil))))))
      (pss_one (ps_ret (pv 1))))), ?_⟩
    refine ⟨Nat.zero_le _, fun r hr0 => ?_⟩
    have s0 := Same.new (o := .lst []) hr0
    refine ⟨_, rfl, a, rfl, ⟨_, s0.seq h0⟩, for_list (K := K) (a := a) (xs := vs) (fun i σ H' => ∃ (c1 c2' : Option V) (ys : List V), σ = [some (.ref a), some (.ref r), c1, c2'] ∧ Same H H' ∧ H' r = some (.lst ys) ∧ ys.length ≤ i ∧ DpAll K H' ys ((normM (xs.take i)).map dS)) ⟨none, none, [], rfl, s0, upd_same, Nat.le_refl _, .nil⟩ (fun i σ H' _ h => ?_) (fun i y σ H' hy h => ?_) (fun σ H' h => ?_)⟩
    · obtain ⟨c1, c2', ys, rfl, s1, hr1, hl, da⟩ := h
      exact s1.seq h0
    · obtain ⟨c1, c2', ys, rfl, s1, hr1, hl, da⟩ := h
      obtain ⟨x, hx, dx⟩ := dpa_map ha hy
      have hi : i < xs.length := (List.getElem?_eq_some_iff.mp hx).1
      have dx1 := dp_mono s1 _ _ dx
      refine ⟨fun σ' H'' => ∃ (sv : V) (c : Option V) (x' : St3) (pre : List St3) (ys2 : List V), σ' = [some (.ref a), some (.ref r), some sv, c] ∧ Same H H'' ∧ H'' r = some (.lst ys2) ∧ ys2.length ≤ i ∧ DpAll K H'' ys2 (pre.map dS) ∧ Dp K H'' sv (dS x') ∧ nstep (normM (xs.take i)) x = pre ++ [x'], ?_, fun σ' H'' hM => ?_⟩
      · refine ⟨_, rfl, Nat.zero_le _, fun o no => ?_⟩
        have sN := Same.new (o := .lst []) no
        have hrN := sN _ _ hr1
        have sqN : SqL K (upd H' o (.lst [])) r ys := .inl (.inl hrN)
        have daN := dpa_mono sN _ _ da
        have dxN := dp_mono sN _ _ dx1
        have sA := s1.trans sN
        have he : SqL K (upd H' o (.lst [])) o [] := .inl (.inl upd_same)
        generalize upd H' o (.lst []) = H2 at hrN sqN daN dxN sA he ⊢
        refine ⟨dSh (normM (xs.take i)), dSh [], .lst sqN daN, .lst he .nil, shaped_dSh _, rfl, _, rfl, ?_⟩
        rcases nstep_cases (normM (xs.take i)) x with ⟨e0, e1⟩ | ⟨pre, l, e0, e1⟩
        · rw [e0]
          refine iteN rfl (iteN rfl ⟨y, c2', x, [], ys, rfl, sA, hrN, hl, ?_, dxN, by rw [e0] at e1; exact e1⟩)
          rw [e0] at daN
          exact daN
        · have ne : (!PyData.eqv (dSh (normM (xs.take i))) (dSh [])) = true := by
            rw [e0]
            cases pre <;> rfl
          rw [ne]
          refine iteY rfl ?_
          obtain ⟨p, v1, v2, v3, rfl, hp, d1, d2, d3⟩ := dS_at dxN
          have da := daN
          rw [e0, List.map_append] at da
          obtain ⟨ys', lv, rfl, da', dl⟩ := dpa_split da
          obtain ⟨pl, l1, l2, l3, rfl, hpl, dl1, dl2, dl3⟩ := dS_at dl
          refine ⟨_, rfl, _, rfl, _, _, _, _, rfl, rfl, sqN, atI_last _ _, _, _, _, _, rfl, rfl, hpl, atI_nat (j := 1) rfl, _, rfl, _, _, _, _, rfl, rfl, hp, atI_nat (j := 0) rfl, ?_⟩
          refine ⟨_, _, dl2, d1, shaped_dF _, shaped_dF _, _, rfl, ?_⟩
          rw [eqv_dF]
          by_cases c1 : l.2.1 = x.1
          · rw [decide_eq_true c1]
            refine iteY rfl ?_
            refine ⟨_, rfl, _, rfl, _, _, _, _, rfl, rfl, sqN, atI_last _ _, _, _, _, _, rfl, rfl, hpl, atI_nat (j := 2) rfl, _, rfl, _, _, _, _, rfl, rfl, hp, atI_nat (j := 2) rfl, ?_⟩
            refine ⟨_, _, dl3, d3, shaped_dF _, shaped_dF _, _, rfl, ?_⟩
            rw [eqv_dF]
            by_cases c2 : l.2.2 = x.2.2
            · rw [decide_eq_true c2]
              refine iteY rfl ?_
              have Lr : IsL H2 r := ⟨_, hrN⟩
              refine ⟨_, rfl, .inl ⟨rfl, _, sqN⟩, r, _, .ref pl, rfl, rfl, hrN, ?_, ?_⟩
              · rw [List.length_append]
                show (ys' ++ [V.ref pl])[ys'.length + 1 - 1]? = _
                rw [Nat.add_sub_cancel]
                simp
              have hU : (upd H2 r (.lst (ys' ++ [V.ref pl]).dropLast)) r = some (.lst ys') := by rw [upd_same, List.dropLast_concat]
              have hpl2 : SqT K (upd H2 r (.lst (ys' ++ [V.ref pl]).dropLast)) pl [l1, l2, l3] := Same.tup hid_same (by rw [hid_b]; exact hid_tupL Lr Lr hpl)
              have hp2 : SqT K (upd H2 r (.lst (ys' ++ [V.ref pl]).dropLast)) p [v1, v2, v3] := Same.tup hid_same (by rw [hid_b]; exact hid_tupL Lr Lr hp)
              have sU : Same H (upd H2 r (.lst (ys' ++ [V.ref pl]).dropLast)) := by
                intro b o hb
                rw [upd_ne (ne_of_none hb hr0)]
                exact sA _ _ hb
              have daU : DpAll K (upd H2 r (.lst (ys' ++ [V.ref pl]).dropLast)) ys' (pre.map dS) := keepAU da' (tupA_dS _) Lr
              have k1 : Dp K (upd H2 r (.lst (ys' ++ [V.ref pl]).dropLast)) l1 (dF l.1) := keepU dl1 rfl Lr
              have k2 : Dp K (upd H2 r (.lst (ys' ++ [V.ref pl]).dropLast)) v2 (dF x.2.1) := keepU d2 rfl Lr
              have k3 : Dp K (upd H2 r (.lst (ys' ++ [V.ref pl]).dropLast)) v3 (dF x.2.2) := keepU d3 rfl Lr
              generalize upd H2 r (.lst (ys' ++ [V.ref pl]).dropLast) = H3 at hU hpl2 hp2 sU daU k1 k2 k3 ⊢
              refine ⟨_, rfl, _, _, _, _, rfl, rfl, hpl2, atI_nat (j := 0) rfl, _, rfl, _, _, _, _, rfl, rfl, hp2, atI_nat (j := 1) rfl, _, rfl, _, _, _, _, rfl, rfl, hp2, atI_nat (j := 2) rfl, (show 3 ≤ sizeLine by decide), fun t ht => ?_⟩
              have sT := Same.new (o := .tup [l1, v2, v3]) ht
              refine ⟨.ref t, some (.ref pl), (l.1, x.2.1, x.2.2), pre, ys', rfl, sU.trans sT, sT _ _ hU, ?_, dpa_mono sT _ _ daU, dS_mk (.inl (.inl upd_same)) (dp_mono sT _ _ k1) (dp_mono sT _ _ k2) (dp_mono sT _ _ k3), ?_⟩
              · rw [List.length_append] at hl
                simp at hl
                omega
              · rcases e1 with ⟨_, _, e1⟩ | ⟨z, _⟩
                · exact e1
                · exact absurd ⟨c1, c2⟩ z
            · rw [decide_eq_false c2]
              refine iteN rfl ⟨.ref p, c2', x, normM (xs.take i), ys' ++ [.ref pl], rfl, sA, hrN, hl, daN, dxN, ?_⟩
              rcases e1 with ⟨_, z, _⟩ | ⟨_, e1⟩
              · exact absurd z c2
              · exact e1
          · rw [decide_eq_false c1]
            refine iteN rfl (iteN rfl ⟨.ref p, c2', x, normM (xs.take i), ys' ++ [.ref pl], rfl, sA, hrN, hl, daN, dxN, ?_⟩)
            rcases e1 with ⟨z, _, _⟩ | ⟨_, e1⟩
            · exact absurd z c1
            · exact e1
      · obtain ⟨sv, c, x', pre, ys2, rfl, s2, hr2, hl2, da2, dsv, e1⟩ := hM
        have Lr : IsL H'' r := ⟨_, hr2⟩
        refine ⟨_, rfl, .inl ⟨rfl, _, .inl (.inl hr2)⟩, _, rfl, r, ys2, _, rfl, rfl, hr2, small1000 (by omega), ?_⟩
        refine ⟨some sv, c, ys2 ++ [sv], rfl, ?_, upd_same, ?_, ?_⟩
        · intro b o hb
          rw [upd_ne (ne_of_none hb hr0)]
          exact s2 _ _ hb
        · rw [List.length_append]
          show ys2.length + 1 ≤ i + 1
          omega
        · rw [normM_more hx, e1, List.map_append]
          exact dpa_snoc (keepAU da2 (tupA_dS _) Lr) (keepU dsv rfl Lr)
    · obtain ⟨c1, c2', ys, rfl, s1, hr1, hl, da⟩ := h
      rw [el, List.take_length] at da
      exact ⟨_, rfl, q _ r ys s1 hr0 hr1 da⟩
def spTime (K : PySem.W.Frag) : Sp := fun vs H Q _ => ∃ (b l : Addr) (m : Int), vs = [.ref b, .int m] ∧ Bx H b l ∧ 0 < m ∧ m ≤ 100000 ∧ ∀ H' v (x : Rat), Same (hid b l H) (hid b l H') → Bx H' b l → Dp K H' v (dF x) → Tm m x → Q v H'
theorem cl_Ltime (T : Txt K mg) : Cl P w K mg base CX0 2 "_law_time" (spTime K) := by
  have c_Ltake := cl_Ltake (P := P) (w := w) (base := base) T
  have c_Lfr := cl_Lfr (P := P) (w := w) (base := base) T
  refine T.d_Ltime.cl sc_Ltime (fun vs H Q E h => ?_) (fun f cdv A outer s H vs Q E hr h => ?_)
  · obtain ⟨b, l, m, rfl, _⟩ := h
    rfl
  · obtain ⟨b, l, m, rfl, B, m0, m1, q⟩ := h
    refine ⟨_, (pss_cons (ps_set (i := 2) sc_Ltime.nd rfl (.inl rfl) (pe_cl c_Ltake hr (by decide) (by rfl) (pa_cons (pv 0) (pa_cons (pv 1) pa_nil))))
      (pss_cons (ps_if (pt_cmpR op_eq (pe_cl c_Ltake hr (by decide) (by rfl) (pa_cons (pv 0) (pa_cons pe_int pa_nil))) pe_int (nomark _))
        (pss_one (ps_ret (pe_tup (pa_cons (pv 2) (pa_cons pe_int pa_nil)))))
        pss_nil)
      (pss_cons (ps_set (i := 3) sc_Ltime.nd rfl (.inl rfl) (pe_op op_add pe_int (pe_cl c_Ltake hr (by decide) (by rfl) (pa_cons (pv 0) (pa_cons (pe_ix ix_list (pe_lst (pa_cons pe_int (pa_cons pe_int pa_nil))) (pe_callTy call_int1 (by rfl) T.m_int (by decide +kernel) (pa_cons (pe_cmpR op_eq (pe_cl c_Ltake hr (by decide) (by rfl) (pa_cons (pv 0) (pa_cons pe_int pa_nil))) pe_int (nomark _)) pa_nil)) (fun _ _ => rfl)) pa_nil)))))
      (pss_one (ps_ret (pe_cl c_Lfr hr (by decide) (by rfl) (pa_cons (pv 2) (pa_cons (pv 3) pa_nil)))))))), ?_⟩
    refine ⟨_, rfl, _, rfl, _, l, _, rfl, B, m0, by omega, fun H1 r1 s1 B1 a1 b1 => ?_⟩
    refine ⟨_, rfl, _, l, _, rfl, B1, by decide, by decide, fun H2 r2 s2 B2 a2 b2 => ?_⟩
    refine ⟨rfl, _, rfl, ite2 (fun z => ?_) (fun z => ?_)⟩
    · refine ⟨_, rfl, (show 2 ≤ sizeLine by decide), fun p hp => ?_⟩
      have s3 := Same.new (o := .tup [.int r1, .int 1]) hp
      exact q _ _ (r1 : Rat) ((s1.trans s2).trans (Same.hid s3)) (B2.mono s3) (dF_mk (.inl (.inl upd_same))) (tm_int a1 b1 m1)
    · refine ⟨_, rfl, (show 2 ≤ sizeLine by decide), fun p hp => ?_⟩
      have s3 := Same.new (o := .lst [.int 6, .int 30]) hp
      have B3 := B2.mono s3
      have hP : hid b l (upd H2 p (.lst [.int 6, .int 30])) p = some (.lst [.int 6, .int 30]) := hid_at B2 hp
      refine ⟨_, rfl, _, l, _, rfl, B3, by decide, by decide, fun H4 r4 s4 B4 a4 b4 => ?_⟩
      have hP4 : SqL K H4 p [.int 6, .int 30] := .inl (.inl (hid_same _ _ (s4 _ _ hP)))
      refine ⟨rfl, .inr ⟨_, rfl, p, _, _, .int (if decide (V.int r4 = V.int 1) = true then 30 else 6), rfl, rfl, hP4, ?_, ?_⟩⟩
      · by_cases c : decide (V.int r4 = V.int 1) = true
        · rw [if_pos c, if_pos c]
          exact atI_nat (j := 1) rfl
        · rw [if_neg c, if_neg c]
          exact atI_nat (j := 0) rfl
      have hk : (if decide (V.int r4 = V.int 1) = true then (30 : Int) else 6) = 30 ∨ (if decide (V.int r4 = V.int 1) = true then (30 : Int) else 6) = 6 := by
        by_cases c : decide (V.int r4 = V.int 1) = true
        · rw [if_pos c]
          exact .inl rfl
        · rw [if_neg c]
          exact .inr rfl
      generalize (if decide (V.int r4 = V.int 1) = true then (30 : Int) else 6) = k at hk ⊢
      refine ⟨_, l, _, rfl, B4, by omega, by omega, fun H5 r5 s5 B5 a5 b5 => ?_⟩
      refine ⟨_, _, rfl, rfl, _, rfl, _, rfl, _, _, rfl, (by omega), p20 (by omega), fun H6 z6 s6 d6 => ?_⟩
      exact q _ _ _ ((((s1.trans s2).trans (Same.hid s3)).trans s4).trans (s5.trans (Same.hid s6))) (B5.mono s6) d6 (tm_frac a1 b1 m1 (by omega) (by omega))
def spPace (K : PySem.W.Frag) : Sp := fun vs H Q _ => ∃ (b l : Addr), vs = [.ref b] ∧ Bx H b l ∧ ∀ H' v (x : Rat), Same (hid b l H) (hid b l H') → Bx H' b l → Dp K H' v (dF x) → Sz 4 x → Pc x → Q v H'
theorem cl_Lpace (T : Txt K mg) : Cl P w K mg base CX0 2 "_law_pace" (spPace K) := by
  have c_Ltake := cl_Ltake (P := P) (w := w) (base := base) T
  have c_Lfr := cl_Lfr (P := P) (w := w) (base := base) T
  refine T.d_Lpace.cl sc_Lpace (fun vs H Q E h => ?_) (fun f cdv A outer s H vs Q E hr h => ?_)
  · obtain ⟨b, l, rfl, _⟩ := h
    rfl
  · obtain ⟨b, l, rfl, B, q⟩ := h
    refine ⟨_, (pss_one (ps_ret (pe_ix ix_list (pe_lst (pa_cons (pe_tup (pa_cons pe_int (pa_cons pe_int pa_nil))) (pa_cons (pe_tup (pa_cons pe_int (pa_cons pe_int pa_nil))) (pa_cons (pe_tup (pa_cons pe_int (pa_cons pe_int pa_nil))) (pa_cons (pe_cl c_Lfr hr (by decide) (by rfl) (pa_cons (pe_op op_add pe_int (pe_cl c_Ltake hr (by decide) (by rfl) (pa_cons (pv 0) (pa_cons pe_int pa_nil)))) (pa_cons (pe_op op_add pe_int (pe_cl c_Ltake hr (by decide) (by rfl) (pa_cons (pv 0) (pa_cons pe_int pa_nil)))) pa_nil))) pa_nil))))) (pe_cl c_Ltake hr (by decide) (by rfl) (pa_cons (pv 0) (pa_cons pe_int pa_nil))) (fun _ _ => rfl)))), ?_⟩
    refine ⟨(show 2 ≤ sizeLine by decide), fun p1 hp1 => ⟨(show 2 ≤ sizeLine by decide), fun p2 hp2 => ⟨(show 2 ≤ sizeLine by decide), fun p3 hp3 => ?_⟩⟩⟩
    have t1 := Same.new (o := .tup [.int 1, .int 1]) hp1
    have t2 := Same.new (o := .tup [.int 2, .int 1]) hp2
    have t3 := Same.new (o := .tup [.int 1, .int 2]) hp3
    have d1 : Dp K (upd H p1 (.tup [.int 1, .int 1])) (.ref p1) (dF 1) := dF_mk (.inl (.inl upd_same))
    have d2 : Dp K (upd (upd H p1 (.tup [.int 1, .int 1])) p2 (.tup [.int 2, .int 1])) (.ref p2) (dF 2) := dF_mk (.inl (.inl upd_same))
    have d3 : Dp K (upd (upd (upd H p1 (.tup [.int 1, .int 1])) p2 (.tup [.int 2, .int 1])) p3 (.tup [.int 1, .int 2])) (.ref p3) (dF (Rat.divInt 1 2)) := dF_mk (.inl (.inl upd_same))
    have d1 := dp_mono (t2.trans t3) _ _ d1
    have d2 := dp_mono t3 _ _ d2
    have tA := (t1.trans t2).trans t3
    generalize upd (upd (upd H p1 (.tup [.int 1, .int 1])) p2 (.tup [.int 2, .int 1])) p3 (.tup [.int 1, .int 2]) = H1 at d1 d2 d3 tA ⊢
    have B1 := B.mono tA
    refine ⟨_, rfl, _, l, _, rfl, B1, by decide, by decide, fun H2 r2 s2 B2 a2 b2 => ?_⟩
    refine ⟨_, _, rfl, rfl, _, rfl, _, l, _, rfl, B2, by decide, by decide, fun H3 r3 s3 B3 a3 b3 => ?_⟩
    refine ⟨_, _, rfl, rfl, _, _, rfl, (by omega), p20 (by omega), fun H4 z4 s4 d4 => ?_⟩
    have B4 := B3.mono s4
    have k1 := dp_mono s4 _ _ (frac_keep d1 B1 (s2.trans s3))
    have k2 := dp_mono s4 _ _ (frac_keep d2 B1 (s2.trans s3))
    have k3 := dp_mono s4 _ _ (frac_keep d3 B1 (s2.trans s3))
    refine ⟨(show 4 ≤ sizeLine by decide), fun p hp => ?_⟩
    have s5 := Same.new (o := .lst [.ref p1, .ref p2, .ref p3, z4]) hp
    have B5 := B4.mono s5
    have hP : hid b l (upd H4 p (.lst [.ref p1, .ref p2, .ref p3, z4])) p = some (.lst [.ref p1, .ref p2, .ref p3, z4]) := hid_at B4 hp
    refine ⟨_, rfl, _, l, _, rfl, B5, by decide, by decide, fun H6 r6 s6 B6 a6 b6 => ?_⟩
    have hP6 : SqL K H6 p [.ref p1, .ref p2, .ref p3, z4] := .inl (.inl (hid_same _ _ (s6 _ _ hP)))
    have sZ := ((Same.hid (b := b) (l := l) tA).trans (s2.trans s3)).trans ((Same.hid (s4.trans s5)).trans s6)
    have m1 := frac_keep (dp_mono s5 _ _ k1) B5 s6
    have m2 := frac_keep (dp_mono s5 _ _ k2) B5 s6
    have m3 := frac_keep (dp_mono s5 _ _ k3) B5 s6
    have m4 := frac_keep (dp_mono s5 _ _ d4) B5 s6
    obtain e | e | e | e : r6 = 0 ∨ r6 = 1 ∨ r6 = 2 ∨ r6 = 3 := by omega
    · subst e
      exact ⟨_, _, _, _, rfl, rfl, hP6, atI_nat (j := 0) rfl, q _ _ _ sZ B6 m1 ⟨by decide, by decide⟩ ⟨by decide, by decide, by decide⟩⟩
    · subst e
      exact ⟨_, _, _, _, rfl, rfl, hP6, atI_nat (j := 1) rfl, q _ _ _ sZ B6 m2 ⟨by decide, by decide⟩ ⟨by decide, by decide, by decide⟩⟩
    · subst e
      exact ⟨_, _, _, _, rfl, rfl, hP6, atI_nat (j := 2) rfl, q _ _ _ sZ B6 m3 (sz_divInt (by decide) (by decide) (by decide)) (pc_frac (by decide) (by decide) (by decide) (by decide))⟩
    · subst e
      exact ⟨_, _, _, _, rfl, rfl, hP6, atI_nat (j := 3) rfl, q _ _ _ sZ B6 m4 (sz_divInt (by omega) (by omega) (by omega)) (pc_frac (by omega) (by omega) (by omega) (by omega))⟩
def spWithin (K : PySem.W.Frag) : Sp := fun vs H Q _ => ∃ (b l : Addr) (u : V) (w : Rat) (N : Nat), vs = [.ref b, u] ∧ Bx H b l ∧ Dp K H u (dF w) ∧ Sz N w ∧ N ≤ 4000 ∧ ∀ H' v (q : Rat), Same (hid b l H) (hid b l H') → Bx H' b l → Dp K H' v (dF (w * q)) → Wq q → Q v H'
theorem cl_Lwithin (T : Txt K mg) : Cl P w K mg base CX0 3 "_law_within" (spWithin K) := by
  have c_Ltake := cl_Ltake (P := P) (w := w) (base := base) T
  have c_Lfr := cl_Lfr (P := P) (w := w) (base := base) T
  have c_Ltimes := cl_Ltimes (P := P) (w := w) (base := base) T
  refine T.d_Lwithin.cl sc_Lwithin (fun vs H Q E h => ?_) (fun f cdv A outer s H vs Q E hr h => ?_)
  · obtain ⟨b, l, u, x, N, rfl, _⟩ := h
    rfl
  · obtain ⟨b, l, u, x, N, rfl, B, du, sx, hN, q⟩ := h
    refine ⟨_, (pss_cons (ps_set (i := 2) sc_Lwithin.nd rfl (.inl rfl) (pe_cl c_Ltake hr (by decide) (by rfl) (pa_cons (pv 0) (pa_cons pe_int pa_nil))))
      (pss_cons (ps_if (pt_cmpR op_eq (pv 2) pe_int (nomark _))
        (pss_one (ps_ret (pe_cl c_Ltimes hr (by decide) (by rfl) (pa_cons (pv 1) (pa_cons (pe_cl c_Lfr hr (by decide) (by rfl) (pa_cons (pe_cl c_Ltake hr (by decide) (by rfl) (pa_cons (pv 0) (pa_cons pe_int pa_nil))) (pa_cons pe_int pa_nil))) pa_nil)))))
        pss_nil)
      (pss_one (ps_ret (pe_cl c_Ltimes hr (by decide) (by rfl) (pa_cons (pv 1) (pa_cons (pe_cl c_Lfr hr (by decide) (by rfl) (pa_cons (pe_op op_mod (pv 2) pe_int) (pa_cons pe_int pa_nil))) pa_nil))))))), ?_⟩
    refine ⟨_, rfl, _, l, _, rfl, B, by decide, by decide, fun H1 r1 s1 B1 a1 b1 => ?_⟩
    have du1 := frac_keep du B s1
    refine ⟨_, rfl, rfl, _, rfl, ite2 (fun z => ?_) (fun z => ?_)⟩
    · refine ⟨_, rfl, _, rfl, _, l, _, rfl, B1, by decide, by decide, fun H2 r2 s2 B2 a2 b2 => ?_⟩
      have du2 := frac_keep du1 B1 s2
      refine ⟨_, _, rfl, (by decide), p20 (by decide), fun H3 z3 s3 d3 => ?_⟩
      refine ⟨_, _, _, _, N, 7, rfl, dp_mono s3 _ _ du2, d3, sx, sz_divInt (by omega) (by decide) (by decide), by omega, trivial, fun H4 z4 s4 d4 => ?_⟩
      exact q _ _ _ ((s1.trans s2).trans (Same.hid (s3.trans s4))) (B2.mono (s3.trans s4)) d4 (wq_frac (by omega) (by omega) (by decide) (by decide) (by decide))
    · refine ⟨_, rfl, _, rfl, _, _, rfl, rfl, (show (0 : Int) < 12 by decide), _, _, rfl, (by decide), p20 (by decide), fun H3 z3 s3 d3 => ?_⟩
      have hb : (r1 % 12).natAbs < 2 ^ 7 := by omega
      refine ⟨_, _, _, _, N, 7, rfl, dp_mono s3 _ _ du1, d3, sx, sz_divInt hb (by decide) (by decide), by omega, trivial, fun H4 z4 s4 d4 => ?_⟩
      exact q _ _ _ (s1.trans (Same.hid (s3.trans s4))) (B1.mono (s3.trans s4)) d4 (wq_frac (by omega) (by omega) (by decide) (by decide) (by decide))
def spShow (K : PySem.W.Frag) : Sp := fun vs H Q _ => ∃ (b l : Addr), vs = [.ref b] ∧ Bx H b l ∧ ∀ H' p ys (xs : List St3), Same (hid b l H) (hid b l H') → Bx H' b l → H p = none → hid b l H' p = some (.lst ys) → DpAll K H' ys (xs.map dS) → xs.length ≤ 6 → (∀ s ∈ xs, StOk 80 s) → (∀ s ∈ xs, Fs L30 [] s) → Q (.ref p) H'
theorem mem_snoc {α : Type} {P : α → Prop} {xs : List α} {x : α} (h : ∀ s ∈ xs, P s) (hx : P x) : ∀ s ∈ xs ++ [x], P s := by
  intro s hs
  rcases List.mem_append.mp hs with h1 | h1
  · exact h s h1
  · rw [List.mem_singleton.mp h1]
    exact hx
theorem hid_upd {b l r : Addr} {H : Hp} {o : HO} {ys : List V} (h : hid b l H r = some (.lst ys)) : hid b l (upd H r o) r = some o ∧ ∀ G, (∀ a x, a ≠ r → hid b l G a = some x → hid b l H a = some x) → G r = none → Same (hid b l G) (hid b l (upd H r o)) := by
  have hr : ¬ (r = b ∨ r = l) := fun z => by
    unfold hid at h
    rw [if_pos z] at h
    cases h
  refine ⟨by unfold hid; rw [if_neg hr, upd_same], fun G k hG a x ha => ?_⟩
  have har : a ≠ r := fun e => by
    unfold hid at ha
    rw [e, if_neg hr, hG] at ha
    cases ha
  have := k a x har ha
  unfold hid at this ⊢
  split
  · rename_i z
    rw [if_pos z] at this
    cases this
  · rename_i z
    rw [if_neg z] at this
    rw [upd_ne har]
    exact this
theorem bx_upd {b l r : Addr} {H : Hp} {o : HO} {ys : List V} (B : Bx H b l) (h : hid b l H r = some (.lst ys)) : Bx (upd H r o) b l := by
  have hr : ¬ (r = b ∨ r = l) := fun z => by
    unfold hid at h
    rw [if_pos z] at h
    cases h
  obtain ⟨xs, st, h1, h2⟩ := B.ex
  exact ⟨B.ne, xs, st, by rw [upd_ne (fun e => hr (.inl e.symm))]; exact h1, by rw [upd_ne (fun e => hr (.inr e.symm))]; exact h2⟩
theorem pc_of {D : Nat} {s : St3} (a : Fs D [] s) : Pc s.2.2 := by
  obtain ⟨p, x, e, h1, h2⟩ := a.pc
  cases h2
  rw [e, show p * 1 = p by grind]
  exact h1
theorem cl_Lshow (T : Txt K mg) : Cl P w K mg base CX0 3 "_law_show" (spShow K) := by
  have c_Ltake := cl_Ltake (P := P) (w := w) (base := base) T
  have c_Ltime := cl_Ltime (P := P) (w := w) (base := base) T
  have c_Lpace := cl_Lpace (P := P) (w := w) (base := base) T
  have c_Lsum := cl_Lsum (P := P) (w := w) (base := base) T
  refine T.d_Lshow.cl sc_Lshow (fun vs H Q E h => ?_) (fun f cdv A outer s H vs Q E hr h => ?_)
  · obtain ⟨b, l, rfl, _⟩ := h
    rfl
  · obtain ⟨b, l, rfl, B, q⟩ := h
    refine ⟨_, (pss_cons (ps_set (i := 1) sc_Lshow.nd rfl (.inl rfl) (pe_lst pa_nil))
      (pss_cons (ps_for PassesOwn.never rfl (pi_range1 (by rfl) T.m_range (pa_cons (pe_ix ix_list (pe_lst (pa_cons (pe_cl c_Ltake hr (by decide) (by rfl) (pa_cons (pv 0) (pa_cons pe_int pa_nil))) (pa_cons (pe_cl c_Ltake hr (by decide) (by rfl) (pa_cons (pv 0) (pa_cons pe_int pa_nil))) pa_nil))) (pe_callTy call_int1 (by rfl) T.m_int (by decide +kernel) (pa_cons (pe_cmpR op_eq (pe_cl c_Ltake hr (by decide) (by rfl) (pa_cons (pv 0) (pa_cons pe_int pa_nil))) pe_int (nomark _)) pa_nil)) (fun _ _ => rfl)) pa_nil)) (pg_name (i := 2) sc_Lshow.nd rfl (.inl rfl))
        (pss_cons (ps_set (i := 3) sc_Lshow.nd rfl (.inl rfl) (pe_cl c_Ltime hr (by decide) (by rfl) (pa_cons (pv 0) (pa_cons pe_int pa_nil))))
      (pss_cons (ps_set (i := 4) sc_Lshow.nd rfl (.inl rfl) (pe_cl c_Lpace hr (by decide) (by rfl) (pa_cons (pv 0) pa_nil)))
      (Evl.pss_cut (ps_if (PW.pt (pw_and (pt_cmpR (op_neD hr.units) (pv 1) (pe_lst pa_nil) (nomark _)) (pw_and1 (pt_cmpR op_eq (pe_cl c_Ltake hr (by decide) (by rfl) (pa_cons (pv 0) (pa_cons pe_int pa_nil))) pe_int (nomark _)))))
        (pss_cons (ps_set (i := 3) sc_Lshow.nd rfl (.inl rfl) (pe_ix ix_tup (pe_ix ix_list (pv 1) (pe_un un_neg pe_int) (fun _ _ => rfl)) pe_int (fun _ _ => rfl)))
      (pss_one (ps_set (i := 4) sc_Lshow.nd rfl (.inl rfl) (pe_ix ix_list (pe_lst (pa_cons (pe_ix ix_tup (pe_ix ix_list (pv 1) (pe_un un_neg pe_int) (fun _ _ => rfl)) pe_int (fun _ _ => rfl)) (pa_cons (pv 4) pa_nil))) (pe_callTy call_int1 (by rfl) T.m_int (by decide +kernel) (pa_cons (pe_cmpR op_eq (pe_cl c_Ltake hr (by decide) (by rfl) (pa_cons (pv 0) (pa_cons pe_int pa_nil))) pe_int (nomark _)) pa_nil)) (fun _ _ => rfl)))))
        pss_nil)
      (pss_one (ps_expr (pe_bm PySem.F.plainAttrs_list PySem.F.slot_list_append PySem.F.type_list_append mt_append (pv 1) (pa_cons (pe_tup (pa_cons (pv 3) (pa_cons (pe_cl c_Lsum hr (by decide) (by rfl) (pa_cons (pv 3) (pa_cons (pe_cl c_Lsum hr (by decide) (by rfl) (pa_cons (pe_tup (pa_cons pe_int (pa_cons pe_int pa_nil))) (pa_cons (pe_cl c_Ltime hr (by decide) (by rfl) (pa_cons (pv 0) (pa_cons pe_int pa_nil))) pa_nil))) pa_nil))) (pa_cons (pv 4) pa_nil)))) pa_nil))))))))
      (pss_one (ps_ret (pv 1))))), ?_⟩
    refine ⟨Nat.zero_le _, fun r hr0 => ?_⟩
    have s0 := Same.new (o := .lst []) hr0
    have B0 := B.mono s0
    have hr1 : hid b l (upd H r (.lst [])) r = some (.lst []) := hid_at B hr0
    have s0 : Same (hid b l H) (hid b l (upd H r (.lst []))) := Same.hid s0
    generalize upd H r (.lst []) = H0 at s0 B0 hr1 ⊢
    -- how many
    refine ⟨_, rfl, _, l, _, rfl, B0, by decide, by decide, fun H1 r1 s1 B1 a1 b1 => ?_⟩
    refine ⟨_, rfl, _, l, _, rfl, B1, by decide, by decide, fun H2 r2 s2 B2 a2 b2 => ?_⟩
    refine ⟨(show 2 ≤ sizeLine by decide), fun p hp => ?_⟩
    have s3 := Same.new (o := .lst [.int r1, .int r2]) hp
    have B3 := B2.mono s3
    have hP : hid b l (upd H2 p (.lst [.int r1, .int r2])) p = some (.lst [.int r1, .int r2]) := hid_at B2 hp
    refine ⟨_, rfl, _, l, _, rfl, B3, by decide, by decide, fun H4 r4 s4 B4 a4 b4 => ?_⟩
    have hP4 : SqL K H4 p [.int r1, .int r2] := .inl (.inl (hid_same _ _ (s4 _ _ hP)))
    have sT := (((s0.trans s1).trans s2).trans (Same.hid s3)).trans s4
    have hr4 : hid b l H4 r = some (.lst []) := s4 _ _ (Same.hid s3 _ _ (s2 _ _ (s1 _ _ hr1)))
    refine ⟨rfl, .inr ⟨_, rfl, p, _, _, .int (if decide (V.int r4 = V.int 1) = true then r2 else r1), rfl, rfl, hP4, ?_, ?_⟩⟩
    · by_cases c : decide (V.int r4 = V.int 1) = true
      · rw [if_pos c, if_pos c]
        exact atI_nat (j := 1) rfl
      · rw [if_neg c, if_neg c]
        exact atI_nat (j := 0) rfl
    have hk : 0 ≤ (if decide (V.int r4 = V.int 1) = true then r2 else r1) ∧ (if decide (V.int r4 = V.int 1) = true then r2 else r1) ≤ 6 := by
      split <;> omega
    generalize (if decide (V.int r4 = V.int 1) = true then r2 else r1) = n at hk ⊢
    refine ⟨n, rfl, by omega, by omega, for_range (lo := 0) (n := n.toNat) (fun i σ H' => ∃ (c1 c2 c3 : Option V) (ys : List V) (xs : List St3), σ = [some (.ref b), some (.ref r), c1, c2, c3] ∧ Same (hid b l H) (hid b l H') ∧ Bx H' b l ∧ hid b l H' r = some (.lst ys) ∧ DpAll K H' ys (xs.map dS) ∧ xs.length = i ∧ ∀ s ∈ xs, StOk (10 * i + 10) s ∧ Fs L30 [] s ∧ s.2.1 ≤ bnd i) ⟨none, none, none, [], [], rfl, sT, B4, hr4, .nil, rfl, fun s hs => by cases hs⟩ (fun i σ H' hi h => ?_) (fun σ H' h => ?_)⟩
    · obtain ⟨c1, c2, c3, ys, xs, rfl, s5, B5, hr5, da, hl, ok⟩ := h
      have ly : ys.length = i := by rw [dpa_len da, List.length_map, hl]
      have hi6 : i ≤ 5 := by omega
      refine ⟨_, rfl, _, l, _, rfl, B5, by decide, by decide, fun H6 vb xb s6 B6 db tb => ?_⟩
      have zb := tb.s6 (by decide)
      have da6 := keepA da (tupA_dS _) B5.lb B5.ll s6
      have hr6 := s6 _ _ hr5
      refine ⟨_, rfl, _, l, rfl, B6, fun H7 vp xp s7 B7 dp zp cp => ?_⟩
      have pp := cp.pos
      have tb0 := tb.lo
      have tb1 : xb ≤ bnd i := Rat.le_trans tb.hi (bnd_le i)
      have tb2 := tb.iz
      have da7 := keepA da6 (tupA_dS _) B6.lb B6.ll s7
      have db7 := frac_keep db B6 s7
      have hr7 := s7 _ _ hr6
      have sA := (s5.trans s6).trans s7
      refine ⟨fun σ' H'' => ∃ (vb vp : V) (xb xp : Rat), σ' = [some (.ref b), some (.ref r), some (.int (0 + i)), some vb, some vp] ∧ Same (hid b l H) (hid b l H'') ∧ Bx H'' b l ∧ hid b l H'' r = some (.lst ys) ∧ DpAll K H'' ys (xs.map dS) ∧ Dp K H'' vb (dF xb) ∧ Dp K H'' vp (dF xp) ∧ Sz (10 * i + 10) xb ∧ Sz (10 * i + 10) xp ∧ Pc xp ∧ Iz L30 xb ∧ 0 ≤ xb ∧ xb ≤ bnd i, ?_, fun σ' H'' hM => ?_⟩
      · refine ⟨_, rfl, Nat.zero_le _, fun o no => ?_⟩
        have sN := Same.new (o := .lst []) no
        have B8 := B7.mono sN
        have hr8 := Same.hid (b := b) (l := l) sN _ _ hr7
        have da8 := dpa_mono sN _ _ da7
        have db8 := dp_mono sN _ _ db7
        have dp8 := dp_mono sN _ _ dp
        have sB := sA.trans (Same.hid sN)
        have he : SqL K (upd H7 o (.lst [])) o [] := .inl (.inl upd_same)
        generalize upd H7 o (.lst []) = H8 at B8 hr8 da8 db8 dp8 sB he ⊢
        have sq8 : SqL K H8 r ys := .inl (.inl (hid_same _ _ hr8))
        refine ⟨dSh xs, dSh [], .lst sq8 da8, .lst he .nil, shaped_dSh _, rfl, _, rfl, ?_⟩
        rcases List.eq_nil_or_concat xs with e0 | ⟨pre, ls, e0⟩
        · rw [e0] at da8 ⊢
          exact iteN rfl (iteN rfl ⟨vb, vp, xb, xp, rfl, sB, B8, hr8, da8, db8, dp8, zb.mono (by omega), zp.mono (by omega), cp, tb2, tb0, tb1⟩)
        · have e0 : xs = pre ++ [ls] := by rw [e0]; simp
          rw [show (!PyData.eqv (dSh xs) (dSh [])) = true by rw [e0]; cases pre <;> rfl]
          refine iteY rfl ?_
          refine ⟨_, rfl, _, l, _, rfl, B8, by decide, by decide, fun H9 r9 s9 B9 a9 b9 => ?_⟩
          have da9 := keepA da8 (tupA_dS _) B8.lb B8.ll s9
          have db9 := frac_keep db8 B8 s9
          have dp9 := frac_keep dp8 B8 s9
          have hr9 := s9 _ _ hr8
          have sC := sB.trans s9
          refine ⟨rfl, _, rfl, ite2 (fun z => ?_) (fun z => ?_)⟩
          · obtain ⟨okl, fl, bl⟩ := ok ls (by rw [e0]; exact List.mem_append_right _ (List.mem_singleton.mpr rfl))
            have sq9 : SqL K H9 r ys := .inl (.inl (hid_same _ _ hr9))
            have da := da9
            rw [e0, List.map_append] at da
            obtain ⟨ys', lv, ey, da', dl⟩ := dpa_split da
            obtain ⟨pl, l1, l2, l3, rfl, hpl, dl1, dl2, dl3⟩ := dS_at dl
            subst ey
            refine ⟨_, rfl, _, rfl, _, _, _, _, rfl, rfl, sq9, atI_last _ _, _, _, _, _, rfl, rfl, hpl, atI_nat (j := 1) rfl, ?_⟩
            refine ⟨_, rfl, _, rfl, _, _, _, _, rfl, rfl, sq9, atI_last _ _, _, _, _, _, rfl, rfl, hpl, atI_nat (j := 2) rfl, _, rfl, (show 2 ≤ sizeLine by decide), fun p2 hp2 => ?_⟩
            have t2 := Same.new (o := .lst [l3, vp]) hp2
            have Ba := B9.mono t2
            have hP2 : hid b l (upd H9 p2 (.lst [l3, vp])) p2 = some (.lst [l3, vp]) := hid_at B9 hp2
            refine ⟨_, rfl, _, l, _, rfl, Ba, by decide, by decide, fun Hb rb sb Bb ab bb => ?_⟩
            have hPb : SqL K Hb p2 [l3, vp] := .inl (.inl (hid_same _ _ (sb _ _ hP2)))
            have sD := sC.trans ((Same.hid t2).trans sb)
            have hrb := sb _ _ (Same.hid (b := b) (l := l) t2 _ _ hr9)
            have dab := keepA (dpa_mono t2 _ _ da9) (tupA_dS _) Ba.lb Ba.ll sb
            have k2 := frac_keep (dp_mono t2 _ _ dl2) Ba sb
            have k3 := frac_keep (dp_mono t2 _ _ dl3) Ba sb
            have kp := frac_keep (dp_mono t2 _ _ dp9) Ba sb
            refine ⟨rfl, .inr ⟨_, rfl, ?_⟩⟩
            by_cases c : decide (V.int rb = V.int 1) = true
            · rw [if_pos c]
              exact ⟨_, _, _, _, rfl, rfl, hPb, atI_nat (j := 1) rfl, l2, vp, ls.2.1, xp, rfl, sD, Bb, hrb, dab, k2, kp, okl.e, zp.mono (by omega), cp, fl.ze, (by have h1 := fl.b0; have h2 := fl.lt; grind), bl⟩
            · rw [if_neg c]
              exact ⟨_, _, _, _, rfl, rfl, hPb, atI_nat (j := 0) rfl, l2, l3, ls.2.1, ls.2.2, rfl, sD, Bb, hrb, dab, k2, k3, okl.e, okl.p, pc_of fl, fl.ze, (by have h1 := fl.b0; have h2 := fl.lt; grind), bl⟩
          · exact ⟨vb, vp, xb, xp, rfl, sC, B9, hr9, da9, db9, dp9, zb.mono (by omega), zp.mono (by omega), cp, tb2, tb0, tb1⟩
      · clear db zb dp zp pp db7 sA tb cp tb0 tb1 tb2
        obtain ⟨vb, vp, xb, xp, rfl, s8, B8, hr8, da8, db, dp, zb, zp, cp, tb2, tb0, tb1⟩ := hM
        have pp := cp.pos
        refine ⟨_, rfl, .inl ⟨rfl, _, .inl (.inl (hid_same _ _ hr8))⟩, _, rfl, _, rfl, (show 2 ≤ sizeLine by decide), fun p1 hp1 => ?_⟩
        have t1 := Same.new (o := .tup [.int 1, .int 2]) hp1
        have dh : Dp K (upd H'' p1 (.tup [.int 1, .int 2])) (.ref p1) (dF (Rat.divInt 1 2)) := dF_mk (.inl (.inl upd_same))
        have B9 := B8.mono t1
        have hr9 := Same.hid (b := b) (l := l) t1 _ _ hr8
        have s9 := s8.trans (Same.hid t1)
        have da9 := dpa_mono t1 _ _ da8
        have db9 := dp_mono t1 _ _ db
        have dp9 := dp_mono t1 _ _ dp
        generalize upd H'' p1 (.tup [.int 1, .int 2]) = H9 at dh B9 hr9 s9 da9 db9 dp9 ⊢
        refine ⟨_, rfl, _, l, _, rfl, B9, by decide, by decide, fun Ha vt xt sa Ba dt tt0 => ?_⟩
        have zt := tt0.s6 (by decide)
        obtain ⟨fn, bn⟩ := fs_drawn hi6 tb2 tb0 tb1 tt0 cp
        have dh := frac_keep dh B9 sa
        have da := keepA da9 (tupA_dS _) B9.lb B9.ll sa
        have db := frac_keep db9 B9 sa
        have dp := frac_keep dp9 B9 sa
        have hra := sa _ _ hr9
        have zh : Sz 2 (Rat.divInt 1 2) := sz_divInt (by decide) (by decide) (by decide)
        refine ⟨_, _, _, _, 2, 6, rfl, dh, dt, zh, zt, by decide, trivial, fun Hb vs' sb ds' => ?_⟩
        refine ⟨_, _, _, _, 10 * i + 10, 9, rfl, dp_mono sb _ _ db, ds', zb, sz_add zh zt, by omega, trivial, fun Hc ve sc de => ?_⟩
        refine ⟨_, rfl, (show 3 ≤ sizeLine by decide), fun p2 hp2 => ?_⟩
        have t2 := Same.new (o := .tup [vb, ve, vp]) hp2
        have tt := (sb.trans sc).trans t2
        have Bd := Ba.mono tt
        have hrd := Same.hid (b := b) (l := l) tt _ _ hra
        have dad := dpa_mono tt _ _ da
        have dn : Dp K (upd Hc p2 (.tup [vb, ve, vp])) (.ref p2) (dS (xb, xb + (Rat.divInt 1 2 + xt), xp)) := dS_mk (.inl (.inl upd_same)) (dp_mono tt _ _ db) (dp_mono t2 _ _ de) (dp_mono tt _ _ dp)
        have sd := (s9.trans sa).trans (Same.hid tt)
        generalize upd Hc p2 (.tup [vb, ve, vp]) = Hd at tt Bd hrd dad dn sd ⊢
        have Lr : IsL Hd r := ⟨_, hid_same _ _ hrd⟩
        have okn : StOk (10 * (i + 1) + 10) (xb, xb + (Rat.divInt 1 2 + xt), xp) := ⟨zb.mono (by omega), (sz_add zb (sz_add zh zt)).mono (by omega), zp.mono (by omega), pp⟩
        refine ⟨r, ys, _, rfl, rfl, hid_same _ _ hrd, small1000 (by omega), ?_⟩
        refine ⟨_, _, _, ys ++ [.ref p2], xs ++ [(xb, xb + (Rat.divInt 1 2 + xt), xp)], rfl, (hid_upd hrd).2 H (fun a x _ ha => sd _ _ ha) hr0, bx_upd Bd hrd, (hid_upd hrd).1, ?_, ?_, ?_⟩
        · rw [List.map_append]
          exact dpa_snoc (keepAU dad (tupA_dS _) Lr) (keepU dn rfl Lr)
        · rw [List.length_append, hl]
          rfl
        · refine mem_snoc (fun s hs => ?_) ⟨okn, fn, bn⟩
          obtain ⟨o1, o2, o3⟩ := ok s hs
          exact ⟨⟨o1.b.mono (by omega), o1.e.mono (by omega), o1.p.mono (by omega), o1.pos⟩, o2, Rat.le_trans o3 (bnd_step i)⟩
    · obtain ⟨c1, c2, c3, ys, xs, rfl, s5, B5, hr5, da, hl, ok⟩ := h
      refine ⟨_, rfl, q _ r ys xs s5 B5 hr0 hr5 da (by omega) (fun s hs => ?_) (fun s hs => (ok s hs).2.1)⟩
      have o1 := (ok s hs).1
      exact ⟨o1.b.mono (by omega), o1.e.mono (by omega), o1.p.mono (by omega), o1.pos⟩
theorem cutM_len : ∀ (xs : List St3) (b e : Rat), (cutM xs b e).length ≤ xs.length
  | [], _, _ => Nat.le_refl _
  | s :: r, b, e => by
    have h1 := piece_len s b e
    have h2 := cutM_len r (b - lst3 s) (e - lst3 s)
    show (piece s b e ++ cutM r (b - lst3 s) (e - lst3 s)).length ≤ r.length + 1
    rw [List.length_append]
    omega
theorem sz_if {n : Nat} {x y : Rat} {c : Prop} [Decidable c] (hx : Sz n x) (hy : Sz n y) : Sz n (if c then x else y) := by
  split
  · exact hx
  · exact hy
theorem dp_if {K : PySem.W.Frag} {H : Hp} {u v : V} {x y : Rat} {c : Prop} [Decidable c] (hx : Dp K H u (dF x)) (hy : Dp K H v (dF y)) : Dp K H (if c then u else v) (dF (if c then x else y)) := by
  by_cases h : c
  · rw [if_pos h, if_pos h]
    exact hx
  · rw [if_neg h, if_neg h]
    exact hy
theorem sub0 (x : Rat) : x - lenS [] = x := by
  show x - 0 = x
  grind
def spCut (K : PySem.W.Frag) : Sp := fun vs H Q _ => ∃ (v u1 u2 : V) (xs : List St3) (b e : Rat) (N : Nat), vs = [v, u1, u2] ∧ Dp K H v (dSh xs) ∧ Dp K H u1 (dF b) ∧ Dp K H u2 (dF e) ∧ ShOk N xs ∧ Sz N b ∧ Sz N e ∧ N ≤ 2240 ∧ xs.length ≤ 900 ∧
  ∀ H' p ys, Same H H' → H p = none → H' p = some (.lst ys) → DpAll K H' ys ((cutM xs b e).map dS) → (cutM xs b e).length ≤ xs.length → Q (.ref p) H'
theorem cl_Lcut (T : Txt K mg) : Cl P w K mg base CX0 4 "_law_cut" (spCut K) := by
  have c_Llast := cl_Llast (P := P) (w := w) (base := base) T
  have c_Llow := cl_Llow (P := P) (w := w) (base := base) T
  have c_Lsum := cl_Lsum (P := P) (w := w) (base := base) T
  have c_Ltimes := cl_Ltimes (P := P) (w := w) (base := base) T
  have c_Lminus := cl_Lminus (P := P) (w := w) (base := base) T
  refine T.d_Lcut.cl sc_Lcut (fun vs H Q E h => ?_) (fun f cdv A outer s H vs Q E hr h => ?_)
  · obtain ⟨v, u1, u2, xs, b, e, N, rfl, _⟩ := h
    rfl
  · obtain ⟨v, u1, u2, xs, b, e, N, rfl, hv, hu1, hu2, ok, zb, ze, hN, hn, q⟩ := h
    obtain ⟨a, vs, rfl, h0, ha⟩ := dSh_at hv
    have el : vs.length = xs.length := by rw [dpa_len ha, List.length_map]
    refine ⟨_, (pss_cons (ps_set (i := 3) sc_Lcut.nd rfl (.inl rfl) (pe_lst pa_nil))
      (pss_cons (ps_for PassesOwn.never rfl (pi_list (pv 0)) (pg_name (i := 4) sc_Lcut.nd rfl (.inl rfl))
        (pss_cons (ps_set (i := 5) sc_Lcut.nd rfl (.inl rfl) (pe_cl c_Llast hr (by decide) (by rfl) (pa_cons (pv 4) pa_nil)))
      (Evl.pss_cut (ps_set (i := 6) sc_Lcut.nd rfl (.inl rfl) (pe_ifExp (pt_val (pe_cl c_Llow hr (by decide) (by rfl) (pa_cons (pe_tup (pa_cons pe_int (pa_cons pe_int pa_nil))) (pa_cons (pv 1) pa_nil)))) (pv 1) (pe_tup (pa_cons pe_int (pa_cons pe_int pa_nil)))))
      (Evl.pss_cut (ps_set (i := 7) sc_Lcut.nd rfl (.inl rfl) (pe_ifExp (pt_val (pe_cl c_Llow hr (by decide) (by rfl) (pa_cons (pv 2) (pa_cons (pv 5) pa_nil)))) (pv 2) (pv 5)))
      (Evl.pss_cut (ps_if (pt_val (pe_cl c_Llow hr (by decide) (by rfl) (pa_cons (pv 6) (pa_cons (pv 7) pa_nil))))
        (pss_cons (ps_set (i := 8) sc_Lcut.nd rfl (.inl rfl) (pe_cl c_Lsum hr (by decide) (by rfl) (pa_cons (pe_ix ix_tup (pv 4) pe_int (fun _ _ => rfl)) (pa_cons (pe_cl c_Ltimes hr (by decide) (by rfl) (pa_cons (pv 6) (pa_cons (pe_ix ix_tup (pv 4) pe_int (fun _ _ => rfl)) pa_nil))) pa_nil))))
      (pss_cons (ps_set (i := 9) sc_Lcut.nd rfl (.inl rfl) (pe_cl c_Lsum hr (by decide) (by rfl) (pa_cons (pe_ix ix_tup (pv 4) pe_int (fun _ _ => rfl)) (pa_cons (pe_cl c_Ltimes hr (by decide) (by rfl) (pa_cons (pv 7) (pa_cons (pe_ix ix_tup (pv 4) pe_int (fun _ _ => rfl)) pa_nil))) pa_nil))))
      (pss_one (ps_expr (pe_bm PySem.F.plainAttrs_list PySem.F.slot_list_append PySem.F.type_list_append mt_append (pv 3) (pa_cons (pe_tup (pa_cons (pv 8) (pa_cons (pv 9) (pa_cons (pe_ix ix_tup (pv 4) pe_int (fun _ _ => rfl)) pa_nil)))) pa_nil))))))
        pss_nil)
      (pss_cons (ps_set (i := 1) sc_Lcut.nd rfl (.inl rfl) (pe_cl c_Lminus hr (by decide) (by rfl) (pa_cons (pv 1) (pa_cons (pv 5) pa_nil))))
      (pss_one (ps_set (i := 2) sc_Lcut.nd rfl (.inl rfl) (pe_cl c_Lminus hr (by decide) (by rfl) (pa_cons (pv 2) (pa_cons (pv 5) pa_nil)))))))))))
      (pss_one (ps_ret (pv 3))))), ?_⟩
    refine ⟨Nat.zero_le _, fun r hr0 => ?_⟩
    have s0 := Same.new (o := .lst []) hr0
    refine ⟨_, rfl, a, rfl, ⟨_, s0.seq h0⟩, for_list (K := K) (a := a) (xs := vs) (fun i σ H' => ∃ (w1 w2 : V) (c4 c5 c6 c7 c8 c9 : Option V) (ys : List V) (done : List St3), σ = [some (.ref a), some w1, some w2, some (.ref r), c4, c5, c6, c7, c8, c9] ∧ Same H H' ∧ H' r = some (.lst ys) ∧ ys.length ≤ i ∧ DpAll K H' ys (done.map dS) ∧ Dp K H' w1 (dF (b - lenS (xs.take i))) ∧ Dp K H' w2 (dF (e - lenS (xs.take i))) ∧ cutM xs b e = done ++ cutM (xs.drop i) (b - lenS (xs.take i)) (e - lenS (xs.take i))) ⟨u1, u2, none, none, none, none, none, none, [], [], rfl, s0, upd_same, Nat.le_refl _, .nil, by rw [List.take_zero, sub0]; exact dp_mono s0 _ _ hu1, by rw [List.take_zero, sub0]; exact dp_mono s0 _ _ hu2, by rw [List.take_zero, sub0, sub0]; rfl⟩ (fun i σ H' _ h => ?_) (fun i y σ H' hy h => ?_) (fun σ H' h => ?_)⟩
    · obtain ⟨w1, w2, c4, c5, c6, c7, c8, c9, ys, done, rfl, s1, hr1, hl, da, d1, d2, ec⟩ := h
      exact s1.seq h0
    · obtain ⟨w1, w2, c4, c5, c6, c7, c8, c9, ys, done, rfl, s1, hr1, hl, da, d1, d2, ec⟩ := h
      obtain ⟨x, hx, dx⟩ := dpa_map ha hy
      have hi : i < xs.length := (List.getElem?_eq_some_iff.mp hx).1
      have okx := ok.each x (List.mem_of_getElem? hx)
      have zB : Sz (2 * N + 1) (b - lenS (xs.take i)) := (sz_sub zb (ok.sums i)).mono (by omega)
      have zE : Sz (2 * N + 1) (e - lenS (xs.take i)) := (sz_sub ze (ok.sums i)).mono (by omega)
      have zB2 : Sz (2 * N + 1) (b - lenS (xs.take (i + 1))) := (sz_sub zb (ok.sums (i + 1))).mono (by omega)
      have zL : Sz (2 * N + 1) (lst3 x) := (ok.lasts x (List.mem_of_getElem? hx)).mono (by omega)
      have z0 : Sz 1 (0 : Rat) := ⟨by decide, by decide⟩
      rw [cutM_turn hx] at ec
      -- last_here
      refine ⟨_, rfl, _, x, N, rfl, dp_mono s1 _ _ dx, okx, hN, fun H2 vl s2 dl => ?_⟩
      have dx2 := dp_mono (s1.trans s2) _ _ dx
      have d1 := dp_mono s2 _ _ d1
      have d2 := dp_mono s2 _ _ d2
      have hr2 := s2 _ _ hr1
      have da := dpa_mono s2 _ _ da
      have s12 := s1.trans s2
      -- first
      refine ⟨fun σ' H'' => ∃ vf, σ' = [some (.ref a), some w1, some w2, some (.ref r), some y, some vl, some vf, c7, c8, c9] ∧ Same H2 H'' ∧ Dp K H'' vf (dF (if 0 < b - lenS (xs.take i) then b - lenS (xs.take i) else 0)), ?_, fun σ' H3 hM => ?_⟩
      · refine ⟨(show 2 ≤ sizeLine by decide), fun p hp => ?_⟩
        have t := Same.new (o := .tup [.int 0, .int 1]) hp
        have dz : Dp K (upd H2 p (.tup [.int 0, .int 1])) (.ref p) (dF 0) := dF_mk (.inl (.inl upd_same))
        refine ⟨_, rfl, _, _, _, _, 1, 2 * N + 1, rfl, dz, dp_mono t _ _ d1, z0, zB, by omega, _, rfl, ite2 (fun z => ?_) (fun z => ?_)⟩
        · have z := of_decide_eq_true z
          exact ⟨_, rfl, w1, rfl, t, by rw [if_pos z]; exact dp_mono t _ _ d1⟩
        · have z : ¬ (0 < b - lenS (xs.take i)) := fun c => z (decide_eq_true c)
          refine ⟨(show 2 ≤ sizeLine by decide), fun p2 hp2 => ?_⟩
          have t2 := Same.new (o := .tup [.int 0, .int 1]) hp2
          exact ⟨.ref p2, rfl, t.trans t2, by rw [if_neg z]; exact dF_mk (.inl (.inl upd_same))⟩
      obtain ⟨vf, rfl, s3, df⟩ := hM
      -- behind
      refine ⟨fun σ' H'' => ∃ vg, σ' = [some (.ref a), some w1, some w2, some (.ref r), some y, some vl, some vf, some vg, c8, c9] ∧ H'' = H3 ∧ Dp K H'' vg (dF (if e - lenS (xs.take i) < lst3 x then e - lenS (xs.take i) else lst3 x)), ?_, fun σ' H4 hM => ?_⟩
      · refine ⟨_, rfl, _, rfl, _, _, _, _, 2 * N + 1, 2 * N + 1, rfl, dp_mono s3 _ _ d2, dp_mono s3 _ _ dl, zE, zL, by omega, _, rfl, ite2 (fun z => ?_) (fun z => ?_)⟩
        · have z := of_decide_eq_true z
          exact ⟨_, rfl, w2, rfl, rfl, by rw [if_pos z]; exact dp_mono s3 _ _ d2⟩
        · have z : ¬ (e - lenS (xs.take i) < lst3 x) := fun c => z (decide_eq_true c)
          exact ⟨_, rfl, vl, rfl, rfl, by rw [if_neg z]; exact dp_mono s3 _ _ dl⟩
      obtain ⟨vg, rfl, rfl, dg⟩ := hM
      have zF : Sz (2 * N + 1) (if 0 < b - lenS (xs.take i) then b - lenS (xs.take i) else 0) := sz_if zB (z0.mono (by omega))
      have zG : Sz (2 * N + 1) (if e - lenS (xs.take i) < lst3 x then e - lenS (xs.take i) else lst3 x) := sz_if (zE.mono (by omega)) zL
      have dx3 := dp_mono s3 _ _ dx2
      have d1 := dp_mono s3 _ _ d1
      have d2 := dp_mono s3 _ _ d2
      have dl := dp_mono s3 _ _ dl
      have hr3 := s3 _ _ hr2
      have da := dpa_mono s3 _ _ da
      have s13 := s12.trans s3
      refine ⟨fun σ' H'' => ∃ (c8 c9 : Option V) (ys2 : List V), σ' = [some (.ref a), some w1, some w2, some (.ref r), some y, some vl, some vf, some vg, c8, c9] ∧ Same H H'' ∧ H'' r = some (.lst ys2) ∧ ys2.length ≤ i + 1 ∧ DpAll K H'' ys2 ((done ++ piece x (b - lenS (xs.take i)) (e - lenS (xs.take i))).map dS) ∧ Dp K H'' w1 (dF (b - lenS (xs.take i))) ∧ Dp K H'' w2 (dF (e - lenS (xs.take i))) ∧ Dp K H'' vl (dF (lst3 x)), ?_, fun σ' H5 hM => ?_⟩
      · refine ⟨_, rfl, _, rfl, _, _, _, _, 2 * N + 1, 2 * N + 1, rfl, df, dg, zF, zG, by omega, _, rfl, ?_⟩
        unfold piece
        generalize (if 0 < b - lenS (xs.take i) then b - lenS (xs.take i) else 0) = F0 at df zF ⊢
        generalize (if e - lenS (xs.take i) < lst3 x then e - lenS (xs.take i) else lst3 x) = G0 at dg zG ⊢
        refine ite2 (fun z => ?_) (fun z => ?_)
        · have z := of_decide_eq_true z
          rw [if_pos z]
          obtain ⟨px, x1, x2, x3, rfl, hpx, e1, e2, e3⟩ := dS_at dx3
          refine ⟨_, rfl, _, _, _, _, rfl, rfl, hpx, atI_nat (j := 0) rfl, _, rfl, _, rfl, _, _, _, _, rfl, rfl, hpx, atI_nat (j := 2) rfl, _, _, _, _, 2 * N + 1, N, rfl, df, e3, zF, okx.p, by omega, trivial, fun H5 v5 s5 r5 => ?_⟩
          refine ⟨_, _, _, _, N, 3 * N + 1, rfl, dp_mono s5 _ _ e1, r5, okx.b, (sz_mul zF okx.p).mono (by omega), by omega, trivial, fun H6 v6 s6 r6 => ?_⟩
          have s56 := s5.trans s6
          have hpx6 := Same.tup s56 hpx
          refine ⟨_, rfl, _, _, _, _, rfl, rfl, hpx6, atI_nat (j := 0) rfl, _, rfl, _, rfl, _, _, _, _, rfl, rfl, hpx6, atI_nat (j := 2) rfl, _, _, _, _, 2 * N + 1, N, rfl, dp_mono s56 _ _ dg, dp_mono s56 _ _ e3, zG, okx.p, by omega, trivial, fun H7 v7 s7 r7 => ?_⟩
          have s57 := s56.trans s7
          refine ⟨_, _, _, _, N, 3 * N + 1, rfl, dp_mono s57 _ _ e1, r7, okx.b, (sz_mul zG okx.p).mono (by omega), by omega, trivial, fun H8 v8 s8 r8 => ?_⟩
          have s58 := s57.trans s8
          have hr8 := s58 _ _ hr3
          have hpx8 := Same.tup s58 hpx
          refine ⟨_, rfl, .inl ⟨rfl, _, .inl (.inl hr8)⟩, _, rfl, _, rfl, _, rfl, _, _, _, _, rfl, rfl, hpx8, atI_nat (j := 2) rfl, (show 3 ≤ sizeLine by decide), fun p hp => ?_⟩
          have s9 := Same.new (o := .tup [v6, v8, x3]) hp
          have s59 := s58.trans s9
          have hr9 := s9 _ _ hr8
          have Lr : IsL (upd H8 p (.tup [v6, v8, x3])) r := ⟨_, hr9⟩
          refine ⟨r, ys, _, rfl, rfl, hr9, small1000 (by omega), ?_⟩
          refine ⟨_, _, ys ++ [.ref p], rfl, ?_, upd_same, ?_, ?_, keepU (dp_mono s59 _ _ d1) rfl Lr, keepU (dp_mono s59 _ _ d2) rfl Lr, keepU (dp_mono s59 _ _ dl) rfl Lr⟩
          · intro a' o ha'
            rw [upd_ne (ne_of_none ha' hr0)]
            exact s59 _ _ (s13 _ _ ha')
          · rw [List.length_append]
            show ys.length + 1 ≤ i + 1
            omega
          · rw [List.map_append]
            refine dpa_snoc (keepAU (dpa_mono s59 _ _ da) (tupA_dS _) Lr) (keepU (d := dS _) ?_ rfl Lr)
            exact dS_mk (.inl (.inl upd_same)) (dp_mono (s7.trans (s8.trans s9)) _ _ r6) (dp_mono s9 _ _ r8) (dp_mono s59 _ _ e3)
        · have z : ¬ (F0 < G0) := fun c => z (decide_eq_true c)
          rw [if_neg z, List.append_nil]
          exact ⟨c8, c9, ys, rfl, s13, hr3, by omega, da, d1, d2, dl⟩
      · clear da hr3 d1 d2 dl
        obtain ⟨c8, c9, ys2, rfl, s5, hr5, hl5, da, d1, d2, dl⟩ := hM
        refine ⟨_, rfl, _, rfl, _, _, _, _, 2 * N + 1, 2 * N + 1, rfl, d1, dl, zB, zL, by omega, trivial, fun H6 v6 s6 r6 => ?_⟩
        refine ⟨_, rfl, _, rfl, _, _, _, _, 2 * N + 1, 2 * N + 1, rfl, dp_mono s6 _ _ d2, dp_mono s6 _ _ dl, zE, zL, by omega, trivial, fun H7 v7 s7 r7 => ?_⟩
        have s67 := s6.trans s7
        have eb : b - lenS (xs.take (i + 1)) = b - lenS (xs.take i) - lst3 x := by rw [lenS_more hx]; grind
        have ee : e - lenS (xs.take (i + 1)) = e - lenS (xs.take i) - lst3 x := by rw [lenS_more hx]; grind
        refine ⟨v6, v7, some y, some vl, some vf, some vg, c8, c9, ys2, done ++ piece x (b - lenS (xs.take i)) (e - lenS (xs.take i)), rfl, s5.trans s67, s67 _ _ hr5, hl5, dpa_mono s67 _ _ da, ?_, ?_, ?_⟩
        · rw [eb]
          exact dp_mono s7 _ _ r6
        · rw [ee]
          exact r7
        · rw [ec, List.append_assoc]
    · obtain ⟨w1, w2, c4, c5, c6, c7, c8, c9, ys, done, rfl, s1, hr1, hl, da, d1, d2, ec⟩ := h
      rw [el, List.drop_length] at ec
      have ec : cutM xs b e = done := by rw [ec]; exact List.append_nil _
      rw [← ec] at da
      exact ⟨_, rfl, q _ r ys s1 hr0 hr1 da (cutM_len xs b e)⟩
theorem cl_taken (T : Txt K mg) {C : Addr} (e_OffReel : ExcT K mg "OffReel" C) : Cl P w K mg base (L2.CX P w) 6 "taken" (spTaken K C) := by
  have c_is_below := cl_is_below (P := P) (w := w) (base := base) T
  have c_length := cl_length (P := P) (w := w) (base := base) T
  have c_timetable := cl_timetable (P := P) (w := w) (base := base) T
  have c_larger := cl_larger (P := P) (w := w) (base := base) T
  have c_smaller := cl_smaller (P := P) (w := w) (base := base) T
  have c_piece := cl_piece (P := P) (w := w) (base := base) T
  have c_less := cl_less (P := P) (w := w) (base := base) T
  have c_normal := cl_normal (P := P) (w := w) (base := base) T
  refine T.d_taken.clX sc_taken (fun vs H Q E h => ?_) (fun f cdv A outer s H vs Q E hr h => ?_)
  · obtain ⟨v, u1, u2, xs, b, e, N, rfl, _⟩ := h
    rfl
  · obtain ⟨v, u1, u2, xs, b, e, N, rfl, hv, hu1, hu2, ok, zb, ze, hN, hn, qE, q⟩ := h
    refine ⟨_, (pss_cons (ps_if (pt_val (pe_cl c_is_below hr (by decide) (by rfl) (pa_cons (pv 2) (pa_cons (pv 1) pa_nil))))
        (pss_one (ps_raise rfl (takes_of rfl rfl rfl rfl) (pmk_own PySem.F.excBase_ValueError e_OffReel.x e_OffReel.g e_OffReel.k (raises_own e_OffReel.b e_OffReel.t) rfl)))
        pss_nil)
      (pss_cons (ps_if (pt_val (pe_cl c_is_below hr (by decide) (by rfl) (pa_cons (pe_cl c_length hr (by decide) (by rfl) (pa_cons (pv 0) pa_nil)) (pa_cons (pv 2) pa_nil))))
        (pss_one (ps_raise rfl (takes_of rfl rfl rfl rfl) (pmk_own PySem.F.excBase_ValueError e_OffReel.x e_OffReel.g e_OffReel.k (raises_own e_OffReel.b e_OffReel.t) rfl)))
        pss_nil)
      (pss_cons (ps_set (i := 3) sc_taken.nd rfl (.inl rfl) (pe_lst pa_nil))
      (pss_cons (ps_for (passes_of rfl) rfl (pi_list (pe_cl c_timetable hr (by decide) (by rfl) (pa_cons (pv 0) pa_nil))) (pg_tup rfl (pgs_cons (pg_name (i := 4) sc_taken.nd rfl (.inl rfl)) (pgs_cons (pg_name (i := 5) sc_taken.nd rfl (.inl rfl)) (pgs_cons (pg_name (i := 6) sc_taken.nd rfl (.inl rfl)) pgs_nil))))
        (pss_cons (ps_set (i := 7) sc_taken.nd rfl (.inl rfl) (pe_cl c_larger hr (by decide) (by rfl) (pa_cons (pv 1) (pa_cons (pv 4) pa_nil))))
      (pss_cons (ps_set (i := 8) sc_taken.nd rfl (.inl rfl) (pe_cl c_smaller hr (by decide) (by rfl) (pa_cons (pv 2) (pa_cons (pv 5) pa_nil))))
      (pss_one (ps_if (pt_val (pe_cl c_is_below hr (by decide) (by rfl) (pa_cons (pv 7) (pa_cons (pv 8) pa_nil))))
        (pss_one (ps_expr (pe_bm PySem.F.plainAttrs_list PySem.F.slot_list_append PySem.F.type_list_append mt_append (pv 3) (pa_cons (pe_cl c_piece hr (by decide) (by rfl) (pa_cons (pv 6) (pa_cons (pe_cl c_less hr (by decide) (by rfl) (pa_cons (pv 7) (pa_cons (pv 4) pa_nil))) (pa_cons (pe_cl c_less hr (by decide) (by rfl) (pa_cons (pv 8) (pa_cons (pv 4) pa_nil))) pa_nil)))) pa_nil))))
        pss_nil)))))
      (pss_one (ps_ret (pe_cl c_normal hr (by decide) (by rfl) (pa_cons (pv 3) pa_nil)))))))), ?_⟩
    refine ⟨_, rfl, _, rfl, _, _, e, b, N, N, rfl, hu2, hu1, ze, zb, by omega, _, rfl, ite2 (fun z => ?_) (fun z => ?_)⟩
    · exact qE (.inl (of_decide_eq_true z)) _ (Same.refl _)
    have n1 : ¬ e < b := fun c => z (decide_eq_true c)
    refine ⟨_, rfl, _, xs, N, rfl, hv, ok, hN, fun H1 z1 s1 d1 => ?_⟩
    have zl : Sz N (lenS xs) := by have := ok.sums xs.length; rw [List.take_length] at this; exact this
    refine ⟨_, rfl, _, _, lenS xs, e, N, N, rfl, d1, dp_mono s1 _ _ hu2, zl, ze, by omega, _, rfl, ite2 (fun z => ?_) (fun z => ?_)⟩
    · exact qE (.inr (of_decide_eq_true z)) _ s1
    have n2 : ¬ lenS xs < e := fun c => z (decide_eq_true c)
    have q := q (fun c => c.elim n1 n2)
    refine ⟨Nat.zero_le _, fun r hr1 => ?_⟩
    have hr0 : H r = none := s1.free hr1
    have s2 := s1.trans (Same.new (o := .lst []) hr1)
    have hr2 : (upd H1 r (.lst [])) r = some (.lst []) := upd_same
    generalize upd H1 r (.lst []) = H2 at s2 hr2 ⊢
    refine ⟨_, rfl, _, xs, N, rfl, dp_mono s2 _ _ hv, ok, hN, by omega, fun H3 p rows s3 np hp dr => ?_⟩
    have s03 := s2.trans s3
    have hr3 := s3 _ _ hr2
    have npr : p ≠ r := fun z => by rw [z, hr2] at np; cases np
    have hpq : SqL K H3 p rows := .inl (.inl hp)
    have erow : rows.length = xs.length := by rw [dpa_len dr, List.length_map, tabF_len]
    have tr : ∀ x : Rat × Rat × St3, tupD (dRow x) = true := fun x => rfl
    have hu1 := dp_mono s03 _ _ hu1
    have hu2 := dp_mono s03 _ _ hu2
    refine ⟨p, rfl, ⟨_, hpq⟩, for_list (K := K) (a := p) (xs := rows) (fun i σ H' => ∃ (c4 c5 c6 c7 c8 : Option V) (ys : List V) (done : List St3), σ = [some v, some u1, some u2, some (.ref r), c4, c5, c6, c7, c8] ∧ Same (hid r r H3) (hid r r H') ∧ H' r = some (.lst ys) ∧ ys.length ≤ i ∧ DpAll K H' ys (done.map dS) ∧ cutM xs b e = done ++ cutM (xs.drop i) (b - lenS (xs.take i)) (e - lenS (xs.take i))) ⟨none, none, none, none, none, [], [], rfl, Same.refl _, hr3, Nat.le_refl _, .nil, by rw [List.take_zero, sub0, sub0]; rfl⟩ (fun i σ H' _ h => ?_) (fun i y σ H' hy h => ?_) (fun σ H' h => ?_)⟩
    · obtain ⟨c4, c5, c6, c7, c8, ys, done, rfl, s4, hr4, hl, da, ec⟩ := h
      have : hid r r H3 p = some (.lst rows) := by
        unfold hid
        rw [if_neg (by rintro (c | c) <;> exact npr c), hp]
      exact .inl (.inl (hid_same _ _ (s4 _ _ this)))
    · obtain ⟨c4, c5, c6, c7, c8, ys, done, rfl, s4, hr4, hl, da, ec⟩ := h
      obtain ⟨row, hrow, drow⟩ := dpa_map dr hy
      rw [tabF_get] at hrow
      have hi : i < xs.length := by
        have := (List.getElem?_eq_some_iff.mp hy).1
        omega
      obtain ⟨x, hx⟩ : ∃ x, xs[i]? = some x := ⟨_, List.getElem?_eq_getElem hi⟩
      rw [hx] at hrow
      have erw : row = (0 + lenS (xs.take i), 0 + lenS (xs.take (i + 1)), x) := (Option.some.inj hrow).symm
      rw [Rat.zero_add, Rat.zero_add] at erw
      subst erw
      have okx := ok.each x (List.mem_of_getElem? hx)
      have zS := ok.sums i
      have zT := ok.sums (i + 1)
      have L3 : IsL H3 r := ⟨_, hr3⟩
      have drow := keepT drow (tr _) L3 L3 s4
      have hu1 := keepT hu1 rfl L3 L3 s4
      have hu2 := keepT hu2 rfl L3 L3 s4
      obtain ⟨pr, v1, v2, v3, rfl, hpr, e1, e2, e3⟩ := dRow_at drow
      rw [cutM_turn hx, piece_eq, ← lenS_more hx] at ec
      refine ⟨pr, _, rfl, hpr, rfl, _, _, rfl, _, _, rfl, _, _, rfl, rfl, ?_⟩
      refine ⟨_, rfl, _, rfl, _, _, b, lenS (xs.take i), N, N, rfl, hu1, e1, zb, zS, by omega, ?_⟩
      refine ⟨_, rfl, _, rfl, _, _, e, lenS (xs.take (i + 1)), N, N, rfl, hu2, e2, ze, zT, by omega, ?_⟩
      have df : Dp K H' (if decide (b < lenS (xs.take i)) = true then v1 else u1) (dF (if b < lenS (xs.take i) then lenS (xs.take i) else b)) := by
        by_cases c : b < lenS (xs.take i)
        · rw [if_pos (decide_eq_true c), if_pos c]
          exact e1
        · rw [if_neg (fun z => c (of_decide_eq_true z)), if_neg c]
          exact hu1
      have dg : Dp K H' (if decide (lenS (xs.take (i + 1)) < e) = true then v2 else u2) (dF (if lenS (xs.take (i + 1)) < e then lenS (xs.take (i + 1)) else e)) := by
        by_cases c : lenS (xs.take (i + 1)) < e
        · rw [if_pos (decide_eq_true c), if_pos c]
          exact e2
        · rw [if_neg (fun z => c (of_decide_eq_true z)), if_neg c]
          exact hu2
      have zF : Sz N (if b < lenS (xs.take i) then lenS (xs.take i) else b) := sz_if zS zb
      have zG : Sz N (if lenS (xs.take (i + 1)) < e then lenS (xs.take (i + 1)) else e) := sz_if zT ze
      generalize (if decide (b < lenS (xs.take i)) = true then v1 else u1) = vf at df ⊢
      generalize (if decide (lenS (xs.take (i + 1)) < e) = true then v2 else u2) = vg at dg ⊢
      generalize (if b < lenS (xs.take i) then lenS (xs.take i) else b) = F0 at df zF ec ⊢
      generalize (if lenS (xs.take (i + 1)) < e then lenS (xs.take (i + 1)) else e) = G0 at dg zG ec ⊢
      refine ⟨_, rfl, _, rfl, _, _, F0, G0, N, N, rfl, df, dg, zF, zG, by omega, _, rfl, ite2 (fun z => ?_) (fun z => ?_)⟩
      · rw [if_pos (of_decide_eq_true z)] at ec
        refine ⟨_, rfl, .inl ⟨rfl, _, .inl (.inl hr4)⟩, _, rfl, _, rfl, _, rfl, _, _, F0, lenS (xs.take i), N, N, rfl, df, e1, zF, zS, by omega, trivial, fun H5 z5 s5 d5 => ?_⟩
        refine ⟨_, rfl, _, rfl, _, _, G0, lenS (xs.take i), N, N, rfl, dp_mono s5 _ _ dg, dp_mono s5 _ _ e1, zG, zS, by omega, trivial, fun H6 z6 s6 d6 => ?_⟩
        have s56 := s5.trans s6
        refine ⟨_, _, _, x, _, _, N, rfl, dp_mono s56 _ _ e3, dp_mono s6 _ _ d5, d6, okx, (sz_sub zF zS).mono (by omega), (sz_sub zG zS).mono (by omega), hN, fun H7 z7 s7 d7 => ?_⟩
        have s57 := s56.trans s7
        have hr7 := s57 _ _ hr4
        have Lr : IsL H7 r := ⟨_, hr7⟩
        refine ⟨r, ys, _, rfl, rfl, hr7, small1000 (by omega), ?_⟩
        refine ⟨_, _, _, _, _, ys ++ [z7], done ++ [(x.1 + (F0 - lenS (xs.take i)) * x.2.2, x.1 + (G0 - lenS (xs.take i)) * x.2.2, x.2.2)], rfl, ?_, upd_same, ?_, ?_, ?_⟩
        · rw [hid_b]
          exact s4.trans (Same.hid s57)
        · rw [List.length_append]
          show ys.length + 1 ≤ i + 1
          omega
        · rw [List.map_append]
          exact dpa_snoc (keepAU (dpa_mono s57 _ _ da) (tupA_dS _) Lr) (keepU d7 rfl Lr)
        · rw [ec, List.append_assoc]
      · rw [if_neg (fun c => z (decide_eq_true c))] at ec
        exact ⟨_, _, _, _, _, ys, done, rfl, s4, hr4, by omega, da, ec⟩
    · obtain ⟨c4, c5, c6, c7, c8, ys, done, rfl, s4, hr4, hl, da, ec⟩ := h
      rw [erow, List.drop_length] at ec
      have ec : cutM xs b e = done := by rw [ec]; exact List.append_nil _
      rw [ec] at q
      have ld : done.length ≤ 1000 := by
        have := dpa_len da
        rw [List.length_map] at this
        omega
      refine ⟨_, rfl, _, done, rfl, .lst (.inl (.inl hr4)) da, ld, fun H5 p5 ys5 s5 n5 h5 da5 => ?_⟩
      have sF : Same H H' := (hid_old s03 hr0).trans (s4.trans hid_same)
      exact q _ p5 ys5 (sF.trans s5) (sF.free n5) h5 da5
/-! ### heaps with some addresses left out -/
def hidL (S : List Addr) (H : Hp) : Hp := fun a => if a ∈ S then none else H a
theorem hidL_same {S : List Addr} {H : Hp} : Same (hidL S H) H := fun a o h => by
  unfold hidL at h
  split at h
  · cases h
  · exact h
theorem hidL_at {S : List Addr} {H : Hp} {a : Addr} {o : HO} (h : a ∉ S) (e : H a = some o) : hidL S H a = some o := by
  unfold hidL
  rw [if_neg h]
  exact e
theorem hidL_ne {S : List Addr} {H : Hp} {a : Addr} {o : HO} (e : hidL S H a = some o) : a ∉ S ∧ H a = some o := by
  unfold hidL at e
  split at e
  · cases e
  · rename_i h
    exact ⟨h, e⟩
theorem Same.hidL {S : List Addr} {H H' : Hp} (s : Same H H') : Same (hidL S H) (hidL S H') := fun a o h => by
  obtain ⟨h1, h2⟩ := hidL_ne h
  exact hidL_at h1 (s _ _ h2)
theorem hidL_upd {S : List Addr} {H : Hp} {a : Addr} {o : HO} (h : a ∈ S) : R.hidL S (upd H a o) = R.hidL S H := by
  funext c
  unfold R.hidL
  by_cases e : c ∈ S
  · rw [if_pos e, if_pos e]
  · rw [if_neg e, if_neg e, upd_ne (fun z => e (by rw [z]; exact h))]
theorem hidL_more {S S' : List Addr} {H : Hp} (h : ∀ a ∈ S, a ∈ S') : Same (R.hidL S' H) (R.hidL S H) := fun a o e => by
  obtain ⟨h1, h2⟩ := hidL_ne e
  exact hidL_at (fun z => h1 (h _ z)) h2
theorem sub_hidL {S S' : List Addr} {H H' : Hp} (h : ∀ a ∈ S, a ∈ S') (s : Same (R.hidL S H) (R.hidL S H')) : Same (R.hidL S' H) (R.hidL S' H') := fun a o e => by
  obtain ⟨h1, h2⟩ := hidL_ne e
  exact hidL_at h1 (hidL_same _ _ (s _ _ (hidL_at (fun z => h1 (h _ z)) h2)))
theorem hid_hidL {S : List Addr} {b l : Addr} {H H' : Hp} (hb : b ∈ S) (hl : l ∈ S) (s : Same (hid b l H) (hid b l H')) : Same (R.hidL S H) (R.hidL S H') := fun a o e => by
  obtain ⟨h1, h2⟩ := hidL_ne e
  refine hidL_at h1 (hid_same _ _ (s a o ?_))
  unfold hid
  rw [if_neg, h2]
  rintro (z | z)
  · exact h1 (by rw [z]; exact hb)
  · exact h1 (by rw [z]; exact hl)
/-- what stands at an address is no tuple -/
def NoT (H : Hp) (a : Addr) : Prop := ∃ u, H a = some u ∧ (∀ zs, u ≠ .tup zs) ∧ ∀ o zs, u ≠ .frz o (.tup zs)
theorem NoT.lst {H : Hp} {a : Addr} {xs : List V} (h : H a = some (.lst xs)) : NoT H a := ⟨_, h, fun _ z => (nomatch z), fun _ _ z => (nomatch z)⟩
theorem NoT.ins {H : Hp} {a C dx : Addr} {fs : List (Str × V)} (h : H a = some (.ins C dx fs)) : NoT H a := ⟨_, h, fun _ z => (nomatch z), fun _ _ z => (nomatch z)⟩
theorem NoT.mono {H H' : Hp} {a : Addr} (h : NoT H a) (s : Same H H') : NoT H' a := let ⟨u, h1, h2, h3⟩ := h; ⟨u, s _ _ h1, h2, h3⟩
theorem hidL_tup {K : PySem.W.Frag} {S : List Addr} {a : Addr} {H : Hp} {xs : List V} (n : ∀ b ∈ S, NoT H b) (h : SqT K H a xs) : SqT K (R.hidL S H) a xs := by
  have key : ∀ o : HO, H a = some o → (∀ b, b ∈ S → a = b → False) → R.hidL S H a = some o := fun o ho hn => hidL_at (fun z => hn a z rfl) ho
  rcases h with (h | ⟨o, h⟩) | h
  · refine .inl (.inl (key _ h fun b hb e => ?_))
    obtain ⟨u, h1, h2, h3⟩ := n b hb
    rw [← e, h] at h1
    exact h2 xs (Option.some.inj h1).symm
  · refine .inl (.inr ⟨o, key _ h fun b hb e => ?_⟩)
    obtain ⟨u, h1, h2, h3⟩ := n b hb
    rw [← e, h] at h1
    exact h3 o xs (Option.some.inj h1).symm
  · exact .inr h
mutual
theorem dp_hidL {K : PySem.W.Frag} {S : List Addr} {H : Hp} (n : ∀ b ∈ S, NoT H b) : ∀ (d : PyData) (v : V), tupD d = true → Dp K H v d → Dp K (R.hidL S H) v d
  | .none, _, _, h => by cases h; exact .non
  | .bool _, _, _, h => by cases h; exact .bl _
  | .int _, _, _, h => by cases h; exact .int _
  | .str _, _, _, h => by cases h; exact .str _
  | .list ds, _, z, _ => by cases z
  | .tuple ds, _, z, h => by
    cases h with
    | tup hs ha => exact .tup (hidL_tup n hs) (dpa_hidL n ds _ z ha)
  | .dict _, _, z, _ => by cases z
theorem dpa_hidL {K : PySem.W.Frag} {S : List Addr} {H : Hp} (n : ∀ b ∈ S, NoT H b) : ∀ (ds : List PyData) (vs : List V), tupA ds = true → DpAll K H vs ds → DpAll K (R.hidL S H) vs ds
  | [], _, _, h => by cases h; exact .nil
  | d :: ds, _, z, h => by
    have z2 := Bool.and_eq_true_iff.mp (show (tupD d && tupA ds) = true from z)
    cases h with
    | cons h1 h2 => exact .cons (dp_hidL n d _ z2.1 h1) (dpa_hidL n ds _ z2.2 h2)
end
/-- a list of stretches beside what is left out -/
theorem show_hidL {K : PySem.W.Frag} {S : List Addr} {H : Hp} {p : Addr} {ys : List V} {xs : List St3} (n : ∀ b ∈ S, NoT H b) (np : p ∉ S) (hp : H p = some (.lst ys)) (da : DpAll K H ys (xs.map dS)) : Dp K (R.hidL S H) (.ref p) (dSh xs) :=
  .lst (.inl (.inl (hidL_at np hp))) (dpa_hidL n _ _ (tupA_dS _) da)
/-! ### a reel -/
def rF (c e u : V) : List (Str × V) := [("current", c), ("earlier", e), ("undone", u)]
theorem rF_cur (c e u : V) : (rF c e u).lookup ("current" : Str) = some c := rfl
theorem rF_ear (c e u : V) : (rF c e u).lookup ("earlier" : Str) = some e := by
  show (match ("earlier" : Str) == ("current" : Str) with | true => some c | false => _) = _
  rw [show (("earlier" : Str) == ("current" : Str)) = false by decide +kernel]
  rfl
theorem rF_und (c e u : V) : (rF c e u).lookup ("undone" : Str) = some u := by
  show (match ("undone" : Str) == ("current" : Str) with | true => some c | false => (match ("undone" : Str) == ("earlier" : Str) with | true => some e | false => _)) = _
  rw [show (("undone" : Str) == ("current" : Str)) = false by decide +kernel, show (("undone" : Str) == ("earlier" : Str)) = false by decide +kernel]
  rfl
theorem rF_no (c e u : V) {m : Str} (h1 : (m == ("current" : Str)) = false) (h2 : (m == ("earlier" : Str)) = false) (h3 : (m == ("undone" : Str)) = false) : (rF c e u).lookup m = none := by
  show (match m == ("current" : Str) with | true => some c | false => (match m == ("earlier" : Str) with | true => some e | false => (match m == ("undone" : Str) with | true => some u | false => none))) = _
  rw [h1, h2, h3]
theorem ne_ce : ¬ (("current" : Str) = "earlier") := by decide +kernel
theorem ne_cu : ¬ (("current" : Str) = "undone") := by decide +kernel
theorem ne_eu : ¬ (("earlier" : Str) = "undone") := by decide +kernel
theorem rF_put1 (c : V) : putF "current" c [] = ([("current", c)] : List (Str × V)) := rfl
theorem rF_put2 (c e : V) : putF "earlier" e ([("current", c)] : List (Str × V)) = ([("current", c), ("earlier", e)] : List (Str × V)) := by
  show (if ("current" : Str) = "earlier" then [(("current" : Str), e)] else (("current" : Str), c) :: putF "earlier" e []) = _
  rw [if_neg ne_ce]
  rfl
theorem rF_put3 (c e u : V) : putF "undone" u ([("current", c), ("earlier", e)] : List (Str × V)) = rF c e u := by
  show (if ("current" : Str) = "undone" then (("current" : Str), u) :: [(("earlier" : Str), e)] else (("current" : Str), c) :: (if ("earlier" : Str) = "undone" then [(("earlier" : Str), u)] else (("earlier" : Str), e) :: putF "undone" u [])) = _
  rw [if_neg ne_cu, if_neg ne_eu]
  rfl
theorem rF_putc (c c' e u : V) : putF "current" c' (rF c e u) = rF c' e u := by
  show (if ("current" : Str) = "current" then (("current" : Str), c') :: [(("earlier" : Str), e), (("undone" : Str), u)] else (("current" : Str), c) :: putF "current" c' [(("earlier" : Str), e), (("undone" : Str), u)]) = _
  rw [if_pos rfl]
  rfl
/-- a reel stands at p: its show, the shows that back goes to, those that again goes to; S: all that changes -/
structure RAt (K : PySem.W.Frag) (C : Addr) (H : Hp) (S : List Addr) (p pe pu : Addr) (cur : List St3) (ear und : List (List St3)) : Prop where
  ip : p ∈ S
  ie : pe ∈ S
  iu : pu ∈ S
  neu : pe ≠ pu
  nt : ∀ a ∈ S, NoT H a
  ob : ∃ dx vc, H p = some (.ins C dx (rF vc (.ref pe) (.ref pu))) ∧ Dp K (R.hidL S H) vc (dSh cur)
  he : ∃ es, H pe = some (.lst es) ∧ DpAll K (R.hidL S H) es (ear.map dSh)
  hu : ∃ us, H pu = some (.lst us) ∧ DpAll K (R.hidL S H) us (und.map dSh)
section
variable {K : PySem.W.Frag} {C : Addr} {H H' : Hp} {S : List Addr} {p pe pu : Addr} {cur : List St3} {ear und : List (List St3)}
theorem RAt.mono (r : RAt K C H S p pe pu cur ear und) (s : Same H H') : RAt K C H' S p pe pu cur ear und := by
  obtain ⟨dx, vc, h1, h2⟩ := r.ob
  obtain ⟨es, h3, h4⟩ := r.he
  obtain ⟨us, h5, h6⟩ := r.hu
  exact ⟨r.ip, r.ie, r.iu, r.neu, fun a ha => (r.nt a ha).mono s, ⟨dx, vc, s _ _ h1, dp_mono (Same.hidL s) _ _ h2⟩, ⟨es, s _ _ h3, dpa_mono (Same.hidL s) _ _ h4⟩, ⟨us, s _ _ h5, dpa_mono (Same.hidL s) _ _ h6⟩⟩
/-- fewer addresses -/
theorem RAt.less {S' : List Addr} (r : RAt K C H S' p pe pu cur ear und) (h : ∀ a ∈ S, a ∈ S') (ip : p ∈ S) (ie : pe ∈ S) (iu : pu ∈ S) : RAt K C H S p pe pu cur ear und := by
  obtain ⟨dx, vc, h1, h2⟩ := r.ob
  obtain ⟨es, h3, h4⟩ := r.he
  obtain ⟨us, h5, h6⟩ := r.hu
  exact ⟨ip, ie, iu, r.neu, fun a ha => r.nt a (h a ha), ⟨dx, vc, h1, dp_mono (hidL_more h) _ _ h2⟩, ⟨es, h3, dpa_mono (hidL_more h) _ _ h4⟩, ⟨us, h5, dpa_mono (hidL_more h) _ _ h6⟩⟩
/-- a draw: only the box is changed -/
theorem RAt.draw {b l : Addr} (r : RAt K C H S p pe pu cur ear und) (hb : b ∈ S) (hl : l ∈ S) (n : ∀ a ∈ [p, pe, pu], a ≠ b ∧ a ≠ l) (n2 : ∀ a ∈ S, a ≠ b → a ≠ l → ∀ o, H a = some o → H' a = some o) (s : Same (hid b l H) (hid b l H')) (B : Bx H' b l) : RAt K C H' S p pe pu cur ear und := by
  obtain ⟨dx, vc, h1, h2⟩ := r.ob
  obtain ⟨es, h3, h4⟩ := r.he
  obtain ⟨us, h5, h6⟩ := r.hu
  have t := hid_hidL hb hl s
  have np := n p (by simp)
  have ne := n pe (by simp)
  have nu := n pu (by simp)
  refine ⟨r.ip, r.ie, r.iu, r.neu, fun a ha => ?_, ⟨dx, vc, n2 p r.ip np.1 np.2 _ h1, dp_mono t _ _ h2⟩, ⟨es, n2 pe r.ie ne.1 ne.2 _ h3, dpa_mono t _ _ h4⟩, ⟨us, n2 pu r.iu nu.1 nu.2 _ h5, dpa_mono t _ _ h6⟩⟩
  by_cases e1 : a = b
  · obtain ⟨x, y, q1, q2⟩ := B.ex
    rw [e1]
    exact NoT.lst q1
  · by_cases e2 : a = l
    · obtain ⟨x, y, q1, q2⟩ := B.ex
      rw [e2]
      exact NoT.lst q2
    · obtain ⟨u, q1, q2, q3⟩ := r.nt a ha
      exact ⟨u, n2 a ha e1 e2 _ q1, q2, q3⟩
theorem hid_keep {b l a : Addr} {o : HO} (s : Same (hid b l H) (hid b l H')) (e1 : a ≠ b) (e2 : a ≠ l) (h : H a = some o) : H' a = some o := by
  refine hid_same _ _ (s a o ?_)
  unfold hid
  rw [if_neg, h]
  rintro (z | z)
  · exact e1 z
  · exact e2 z
theorem RAt.draw' {b l : Addr} (r : RAt K C H S p pe pu cur ear und) (hb : b ∈ S) (hl : l ∈ S) (n : ∀ a ∈ [p, pe, pu], a ≠ b ∧ a ≠ l) (s : Same (hid b l H) (hid b l H')) (B : Bx H' b l) : RAt K C H' S p pe pu cur ear und :=
  r.draw hb hl n (fun _ _ e1 e2 _ h => hid_keep s e1 e2 h) s B
/-- one more address, new since -/
theorem RAt.new {r : Addr} (q : RAt K C H S p pe pu cur ear und) (s : Same H H') (hr : H r = none) (n : NoT H' r) : RAt K C H' (r :: S) p pe pu cur ear und := by
  obtain ⟨dx, vc, h1, h2⟩ := q.ob
  obtain ⟨es, h3, h4⟩ := q.he
  obtain ⟨us, h5, h6⟩ := q.hu
  have t : Same (R.hidL S H) (R.hidL (r :: S) H') := fun a o ha => by
    obtain ⟨e1, e2⟩ := hidL_ne ha
    refine hidL_at (fun z => ?_) (s _ _ e2)
    rcases List.mem_cons.mp z with z | z
    · rw [z, hr] at e2
      cases e2
    · exact e1 z
  refine ⟨List.mem_cons_of_mem _ q.ip, List.mem_cons_of_mem _ q.ie, List.mem_cons_of_mem _ q.iu, q.neu, fun a ha => ?_, ⟨dx, vc, s _ _ h1, dp_mono t _ _ h2⟩, ⟨es, s _ _ h3, dpa_mono t _ _ h4⟩, ⟨us, s _ _ h5, dpa_mono t _ _ h6⟩⟩
  rcases List.mem_cons.mp ha with z | z
  · rw [z]
    exact n
  · exact (q.nt a z).mono s
theorem RAt.notin {a : Addr} (q : RAt K C H S p pe pu cur ear und) (h : H a = none) : a ∉ S := fun z => by
  obtain ⟨u, hu, _⟩ := q.nt a z
  rw [h] at hu
  cases hu
end
def spRInit (K : PySem.W.Frag) (C : Addr) : Sp := fun vs H Q _ => ∃ (p dx : Addr) (v : V) (xs : List St3), vs = [.ref p, v] ∧ H p = some (.ins C dx []) ∧ Dp K H v (dSh xs) ∧ xs.length ≤ 1000 ∧
  ∀ H' pc pe pu ys, (∀ b o, H b = some o → b ≠ p → H' b = some o) → H pc = none → H pe = none → H pu = none → pe ≠ pu → pc ≠ pe → pc ≠ pu → H' p = some (.ins C dx (rF (.ref pc) (.ref pe) (.ref pu))) → H' pc = some (.lst ys) → H' pe = some (.lst []) → H' pu = some (.lst []) → DpAll K H' ys ((normM xs).map dS) → Q .non H'
theorem cl_Reel___init__ (T : Txt K mg) {C : Addr} (k_Reel : C_Reel K mg C) : ClM P w K mg base CX0 2 C "__init__" (spRInit K C) := by
  have c_normal := cl_normal (P := P) (w := w) (base := base) T
  refine k_Reel.d___init__.cl sc_Reel___init__ (fun vs H Q E h => ?_) (fun f cdv A outer s H vs Q E hr h => ?_)
  · obtain ⟨p, dx, v, xs, rfl, _⟩ := h
    rfl
  · obtain ⟨p, dx, v, xs, rfl, hp, dv, hn, q⟩ := h
    refine ⟨_, (pss_cons (ps_fld (pv 0) (pe_cl c_normal hr (by decide) (by rfl) (pa_cons (pv 1) pa_nil)) rfl)
      (pss_cons (ps_fld (pv 0) (pe_lst pa_nil) rfl)
      (pss_one (ps_fld (pv 0) (pe_lst pa_nil) rfl)))), ?_⟩
    refine ⟨_, rfl, v, xs, rfl, dv, hn, fun H1 pc ys s1 nc hc da => ?_⟩
    have hp1 := s1 _ _ hp
    have npc : pc ≠ p := fun z => by rw [z, hp] at nc; cases nc
    refine ⟨_, rfl, p, C, dx, [], rfl, hp1, k_Reel.oc.cl, k_Reel.n_current, (by show 0 < 1000; decide), ?_⟩
    refine ⟨Nat.zero_le _, fun pe ne => ?_⟩
    have ne1 : pe ≠ p := fun z => by rw [z, upd_same] at ne; cases ne
    rw [upd_ne ne1] at ne
    have nce : pc ≠ pe := fun z => by rw [← z, hc] at ne; cases ne
    refine ⟨_, rfl, p, C, dx, _, rfl, (by rw [upd_ne ne1.symm]; exact upd_same), k_Reel.oc.cl, k_Reel.n_earlier, (by show 1 < 1000; decide), ?_⟩
    refine ⟨Nat.zero_le _, fun pu nu => ?_⟩
    have nu1 : pu ≠ p := fun z => by rw [z, upd_same] at nu; cases nu
    rw [upd_ne nu1] at nu
    have neu : pu ≠ pe := fun z => by rw [z, upd_same] at nu; cases nu
    rw [upd_ne neu, upd_ne nu1] at nu
    have ncu : pc ≠ pu := fun z => by rw [← z, hc] at nu; cases nu
    refine ⟨_, rfl, p, C, dx, _, rfl, (by rw [upd_ne nu1.symm]; exact upd_same), k_Reel.oc.cl, k_Reel.n_undone, (by rw [rF_put1, rF_put2]; show 2 < 1000; decide), ?_⟩
    have hpe : ∀ o1 o2 o3 o4 o5 : HO, upd (upd (upd (upd (upd H1 p o1) pe o2) p o3) pu o4) p o5 pe = some o2 := fun o1 o2 o3 o4 o5 => by
      rw [upd_ne ne1, upd_ne neu.symm, upd_ne ne1, upd_same]
    have hpu : ∀ o1 o2 o3 o4 o5 : HO, upd (upd (upd (upd (upd H1 p o1) pe o2) p o3) pu o4) p o5 pu = some o4 := fun o1 o2 o3 o4 o5 => by
      rw [upd_ne nu1, upd_same]
    have old : ∀ o1 o2 o3 o4 o5 : HO, ∀ b o, H1 b = some o → b ≠ p → upd (upd (upd (upd (upd H1 p o1) pe o2) p o3) pu o4) p o5 b = some o := fun o1 o2 o3 o4 o5 b o hb hn => by
      rw [upd_ne hn, upd_ne (ne_of_none hb nu), upd_ne hn, upd_ne (ne_of_none hb ne), upd_ne hn]
      exact hb
    refine q _ pc pe pu ys (fun b o hb hn => old _ _ _ _ _ b o (s1 _ _ hb) hn) nc (s1.free ne) (s1.free nu) neu.symm nce ncu ?_ (old _ _ _ _ _ pc _ hc npc) (hpe _ _ _ _ _) (hpu _ _ _ _ _) ?_
    · rw [upd_same, rF_put1, rF_put2, rF_put3]
    · have nt : ∀ b ∈ [p], NoT H1 b := fun b hb => by
        rw [List.mem_singleton.mp hb]
        exact NoT.ins hp1
      refine dpa_mono (H := R.hidL [p] H1) (fun b o hb => ?_) _ _ (dpa_hidL nt _ _ (tupA_dS _) da)
      obtain ⟨h1, h2⟩ := hidL_ne hb
      exact old _ _ _ _ _ b o h2 (fun z => h1 (List.mem_singleton.mpr z))
def spRShow (K : PySem.W.Frag) (C : Addr) : Sp := fun vs H Q _ => ∃ (S : List Addr) (p pe pu : Addr) (cur : List St3) (ear und : List (List St3)), vs = [.ref p] ∧ RAt K C H S p pe pu cur ear und ∧
  ∀ H' r ys, Same H H' → H r = none → H' r = some (.lst ys) → DpAll K H' ys (cur.map dS) → Q (.ref r) H'
theorem cl_Reel_show (T : Txt K mg) {C : Addr} (k_Reel : C_Reel K mg C) : ClM P w K mg base CX0 1 C "show" (spRShow K C) := by
  refine k_Reel.d_show.cl sc_Reel_show (fun vs H Q E h => ?_) (fun f cdv A outer s H vs Q E hr h => ?_)
  · obtain ⟨S, p, pe, pu, cur, ear, und, rfl, _⟩ := h
    rfl
  · obtain ⟨S, p, pe, pu, cur, ear, und, rfl, r, q⟩ := h
    obtain ⟨dx, vc, h1, h2⟩ := r.ob
    obtain ⟨a, vs, rfl, h3, h4⟩ := dSh_at (dp_mono hidL_same _ _ h2)
    refine ⟨_, (pss_one (ps_ret (pe_callTy call_list_of (by rfl) T.m_list (by decide +kernel) (pa_cons (pe_fld (pv 0) rfl) pa_nil)))), ?_⟩
    refine ⟨_, rfl, p, C, dx, _, _, rfl, h1, k_Reel.oc.cl, k_Reel.n_current, rF_cur _ _ _, a, vs, rfl, .inl h3, fun l hl => ?_⟩
    have s1 := Same.new (o := .lst vs) hl
    exact q _ l vs s1 hl upd_same (dpa_mono s1 _ _ h4)
def offFill (cur : List St3) (b e : Rat) : Prop := refused cur 0 b ∨ refused cur e (lenS cur)
def fillM (cur st : List St3) (b e : Rat) : List St3 := normM (normM (cutM cur 0 b) ++ st ++ normM (cutM cur e (lenS cur)))
def Kp3 (p pe pu : Addr) (H H' : Hp) : Prop := Same (R.hidL [p, pe, pu] H) (R.hidL [p, pe, pu] H')
theorem Same.kp3 {p pe pu : Addr} {H H' : Hp} (s : Same H H') : Kp3 p pe pu H H' := Same.hidL s
theorem Kp3.trans {p pe pu : Addr} {H H1 H2 : Hp} (a : Kp3 p pe pu H H1) (b : Kp3 p pe pu H1 H2) : Kp3 p pe pu H H2 := Same.trans a b
def spFill (K : PySem.W.Frag) (C C0 : Addr) : Sp := fun vs H Q E => ∃ (S : List Addr) (p pe pu : Addr) (cur st : List St3) (ear und : List (List St3)) (u1 u2 : V) (a3 : Addr) (y3 : List V) (b e : Rat) (N : Nat), vs = [.ref p, u1, u2, .ref a3] ∧ RAt K C H S p pe pu cur ear und ∧ Dp K H u1 (dF b) ∧ Dp K H u2 (dF e) ∧ R.hidL S H a3 = some (.lst y3) ∧ DpAll K (R.hidL S H) y3 (st.map dS) ∧
  ShOk N cur ∧ Sz N b ∧ Sz N e ∧ N ≤ 2240 ∧ cur.length ≤ 300 ∧ st.length ≤ 300 ∧ ear.length ≤ 1000 ∧ (offFill cur b e → ∀ H', Same H H' → E (.ref C0) none H') ∧
  (¬ offFill cur b e → ∀ H', RAt K C H' S p pe pu (fillM cur st b e) (ear ++ [cur]) [] → Kp3 p pe pu H H' → Q .non H')
theorem dpa_app {K : PySem.W.Frag} {H : Hp} : ∀ {vs ws : List V} {ds es : List PyData}, DpAll K H vs ds → DpAll K H ws es → DpAll K H (vs ++ ws) (ds ++ es)
  | _, _, _, _, .nil, h => h
  | _, _, _, _, .cons h1 h2, h => .cons h1 (dpa_app h2 h)
theorem norm_le2 (xs : List St3) (b e : Rat) : (normM (cutM xs b e)).length ≤ xs.length := Nat.le_trans (norm_le _) (cut_len1 _ _ _)
theorem cl_Reel_fill (T : Txt K mg) {C C0 : Addr} (k_Reel : C_Reel K mg C) (e_OffReel : ExcT K mg "OffReel" C0) : ClM P w K mg base (L2.CX P w) 7 C "fill" (spFill K C C0) := by
  have c_normal := cl_normal (P := P) (w := w) (base := base) T
  have c_length := cl_length (P := P) (w := w) (base := base) T
  have c_taken := cl_taken (P := P) (w := w) (base := base) T e_OffReel
  obtain ⟨aN, g_NOUGHT, hN0⟩ := T.c_NOUGHT
  refine k_Reel.d_fill.clX sc_Reel_fill (fun vs H Q E h => ?_) (fun f cdv A outer s H vs Q E hr h => ?_)
  · obtain ⟨S, p, pe, pu, cur, st, ear, und, u1, u2, a3, y3, b, e, N, rfl, _⟩ := h
    rfl
  · obtain ⟨S, p, pe, pu, cur, st, ear, und, u1, u2, a3, y3, b, e, N, rfl, r, d1, d2, h3, d3, ok, zb, ze, hN, lc, ls, le, qE, q⟩ := h
    obtain ⟨dx, vc, h1, h2⟩ := r.ob
    have zl : Sz N (lenS cur) := by have := ok.sums cur.length; rw [List.take_length] at this; exact this
    have z0 : Sz N (0 : Rat) := Sz.mono (n := 1) ⟨by decide, by decide⟩ zb.pos
    refine ⟨_, (pss_cons (ps_set (i := 4) sc_Reel_fill.nd rfl (.inl rfl) (pe_clS c_taken hr (by decide) (by rfl) (takes_of rfl rfl rfl rfl) (pa_cons (pe_fld (pv 0) rfl) (pa_cons (pe_gl (by rfl) g_NOUGHT) (pa_cons (pv 1) pa_nil)))))
      (pss_cons (ps_set (i := 5) sc_Reel_fill.nd rfl (.inl rfl) (pe_clS c_taken hr (by decide) (by rfl) (takes_of rfl rfl rfl rfl) (pa_cons (pe_fld (pv 0) rfl) (pa_cons (pv 2) (pa_cons (pe_cl c_length hr (by decide) (by rfl) (pa_cons (pe_fld (pv 0) rfl) pa_nil)) pa_nil)))))
      (pss_cons (ps_expr (pe_bm PySem.F.plainAttrs_list PySem.F.slot_list_append PySem.F.type_list_append mt_append (pe_fld (pv 0) rfl) (pa_cons (pe_fld (pv 0) rfl) pa_nil)))
      (pss_cons (ps_expr (pe_bm0 PySem.F.plainAttrs_list PySem.F.slot_list_clear PySem.F.type_list_clear mt_clear (pe_fld (pv 0) rfl)))
      (pss_one (ps_fld (pv 0) (pe_cl c_normal hr (by decide) (by rfl) (pa_cons (pe_op op_cat (pe_op op_cat (pv 4) (pv 3)) (pv 5)) pa_nil)) rfl)))))), ?_⟩
    refine ⟨_, rfl, p, C, dx, _, _, rfl, h1, k_Reel.oc.cl, k_Reel.n_current, rF_cur _ _ _, _, rfl, _, _, _, cur, 0, b, N, rfl, dp_mono hidL_same _ _ h2, dF_mk (hN0 _), d1, ok, z0, zb, hN, by omega, fun c H1 s1 => qE (.inl c) _ s1, fun c1 H1 pa ya s1 na ha da => ?_⟩
    have r1 := r.mono s1
    obtain ⟨dx, vc, h1, h2⟩ := r1.ob
    refine ⟨_, rfl, p, C, dx, _, _, rfl, h1, k_Reel.oc.cl, k_Reel.n_current, rF_cur _ _ _, _, rfl, _, rfl, p, C, dx, _, _, rfl, h1, k_Reel.oc.cl, k_Reel.n_current, rF_cur _ _ _, _, cur, N, rfl, dp_mono hidL_same _ _ h2, ok, hN, fun H2 zL s2 dL => ?_⟩
    refine ⟨_, _, _, cur, e, lenS cur, N, rfl, dp_mono s2 _ _ (dp_mono hidL_same _ _ h2), dp_mono (s1.trans s2) _ _ d2, dL, ok, ze, zl, hN, by omega, fun c H3 s3 => qE (.inr c) _ ((s1.trans s2).trans s3), fun c2 H3 pb yb s3 nb hb db => ?_⟩
    have q := q (fun c => c.elim c1 c2)
    have s03 := (s1.trans s2).trans s3
    have r3 := r.mono s03
    have ha3 := (s2.trans s3) _ _ ha
    have da3 := dpa_mono (s2.trans s3) _ _ da
    have q3 := Same.hidL (S := S) s03 _ _ h3
    have dy3 := dpa_mono (Same.hidL (S := S) s03) _ _ d3
    have nS : ∀ a, H a = none → a ∉ S := fun a hn z => by
      obtain ⟨u, hu, _⟩ := r.nt a z
      rw [hn] at hu
      cases hu
    have naS := nS pa na
    have nbS := nS pb ((s1.trans s2).free nb)
    obtain ⟨dx, vc, h1, h2⟩ := r3.ob
    obtain ⟨es, he1, he2⟩ := r3.he
    obtain ⟨us, hu1, hu2⟩ := r3.hu
    have lne : es.length = ear.length := by rw [dpa_len he2, List.length_map]
    have npe : p ≠ pe := ne_of h1 he1 (by intro z; cases z)
    have npu : p ≠ pu := ne_of h1 hu1 (by intro z; cases z)
    -- self.earlier.append(self.current)
    refine ⟨_, rfl, p, C, dx, _, _, rfl, h1, k_Reel.oc.cl, k_Reel.n_earlier, rF_ear _ _ _, .inl ⟨rfl, _, .inl (.inl he1)⟩, _, rfl, p, C, dx, _, _, rfl, h1, k_Reel.oc.cl, k_Reel.n_current, rF_cur _ _ _, pe, es, vc, rfl, rfl, he1, small1000 (by omega), ?_⟩
    -- self.undone.clear()
    refine ⟨_, rfl, p, C, dx, rF vc (.ref pe) (.ref pu), .ref pu, rfl, (by rw [upd_ne npe]; exact h1), k_Reel.oc.cl, k_Reel.n_undone, rF_und _ _ _, .inl ⟨rfl, us, .inl (.inl (by rw [upd_ne r.neu.symm]; exact hu1))⟩, pu, us, rfl, rfl, (by rw [upd_ne r.neu.symm]; exact hu1), ?_⟩
    have e4 : R.hidL S (upd (upd H3 pe (.lst (es ++ [vc]))) pu (.lst [])) = R.hidL S H3 := by rw [hidL_upd r.iu, hidL_upd r.ie]
    have h14 : (upd (upd H3 pe (.lst (es ++ [vc]))) pu (.lst [])) p = some (.ins C dx (rF vc (.ref pe) (.ref pu))) := by rw [upd_ne npu, upd_ne npe]; exact h1
    have he4 : (upd (upd H3 pe (.lst (es ++ [vc]))) pu (.lst [])) pe = some (.lst (es ++ [vc])) := by rw [upd_ne r.neu]; exact upd_same
    have hu4 : (upd (upd H3 pe (.lst (es ++ [vc]))) pu (.lst [])) pu = some (.lst []) := upd_same
    have nt4 : ∀ a ∈ S, NoT (upd (upd H3 pe (.lst (es ++ [vc]))) pu (.lst [])) a := fun a ha => by
      by_cases z1 : a = pu
      · rw [z1]
        exact NoT.lst hu4
      · by_cases z2 : a = pe
        · rw [z2]
          exact NoT.lst he4
        · obtain ⟨u, w1, w2, w3⟩ := r3.nt a ha
          exact ⟨u, by rw [upd_ne z1, upd_ne z2]; exact w1, w2, w3⟩
    have k4 : Kp3 p pe pu H3 (upd (upd H3 pe (.lst (es ++ [vc]))) pu (.lst [])) := by
      show Same (R.hidL [p, pe, pu] H3) (R.hidL [p, pe, pu] (upd (upd H3 pe (.lst (es ++ [vc]))) pu (.lst [])))
      rw [hidL_upd (by simp), hidL_upd (by simp)]
      exact Same.refl _
    generalize upd (upd H3 pe (.lst (es ++ [vc]))) pu (.lst []) = H4 at e4 h14 he4 hu4 nt4 k4 ⊢
    have hid3 : ∀ a o, R.hidL S H3 a = some o → H4 a = some o := fun a o ha => hidL_same _ _ (by rw [e4]; exact ha)
    have qa : H4 pa = some (.lst ya) := hid3 _ _ (hidL_at naS ha3)
    have qb : H4 pb = some (.lst yb) := hid3 _ _ (hidL_at nbS hb)
    have qc : H4 a3 = some (.lst y3) := hid3 _ _ q3
    have sH4 : Same (R.hidL S H3) H4 := fun a o ha => hid3 a o ha
    have da4 := dpa_mono sH4 _ _ (dpa_hidL r3.nt _ _ (tupA_dS _) da3)
    have db4 := dpa_mono sH4 _ _ (dpa_hidL r3.nt _ _ (tupA_dS _) db)
    have dc4 := dpa_mono sH4 _ _ dy3
    have la : ya.length ≤ cur.length := by rw [dpa_len da, List.length_map]; exact norm_le2 _ _ _
    have lb : yb.length ≤ cur.length := by rw [dpa_len db, List.length_map]; exact norm_le2 _ _ _
    have lcc : y3.length = st.length := by rw [dpa_len dy3, List.length_map]
    refine ⟨_, rfl, _, rfl, pa, a3, ya, y3, rfl, rfl, qa, qc, ?_, fun x1 n1 => ?_⟩
    · exact Nat.le_trans (show ya.length + y3.length ≤ 1000 by omega) (by decide)
    have t1 := Same.new (o := .lst (ya ++ y3)) n1
    refine ⟨_, rfl, x1, pb, ya ++ y3, yb, rfl, rfl, upd_same, t1 _ _ qb, ?_, fun x2 n2 => ?_⟩
    · rw [List.length_append]
      exact Nat.le_trans (show ya.length + y3.length + yb.length ≤ 1000 by omega) (by decide)
    have t2 := Same.new (o := .lst (ya ++ y3 ++ yb)) n2
    have t12 := t1.trans t2
    have dall : DpAll K (upd (upd H4 x1 (.lst (ya ++ y3))) x2 (.lst (ya ++ y3 ++ yb))) (ya ++ y3 ++ yb) ((normM (cutM cur 0 b) ++ st ++ normM (cutM cur e (lenS cur))).map dS) := by
      rw [List.map_append, List.map_append]
      exact dpa_mono t12 _ _ (dpa_app (dpa_app da4 dc4) db4)
    have hx2 : (upd (upd H4 x1 (.lst (ya ++ y3))) x2 (.lst (ya ++ y3 ++ yb))) x2 = some (.lst (ya ++ y3 ++ yb)) := upd_same
    generalize upd (upd H4 x1 (.lst (ya ++ y3))) x2 (.lst (ya ++ y3 ++ yb)) = H5 at t12 dall hx2 ⊢
    refine ⟨_, _, rfl, .lst (.inl (.inl hx2)) dall, ?_, fun H6 pc yc s6 nc hc dc => ?_⟩
    · rw [List.length_append, List.length_append]
      have := norm_le2 cur 0 b
      have := norm_le2 cur e (lenS cur)
      omega
    have s46 := t12.trans s6
    have h16 := s46 _ _ h14
    have ncS : pc ∉ S := fun z => by
      obtain ⟨u, hu, _⟩ := nt4 pc z
      rw [t12 _ _ hu] at nc
      cases nc
    refine ⟨_, rfl, p, C, dx, _, rfl, h16, k_Reel.oc.cl, k_Reel.n_current, (by show 3 < 1000; decide), ?_⟩
    have nt6 : ∀ a ∈ S, NoT H6 a := fun a ha => (nt4 a ha).mono s46
    have e7 : R.hidL S (upd H6 p (.ins C dx (putF "current" (V.ref pc) (rF vc (.ref pe) (.ref pu))))) = R.hidL S H6 := hidL_upd r.ip
    have s36 : Same (R.hidL S H3) (R.hidL S H6) := by
      rw [← e4]
      exact Same.hidL s46
    refine q _ ⟨r.ip, r.ie, r.iu, r.neu, fun a ha => ?_, ⟨dx, .ref pc, by rw [upd_same, rF_putc], ?_⟩, ⟨es ++ [vc], by rw [upd_ne npe.symm]; exact s46 _ _ he4, ?_⟩, ⟨[], by rw [upd_ne npu.symm]; exact s46 _ _ hu4, .nil⟩⟩ ?_
    · by_cases z1 : a = p
      · rw [z1]
        exact NoT.ins upd_same
      · obtain ⟨u, w1, w2, w3⟩ := nt6 a ha
        exact ⟨u, by rw [upd_ne z1]; exact w1, w2, w3⟩
    · rw [e7]
      exact show_hidL nt6 ncS hc dc
    · rw [e7, List.map_append]
      exact dpa_snoc (dpa_mono s36 _ _ he2) (dp_mono s36 _ _ h2)
    · refine ((Same.kp3 s03).trans k4).trans ((Same.kp3 s46).trans ?_)
      show Same (R.hidL [p, pe, pu] H6) (R.hidL [p, pe, pu] (upd H6 p _))
      rw [hidL_upd (by simp)]
      exact Same.refl _
def spOut (K : PySem.W.Frag) (C C0 : Addr) : Sp := fun vs H Q E => ∃ (S : List Addr) (p pe pu : Addr) (cur : List St3) (ear und : List (List St3)) (u1 u2 : V) (b e : Rat) (N : Nat), vs = [.ref p, u1, u2] ∧ RAt K C H S p pe pu cur ear und ∧ Dp K H u1 (dF b) ∧ Dp K H u2 (dF e) ∧
  ShOk N cur ∧ Sz N b ∧ Sz N e ∧ N ≤ 2240 ∧ cur.length ≤ 300 ∧ ear.length ≤ 1000 ∧ 0 ≤ b ∧ (refused cur b e → ∀ H', Same H H' → E (.ref C0) none H') ∧
  (¬ refused cur b e → ∀ H' r ys, RAt K C H' (r :: S) p pe pu (fillM cur [] b e) (ear ++ [cur]) [] → Kp3 p pe pu H H' → H r = none → H' r = some (.lst ys) → DpAll K H' ys ((normM (cutM cur b e)).map dS) → Q (.ref r) H')
theorem off_no {cur : List St3} {b e : Rat} (h0 : 0 ≤ b) (h1 : ¬ refused cur b e) : ¬ offFill cur b e := by
  have n1 : ¬ e < b := fun z => h1 (.inl z)
  have n2 : ¬ lenS cur < e := fun z => h1 (.inr z)
  rintro ((z | z) | (z | z))
  · grind
  · grind
  · grind
  · exact Rat.lt_irrefl z
theorem keep_new {K : PySem.W.Frag} {H H' : Hp} {S : List Addr} {vs : List V} {ds : List PyData} (nt : ∀ a ∈ S, NoT H a) (s : Same (R.hidL S H) (R.hidL S H')) (hd : tupA ds = true) (h : DpAll K H vs ds) : DpAll K H' vs ds := dpa_mono hidL_same _ _ (dpa_mono s _ _ (dpa_hidL nt _ _ hd h))
theorem nt3 {K : PySem.W.Frag} {C : Addr} {H : Hp} {S : List Addr} {p pe pu : Addr} {cur : List St3} {ear und : List (List St3)} (r : RAt K C H S p pe pu cur ear und) : ∀ a ∈ [p, pe, pu], NoT H a := by
  intro a ha
  simp only [List.mem_cons, List.not_mem_nil, or_false] at ha
  rcases ha with z | z | z
  · rw [z]
    exact r.nt p r.ip
  · rw [z]
    exact r.nt pe r.ie
  · rw [z]
    exact r.nt pu r.iu
theorem no3 {K : PySem.W.Frag} {C : Addr} {H : Hp} {S : List Addr} {p pe pu a : Addr} {cur : List St3} {ear und : List (List St3)} (r : RAt K C H S p pe pu cur ear und) (h : a ∉ S) : a ∉ [p, pe, pu] := by
  intro ha
  simp only [List.mem_cons, List.not_mem_nil, or_false] at ha
  rcases ha with z | z | z
  · exact h (by rw [z]; exact r.ip)
  · exact h (by rw [z]; exact r.ie)
  · exact h (by rw [z]; exact r.iu)
theorem cl_Reel_out (T : Txt K mg) {C C0 : Addr} (k_Reel : C_Reel K mg C) (e_OffReel : ExcT K mg "OffReel" C0) : ClM P w K mg base (L2.CX P w) 8 C "out" (spOut K C C0) := by
  have c_taken := cl_taken (P := P) (w := w) (base := base) T e_OffReel
  have c_Reel_fill := cl_Reel_fill (P := P) (w := w) (base := base) T k_Reel e_OffReel
  refine k_Reel.d_out.clX sc_Reel_out (fun vs H Q E h => ?_) (fun f cdv A outer s H vs Q E hr h => ?_)
  · obtain ⟨S, p, pe, pu, cur, ear, und, u1, u2, b, e, N, rfl, _⟩ := h
    rfl
  · obtain ⟨S, p, pe, pu, cur, ear, und, u1, u2, b, e, N, rfl, r, d1, d2, ok, zb, ze, hN, lc, le, b0, qE, q⟩ := h
    obtain ⟨dx, vc, h1, h2⟩ := r.ob
    refine ⟨_, (pss_cons (ps_set (i := 3) sc_Reel_out.nd rfl (.inl rfl) (pe_clS c_taken hr (by decide) (by rfl) (takes_of rfl rfl rfl rfl) (pa_cons (pe_fld (pv 0) rfl) (pa_cons (pv 1) (pa_cons (pv 2) pa_nil)))))
      (pss_cons (ps_expr (pe_mtS c_Reel_fill hr (by decide) k_Reel.oc.cl (takes_of rfl rfl rfl rfl) (pv 0) (pa_cons (pv 1) (pa_cons (pv 2) (pa_cons (pe_lst pa_nil) pa_nil)))))
      (pss_one (ps_ret (pv 3))))), ?_⟩
    refine ⟨_, rfl, p, C, dx, _, _, rfl, h1, k_Reel.oc.cl, k_Reel.n_current, rF_cur _ _ _, _, rfl, _, rfl, _, _, _, cur, b, e, N, rfl, dp_mono hidL_same _ _ h2, d1, d2, ok, zb, ze, hN, by omega, fun c H1 s1 => qE c _ s1, fun c1 H1 ra ya s1 na ha da => ?_⟩
    have r1 := r.new s1 na (NoT.lst ha)
    obtain ⟨dx, vc, h1, h2⟩ := r1.ob
    refine ⟨_, rfl, p, dx, _, rfl, h1, rF_no _ _ _ (by decide +kernel) (by decide +kernel) (by decide +kernel), _, rfl, _, rfl, Nat.zero_le _, fun a3 n3 => ?_⟩
    have t1 := Same.new (o := .lst []) n3
    have r2 := r1.mono t1
    refine ⟨ra :: S, p, pe, pu, cur, [], ear, und, _, _, a3, [], b, e, N, rfl, r2, dp_mono (s1.trans t1) _ _ d1, dp_mono (s1.trans t1) _ _ d2, hidL_at (r1.notin n3) upd_same, .nil, ok, zb, ze, hN, lc, Nat.zero_le _, le, fun c => absurd c (off_no b0 c1), fun _ H2 r3 k3 => ?_⟩
    have nra : ra ∉ [p, pe, pu] := no3 r (r.notin na)
    refine ⟨_, rfl, q c1 _ ra ya r3 ((Same.kp3 (s1.trans t1)).trans k3) na ?_ ?_⟩
    · exact hidL_same _ _ (k3 _ _ (hidL_at nra (t1 _ _ ha)))
    · exact keep_new (nt3 r2) k3 (tupA_dS _) (dpa_mono t1 _ _ da)
def spInto (K : PySem.W.Frag) (C C0 : Addr) : Sp := fun vs H Q E => ∃ (S : List Addr) (p pe pu : Addr) (cur st : List St3) (ear und : List (List St3)) (u1 : V) (a3 : Addr) (y3 : List V) (b : Rat) (N : Nat), vs = [.ref p, u1, .ref a3] ∧ RAt K C H S p pe pu cur ear und ∧ Dp K H u1 (dF b) ∧
  R.hidL S H a3 = some (.lst y3) ∧ DpAll K (R.hidL S H) y3 (st.map dS) ∧ ShOk N cur ∧ Sz N b ∧ N ≤ 2240 ∧ cur.length ≤ 300 ∧ st.length ≤ 300 ∧ ear.length ≤ 1000 ∧ 0 ≤ b ∧ (lenS cur < b → ∀ H', Same H H' → E (.ref C0) none H') ∧
  (¬ lenS cur < b → ∀ H', RAt K C H' S p pe pu (fillM cur st b b) (ear ++ [cur]) [] → Kp3 p pe pu H H' → Q .non H')
theorem cl_Reel_into (T : Txt K mg) {C C0 : Addr} (k_Reel : C_Reel K mg C) (e_OffReel : ExcT K mg "OffReel" C0) : ClM P w K mg base (L2.CX P w) 8 C "into" (spInto K C C0) := by
  have c_Reel_fill := cl_Reel_fill (P := P) (w := w) (base := base) T k_Reel e_OffReel
  refine k_Reel.d_into.clX sc_Reel_into (fun vs H Q E h => ?_) (fun f cdv A outer s H vs Q E hr h => ?_)
  · obtain ⟨S, p, pe, pu, cur, st, ear, und, u1, a3, y3, b, N, rfl, _⟩ := h
    rfl
  · obtain ⟨S, p, pe, pu, cur, st, ear, und, u1, a3, y3, b, N, rfl, r, d1, h3, d3, ok, zb, hN, lc, ls, le, b0, qE, q⟩ := h
    obtain ⟨dx, vc, h1, h2⟩ := r.ob
    refine ⟨_, (pss_one (ps_expr (pe_mtS c_Reel_fill hr (by decide) k_Reel.oc.cl (takes_of rfl rfl rfl rfl) (pv 0) (pa_cons (pv 1) (pa_cons (pv 1) (pa_cons (pv 2) pa_nil)))))), ?_⟩
    refine ⟨_, rfl, p, dx, _, rfl, h1, rF_no _ _ _ (by decide +kernel) (by decide +kernel) (by decide +kernel), _, rfl, _, rfl, _, rfl, S, p, pe, pu, cur, st, ear, und, _, _, a3, y3, b, b, N, rfl, r, d1, d1, h3, d3, ok, zb, zb, hN, lc, ls, le, fun c H' s' => qE ?_ _ s', fun c H' r' k' => q ?_ _ r' k'⟩
    · rcases c with (z | z) | (z | z)
      · grind
      · exact z
      · exact z
      · exact absurd z Rat.lt_irrefl
    · exact fun z => c (.inl (.inr z))
def spFaster (K : PySem.W.Frag) (C C0 : Addr) : Sp := fun vs H Q E => ∃ (S : List Addr) (p pe pu : Addr) (cur : List St3) (ear und : List (List St3)) (u1 u2 u3 : V) (b e f : Rat) (N : Nat), vs = [.ref p, u1, u2, u3] ∧ RAt K C H S p pe pu cur ear und ∧ Dp K H u1 (dF b) ∧ Dp K H u2 (dF e) ∧ Dp K H u3 (dF f) ∧
  ShOk N cur ∧ Sz N b ∧ Sz N e ∧ Sz 10 f ∧ N ≤ 2240 ∧ cur.length ≤ 300 ∧ ear.length ≤ 1000 ∧ 0 ≤ b ∧ (refused cur b e → ∀ H', Same H H' → E (.ref C0) none H') ∧
  (¬ refused cur b e → ∀ H', RAt K C H' S p pe pu (fillM cur (fastM f (normM (cutM cur b e))) b e) (ear ++ [cur]) [] → Kp3 p pe pu H H' → Q .non H')
theorem piece_pace {s t : St3} {b e : Rat} (h : t ∈ piece s b e) : t.2.2 = s.2.2 := by
  rw [piece_pf] at h
  split at h
  · rw [List.mem_singleton.mp h]
  · cases h
theorem cut_pace {P : Rat → Prop} : ∀ (xs : List St3) (b e : Rat), (∀ s ∈ xs, P s.2.2) → ∀ t ∈ cutM xs b e, P t.2.2
  | [], _, _, _, t, ht => by cases ht
  | s :: r, b, e, h, t, ht => by
    rcases List.mem_append.mp (show t ∈ piece s b e ++ cutM r (b - lst3 s) (e - lst3 s) from ht) with h1 | h1
    · rw [piece_pace h1]
      exact h s List.mem_cons_self
    · exact cut_pace r _ _ (fun z hz => h z (List.mem_cons_of_mem _ hz)) t h1
theorem cl_Reel_faster (T : Txt K mg) {C C0 : Addr} (k_Reel : C_Reel K mg C) (e_OffReel : ExcT K mg "OffReel" C0) : ClM P w K mg base (L2.CX P w) 8 C "faster" (spFaster K C C0) := by
  have c_taken := cl_taken (P := P) (w := w) (base := base) T e_OffReel
  have c_timed := cl_timed (P := P) (w := w) (base := base) T
  have c_Reel_fill := cl_Reel_fill (P := P) (w := w) (base := base) T k_Reel e_OffReel
  refine k_Reel.d_faster.clX sc_Reel_faster (fun vs H Q E h => ?_) (fun f cdv A outer s H vs Q E hr h => ?_)
  · obtain ⟨S, p, pe, pu, cur, ear, und, u1, u2, u3, b, e, x, N, rfl, _⟩ := h
    rfl
  · obtain ⟨S, p, pe, pu, cur, ear, und, u1, u2, u3, b, e, x, N, rfl, r, d1, d2, d3, ok, zb, ze, zx, hN, lc, le, b0, qE, q⟩ := h
    obtain ⟨dx, vc, h1, h2⟩ := r.ob
    refine ⟨_, (pss_cons (ps_set (i := 4) sc_Reel_faster.nd rfl (.inl rfl) (pe_clS c_taken hr (by decide) (by rfl) (takes_of rfl rfl rfl rfl) (pa_cons (pe_fld (pv 0) rfl) (pa_cons (pv 1) (pa_cons (pv 2) pa_nil)))))
      (pss_one (ps_expr (pe_mtS c_Reel_fill hr (by decide) k_Reel.oc.cl (takes_of rfl rfl rfl rfl) (pv 0) (pa_cons (pv 1) (pa_cons (pv 2) (pa_cons (pe_lc (own := [("first", 5), ("last", 6), ("pace", 7)]) (g := (gTup K 3 (gCons (gName 5) (gCons (gName 6) (gCons (gName 7) gNil))))) (tt := tYes) (by rfl) sc_Reel_faster.nd (pi_list (pv 4)) (blkOk_by (N := ["self", "begin", "end", "factor", "slower", "first", "last", "pace"]) (sc := defScope s_Reel_faster) (by decide +kernel)) (fun _ _ _ _ _ => (pg_tup rfl (pgs_cons (pg_name (i := 5) sc_Reel_faster.nd rfl (Or.inl rfl)) (pgs_cons (pg_name (i := 6) sc_Reel_faster.nd rfl (Or.inl rfl)) (pgs_cons (pg_name (i := 7) sc_Reel_faster.nd rfl (Or.inl rfl)) pgs_nil))))) (fun _ _ _ _ _ => pts_nil) (fun _ _ _ _ _ => (pe_tup (pa_cons (pv 5) (pa_cons (pv 6) (pa_cons (pe_cl c_timed hr (by decide) (by rfl) (pa_cons (pv 7) (pa_cons (pv 3) pa_nil))) pa_nil)))))) pa_nil))))))), ?_⟩
    refine ⟨_, rfl, p, C, dx, _, _, rfl, h1, k_Reel.oc.cl, k_Reel.n_current, rF_cur _ _ _, _, rfl, _, rfl, _, _, _, cur, b, e, N, rfl, dp_mono hidL_same _ _ h2, d1, d2, ok, zb, ze, hN, by omega, fun c H1 s1 => qE c _ s1, fun c1 H1 ra ya s1 na ha da => ?_⟩
    have r1 := r.mono s1
    obtain ⟨dx, vc, h1, h2⟩ := r1.ob
    have zp : ∀ t ∈ normM (cutM cur b e), Sz N t.2.2 := norm_all (P := fun t => Sz N t.2.2) (fun _ _ _ _ _ h => h) _ (cut_pace cur b e fun s hs => (ok.each s hs).p)
    have lz := norm_le2 cur b e
    generalize normM (cutM cur b e) = zs at da zp lz q ⊢
    have ly : ya.length = zs.length := by rw [dpa_len da, List.length_map]
    refine ⟨_, rfl, p, dx, _, rfl, h1, rF_no _ _ _ (by decide +kernel) (by decide +kernel) (by decide +kernel), _, rfl, _, rfl, _, rfl, ra, rfl, ⟨_, .inl (.inl ha)⟩, fun D hD => ?_⟩
    have sD := Same.new (o := .lst []) hD
    refine lc_list (K := K) (a := ra) (xs := ya) (fun i H' => ∃ acc, H' D = some (.lst acc) ∧ Same H1 (hid D D H') ∧ acc.length = i ∧ DpAll K (hid D D H') acc (((fastM x zs).take i).map dS)) ⟨[], upd_same, hid_old sD hD, rfl, .nil⟩ (fun i H' hi h => ?_) (fun i y H' hy h => ?_) (fun H' h => ?_)
    · obtain ⟨acc, hd, s2, la, dd⟩ := h
      exact .inl (.inl (hid_same _ _ (s2 _ _ ha)))
    · obtain ⟨acc, hd, s2, la, dd⟩ := h
      have s2' : Same H1 H' := s2.trans hid_same
      obtain ⟨t, ht, dt⟩ := dpa_map da hy
      obtain ⟨pt, v1, v2, v3, rfl, hpt, e1, e2, e3⟩ := dS_at (dp_mono s2' _ _ dt)
      have hi : i < zs.length := (List.getElem?_eq_some_iff.mp ht).1
      refine ⟨pt, _, rfl, hpt, rfl, _, _, rfl, _, _, rfl, _, _, rfl, rfl, rfl, ?_⟩
      refine ⟨_, rfl, _, rfl, _, rfl, _, rfl, _, _, t.2.2, x, N, 10, rfl, e3, dp_mono (s1.trans s2') _ _ d3, zp t (List.mem_of_getElem? ht), zx, by omega, trivial, fun H3 z3 s3 r3 => ?_⟩
      refine ⟨(show 3 ≤ sizeLine by decide), fun pn hn => ?_⟩
      have s4 := Same.new (o := .tup [v1, v2, z3]) hn
      have hd4 := s4 _ _ (s3 _ _ hd)
      have dn : Dp K (upd H3 pn (.tup [v1, v2, z3])) (.ref pn) (dS (t.1, t.2.1, t.2.2 * x)) := dS_mk (.inl (.inl upd_same)) (dp_mono (s3.trans s4) _ _ e1) (dp_mono (s3.trans s4) _ _ e2) (dp_mono s4 _ _ r3)
      have s34 := s3.trans s4
      generalize upd H3 pn (.tup [v1, v2, z3]) = H4 at hd4 dn s34 ⊢
      have LD : IsL H4 D := ⟨_, hd4⟩
      refine ⟨acc, hd4, small1000 (by omega), acc ++ [.ref pn], upd_same, ?_, ?_, ?_⟩
      · rw [hid_b]
        exact s2.trans (Same.hid s34)
      · rw [List.length_append, la]
        rfl
      · rw [hid_b, take_more (x := (t.1, t.2.1, t.2.2 * x)) (by unfold fastM; rw [List.getElem?_map, ht]; rfl), List.map_append]
        exact dpa_snoc (dpa_mono (Same.hid s34) _ _ dd) (dp_hid LD LD _ _ rfl dn)
    · obtain ⟨acc, hd, s2, la, dd⟩ := h
      have s2' : Same H1 H' := s2.trans hid_same
      have nD : D ∉ S := r1.notin hD
      have r2 := r1.mono s2'
      have lf : (fastM x zs).length = zs.length := List.length_map ..
      rw [ly, ← lf, List.take_length] at dd
      have ha3 : R.hidL S H' D = some (.lst acc) := hidL_at nD hd
      have dd3 : DpAll K (R.hidL S H') acc ((fastM x zs).map dS) := dpa_hidL r2.nt _ _ (tupA_dS _) (dpa_mono hid_same _ _ dd)
      refine ⟨S, p, pe, pu, cur, fastM x zs, ear, und, _, _, D, acc, b, e, N, rfl, r2, dp_mono (s1.trans s2') _ _ d1, dp_mono (s1.trans s2') _ _ d2, ha3, dd3, ok, zb, ze, hN, lc, by omega, le, fun c => absurd c (off_no b0 c1), fun _ H5 r5 k5 => ?_⟩
      exact q c1 _ r5 ((Same.kp3 (s1.trans s2')).trans k5)
def spBack (K : PySem.W.Frag) (C C1 : Addr) : Sp := fun vs H Q E => ∃ (S : List Addr) (p pe pu : Addr) (cur : List St3) (ear und : List (List St3)), vs = [.ref p] ∧ RAt K C H S p pe pu cur ear und ∧ und.length ≤ 1000 ∧ (ear = [] → ∀ H', Same H H' → E (.ref C1) none H') ∧
  (∀ pre x, ear = pre ++ [x] → ∀ H', RAt K C H' S p pe pu x pre (und ++ [cur]) → Kp3 p pe pu H H' → Q .non H')
theorem map_split {α : Type} {f : α → PyData} {K : PySem.W.Frag} {H : Hp} {es : List V} {pre : List α} {x : α} (h : DpAll K H es ((pre ++ [x]).map f)) : ∃ es' v, es = es' ++ [v] ∧ DpAll K H es' (pre.map f) ∧ Dp K H v (f x) := by
  rw [List.map_append] at h
  exact dpa_split h
theorem cl_Reel_back (T : Txt K mg) {C C1 : Addr} (k_Reel : C_Reel K mg C) (e_NoDeed : ExcT K mg "NoDeed" C1) : ClM P w K mg base (L2.CX P w) 1 C "back" (spBack K C C1) := by
  refine k_Reel.d_back.clX sc_Reel_back (fun vs H Q E h => ?_) (fun f cdv A outer s H vs Q E hr h => ?_)
  · obtain ⟨S, p, pe, pu, cur, ear, und, rfl, _⟩ := h
    rfl
  · obtain ⟨S, p, pe, pu, cur, ear, und, rfl, r, lu, qE, q⟩ := h
    obtain ⟨dx, vc, h1, h2⟩ := r.ob
    obtain ⟨es, he1, he2⟩ := r.he
    obtain ⟨us, hu1, hu2⟩ := r.hu
    have lus : us.length = und.length := by rw [dpa_len hu2, List.length_map]
    have npe : p ≠ pe := ne_of h1 he1 (by intro z; cases z)
    have npu : p ≠ pu := ne_of h1 hu1 (by intro z; cases z)
    refine ⟨_, (pss_cons (ps_if (pt_not (pt_truth (pe_fld (pv 0) rfl) (by intro _; rfl)))
        (pss_one (ps_raise rfl (takes_of rfl rfl rfl rfl) (pmk_own PySem.F.excBase_ValueError e_NoDeed.x e_NoDeed.g e_NoDeed.k (raises_own e_NoDeed.b e_NoDeed.t) rfl)))
        pss_nil)
      (pss_cons (ps_expr (pe_bm PySem.F.plainAttrs_list PySem.F.slot_list_append PySem.F.type_list_append mt_append (pe_fld (pv 0) rfl) (pa_cons (pe_fld (pv 0) rfl) pa_nil)))
      (pss_one (ps_fld (pv 0) (pe_bm0 PySem.F.plainAttrs_list PySem.F.slot_list_pop PySem.F.type_list_pop mt_pop (pe_fld (pv 0) rfl)) rfl)))), ?_⟩
    refine ⟨_, rfl, p, C, dx, _, _, rfl, h1, k_Reel.oc.cl, k_Reel.n_earlier, rF_ear _ _ _, (!es.isEmpty), .inl ⟨es, .inl (.inl he1), rfl⟩, ?_⟩
    rcases List.eq_nil_or_concat ear with e0 | ⟨pre, x, e0⟩
    · subst e0
      cases he2
      exact iteY rfl (qE rfl _ (Same.refl _))
    · have e0 : ear = pre ++ [x] := by rw [e0]; simp
      subst e0
      obtain ⟨es', v, rfl, da, dv⟩ := map_split he2
      refine iteN (by cases es' <;> rfl) ?_
      refine ⟨_, rfl, p, C, dx, _, _, rfl, h1, k_Reel.oc.cl, k_Reel.n_undone, rF_und _ _ _, .inl ⟨rfl, _, .inl (.inl hu1)⟩, _, rfl, p, C, dx, _, _, rfl, h1, k_Reel.oc.cl, k_Reel.n_current, rF_cur _ _ _, pu, us, vc, rfl, rfl, hu1, small1000 (by omega), ?_⟩
      have he3 : (upd H pu (.lst (us ++ [vc]))) pe = some (.lst (es' ++ [v])) := by rw [upd_ne r.neu]; exact he1
      have h13 : (upd H pu (.lst (us ++ [vc]))) p = some (.ins C dx (rF vc (.ref pe) (.ref pu))) := by rw [upd_ne npu]; exact h1
      refine ⟨_, rfl, p, C, dx, rF vc (.ref pe) (.ref pu), .ref pe, rfl, h13, k_Reel.oc.cl, k_Reel.n_earlier, rF_ear _ _ _, .inl ⟨rfl, _, .inl (.inl he3)⟩, pe, es' ++ [v], v, rfl, rfl, he3, ?_, ?_⟩
      · rw [List.length_append]
        show (es' ++ [v])[es'.length + 1 - 1]? = _
        rw [Nat.add_sub_cancel]
        simp
      rw [List.dropLast_concat]
      refine ⟨_, rfl, p, C, dx, rF vc (.ref pe) (.ref pu), rfl, (by rw [upd_ne npe]; exact h13), k_Reel.oc.cl, k_Reel.n_current, (by show 3 < 1000; decide), ?_⟩
      have eS : R.hidL S (upd (upd (upd H pu (.lst (us ++ [vc]))) pe (.lst es')) p (.ins C dx (putF "current" v (rF vc (.ref pe) (.ref pu))))) = R.hidL S H := by rw [hidL_upd r.ip, hidL_upd r.ie, hidL_upd r.iu]
      refine q pre x rfl _ ⟨r.ip, r.ie, r.iu, r.neu, fun a ha => ?_, ⟨dx, v, by rw [upd_same, rF_putc], by rw [eS]; exact dv⟩, ⟨es', by rw [upd_ne npe.symm]; exact upd_same, by rw [eS]; exact da⟩, ⟨us ++ [vc], by rw [upd_ne npu.symm, upd_ne r.neu.symm]; exact upd_same, ?_⟩⟩ ?_
      · by_cases z1 : a = p
        · rw [z1]
          exact NoT.ins upd_same
        · by_cases z2 : a = pe
          · rw [z2]
            exact NoT.lst (by rw [upd_ne npe.symm]; exact upd_same)
          · by_cases z3 : a = pu
            · rw [z3]
              exact NoT.lst (by rw [upd_ne npu.symm, upd_ne r.neu.symm]; exact upd_same)
            · obtain ⟨u, w1, w2, w3⟩ := r.nt a ha
              exact ⟨u, by rw [upd_ne z1, upd_ne z2, upd_ne z3]; exact w1, w2, w3⟩
      · rw [eS, List.map_append]
        exact dpa_snoc hu2 h2
      · show Same (R.hidL [p, pe, pu] H) (R.hidL [p, pe, pu] _)
        rw [hidL_upd (by simp), hidL_upd (by simp), hidL_upd (by simp)]
        exact Same.refl _
def spAgain (K : PySem.W.Frag) (C C1 : Addr) : Sp := fun vs H Q E => ∃ (S : List Addr) (p pe pu : Addr) (cur : List St3) (ear und : List (List St3)), vs = [.ref p] ∧ RAt K C H S p pe pu cur ear und ∧ ear.length ≤ 1000 ∧ (und = [] → ∀ H', Same H H' → E (.ref C1) none H') ∧
  (∀ pre x, und = pre ++ [x] → ∀ H', RAt K C H' S p pe pu x (ear ++ [cur]) pre → Kp3 p pe pu H H' → Q .non H')
theorem cl_Reel_again (T : Txt K mg) {C C1 : Addr} (k_Reel : C_Reel K mg C) (e_NoDeed : ExcT K mg "NoDeed" C1) : ClM P w K mg base (L2.CX P w) 1 C "again" (spAgain K C C1) := by
  refine k_Reel.d_again.clX sc_Reel_again (fun vs H Q E h => ?_) (fun f cdv A outer s H vs Q E hr h => ?_)
  · obtain ⟨S, p, pe, pu, cur, ear, und, rfl, _⟩ := h
    rfl
  · obtain ⟨S, p, pe, pu, cur, ear, und, rfl, r, lu, qE, q⟩ := h
    obtain ⟨dx, vc, h1, h2⟩ := r.ob
    obtain ⟨es, he1, he2⟩ := r.he
    obtain ⟨us, hu1, hu2⟩ := r.hu
    have les : es.length = ear.length := by rw [dpa_len he2, List.length_map]
    have npe : p ≠ pe := ne_of h1 he1 (by intro z; cases z)
    have npu : p ≠ pu := ne_of h1 hu1 (by intro z; cases z)
    refine ⟨_, (pss_cons (ps_if (pt_not (pt_truth (pe_fld (pv 0) rfl) (by intro _; rfl)))
        (pss_one (ps_raise rfl (takes_of rfl rfl rfl rfl) (pmk_own PySem.F.excBase_ValueError e_NoDeed.x e_NoDeed.g e_NoDeed.k (raises_own e_NoDeed.b e_NoDeed.t) rfl)))
        pss_nil)
      (pss_cons (ps_expr (pe_bm PySem.F.plainAttrs_list PySem.F.slot_list_append PySem.F.type_list_append mt_append (pe_fld (pv 0) rfl) (pa_cons (pe_fld (pv 0) rfl) pa_nil)))
      (pss_one (ps_fld (pv 0) (pe_bm0 PySem.F.plainAttrs_list PySem.F.slot_list_pop PySem.F.type_list_pop mt_pop (pe_fld (pv 0) rfl)) rfl)))), ?_⟩
    refine ⟨_, rfl, p, C, dx, _, _, rfl, h1, k_Reel.oc.cl, k_Reel.n_undone, rF_und _ _ _, (!us.isEmpty), .inl ⟨us, .inl (.inl hu1), rfl⟩, ?_⟩
    rcases List.eq_nil_or_concat und with e0 | ⟨pre, x, e0⟩
    · subst e0
      cases hu2
      exact iteY rfl (qE rfl _ (Same.refl _))
    · have e0 : und = pre ++ [x] := by rw [e0]; simp
      subst e0
      obtain ⟨us', v, rfl, da, dv⟩ := map_split hu2
      refine iteN (by cases us' <;> rfl) ?_
      refine ⟨_, rfl, p, C, dx, _, _, rfl, h1, k_Reel.oc.cl, k_Reel.n_earlier, rF_ear _ _ _, .inl ⟨rfl, _, .inl (.inl he1)⟩, _, rfl, p, C, dx, _, _, rfl, h1, k_Reel.oc.cl, k_Reel.n_current, rF_cur _ _ _, pe, es, vc, rfl, rfl, he1, small1000 (by omega), ?_⟩
      have hu3 : (upd H pe (.lst (es ++ [vc]))) pu = some (.lst (us' ++ [v])) := by rw [upd_ne r.neu.symm]; exact hu1
      have h13 : (upd H pe (.lst (es ++ [vc]))) p = some (.ins C dx (rF vc (.ref pe) (.ref pu))) := by rw [upd_ne npe]; exact h1
      refine ⟨_, rfl, p, C, dx, rF vc (.ref pe) (.ref pu), .ref pu, rfl, h13, k_Reel.oc.cl, k_Reel.n_undone, rF_und _ _ _, .inl ⟨rfl, _, .inl (.inl hu3)⟩, pu, us' ++ [v], v, rfl, rfl, hu3, ?_, ?_⟩
      · rw [List.length_append]
        show (us' ++ [v])[us'.length + 1 - 1]? = _
        rw [Nat.add_sub_cancel]
        simp
      rw [List.dropLast_concat]
      refine ⟨_, rfl, p, C, dx, rF vc (.ref pe) (.ref pu), rfl, (by rw [upd_ne npu]; exact h13), k_Reel.oc.cl, k_Reel.n_current, (by show 3 < 1000; decide), ?_⟩
      have eS : R.hidL S (upd (upd (upd H pe (.lst (es ++ [vc]))) pu (.lst us')) p (.ins C dx (putF "current" v (rF vc (.ref pe) (.ref pu))))) = R.hidL S H := by rw [hidL_upd r.ip, hidL_upd r.iu, hidL_upd r.ie]
      refine q pre x rfl _ ⟨r.ip, r.ie, r.iu, r.neu, fun a ha => ?_, ⟨dx, v, by rw [upd_same, rF_putc], by rw [eS]; exact dv⟩, ⟨es ++ [vc], by rw [upd_ne npe.symm, upd_ne r.neu]; exact upd_same, ?_⟩, ⟨us', by rw [upd_ne npu.symm]; exact upd_same, by rw [eS]; exact da⟩⟩ ?_
      · by_cases z1 : a = p
        · rw [z1]
          exact NoT.ins upd_same
        · by_cases z2 : a = pu
          · rw [z2]
            exact NoT.lst (by rw [upd_ne npu.symm]; exact upd_same)
          · by_cases z3 : a = pe
            · rw [z3]
              exact NoT.lst (by rw [upd_ne npe.symm, upd_ne r.neu]; exact upd_same)
            · obtain ⟨u, w1, w2, w3⟩ := r.nt a ha
              exact ⟨u, by rw [upd_ne z1, upd_ne z2, upd_ne z3]; exact w1, w2, w3⟩
      · rw [eS, List.map_append]
        exact dpa_snoc he2 h2
      · show Same (R.hidL [p, pe, pu] H) (R.hidL [p, pe, pu] _)
        rw [hidL_upd (by simp), hidL_upd (by simp), hidL_upd (by simp)]
        exact Same.refl _
/-! ### what the law holds: the box, a show, a copy of it, its length -/
theorem normF_len : ∀ (xs acc : List St3), (xs.foldl nstep acc).length ≤ acc.length + xs.length
  | [], acc => Nat.le_refl _
  | s :: r, acc => by
    have h1 := nstep_len acc s
    have h2 := normF_len r (nstep acc s)
    show (r.foldl nstep (nstep acc s)).length ≤ acc.length + (r.length + 1)
    omega
theorem normM_len (xs : List St3) : (normM xs).length ≤ xs.length := by
  have h : (normM xs).length ≤ ([] : List St3).length + xs.length := normF_len xs []
  rw [List.length_nil, Nat.zero_add] at h
  exact h
theorem sums_sz : ∀ xs : List St3, (∀ s ∈ xs, StOk 80 s) → Sz (1 + 242 * xs.length) (lenS xs)
  | [], _ => ⟨by decide, by decide⟩
  | s :: r, h => by
    have h1 := sz_lst (h s List.mem_cons_self)
    have h2 := sums_sz r (fun z hz => h z (List.mem_cons_of_mem _ hz))
    exact (sz_add h1 h2).mono (by rw [List.length_cons]; omega)
theorem shOk_of {xs : List St3} (h : ∀ s ∈ xs, StOk 80 s) (hl : xs.length ≤ 6) : ShOk 1470 xs := by
  refine ⟨fun s hs => ?_, fun k => ?_, fun s hs => (sz_lst (h s hs)).mono (by decide)⟩
  · have o := h s hs
    exact ⟨o.b.mono (by decide), o.e.mono (by decide), o.p.mono (by decide), o.pos⟩
  · refine (sums_sz (xs.take k) (fun s hs => h s (List.mem_of_mem_take hs))).mono ?_
    rw [List.length_take]
    omega
structure Lw (K : PySem.W.Frag) (H : Hp) (b l p k : Addr) (vw : V) (ys : List V) (xs : List St3) : Prop where
  bx : Bx H b l
  hp : hid b l H p = some (.lst ys)
  hk : hid b l H k = some (.lst ys)
  da : DpAll K H ys (xs.map dS)
  dw : Dp K H vw (dF (lenS xs))
section
variable {K : PySem.W.Frag} {H H' : Hp} {b l p k : Addr} {vw : V} {ys : List V} {xs : List St3}
theorem Lw.mono (h : Lw K H b l p k vw ys xs) (s : Same H H') : Lw K H' b l p k vw ys xs := ⟨h.bx.mono s, Same.hid s _ _ h.hp, Same.hid s _ _ h.hk, dpa_mono s _ _ h.da, dp_mono s _ _ h.dw⟩
theorem Lw.draw (h : Lw K H b l p k vw ys xs) (s : Same (hid b l H) (hid b l H')) (B : Bx H' b l) : Lw K H' b l p k vw ys xs := ⟨B, s _ _ h.hp, s _ _ h.hk, keepA h.da (tupA_dS _) h.bx.lb h.bx.ll s, frac_keep h.dw h.bx s⟩
theorem Lw.show (h : Lw K H b l p k vw ys xs) : Dp K H (.ref p) (dSh xs) := .lst (.inl (.inl (hid_same _ _ h.hp))) h.da
theorem Lw.kept (h : Lw K H b l p k vw ys xs) : Dp K H (.ref k) (dSh xs) := .lst (.inl (.inl (hid_same _ _ h.hk))) h.da
end
theorem eqv_dSh (xs : List St3) : PyData.eqv (dSh xs) (dSh xs) = true := SeqAt.eqv_refl _ (lay_dS xs)
theorem neq_dSh (xs : List St3) : (!PyData.eqv (dSh xs) (dSh xs)) = false := by
  rw [eqv_dSh]
  rfl
/-! ### what a law over a reel holds: the box, the reel, a show of its own -/
structure Lr (K : PySem.W.Frag) (C : Addr) (H : Hp) (S : List Addr) (b l p pe pu : Addr) (cur : List St3) (ear und : List (List St3)) : Prop where
  bx : Bx H b l
  ib : b ∈ S
  il : l ∈ S
  nb : ∀ a ∈ [p, pe, pu], a ≠ b ∧ a ≠ l
  r : RAt K C H S p pe pu cur ear und
section
variable {K : PySem.W.Frag} {C : Addr} {H H' : Hp} {S : List Addr} {b l p pe pu : Addr} {cur cur' : List St3} {ear und ear' und' : List (List St3)}
theorem Lr.mono (h : Lr K C H S b l p pe pu cur ear und) (s : Same H H') : Lr K C H' S b l p pe pu cur ear und := ⟨h.bx.mono s, h.ib, h.il, h.nb, h.r.mono s⟩
theorem Lr.draw (h : Lr K C H S b l p pe pu cur ear und) (s : Same (hid b l H) (hid b l H')) (B : Bx H' b l) : Lr K C H' S b l p pe pu cur ear und ∧ Same (R.hidL S H) (R.hidL S H') := ⟨⟨B, h.ib, h.il, h.nb, h.r.draw' h.ib h.il h.nb s B⟩, hid_hidL h.ib h.il s⟩
theorem Lr.kp (h : Lr K C H S b l p pe pu cur ear und) (r : RAt K C H' S p pe pu cur' ear' und') (k : Kp3 p pe pu H H') : Lr K C H' S b l p pe pu cur' ear' und' ∧ Same (R.hidL S H) (R.hidL S H') := by
  have nb : b ∉ [p, pe, pu] := fun z => (h.nb b z).1 rfl
  have nl : l ∉ [p, pe, pu] := fun z => (h.nb l z).2 rfl
  obtain ⟨xs, st, h1, h2⟩ := h.bx.ex
  refine ⟨⟨⟨h.bx.ne, xs, st, hidL_same _ _ (k _ _ (hidL_at nb h1)), hidL_same _ _ (k _ _ (hidL_at nl h2))⟩, h.ib, h.il, h.nb, r⟩, sub_hidL (fun a ha => ?_) k⟩
  simp only [List.mem_cons, List.not_mem_nil, or_false] at ha
  rcases ha with z | z | z
  · rw [z]
    exact r.ip
  · rw [z]
    exact r.ie
  · rw [z]
    exact r.iu
/-- behind the making of a reel; X: other lists that are changed -/
theorem Lr.makeX {H0 : Hp} {pc dx : Addr} {ys : List V} {xs : List St3} (X : List Addr) (hX : ∀ x ∈ X, ∃ zs, H0 x = some (.lst zs)) (B : Bx H0 b l) (np : H0 p = none) (old : ∀ a o, H0 a = some o → H' a = some o) (nc : H0 pc = none) (ne : H0 pe = none) (nu : H0 pu = none) (npc : pc ≠ p) (neu : pe ≠ pu) (nce : pc ≠ pe) (ncu : pc ≠ pu)
    (hp : H' p = some (.ins C dx (rF (.ref pc) (.ref pe) (.ref pu)))) (hc : H' pc = some (.lst ys)) (he : H' pe = some (.lst [])) (hu : H' pu = some (.lst [])) (da : DpAll K H' ys (xs.map dS)) : Lr K C H' (p :: pe :: pu :: b :: l :: X) b l p pe pu xs [] [] := by
  obtain ⟨ns, st, h1, h2⟩ := B.ex
  have h1' := old _ _ h1
  have h2' := old _ _ h2
  have nt : ∀ a ∈ p :: pe :: pu :: b :: l :: X, NoT H' a := by
    intro a ha
    simp only [List.mem_cons] at ha
    rcases ha with z | z | z | z | z | z
    · rw [z]
      exact NoT.ins hp
    · rw [z]
      exact NoT.lst he
    · rw [z]
      exact NoT.lst hu
    · rw [z]
      exact NoT.lst h1'
    · rw [z]
      exact NoT.lst h2'
    · obtain ⟨zs, hz⟩ := hX a z
      exact NoT.lst (old _ _ hz)
  have nS : pc ∉ p :: pe :: pu :: b :: l :: X := by
    intro ha
    simp only [List.mem_cons] at ha
    rcases ha with z | z | z | z | z | z
    · exact npc z
    · exact nce z
    · exact ncu z
    · rw [z, h1] at nc
      cases nc
    · rw [z, h2] at nc
      cases nc
    · obtain ⟨zs, hz⟩ := hX pc z
      rw [nc] at hz
      cases hz
  refine ⟨⟨B.ne, ns, st, h1', h2'⟩, by simp, by simp, ?_, ⟨by simp, by simp, by simp, neu, nt, ⟨dx, .ref pc, hp, show_hidL nt nS hc da⟩, ⟨[], he, .nil⟩, ⟨[], hu, .nil⟩⟩⟩
  intro a ha
  simp only [List.mem_cons, List.not_mem_nil, or_false] at ha
  rcases ha with z | z | z <;> rw [z]
  · exact ⟨fun y => (by rw [y, h1] at np; cases np), fun y => (by rw [y, h2] at np; cases np)⟩
  · exact ⟨fun y => (by rw [y, h1] at ne; cases ne), fun y => (by rw [y, h2] at ne; cases ne)⟩
  · exact ⟨fun y => (by rw [y, h1] at nu; cases nu), fun y => (by rw [y, h2] at nu; cases nu)⟩
theorem Lr.make {H0 : Hp} {pc dx : Addr} {ys : List V} {xs : List St3} (B : Bx H0 b l) (np : H0 p = none) (old : ∀ a o, H0 a = some o → H' a = some o) (nc : H0 pc = none) (ne : H0 pe = none) (nu : H0 pu = none) (npc : pc ≠ p) (neu : pe ≠ pu) (nce : pc ≠ pe) (ncu : pc ≠ pu)
    (hp : H' p = some (.ins C dx (rF (.ref pc) (.ref pe) (.ref pu)))) (hc : H' pc = some (.lst ys)) (he : H' pe = some (.lst [])) (hu : H' pu = some (.lst [])) (da : DpAll K H' ys (xs.map dS)) : Lr K C H' [p, pe, pu, b, l] b l p pe pu xs [] [] :=
  Lr.makeX [] (fun x hx => nomatch hx) B np old nc ne nu npc neu nce ncu hp hc he hu da
theorem Lr.less {S' : List Addr} (h : Lr K C H S' b l p pe pu cur ear und) (hs : ∀ a ∈ S, a ∈ S') (ip : p ∈ S) (ie : pe ∈ S) (iu : pu ∈ S) (ib : b ∈ S) (il : l ∈ S) : Lr K C H S b l p pe pu cur ear und := ⟨h.bx, ib, il, h.nb, h.r.less hs ip ie iu⟩
theorem RAt.updS {a : Addr} {zs : List V} (r : RAt K C H S p pe pu cur ear und) (ha : a ∈ S) (n : a ∉ [p, pe, pu]) : RAt K C (upd H a (.lst zs)) S p pe pu cur ear und := by
  obtain ⟨dx, vc, h1, h2⟩ := r.ob
  obtain ⟨es, h3, h4⟩ := r.he
  obtain ⟨us, h5, h6⟩ := r.hu
  have n1 : p ≠ a := fun z => n (by rw [← z]; simp)
  have n2 : pe ≠ a := fun z => n (by rw [← z]; simp)
  have n3 : pu ≠ a := fun z => n (by rw [← z]; simp)
  have e : R.hidL S (upd H a (.lst zs)) = R.hidL S H := hidL_upd ha
  refine ⟨r.ip, r.ie, r.iu, r.neu, fun c hc => ?_, ⟨dx, vc, by rw [upd_ne n1]; exact h1, by rw [e]; exact h2⟩, ⟨es, by rw [upd_ne n2]; exact h3, by rw [e]; exact h4⟩, ⟨us, by rw [upd_ne n3]; exact h5, by rw [e]; exact h6⟩⟩
  by_cases z : c = a
  · rw [z]
    exact NoT.lst upd_same
  · obtain ⟨u, w1, w2, w3⟩ := r.nt c hc
    exact ⟨u, by rw [upd_ne z]; exact w1, w2, w3⟩
theorem same_upd_new {a : Addr} {o : HO} {H'' : Hp} (s : Same (R.hidL S H) (R.hidL S H'')) (n : H a = none) : Same (R.hidL S H) (R.hidL S (upd H'' a o)) := fun c x hc => by
  obtain ⟨h1, h2⟩ := hidL_ne hc
  refine hidL_at h1 ?_
  rw [upd_ne (ne_of_none h2 n)]
  exact hidL_same _ _ (s _ _ hc)
/-- what was told is cleared -/
theorem Lr.clear {a : Addr} {zs : List V} {H'' : Hp} (h : Lr K C H S b l p pe pu cur ear und) (r : RAt K C H' (a :: S) p pe pu cur' ear' und') (k : Kp3 p pe pu H H') (n : H a = none) (s : Same H' H'') : Lr K C (upd H'' a (.lst zs)) S b l p pe pu cur' ear' und' ∧ Same (R.hidL S H) (R.hidL S (upd H'' a (.lst zs))) := by
  have nS : a ∉ S := h.r.notin n
  obtain ⟨w, t⟩ := h.kp (r.less (S := S) (fun c hc => List.mem_cons_of_mem _ hc) h.r.ip h.r.ie h.r.iu) k
  have w2 := w.mono s
  have t2 : Same (R.hidL S H) (R.hidL S H'') := t.trans (Same.hidL s)
  have q := ((r.mono s).updS (a := a) (zs := zs) List.mem_cons_self (no3 h.r nS)).less (S := S) (fun c hc => List.mem_cons_of_mem _ hc) h.r.ip h.r.ie h.r.iu
  refine ⟨⟨?_, h.ib, h.il, h.nb, q⟩, same_upd_new t2 n⟩
  obtain ⟨ns, st, h1, h2⟩ := w2.bx.ex
  exact ⟨w2.bx.ne, ns, st, by rw [upd_ne (fun z => nS (by rw [← z]; exact h.ib))]; exact h1, by rw [upd_ne (fun z => nS (by rw [← z]; exact h.il))]; exact h2⟩
theorem Lr.updS {a : Addr} {zs : List V} (h : Lr K C H S b l p pe pu cur ear und) (ha : a ∈ S) (n : a ∉ [p, pe, pu]) (nb : b ≠ a) (nl : l ≠ a) : Lr K C (upd H a (.lst zs)) S b l p pe pu cur ear und := by
  obtain ⟨ns, st, h1, h2⟩ := h.bx.ex
  exact ⟨⟨h.bx.ne, ns, st, by rw [upd_ne nb]; exact h1, by rw [upd_ne nl]; exact h2⟩, h.ib, h.il, h.nb, h.r.updS ha n⟩
end
theorem sIx2 (n : Nat) : HT.sIx n n (some 2) ≤ 2 := by
  unfold HT.sIx
  simp only []
  split <;> omega
theorem dpa_take {K : PySem.W.Frag} {H : Hp} : ∀ {vs : List V} {ds : List PyData} (j : Nat), DpAll K H vs ds → DpAll K H (vs.take j) (ds.take j)
  | _, _, 0, _ => .nil
  | _, _, _ + 1, .nil => .nil
  | _, _, j + 1, .cons h1 h2 => .cons h1 (dpa_take j h2)
theorem cut2 (ys : List V) : ∃ j, j ≤ 2 ∧ cutV ys none (some 2) = ys.take j := by
  refine ⟨HT.sIx ys.length ys.length (some 2), sIx2 _, ?_⟩
  unfold cutV
  show (ys.drop 0).take (HT.sIx ys.length ys.length (some 2) - 0) = _
  rw [List.drop_zero, Nat.sub_zero]
def spDeed (K : PySem.W.Frag) (C : Addr) : Sp := fun vs H Q _ => ∃ (S : List Addr) (b l p pe pu p0 : Addr) (ys : List V) (xs : List St3) (ear und : List (List St3)) (i : Nat), vs = [.ref b, .ref p, .ref p0] ∧ Lr K C H S b l p pe pu (normM xs) ear und ∧ R.hidL S H p0 = some (.lst ys) ∧ DpAll K (R.hidL S H) ys (xs.map dS) ∧ Sd i xs ∧ i ≤ 19 ∧ ear.length ≤ 1000 ∧
  ∀ H' p1 ys' xs', Lr K C H' S b l p pe pu (normM xs') (ear ++ [normM xs]) [] → Same (R.hidL S H) (R.hidL S H') → R.hidL S H' p1 = some (.lst ys') → DpAll K (R.hidL S H') ys' (xs'.map dS) → Sd (i + 1) xs' → Q (.ref p1) H'
theorem cl_Ldeed (T : Txt K mg) {C C0 : Addr} (k_Reel : C_Reel K mg C) (e_OffReel : ExcT K mg "OffReel" C0) : Cl P w K mg base CX0 9 "_law_deed" (spDeed K C) := by
  have c_Llong := cl_Llong (P := P) (w := w) (base := base) T
  have c_Lwithin := cl_Lwithin (P := P) (w := w) (base := base) T
  have c_Llow := cl_Llow (P := P) (w := w) (base := base) T
  have c_Lcut := cl_Lcut (P := P) (w := w) (base := base) T
  have c_Ltake := cl_Ltake (P := P) (w := w) (base := base) T
  have c_Lone := cl_Lone (P := P) (w := w) (base := base) T
  have c_Lshow := cl_Lshow (P := P) (w := w) (base := base) T
  have c_Lpace := cl_Lpace (P := P) (w := w) (base := base) T
  have c_Ltimes := cl_Ltimes (P := P) (w := w) (base := base) T
  have c_Reel_out := cl_Reel_out (P := P) (w := w) (base := base) T k_Reel e_OffReel
  have c_Reel_into := cl_Reel_into (P := P) (w := w) (base := base) T k_Reel e_OffReel
  have c_Reel_faster := cl_Reel_faster (P := P) (w := w) (base := base) T k_Reel e_OffReel
  refine T.d_Ldeed.cl sc_Ldeed (fun vs H Q E h => ?_) (fun f cdv A outer s H vs Q E hr h => ?_)
  · obtain ⟨S, b, l, p, pe, pu, p0, ys, xs, ear, und, i, rfl, _⟩ := h
    rfl
  · obtain ⟨S, b, l, p, pe, pu, p0, ys, xs, ear, und, i, rfl, w0, hs, ds, sd, hi, le, q⟩ := h
    have okx := sd.ok hi
    have okc := sd.norm.ok hi
    have gd := sd.gd
    have lx := sd.len
    have lcur : (normM xs).length ≤ 300 := by
      have := norm_le xs
      omega
    have zL := (sd.time hi (tq_all xs)).1
    refine ⟨_, (pss_cons (ps_set (i := 3) sc_Ldeed.nd rfl (.inl rfl) (pe_cl c_Llong hr (by decide) (by rfl) (pa_cons (pv 2) pa_nil)))
      (pss_cons (ps_set (i := 4) sc_Ldeed.nd rfl (.inl rfl) (pe_lst (pa_cons (pe_cl c_Lwithin hr (by decide) (by rfl) (pa_cons (pv 0) (pa_cons (pv 3) pa_nil))) (pa_cons (pe_cl c_Lwithin hr (by decide) (by rfl) (pa_cons (pv 0) (pa_cons (pv 3) pa_nil))) pa_nil))))
      (Evl.pss_cut (ps_if (pt_val (pe_cl c_Llow hr (by decide) (by rfl) (pa_cons (pe_ix ix_list (pv 4) pe_int (fun _ _ => rfl)) (pa_cons (pe_ix ix_list (pv 4) pe_int (fun _ _ => rfl)) pa_nil))))
        (pss_one (ps_set (i := 4) sc_Ldeed.nd rfl (.inl rfl) (pe_lst (pa_cons (pe_ix ix_list (pv 4) pe_int (fun _ _ => rfl)) (pa_cons (pe_ix ix_list (pv 4) pe_int (fun _ _ => rfl)) pa_nil)))))
        pss_nil)
      (pss_cons (ps_set (i := 5) sc_Ldeed.nd rfl (.inl rfl) (pe_cl c_Lcut hr (by decide) (by rfl) (pa_cons (pv 2) (pa_cons (pe_tup (pa_cons pe_int (pa_cons pe_int pa_nil))) (pa_cons (pe_ix ix_list (pv 4) pe_int (fun _ _ => rfl)) pa_nil)))))
      (pss_cons (ps_set (i := 6) sc_Ldeed.nd rfl (.inl rfl) (pe_cl c_Lcut hr (by decide) (by rfl) (pa_cons (pv 2) (pa_cons (pe_ix ix_list (pv 4) pe_int (fun _ _ => rfl)) (pa_cons (pe_ix ix_list (pv 4) pe_int (fun _ _ => rfl)) pa_nil)))))
      (pss_cons (ps_set (i := 7) sc_Ldeed.nd rfl (.inl rfl) (pe_cl c_Lcut hr (by decide) (by rfl) (pa_cons (pv 2) (pa_cons (pe_ix ix_list (pv 4) pe_int (fun _ _ => rfl)) (pa_cons (pv 3) pa_nil)))))
      (pss_cons (ps_set (i := 8) sc_Ldeed.nd rfl (.inl rfl) (pe_cl c_Ltake hr (by decide) (by rfl) (pa_cons (pv 0) (pa_cons pe_int pa_nil))))
      (pss_cons (ps_if (pt_cmpR op_eq (pv 8) pe_int (nomark _))
        (pss_cons (ps_set (i := 9) sc_Ldeed.nd rfl (.inl rfl) (pe_mtN c_Reel_out hr (by decide) k_Reel.oc.cl (pv 1) (pa_cons (pe_ix ix_list (pv 4) pe_int (fun _ _ => rfl)) (pa_cons (pe_ix ix_list (pv 4) pe_int (fun _ _ => rfl)) pa_nil))))
      (pss_cons (ps_if (pt_cmpR (op_neD hr.units) (pv 9) (pe_cl c_Lone hr (by decide) (by rfl) (pa_cons (pv 6) pa_nil)) (nomark _))
        (pss_one (ps_ret pe_non))
        pss_nil)
      (pss_cons (ps_expr (pe_bm0 PySem.F.plainAttrs_list PySem.F.slot_list_clear PySem.F.type_list_clear mt_clear (pv 9)))
      (pss_one (ps_ret (pe_op op_cat (pv 5) (pv 7)))))))
        pss_nil)
      (pss_cons (ps_if (pt_cmpR op_eq (pv 8) pe_int (nomark _))
        (pss_cons (ps_set (i := 10) sc_Ldeed.nd rfl (.inl rfl) (pe_slice sl_list (pe_cl c_Lshow hr (by decide) (by rfl) (pa_cons (pv 0) pa_nil)) po_none (po_some pe_int)))
      (pss_cons (ps_set (i := 11) sc_Ldeed.nd rfl (.inl rfl) (pe_callTy call_list_of (by rfl) T.m_list (by decide +kernel) (pa_cons (pv 10) pa_nil)))
      (pss_cons (ps_if (PW.pt (pw_or (pt_cmpR op_notN (pe_mtN c_Reel_into hr (by decide) k_Reel.oc.cl (pv 1) (pa_cons (pe_ix ix_list (pv 4) pe_int (fun _ _ => rfl)) (pa_cons (pv 11) pa_nil))) pe_non (nomark _)) (pw_or1 (pt_cmpR (op_neD hr.units) (pv 11) (pv 10) (nomark _)))))
        (pss_one (ps_ret pe_non))
        pss_nil)
      (pss_one (ps_ret (pe_op op_cat (pe_op op_cat (pe_op op_cat (pv 5) (pv 10)) (pv 6)) (pv 7)))))))
        pss_nil)
      (pss_cons (ps_set (i := 12) sc_Ldeed.nd rfl (.inr rfl) (pe_cl c_Lpace hr (by decide) (by rfl) (pa_cons (pv 0) pa_nil)))
      (pss_cons (ps_if (pt_cmpR op_notN (pe_mtN c_Reel_faster hr (by decide) k_Reel.oc.cl (pv 1) (pa_cons (pe_ix ix_list (pv 4) pe_int (fun _ _ => rfl)) (pa_cons (pe_ix ix_list (pv 4) pe_int (fun _ _ => rfl)) (pa_cons (pv 12) pa_nil)))) pe_non (nomark _))
        (pss_one (ps_ret pe_non))
        pss_nil)
      (pss_one (ps_ret (pe_op op_cat (pe_op op_cat (pv 5) (pe_lc (own := [("_law_part", 13)]) (g := (gName 13)) (tt := tYes) (by rfl) sc_Ldeed.nd (pi_list (pv 6)) (blkOk_by (N := ["_law_box", "_law_reel", "_law_show_here", "_law_whole", "_law_pair", "_law_head", "_law_middle", "_law_tail", "_law_way", "_law_found", "_law_other", "_law_handed", "_law_factor", "_law_part"]) (sc := defScope s_Ldeed) (by decide +kernel)) (fun _ _ _ _ _ => (pg_name (i := 13) sc_Ldeed.nd rfl (Or.inl rfl))) (fun _ _ _ _ _ => pts_nil) (fun _ _ _ _ _ => (pe_tup (pa_cons (pe_ix (ix_tupK (K := K) rfl) (pv 13) pe_int (fun _ _ => rfl)) (pa_cons (pe_ix (ix_tupK (K := K) rfl) (pv 13) pe_int (fun _ _ => rfl)) (pa_cons (pe_cl c_Ltimes hr (by decide) (by rfl) (pa_cons (pe_ix (ix_tupK (K := K) rfl) (pv 13) pe_int (fun _ _ => rfl)) (pa_cons (pv 12) pa_nil))) pa_nil))))))) (pv 7))))))))))))))), ?_⟩
    refine ⟨_, rfl, _, xs, 2240, rfl, .lst (.inl (.inl (hidL_same _ _ hs))) (dpa_mono hidL_same _ _ ds), okx, Nat.le_refl _, fun H1 vw s1 dw => ?_⟩
    have w1 := w0.mono s1
    have t1 : Same (R.hidL S H) (R.hidL S H1) := Same.hidL s1
    have dw1 : Dp K (R.hidL S H1) vw (dF (lenS xs)) := dp_hidL w1.r.nt _ _ rfl dw
    refine ⟨_, rfl, _, rfl, _, l, _, _, 2240, rfl, w1.bx, dw, zL, by decide, fun H2 v1 q1 s2 B2 d1 wq1 => ?_⟩
    obtain ⟨w2, t2⟩ := w1.draw s2 B2
    have dw2 := dp_mono t2 _ _ dw1
    have d12 : Dp K (R.hidL S H2) v1 (dF (lenS xs * q1)) := dp_hidL w2.r.nt _ _ rfl d1
    have tq1 : Tq xs (lenS xs * q1) := ⟨q1, wq1.iz, wq1.lo, wq1.hi, rfl⟩
    refine ⟨_, rfl, _, rfl, _, l, _, _, 2240, rfl, B2, dp_mono hidL_same _ _ dw2, zL, by decide, fun H3 v2 q2 s3 B3 d2 wq2 => ?_⟩
    obtain ⟨w3, t3⟩ := w2.draw s3 B3
    have dw3 := dp_mono t3 _ _ dw2
    have d13 := dp_mono t3 _ _ d12
    have d23 : Dp K (R.hidL S H3) v2 (dF (lenS xs * q2)) := dp_hidL w3.r.nt _ _ rfl d2
    have tq2 : Tq xs (lenS xs * q2) := ⟨q2, wq2.iz, wq2.lo, wq2.hi, rfl⟩
    generalize lenS xs * q1 = x1 at tq1 d13
    generalize lenS xs * q2 = x2 at tq2 d23
    clear d1 d2 d12
    refine ⟨(show 2 ≤ sizeLine by decide), fun pp npp => ?_⟩
    have s4 := Same.new (o := .lst [v1, v2]) npp
    have w4 := w3.mono s4
    have t4 : Same (R.hidL S H3) (R.hidL S (upd H3 pp (.lst [v1, v2]))) := Same.hidL s4
    have hpp : R.hidL S (upd H3 pp (.lst [v1, v2])) pp = some (.lst [v1, v2]) := hidL_at (w3.r.notin npp) upd_same
    have dw4 := dp_mono t4 _ _ dw3
    have d14 := dp_mono t4 _ _ d13
    have d24 := dp_mono t4 _ _ d23
    have t04 := ((t1.trans t2).trans t3).trans t4
    generalize upd H3 pp (.lst [v1, v2]) = H4 at w4 hpp dw4 d14 d24 t04 ⊢
    clear t1 t2 t3 t4
    have z1 := (sd.time hi tq1).1
    have z2 := (sd.time hi tq2).1
    refine ⟨fun σ' H' => ∃ (pp : Addr) (v1 v2 : V) (x1 x2 : Rat), σ' = [some (.ref b), some (.ref p), some (.ref p0), some vw, some (.ref pp), none, none, none, none, none, none, none, none, none] ∧ Lr K C H' S b l p pe pu (normM xs) ear und ∧ Same (R.hidL S H) (R.hidL S H') ∧ Dp K (R.hidL S H') vw (dF (lenS xs)) ∧ R.hidL S H' pp = some (.lst [v1, v2]) ∧ Dp K (R.hidL S H') v1 (dF x1) ∧ Dp K (R.hidL S H') v2 (dF x2) ∧ Tq xs x1 ∧ Tq xs x2 ∧ x1 ≤ x2, ?_, fun σ' H5 hM => ?_⟩
    · have sq : SqL K H4 pp [v1, v2] := .inl (.inl (hidL_same _ _ hpp))
      refine ⟨_, rfl, _, _, _, _, rfl, rfl, sq, atI_nat (j := 1) rfl, _, rfl, _, _, _, _, rfl, rfl, sq, atI_nat (j := 0) rfl, _, _, x2, x1, 2240, 2240, rfl, dp_mono hidL_same _ _ d24, dp_mono hidL_same _ _ d14, z2, z1, by decide, _, rfl, ite2 (fun z => ?_) (fun z => ?_)⟩
      · refine ⟨_, rfl, _, _, _, _, rfl, rfl, sq, atI_nat (j := 1) rfl, _, rfl, _, _, _, _, rfl, rfl, sq, atI_nat (j := 0) rfl, (show 2 ≤ sizeLine by decide), fun p5 n5 => ?_⟩
        have s5 := Same.new (o := .lst [v2, v1]) n5
        have t5 : Same (R.hidL S H4) (R.hidL S (upd H4 p5 (.lst [v2, v1]))) := Same.hidL s5
        refine ⟨p5, v2, v1, x2, x1, rfl, w4.mono s5, t04.trans t5, dp_mono t5 _ _ dw4, hidL_at (w4.r.notin n5) upd_same, dp_mono t5 _ _ d24, dp_mono t5 _ _ d14, tq2, tq1, ?_⟩
        have := of_decide_eq_true z
        grind
      · refine ⟨pp, v1, v2, x1, x2, rfl, w4, t04, dw4, hpp, d14, d24, tq1, tq2, ?_⟩
        have : ¬ x2 < x1 := fun y => z (decide_eq_true y)
        grind
    clear hpp dw4 d14 d24 t04 w4 z1 z2 tq1 tq2 d13 d23 w3 w2 w1 dw3 dw2 dw1
    obtain ⟨pp, v1, v2, x1, x2, rfl, w5, t5, dw5, hpp, d1, d2, tq1, tq2, hx⟩ := hM
    obtain ⟨z1, g1, g1'⟩ := sd.time hi tq1
    obtain ⟨z2, g2, g2'⟩ := sd.time hi tq2
    have sq5 : SqL K H5 pp [v1, v2] := .inl (.inl (hidL_same _ _ hpp))
    have hs5 := t5 _ _ hs
    have ds5 := dpa_mono t5 _ _ ds
    have sh5 : Dp K H5 (.ref p0) (dSh xs) := .lst (.inl (.inl (hidL_same _ _ hs5))) (dpa_mono hidL_same _ _ ds5)
    -- head
    refine ⟨_, rfl, (show 2 ≤ sizeLine by decide), fun pz nz => ?_⟩
    have sz := Same.new (o := .tup [.int 0, .int 1]) nz
    have dz : Dp K (upd H5 pz (.tup [.int 0, .int 1])) (.ref pz) (dF 0) := dF_mk (.inl (.inl upd_same))
    generalize upd H5 pz (.tup [.int 0, .int 1]) = H6 at sz dz ⊢
    have z0 : Sz 2240 (0 : Rat) := Sz.mono (n := 1) ⟨by decide, by decide⟩ (by decide)
    refine ⟨_, rfl, _, _, _, _, rfl, rfl, sz.seq sq5, atI_nat (j := 0) rfl, _, _, _, xs, 0, x1, 2240, rfl, dp_mono sz _ _ sh5, dz, dp_mono sz _ _ (dp_mono hidL_same _ _ d1), okx, z0, z1, Nat.le_refl _, by omega, fun H7 ph yh s7 nh hh dh lh => ?_⟩
    have s57 := sz.trans s7
    -- middle
    refine ⟨_, rfl, _, rfl, _, _, _, _, rfl, rfl, s57.seq sq5, atI_nat (j := 0) rfl, _, rfl, _, _, _, _, rfl, rfl, s57.seq sq5, atI_nat (j := 1) rfl, _, _, _, xs, x1, x2, 2240, rfl, dp_mono s57 _ _ sh5, dp_mono s57 _ _ (dp_mono hidL_same _ _ d1), dp_mono s57 _ _ (dp_mono hidL_same _ _ d2), okx, z1, z2, Nat.le_refl _, by omega, fun H8 pm ym s8 nm hm dm lm => ?_⟩
    have s58 := s57.trans s8
    -- tail
    refine ⟨_, rfl, _, rfl, _, _, _, _, rfl, rfl, s58.seq sq5, atI_nat (j := 1) rfl, _, rfl, _, _, _, xs, x2, lenS xs, 2240, rfl, dp_mono s58 _ _ sh5, dp_mono s58 _ _ (dp_mono hidL_same _ _ d2), dp_mono s58 _ _ (dp_mono hidL_same _ _ dw5), okx, z2, zL, Nat.le_refl _, by omega, fun H9 pt yt s9 nt ht dt lt => ?_⟩
    have s59 := s58.trans s9
    have w9 := w5.mono s59
    have t9 := t5.trans (Same.hidL s59)
    have hpp9 := Same.hidL (S := S) s59 _ _ hpp
    have d19 := dp_mono (Same.hidL (S := S) s59) _ _ d1
    have d29 := dp_mono (Same.hidL (S := S) s59) _ _ d2
    have hh9 : R.hidL S H9 ph = some (.lst yh) := hidL_at (w5.r.notin (sz.free nh)) ((s8.trans s9) _ _ hh)
    have hm9 : R.hidL S H9 pm = some (.lst ym) := hidL_at (w5.r.notin (s57.free nm)) (s9 _ _ hm)
    have ht9 : R.hidL S H9 pt = some (.lst yt) := hidL_at (w5.r.notin (s58.free nt)) ht
    have dh9 : DpAll K (R.hidL S H9) yh ((cutM xs 0 x1).map dS) := dpa_hidL w9.r.nt _ _ (tupA_dS _) (dpa_mono (s8.trans s9) _ _ dh)
    have dm9 : DpAll K (R.hidL S H9) ym ((cutM xs x1 x2).map dS) := dpa_hidL w9.r.nt _ _ (tupA_dS _) (dpa_mono s9 _ _ dm)
    have dt9 : DpAll K (R.hidL S H9) yt ((cutM xs x2 (lenS xs)).map dS) := dpa_hidL w9.r.nt _ _ (tupA_dS _) dt
    have lyh : yh.length ≤ 100 := by rw [dpa_len dh, List.length_map]; omega
    have lym : ym.length ≤ 100 := by rw [dpa_len dm, List.length_map]; omega
    have lyt : yt.length ≤ 100 := by rw [dpa_len dt, List.length_map]; omega
    clear dh dm dt hh hm ht nh nm nt s7 s8 s9 s57 s58 s59 sz dz z0 sh5 hs5 ds5 sq5 hpp d1 d2 dw5 w5 t5
    -- way
    refine ⟨_, rfl, _, l, _, rfl, w9.bx, by decide, by decide, fun Ha way sa Ba a0 a3 => ?_⟩
    obtain ⟨wa, ta⟩ := w9.draw sa Ba
    have tA := t9.trans ta
    have hpp := ta _ _ hpp9
    have d1 := dp_mono ta _ _ d19
    have d2 := dp_mono ta _ _ d29
    have hh := ta _ _ hh9
    have hm := ta _ _ hm9
    have ht := ta _ _ ht9
    have dh := dpa_mono ta _ _ dh9
    have dm := dpa_mono ta _ _ dm9
    have dt := dpa_mono ta _ _ dt9
    clear t9 hpp9 d19 d29 hh9 hm9 ht9 dh9 dm9 dt9 w9
    have sqa : SqL K Ha pp [v1, v2] := .inl (.inl (hidL_same _ _ hpp))
    have el : lenS (normM xs) = lenS xs := lenS_norm xs
    have nref : ¬ refused (normM xs) x1 x2 := by
      rintro (z | z)
      · grind
      · rw [el] at z
        grind
    obtain ⟨dx, vc, h1, h2⟩ := wa.r.ob
    refine ⟨_, rfl, rfl, _, rfl, ite2 (fun z => ?_) (fun z => ?_)⟩
    · -- out
      refine ⟨_, rfl, p, dx, _, rfl, h1, rF_no _ _ _ (by decide +kernel) (by decide +kernel) (by decide +kernel), _, rfl, _, _, _, _, rfl, rfl, sqa, atI_nat (j := 0) rfl, _, rfl, _, _, _, _, rfl, rfl, sqa, atI_nat (j := 1) rfl, S, p, pe, pu, _, ear, und, _, _, x1, x2, 2240, rfl, wa.r, dp_mono hidL_same _ _ d1, dp_mono hidL_same _ _ d2, okc, z1, z2, Nat.le_refl _, lcur, le, g1, fun c => absurd c nref, fun _ Hb rr yr rb kb nr hr' dr => ?_⟩
      obtain ⟨wb, tb⟩ := wa.kp (rb.less (S := S) (fun c hc => List.mem_cons_of_mem _ hc) wa.r.ip wa.r.ie wa.r.iu) kb
      have hmb := tb _ _ hm
      refine ⟨_, rfl, _, rfl, _, cutM xs x1 x2, rfl, .lst (.inl (.inl (hidL_same _ _ hmb))) (dpa_mono hidL_same _ _ (dpa_mono tb _ _ dm)), by omega, fun Hc rc yc sc nc hc dc => ?_⟩
      rw [cut_norm xs x1 x2 gd] at dr
      refine ⟨_, _, .lst (.inl (.inl (sc _ _ hr'))) (dpa_mono sc _ _ dr), .lst (.inl (.inl hc)) dc, shaped_dSh _, shaped_dSh _, _, rfl, iteN (neq_dSh _) ?_⟩
      refine ⟨_, rfl, .inl ⟨rfl, _, .inl (.inl (sc _ _ hr'))⟩, rr, yr, rfl, rfl, sc _ _ hr', ?_⟩
      obtain ⟨wd, td⟩ := wa.clear (zs := []) rb kb nr sc
      generalize upd Hc rr (.lst []) = Hd at wd td ⊢
      have hhd := td _ _ hh
      have htd := td _ _ ht
      refine ⟨_, rfl, _, rfl, ph, pt, yh, yt, rfl, rfl, hidL_same _ _ hhd, hidL_same _ _ htd, Nat.le_trans (show yh.length + yt.length ≤ 1000 by omega) (by decide), fun pn nn => ?_⟩
      have sn := Same.new (o := .lst (yh ++ yt)) nn
      have tn := tA.trans (td.trans (Same.hidL (S := S) sn))
      have wn := wd.mono sn
      have e1 : fillM (normM xs) [] x1 x2 = normM (cutM xs 0 x1 ++ cutM xs x2 (lenS xs)) := deed_out xs x1 x2 gd
      rw [e1] at wn
      refine q _ pn (yh ++ yt) _ wn tn (hidL_at (wd.r.notin nn) upd_same) ?_ (sd.out tq1 tq2 hx)
      rw [List.map_append]
      exact dpa_mono (td.trans (Same.hidL (S := S) sn)) _ _ (dpa_app dh dt)
    · refine ⟨_, rfl, rfl, _, rfl, ite2 (fun z' => ?_) (fun z' => ?_)⟩
      · -- into
        refine ⟨_, rfl, b, l, rfl, wa.bx, fun Hb pr yr xr sb Bb npr hpr dar hlr ok80 fsr => ?_⟩
        obtain ⟨wb, tb⟩ := wa.draw sb Bb
        have hprb : Hb pr = some (.lst yr) := hid_same _ _ hpr
        refine ⟨_, rfl, pr, yr, rfl, .inl (.inl hprb), fun po no => ?_⟩
        obtain ⟨j, hj, ej⟩ := cut2 yr
        rw [ej]
        have so := Same.new (o := .lst (yr.take j)) no
        have wo := wb.mono so
        have to := tb.trans (Same.hidL (S := S) so)
        have hpo : R.hidL S (upd Hb po (.lst (yr.take j))) po = some (.lst (yr.take j)) := hidL_at (wb.r.notin no) upd_same
        have dpo : DpAll K (R.hidL S (upd Hb po (.lst (yr.take j)))) (yr.take j) ((xr.take j).map dS) := by
          rw [List.map_take]
          exact dpa_hidL wo.r.nt _ _ (by rw [← List.map_take]; exact tupA_dS _) (dpa_take j (dpa_mono so _ _ dar))
        generalize upd Hb po (.lst (yr.take j)) = Hc at so wo to hpo dpo ⊢
        refine ⟨_, rfl, po, _, rfl, .inl (.inl (.inl (hidL_same _ _ hpo))), fun pd nd => ?_⟩
        have sd' := Same.new (o := .lst (yr.take j)) nd
        have wd := wo.mono sd'
        have td := to.trans (Same.hidL (S := S) sd')
        have hpd : R.hidL S (upd Hc pd (.lst (yr.take j))) pd = some (.lst (yr.take j)) := hidL_at (wo.r.notin nd) upd_same
        have hpo := Same.hidL (S := S) sd' _ _ hpo
        have dpo := dpa_mono (Same.hidL (S := S) sd') _ _ dpo
        generalize upd Hc pd (.lst (yr.take j)) = Hd at wd td hpd hpo dpo ⊢
        have lo : (xr.take j).length ≤ 2 := by
          rw [List.length_take]
          omega
        have lyo : (yr.take j).length ≤ 2 := by
          rw [List.length_take]
          omega
        obtain ⟨dx, vc, h1, h2⟩ := wd.r.ob
        have sqd : SqL K Hd pp [v1, v2] := .inl (.inl (hidL_same _ _ (td _ _ hpp)))
        refine ⟨_, rfl, p, dx, _, rfl, h1, rF_no _ _ _ (by decide +kernel) (by decide +kernel) (by decide +kernel), _, rfl, _, _, _, _, rfl, rfl, sqd, atI_nat (j := 0) rfl, _, rfl, S, p, pe, pu, _, xr.take j, ear, und, _, pd, _, x1, 2240, rfl, wd.r, dp_mono hidL_same _ _ (dp_mono td _ _ d1), hpd, dpo, okc, z1, Nat.le_refl _, lcur, by omega, le, g1, fun c => absurd c (by rw [el]; grind), fun _ He re ke => ?_⟩
        obtain ⟨we, te⟩ := wd.kp re ke
        refine ⟨rfl, _, rfl, iteN rfl ?_⟩
        have hpoe := te _ _ hpo
        have hpde := te _ _ hpd
        have dpoe := dpa_mono te _ _ dpo
        refine ⟨_, rfl, _, rfl, _, _, .lst (.inl (.inl (hidL_same _ _ hpde))) (dpa_mono hidL_same _ _ dpoe), .lst (.inl (.inl (hidL_same _ _ hpoe))) (dpa_mono hidL_same _ _ dpoe), shaped_dSh _, shaped_dSh _, _, rfl, iteN (neq_dSh _) ?_⟩
        have tf := td.trans te
        have hhe := hidL_same _ _ (tf _ _ hh)
        have hme := hidL_same _ _ (tf _ _ hm)
        have hte := hidL_same _ _ (tf _ _ ht)
        have hoe := hidL_same _ _ hpoe
        refine ⟨_, rfl, _, rfl, ph, po, yh, yr.take j, rfl, rfl, hhe, hoe, Nat.le_trans (show yh.length + (yr.take j).length ≤ 1000 by omega) (by decide), fun n1 m1 => ?_⟩
        have u1 := Same.new (o := .lst (yh ++ yr.take j)) m1
        refine ⟨_, rfl, n1, pm, yh ++ yr.take j, ym, rfl, rfl, upd_same, u1 _ _ hme, Nat.le_trans (show (yh ++ yr.take j).length + ym.length ≤ 1000 by rw [List.length_append]; omega) (by decide), fun n2 m2 => ?_⟩
        have u2 := Same.new (o := .lst (yh ++ yr.take j ++ ym)) m2
        refine ⟨_, rfl, n2, pt, yh ++ yr.take j ++ ym, yt, rfl, rfl, upd_same, (u1.trans u2) _ _ hte, Nat.le_trans (show (yh ++ yr.take j ++ ym).length + yt.length ≤ 1000 by rw [List.length_append, List.length_append]; omega) (by decide), fun n3 m3 => ?_⟩
        have u3 := Same.new (o := .lst (yh ++ yr.take j ++ ym ++ yt)) m3
        have u13 := (u1.trans u2).trans u3
        have wn := we.mono u13
        have tn := te.trans (Same.hidL (S := S) u13)
        have e1 : fillM (normM xs) (xr.take j) x1 x1 = normM (cutM xs 0 x1 ++ xr.take j ++ cutM xs x1 x2 ++ cutM xs x2 (lenS xs)) := deed_into xs (xr.take j) x1 x2 gd hx (by grind)
        rw [e1] at wn
        refine q _ n3 _ _ wn (tA.trans (td.trans tn)) (hidL_at ((we.mono (u1.trans u2)).r.notin m3) upd_same) ?_ (sd.into tq1 tq2 hx (fun s hs => fsr s (List.mem_of_mem_take hs)) lo)
        rw [List.map_append, List.map_append, List.map_append]
        exact dpa_mono tn _ _ (dpa_app (dpa_app (dpa_app (dpa_mono td _ _ dh) dpo) (dpa_mono td _ _ dm)) (dpa_mono td _ _ dt))
      · -- faster
        refine ⟨_, rfl, b, l, rfl, wa.bx, fun Hb vf xf sb Bb df zf cf => ?_⟩
        obtain ⟨wb, tb⟩ := wa.draw sb Bb
        have dfb : Dp K (R.hidL S Hb) vf (dF xf) := dp_hidL wb.r.nt _ _ rfl df
        obtain ⟨dx, vc, h1, h2⟩ := wb.r.ob
        have sqd : SqL K Hb pp [v1, v2] := .inl (.inl (hidL_same _ _ (tb _ _ hpp)))
        refine ⟨_, rfl, p, dx, _, rfl, h1, rF_no _ _ _ (by decide +kernel) (by decide +kernel) (by decide +kernel), _, rfl, _, _, _, _, rfl, rfl, sqd, atI_nat (j := 0) rfl, _, rfl, _, _, _, _, rfl, rfl, sqd, atI_nat (j := 1) rfl, _, rfl, S, p, pe, pu, _, ear, und, _, _, _, x1, x2, xf, 2240, rfl, wb.r, dp_mono hidL_same _ _ (dp_mono tb _ _ d1), dp_mono hidL_same _ _ (dp_mono tb _ _ d2), df, okc, z1, z2, zf.mono (by decide), Nat.le_refl _, lcur, le, g1, fun c => absurd c nref, fun _ Hc rc kc => ?_⟩
        obtain ⟨wc, tc⟩ := wb.kp rc kc
        refine ⟨rfl, _, rfl, iteN rfl ?_⟩
        have tf := tb.trans tc
        have hhc := hidL_same _ _ (tf _ _ hh)
        have hmc := hidL_same _ _ (tf _ _ hm)
        have dmc := dpa_mono hidL_same _ _ (dpa_mono tf _ _ dm)
        have dfc := dp_mono hidL_same _ _ (dp_mono tc _ _ dfb)
        have ly : ym.length = (cutM xs x1 x2).length := by rw [dpa_len dm, List.length_map]
        have zp : ∀ t ∈ cutM xs x1 x2, Sz 2240 t.2.2 := cut_pace xs x1 x2 fun s hs => (okx.each s hs).p
        refine ⟨_, rfl, _, rfl, pm, rfl, ⟨_, .inl (.inl hmc)⟩, fun D hD => ?_⟩
        have sD := Same.new (o := .lst []) hD
        refine lc_list (K := K) (a := pm) (xs := ym) (fun i H' => ∃ acc, H' D = some (.lst acc) ∧ Same Hc (hid D D H') ∧ acc.length = i ∧ DpAll K (hid D D H') acc (((fastM xf (cutM xs x1 x2)).take i).map dS)) ⟨[], upd_same, hid_old sD hD, rfl, .nil⟩ (fun i H' hi h => ?_) (fun i y H' hy h => ?_) (fun H' h => ?_)
        · obtain ⟨acc, hd, s2, la, dd⟩ := h
          exact .inl (.inl (hid_same _ _ (s2 _ _ hmc)))
        · obtain ⟨acc, hd, s2, la, dd⟩ := h
          have s2' : Same Hc H' := s2.trans hid_same
          obtain ⟨t, ht', dt'⟩ := dpa_map dmc hy
          obtain ⟨pt', v1', v2', v3', rfl, hpt, e1, e2, e3⟩ := dS_at (dp_mono s2' _ _ dt')
          have hi : i < ym.length := (List.getElem?_eq_some_iff.mp hy).1
          refine ⟨rfl, ?_⟩
          refine ⟨_, rfl, _, _, _, _, rfl, rfl, hpt, atI_nat (j := 0) rfl, _, rfl, _, _, _, _, rfl, rfl, hpt, atI_nat (j := 1) rfl, _, rfl, _, _, _, _, rfl, rfl, hpt, atI_nat (j := 2) rfl, _, rfl, _, _, t.2.2, xf, 2240, 4, rfl, e3, dp_mono s2' _ _ dfc, zp t (List.mem_of_getElem? ht'), zf, by decide, trivial, fun H3 z3 s3 r3 => ?_⟩
          refine ⟨(show 3 ≤ sizeLine by decide), fun pn hn => ?_⟩
          have s4 := Same.new (o := .tup [v1', v2', z3]) hn
          have hd4 := s4 _ _ (s3 _ _ hd)
          have dn : Dp K (upd H3 pn (.tup [v1', v2', z3])) (.ref pn) (dS (t.1, t.2.1, t.2.2 * xf)) := dS_mk (.inl (.inl upd_same)) (dp_mono (s3.trans s4) _ _ e1) (dp_mono (s3.trans s4) _ _ e2) (dp_mono s4 _ _ r3)
          have s34 := s3.trans s4
          generalize upd H3 pn (.tup [v1', v2', z3]) = H4 at hd4 dn s34 ⊢
          have LD : IsL H4 D := ⟨_, hd4⟩
          refine ⟨acc, hd4, small1000 (by omega), acc ++ [.ref pn], upd_same, ?_, ?_, ?_⟩
          · rw [hid_b]
            exact s2.trans (Same.hid s34)
          · rw [List.length_append, la]
            rfl
          · rw [hid_b, take_more (x := (t.1, t.2.1, t.2.2 * xf)) (by unfold fastM; rw [List.getElem?_map, ht']; rfl), List.map_append]
            exact dpa_snoc (dpa_mono (Same.hid s34) _ _ dd) (dp_hid LD LD _ _ rfl dn)
        · obtain ⟨acc, hd, s2, la, dd⟩ := h
          have s2' : Same Hc H' := s2.trans hid_same
          have lf : (fastM xf (cutM xs x1 x2)).length = (cutM xs x1 x2).length := List.length_map ..
          have t2 : Same (R.hidL S Hc) (R.hidL S H') := Same.hidL s2'
          have w2 := wc.mono s2'
          have hh2 := hidL_same _ _ (t2 _ _ (tf _ _ hh))
          have ht2 := hidL_same _ _ (t2 _ _ (tf _ _ ht))
          rw [ly, ← lf, List.take_length] at dd
          have dd2 : DpAll K (R.hidL S H') acc ((fastM xf (cutM xs x1 x2)).map dS) := dpa_hidL w2.r.nt _ _ (tupA_dS _) (dpa_mono hid_same _ _ dd)
          refine ⟨ph, D, yh, acc, rfl, rfl, hh2, hd, Nat.le_trans (show yh.length + acc.length ≤ 1000 by omega) (by decide), fun n1 m1 => ?_⟩
          have u1 := Same.new (o := .lst (yh ++ acc)) m1
          refine ⟨_, rfl, n1, pt, yh ++ acc, yt, rfl, rfl, upd_same, u1 _ _ ht2, Nat.le_trans (show (yh ++ acc).length + yt.length ≤ 1000 by rw [List.length_append]; omega) (by decide), fun n2 m2 => ?_⟩
          have u2 := Same.new (o := .lst (yh ++ acc ++ yt)) m2
          have u12 := u1.trans u2
          have wn := w2.mono u12
          have tn : Same (R.hidL S H') (R.hidL S _) := Same.hidL (S := S) u12
          have e1 : fillM (normM xs) (fastM xf (normM (cutM (normM xs) x1 x2))) x1 x2 = normM (cutM xs 0 x1 ++ fastM xf (cutM xs x1 x2) ++ cutM xs x2 (lenS xs)) := deed_fast cf.pos xs x1 x2 gd
          rw [e1] at wn
          refine q _ n2 _ _ wn (tA.trans (tf.trans (t2.trans tn))) (hidL_at ((w2.mono u1).r.notin m2) upd_same) ?_ (sd.faster tq1 tq2 hx cf)
          rw [List.map_append, List.map_append]
          exact dpa_mono tn _ _ (dpa_app (dpa_app (dpa_mono (tf.trans t2) _ _ dh) dd2) (dpa_mono (tf.trans t2) _ _ dt))
/-! ### half a frame beyond a show's end -/
theorem Sd.half {i : Nat} {xs : List St3} (h : Sd i xs) (hi : i ≤ 19) : Sz 2240 (lenS xs + (1 / 2 : Rat)) ∧ 0 ≤ lenS xs := by
  obtain ⟨D, fs, h⟩ := h
  obtain ⟨g1, g2, g3⟩ := len_le h.pf xs h.each
  have z1 : Iz (D * (2520 * Gam fs) * 1100) (lenS xs) := g1.dvd (Nat.dvd_mul_right _ _)
  have z2 : Iz (D * (2520 * Gam fs) * 1100) (1 / 2 : Rat) := by
    have e : (1 / 2 : Rat) = Rat.divInt 1 2 := by decide +kernel
    rw [e]
    refine iz_divInt (by decide) ?_
    refine ⟨((D * (2520 * Gam fs) * 550 : Nat) : Int), ?_⟩
    have : D * (2520 * Gam fs) * 1100 = 2 * (D * (2520 * Gam fs) * 550) := by rw [Nat.mul_comm 2, Nat.mul_assoc _ 550 2]
    rw [this]
    omega
  refine ⟨szB (M := (xs.length + 1) * (300 * (9 * 9 ^ fs.length))) (h.E1p hi) (h.E1 hi) (z1.add z2) (by grind) ?_ ?_, g2⟩
  · have e : (((xs.length + 1) * (300 * (9 * 9 ^ fs.length)) : Nat) : Rat) = ((xs.length * (300 * (9 * 9 ^ fs.length)) : Nat) : Rat) + ((300 * (9 * 9 ^ fs.length) : Nat) : Rat) := by
      rw [Nat.add_mul, Nat.one_mul, Rat.natCast_add]
    have k : (1 : Rat) ≤ ((300 * (9 * 9 ^ fs.length) : Nat) : Rat) := by
      have : 1 ≤ 300 * (9 * 9 ^ fs.length) := Nat.mul_pos (by decide) (Nat.mul_pos (by decide) (Nat.pow_pos (by decide)))
      exact Rat.natCast_le_natCast.mpr this
    rw [e]
    grind
  · have h1 : 9 ^ fs.length ≤ 9 ^ 19 := Nat.pow_le_pow_right (by decide) (Nat.le_trans h.fl hi)
    have hl := h.len
    calc (xs.length + 1) * (300 * (9 * 9 ^ fs.length)) ≤ 83 * (300 * (9 * 9 ^ 19)) := Nat.mul_le_mul (by omega) (Nat.mul_le_mul (Nat.le_refl _) (Nat.mul_le_mul (Nat.le_refl _) h1))
      _ ≤ 76400 * (9 * 9 ^ 19) := by decide +kernel
/-! ### a lambda handed on: its table may grow; all else stays -/
theorem extN_seq {K : PySem.W.Frag} {H H' : Hp} {a : Addr} {xs : List V} (s : LamX.ExtN H H') (h : SqL K H a xs) : SqL K H' a xs := by
  rcases h with (h | ⟨o, h⟩) | h
  · exact .inl (.inl (s _ _ h (fun _ z => nomatch z)))
  · exact .inl (.inr ⟨o, s _ _ h (fun _ z => nomatch z)⟩)
  · exact .inr h
theorem extN_tup {K : PySem.W.Frag} {H H' : Hp} {a : Addr} {xs : List V} (s : LamX.ExtN H H') (h : SqT K H a xs) : SqT K H' a xs := by
  rcases h with (h | ⟨o, h⟩) | h
  · exact .inl (.inl (s _ _ h (fun _ z => nomatch z)))
  · exact .inl (.inr ⟨o, s _ _ h (fun _ z => nomatch z)⟩)
  · exact .inr h
mutual
theorem dp_extN {K : PySem.W.Frag} {H H' : Hp} (s : LamX.ExtN H H') : ∀ (d : PyData) (v : V), Dp K H v d → Dp K H' v d
  | .none, _, h => by cases h; exact .non
  | .bool _, _, h => by cases h; exact .bl _
  | .int _, _, h => by cases h; exact .int _
  | .str _, _, h => by cases h; exact .str _
  | .list ds, _, h => by
    cases h with
    | lst hs ha => exact .lst (extN_seq s hs) (dpa_extN s ds _ ha)
  | .tuple ds, _, h => by
    cases h with
    | tup hs ha => exact .tup (extN_tup s hs) (dpa_extN s ds _ ha)
  | .dict _, _, h => by cases h
theorem dpa_extN {K : PySem.W.Frag} {H H' : Hp} (s : LamX.ExtN H H') : ∀ (ds : List PyData) (vs : List V), DpAll K H vs ds → DpAll K H' vs ds
  | [], _, h => by cases h; exact .nil
  | d :: ds, _, h => by
    cases h with
    | cons h1 h2 => exact .cons (dp_extN s d _ h1) (dpa_extN s ds _ h2)
end
theorem extN_hidL {S : List Addr} {H H' : Hp} (s : LamX.ExtN H H') : LamX.ExtN (R.hidL S H) (R.hidL S H') := fun b o h n => by
  obtain ⟨h1, h2⟩ := hidL_ne h
  exact hidL_at h1 (s b o h2 n)
/-- a list or an object of an own class -/
def LI (H : Hp) (a : Addr) : Prop := (∃ xs, H a = some (.lst xs)) ∨ ∃ C dx fs, H a = some (.ins C dx fs)
theorem LI.noT {H : Hp} {a : Addr} (h : LI H a) : NoT H a := by
  rcases h with ⟨xs, h⟩ | ⟨C, dx, fs, h⟩
  · exact NoT.lst h
  · exact NoT.ins h
theorem LI.extN {H H' : Hp} {a : Addr} (h : LI H a) (s : LamX.ExtN H H') : LI H' a := by
  rcases h with ⟨xs, h⟩ | ⟨C, dx, fs, h⟩
  · exact .inl ⟨xs, s _ _ h (fun _ z => nomatch z)⟩
  · exact .inr ⟨C, dx, fs, s _ _ h (fun _ z => nomatch z)⟩
section
variable {C : Addr} {H H' : Hp} {S : List Addr} {b l p pe pu : Addr} {cur : List St3} {ear und : List (List St3)}
theorem Lr.li (h : Lr K C H S b l p pe pu cur ear und) (hS : ∀ a ∈ S, a = p ∨ a = pe ∨ a = pu ∨ a = b ∨ a = l) : ∀ a ∈ S, LI H a := by
  intro a ha
  obtain ⟨dx, vc, h1, _⟩ := h.r.ob
  obtain ⟨es, h2, _⟩ := h.r.he
  obtain ⟨us, h3, _⟩ := h.r.hu
  obtain ⟨xs, st, h4, h5⟩ := h.bx.ex
  rcases hS a ha with rfl | rfl | rfl | rfl | rfl
  · exact .inr ⟨_, _, _, h1⟩
  · exact .inl ⟨_, h2⟩
  · exact .inl ⟨_, h3⟩
  · exact .inl ⟨_, h4⟩
  · exact .inl ⟨_, h5⟩
theorem Lr.extN (h : Lr K C H S b l p pe pu cur ear und) (hS : ∀ a ∈ S, a = p ∨ a = pe ∨ a = pu ∨ a = b ∨ a = l) (s : LamX.ExtN H H') : Lr K C H' S b l p pe pu cur ear und := by
  obtain ⟨dx, vc, h1, h2⟩ := h.r.ob
  obtain ⟨es, h3, h4⟩ := h.r.he
  obtain ⟨us, h5, h6⟩ := h.r.hu
  obtain ⟨xs, st, h7, h8⟩ := h.bx.ex
  have li := h.li hS
  have sh := extN_hidL (S := S) s
  exact ⟨⟨h.bx.ne, xs, st, s _ _ h7 (fun _ z => nomatch z), s _ _ h8 (fun _ z => nomatch z)⟩, h.ib, h.il, h.nb, ⟨h.r.ip, h.r.ie, h.r.iu, h.r.neu, fun a ha => ((li a ha).extN s).noT, ⟨dx, vc, s _ _ h1 (fun _ z => nomatch z), dp_extN sh _ _ h2⟩, ⟨es, s _ _ h3 (fun _ z => nomatch z), dpa_extN sh _ _ h4⟩, ⟨us, s _ _ h5 (fun _ z => nomatch z), dpa_extN sh _ _ h6⟩⟩⟩
end
/-- a table beside what changes -/
theorem tabS_keep {H H' : Hp} {S : List Addr} {P0 : Addr} {q : Str} (t : LamX.TabS H P0 q) (hS : ∀ a ∈ S, LI H a) (s : Same (R.hidL S H) (R.hidL S H')) : LamX.TabS H' P0 q := by
  obtain ⟨ps, h1, h2, h3⟩ := t
  have key : ∀ a o, H a = some o → (∀ xs, o ≠ .lst xs) → (∀ C dx fs, o ≠ .ins C dx fs) → H' a = some o := fun a o h n1 n2 => by
    refine hidL_same _ _ (s a o (hidL_at (fun z => ?_) h))
    rcases hS a z with ⟨xs, e⟩ | ⟨C, dx, fs, e⟩
    · rw [h] at e
      exact n1 xs (Option.some.inj e)
    · rw [h] at e
      exact n2 C dx fs (Option.some.inj e)
  refine ⟨ps, key _ _ h1 (fun _ z => nomatch z) (fun _ _ _ z => nomatch z), h2, fun pos cv hc => ?_⟩
  obtain ⟨c, e1, e2⟩ := h3 pos cv hc
  refine ⟨c, e1, key _ _ e2 (fun _ z => ?_) (fun _ _ _ z => ?_)⟩
  · unfold LamX.CodeO at z
    cases z
  · unfold LamX.CodeO at z
    cases z
def spIsOff (K : PySem.W.Frag) (C : Addr) : Sp := fun vs H Q _ => ∃ (S : List Addr) (p pe pu : Addr) (cur : List St3) (ear und : List (List St3)) (way : Int) (u0 : V), vs = [.ref p, .int way, u0] ∧ RAt K C H S p pe pu cur ear und ∧ Dp K H u0 (dF (lenS cur)) ∧ 0 ≤ way ∧ way < 3 ∧
  ShOk 2240 cur ∧ Sz 2240 (lenS cur) ∧ Sz 2240 (lenS cur + (1 / 2 : Rat)) ∧ cur.length ≤ 300 ∧ ear.length ≤ 1000 ∧ 0 ≤ lenS cur ∧ ∀ H', Same H H' → Q (.bl true) H'
theorem cl_Lis_off (T : Txt K mg) {C C0 : Addr} (k_Reel : C_Reel K mg C) (e_OffReel : ExcT K mg "OffReel" C0) : Cl P w K mg base CX0 9 "_law_is_off" (spIsOff K C) := by
  have c_Lsum := cl_Lsum (P := P) (w := w) (base := base) T
  have c_Reel_out := cl_Reel_out (P := P) (w := w) (base := base) T k_Reel e_OffReel
  have c_Reel_into := cl_Reel_into (P := P) (w := w) (base := base) T k_Reel e_OffReel
  have c_Reel_faster := cl_Reel_faster (P := P) (w := w) (base := base) T k_Reel e_OffReel
  refine T.d_Lis_off.cl sc_Lis_off (fun vs H Q E h => ?_) (fun f cdv A outer s H vs Q E hr h => ?_)
  · obtain ⟨S, p, pe, pu, cur, ear, und, way, u0, rfl, _⟩ := h
    rfl
  · obtain ⟨S, p, pe, pu, cur, ear, und, way, u0, rfl, r, d0, w0, w3, ok, zb, ze, lc, le, b0, q⟩ := h
    refine ⟨_, (pss_cons (ps_set (i := 3) sc_Lis_off.nd rfl (.inl rfl) (pe_cl c_Lsum hr (by decide) (by rfl) (pa_cons (pv 2) (pa_cons (pe_tup (pa_cons pe_int (pa_cons pe_int pa_nil))) pa_nil))))
      (pss_one (ps_try_only rfl rfl ⟨rfl, by decide, .inl e_OffReel.g⟩ takes0 (fun W pn xe tk ps => (pss_cons (ps_if (pt_cmpR op_eq (pv 1) pe_int (nomark _))
        (pss_one (ps_expr (pe_mtS c_Reel_out hr (by decide) k_Reel.oc.cl tk (pv 0) (pa_cons (pv 2) (pa_cons (pv 3) pa_nil)))))
        (pss_one (ps_if (pt_cmpR op_eq (pv 1) pe_int (nomark _))
        (pss_one (ps_expr (pe_mtS c_Reel_faster hr (by decide) k_Reel.oc.cl tk (pv 0) (pa_cons (pe_tup (pa_cons pe_int (pa_cons pe_int pa_nil))) (pa_cons (pv 3) (pa_cons (pe_tup (pa_cons pe_int (pa_cons pe_int pa_nil))) pa_nil))))))
        (pss_one (ps_expr (pe_mtS c_Reel_into hr (by decide) k_Reel.oc.cl tk (pv 0) (pa_cons (pv 3) (pa_cons (pe_lst (pa_cons (pe_tup (pa_cons (pe_tup (pa_cons pe_int (pa_cons pe_int pa_nil))) (pa_cons (pe_tup (pa_cons pe_int (pa_cons pe_int pa_nil))) (pa_cons (pe_tup (pa_cons pe_int (pa_cons pe_int pa_nil))) pa_nil)))) pa_nil)) pa_nil))))))))
      (pss_one (ps_ret pe_bl))))
        (fun ax oe cls dx pn hz hf => (pss_one (ps_ret pe_bl)))))), ?_⟩
    -- far
    refine ⟨_, rfl, (show 2 ≤ sizeLine by decide), fun ph nh => ?_⟩
    have th := Same.new (o := .tup [.int 1, .int 2]) nh
    have dh : Dp K (upd H ph (.tup [.int 1, .int 2])) (.ref ph) (dF (1 / 2 : Rat)) := by
      have e1 : (1 / 2 : Rat).num = 1 := by decide +kernel
      have e2 : (1 / 2 : Rat).den = 2 := by decide +kernel
      refine dF_mk ?_
      rw [e1, e2]
      exact .inl (.inl upd_same)
    generalize upd H ph (.tup [.int 1, .int 2]) = H0 at th dh ⊢
    refine ⟨_, _, lenS cur, 1 / 2, 2240, 2, rfl, dp_mono th _ _ d0, dh, zb, ⟨by decide +kernel, by decide +kernel⟩, by decide, trivial, fun Hf vf tf df => ?_⟩
    have df : Dp K Hf vf (dF (lenS cur + 1 / 2)) := df
    have t0 := th.trans tf
    have rf := r.mono t0
    have d1 := dp_mono t0 _ _ d0
    have qf : ∀ H', Same Hf H' → Q (.bl true) H' := fun H' s' => q _ (t0.trans s')
    have far : lenS cur < lenS cur + 1 / 2 := by grind
    have e0 : 0 ≤ lenS cur + 1 / 2 := by grind
    generalize lenS cur + 1 / 2 = fr at df ze far e0
    clear r d0 q t0 th tf dh
    obtain ⟨dx, vc, h1, h2⟩ := rf.ob
    refine ⟨_, rfl, rfl, _, rfl, ite2 (fun z => ?_) (fun z => ?_)⟩
    · refine ⟨_, rfl, p, dx, _, rfl, h1, rF_no _ _ _ (by decide +kernel) (by decide +kernel) (by decide +kernel), _, rfl, _, rfl, S, p, pe, pu, cur, ear, und, _, _, lenS cur, fr, 2240, rfl, rf, d1, df, ok, zb, ze, Nat.le_refl _, lc, le, b0, fun c H' s' => ?_, fun c => absurd (.inr far) c⟩
      exact ⟨true, e_OffReel.e, fun _ a0 _ => qf _ s', fun z => Bool.noConfusion z⟩
    · refine ⟨_, rfl, rfl, _, rfl, ite2 (fun z2 => ?_) (fun z2 => ?_)⟩
      · refine ⟨_, rfl, p, dx, _, rfl, h1, rF_no _ _ _ (by decide +kernel) (by decide +kernel) (by decide +kernel), (show 2 ≤ sizeLine by decide), fun pz nz => ?_⟩
        have tz := Same.new (o := .tup [.int 0, .int 1]) nz
        have dz : Dp K (upd Hf pz (.tup [.int 0, .int 1])) (.ref pz) (dF 0) := dF_mk (.inl (.inl upd_same))
        generalize upd Hf pz (.tup [.int 0, .int 1]) = Hz at tz dz ⊢
        refine ⟨_, rfl, (show 2 ≤ sizeLine by decide), fun pf nf => ?_⟩
        have t1 := Same.new (o := .tup [.int 2, .int 1]) nf
        have df2 : Dp K (upd Hz pf (.tup [.int 2, .int 1])) (.ref pf) (dF 2) := dF_mk (.inl (.inl upd_same))
        have tt := tz.trans t1
        refine ⟨S, p, pe, pu, cur, ear, und, _, _, _, 0, fr, 2, 2240, rfl, rf.mono tt, dp_mono t1 _ _ dz, dp_mono tt _ _ df, df2, ok, ⟨by decide, by decide⟩, ze, ⟨by decide, by decide⟩, Nat.le_refl _, lc, le, Rat.le_refl, fun c H' s' => ?_, fun c => absurd (.inr far) c⟩
        exact ⟨true, e_OffReel.e, fun _ a0 _ => qf _ (tt.trans s'), fun z => Bool.noConfusion z⟩
      · refine ⟨_, rfl, p, dx, _, rfl, h1, rF_no _ _ _ (by decide +kernel) (by decide +kernel) (by decide +kernel), _, rfl, (show 2 ≤ sizeLine by decide), fun p1 n1 => ?_⟩
        have t1 := Same.new (o := .tup [.int 0, .int 1]) n1
        have g1 : Dp K (upd Hf p1 (.tup [.int 0, .int 1])) (.ref p1) (dF 0) := dF_mk (.inl (.inl upd_same))
        generalize upd Hf p1 (.tup [.int 0, .int 1]) = H1 at t1 g1 ⊢
        refine ⟨(show 2 ≤ sizeLine by decide), fun p2 n2 => ?_⟩
        have t2 := Same.new (o := .tup [.int 3, .int 1]) n2
        have g2 : Dp K (upd H1 p2 (.tup [.int 3, .int 1])) (.ref p2) (dF 3) := dF_mk (.inl (.inl upd_same))
        generalize upd H1 p2 (.tup [.int 3, .int 1]) = H2 at t2 g2 ⊢
        refine ⟨(show 2 ≤ sizeLine by decide), fun p3 n3 => ?_⟩
        have t3 := Same.new (o := .tup [.int 1, .int 1]) n3
        have g3 : Dp K (upd H2 p3 (.tup [.int 1, .int 1])) (.ref p3) (dF 1) := dF_mk (.inl (.inl upd_same))
        generalize upd H2 p3 (.tup [.int 1, .int 1]) = H3 at t3 g3 ⊢
        refine ⟨(show 3 ≤ sizeLine by decide), fun p4 n4 => ?_⟩
        have t4 := Same.new (o := .tup [.ref p1, .ref p2, .ref p3]) n4
        have g4 : Dp K (upd H3 p4 (.tup [.ref p1, .ref p2, .ref p3])) (.ref p4) (dS (0, 3, 1)) := dS_mk (.inl (.inl upd_same)) (dp_mono ((t2.trans t3).trans t4) _ _ g1) (dp_mono (t3.trans t4) _ _ g2) (dp_mono t4 _ _ g3)
        generalize upd H3 p4 (.tup [.ref p1, .ref p2, .ref p3]) = H4 at t4 g4 ⊢
        refine ⟨(show 1 ≤ sizeLine by decide), fun p5 n5 => ?_⟩
        have t5 := Same.new (o := .lst [.ref p4]) n5
        have t04 := ((t1.trans t2).trans t3).trans t4
        have t05 := t04.trans t5
        have r4 := rf.mono t04
        have r5 := r4.mono t5
        have ha : R.hidL S (upd H4 p5 (.lst [.ref p4])) p5 = some (.lst [.ref p4]) := hidL_at (r4.notin n5) upd_same
        have da : DpAll K (R.hidL S (upd H4 p5 (.lst [.ref p4]))) [.ref p4] ([((0 : Rat), (3 : Rat), (1 : Rat))].map dS) := dpa_hidL r5.nt _ _ rfl (.cons (dp_mono t5 _ _ g4) .nil)
        refine ⟨S, p, pe, pu, cur, [(0, 3, 1)], ear, und, _, p5, _, fr, 2240, rfl, r5, dp_mono t05 _ _ df, ha, da, ok, ze, Nat.le_refl _, lc, (show 1 ≤ 300 by decide), le, e0, fun c H' s' => ?_, fun c => absurd far c⟩
        exact ⟨true, e_OffReel.e, fun _ a0 _ => qf _ (t05.trans s'), fun z => Bool.noConfusion z⟩
theorem takes_len {X : Cx} {W : WX} {n : Nat} (hn : X.N.length = n) (tk : Takes X W) : Takes X (fun cls d σ H => σ.length = n → W cls d σ H) := fun u s' ⟨a, B, sI, pins, σ, H, cls, d, e, I, nb, up, sky, na, os, ag, w⟩ => tk u s' ⟨a, B, sI, pins, σ, H, cls, d, e, I, nb, up, sky, na, os, ag, w (I.len.trans hn)⟩
/-- what _law_stepped makes of a lambda -/
def TStep (C1 : Addr) : (XK → Hp → VK → Prop) → Hp → VK → Prop := fun tl H Q =>
  tl (fun cls d H' => cls = .ref C1 ∧ d = none ∧ ∀ p, H' p = none → Q (.ref p) (upd H' p (.tup [.str "no", .bl true]))) H Q
theorem stepped_gives {X : Cx} (T : Txt X.K X.mg) {C1 g : Addr} {cdg : Value} {q : Str} (e_NoDeed : ExcT X.K X.mg "NoDeed" C1) :
    LamX.GivesTo X ["_law_work", "e"] "_law_stepped" (defScope s_Lstepped) g cdg (defBody s_Lstepped) "_law_work" q (TStep C1) := by
  obtain ⟨CR, g_ReelError⟩ := T.n_ReelError
  obtain ⟨CO, e_OffReel⟩ := T.e_OffReel
  have g_OffReel := e_OffReel.g
  have xC := T.x_own C1 e_NoDeed.g
  intro f c' s H Q tl act hc h
  refine ⟨_, (pss_one (ps_try_as (X := (cxOf C8.CX0 X.prog X.w X.K X.mg X.base ["_law_work", "e"] "_law_stepped" (defScope s_Lstepped) g cdg X.A X.stack s H C8.E0).nox) (c := .ref C1) (i := 1) (tb := fun W D σ H => ∃ Ech : XK, (∀ cls d σ' H', Ech cls d H' → σ'.length = 2 → W cls d σ' H') ∧ σ[0]? = some (some (.ref f)) ∧ H c' = some (LamX.CodeO c' q) ∧ tl Ech H D.rt) rfl rfl sc_Lstepped.nd rfl rfl ⟨rfl, by decide, .inl e_NoDeed.g⟩ takes0 (fun W pn xe tk ps => ⟨fun pins s' σ H' D I h' => (let ⟨Ech, hW, h1, h2, h3⟩ := h'; PSs.run (pss_one (ps_ret (act _ pn xe Ech _ _ (takes_len rfl tk) hW))) pins s' σ H' D I ⟨h1, h2, h3⟩)⟩)
        (fun ax oe cls dx pn hz hf => (pss_one (ps_ret (pe_tup (pa_cons pe_str (pa_cons (pe_and (pe_callB (call_isX xC hz hf) (by rfl) T.m_isinstance (by decide +kernel) (pa_cons (pv 1) (pa_cons (pe_gC (by rfl) g_ReelError) pa_nil))) (pe_and (pe_callB (call_isX xC hz hf) (by rfl) T.m_isinstance (by decide +kernel) (pa_cons (pv 1) (pa_cons (pe_bltn (v := .ty "ValueError") (by rfl) T.m_ValueError (by decide +kernel) rfl) pa_nil))) (pe_one (pe_not (pe_callB (call_isX xC hz hf) (by rfl) T.m_isinstance (by decide +kernel) (pa_cons (pv 1) (pa_cons (pe_gC (by rfl) g_OffReel) pa_nil))))))) pa_nil)))))))), ?_⟩
  refine ⟨fun cls d H' => cls = .ref C1 ∧ d = none ∧ ∀ p, H' p = none → Q (.ref p) (upd H' p (.tup [.str "no", .bl true])), fun cls d σ' H' he hl => ?_, rfl, hc, h⟩
  obtain ⟨rfl, rfl, q⟩ := he
  obtain ⟨x0, x1, rfl⟩ : ∃ x0 x1, σ' = [x0, x1] := by
    match σ', hl with
    | [x0, x1], _ => exact ⟨x0, x1, rfl⟩
  refine ⟨true, e_NoDeed.e, fun _ a0 na0 => ?_, fun z => Bool.noConfusion z⟩
  refine ⟨_, rfl, rfl, rfl, _, _, _, rfl, (fun u r => r), T.x_reel C1 CR e_NoDeed.g g_ReelError, ?_⟩
  refine ⟨_, rfl, iteY rfl ?_⟩
  refine ⟨_, rfl, rfl, rfl, _, _, _, rfl, (fun u r => r), T.x_ve C1 e_NoDeed.g, ?_⟩
  refine ⟨_, rfl, iteY rfl ?_⟩
  refine ⟨_, rfl, rfl, rfl, _, _, _, rfl, (fun u r => r), T.x_off C1 CO e_NoDeed.g g_OffReel, ?_⟩
  exact ⟨_, rfl, (show 2 ≤ sizeLine by decide), fun p np => q p np⟩
inductive A2 {α β : Type} (R : α → β → Prop) : List α → List β → Prop
  | nil : A2 R [] []
  | cons {x : α} {y : β} {xs : List α} {ys : List β} : R x y → A2 R xs ys → A2 R (x :: xs) (y :: ys)
section
variable {α β : Type} {R R' : α → β → Prop}
theorem A2.mono (h : ∀ x y, R x y → R' x y) : ∀ {xs : List α} {ys : List β}, A2 R xs ys → A2 R' xs ys
  | _, _, .nil => .nil
  | _, _, .cons a b => .cons (h _ _ a) (A2.mono h b)
theorem A2.snoc {x : α} {y : β} (r : R x y) : ∀ {xs : List α} {ys : List β}, A2 R xs ys → A2 R (xs ++ [x]) (ys ++ [y])
  | _, _, .nil => .cons r .nil
  | _, _, .cons a b => .cons a (A2.snoc r b)
theorem A2.len : ∀ {xs : List α} {ys : List β}, A2 R xs ys → xs.length = ys.length
  | _, _, .nil => rfl
  | _, _, .cons _ b => by rw [List.length_cons, List.length_cons, A2.len b]
theorem A2.at : ∀ {xs : List α} {ys : List β} {i : Nat} {x : α}, A2 R xs ys → xs[i]? = some x → ∃ y, ys[i]? = some y ∧ R x y
  | _, _, _, _, .nil, h => by simp at h
  | _, _, 0, _, .cons a b, h => ⟨_, rfl, by
    have e := Option.some.inj h
    rw [← e]
    exact a⟩
  | _, _, i + 1, _, .cons a b, h => A2.at (i := i) b h
theorem A2.split {y : β} : ∀ {ys : List β} {xs : List α}, A2 R xs (ys ++ [y]) → ∃ xs' x, xs = xs' ++ [x] ∧ A2 R xs' ys ∧ R x y
  | [], _, .cons a .nil => ⟨[], _, rfl, .nil, a⟩
  | _ :: ys, _, .cons a b => by
    obtain ⟨xs', x, rfl, h1, h2⟩ := A2.split (ys := ys) b
    exact ⟨_ :: xs', x, rfl, .cons a h1, h2⟩
end
/-! ### the history that the law keeps -/
def qLam : Str := (envOfC "law" (defScope s_law) 0 0 .none).qual ++ "<lambda>"
def RowAt (K : PySem.W.Frag) (G : Hp) (rs : List V) (xss : List (List St3)) : Prop := A2 (fun r xs => ∃ pa ys, r = .ref pa ∧ G pa = some (.lst ys) ∧ DpAll K G ys (xs.map dS)) rs xss
theorem RowAt.mono {G G' : Hp} {rs : List V} {xss : List (List St3)} (s : Same G G') (h : RowAt K G rs xss) : RowAt K G' rs xss := A2.mono (fun _ _ ⟨pa, ys, e, h1, h2⟩ => ⟨pa, ys, e, s _ _ h1, dpa_mono s _ _ h2⟩) h
theorem RowAt.extN {G G' : Hp} {rs : List V} {xss : List (List St3)} (s : LamX.ExtN G G') (h : RowAt K G rs xss) : RowAt K G' rs xss := A2.mono (fun _ _ ⟨pa, ys, e, h1, h2⟩ => ⟨pa, ys, e, s _ _ h1 (fun _ z => nomatch z), dpa_extN s _ _ h2⟩) h
structure Hist (K : PySem.W.Frag) (C P0 : Addr) (H : Hp) (S : List Addr) (b l p pe pu pr : Addr) (n i : Nat) (rs : List V) (xss : List (List St3)) (xs : List St3) : Prop where
  at_ : xss[n]? = some xs
  tb : LamX.TabS H P0 qLam
  lr : Lr K C H S b l p pe pu (normM xs) ((xss.take n).map normM) (((xss.drop (n + 1)).map normM).reverse)
  row : R.hidL S H pr = some (.lst rs)
  rows : RowAt K (R.hidL S H) rs xss
  sd : ∀ j x, xss[j]? = some x → Sd j x
  len : xss.length ≤ i + 1
  hS : ∀ a ∈ S, a = p ∨ a = pe ∨ a = pu ∨ a = b ∨ a = l
section
variable {C P0 : Addr} {H H' : Hp} {S : List Addr} {b l p pe pu pr : Addr} {n i : Nat} {rs : List V} {xss : List (List St3)} {xs : List St3}
theorem Hist.mono (h : Hist K C P0 H S b l p pe pu pr n i rs xss xs) (s : Same H H') : Hist K C P0 H' S b l p pe pu pr n i rs xss xs :=
  ⟨h.at_, h.tb.ext s, h.lr.mono s, (Same.hidL s) _ _ h.row, h.rows.mono (Same.hidL s), h.sd, h.len, h.hS⟩
theorem Hist.draw (h : Hist K C P0 H S b l p pe pu pr n i rs xss xs) (s : Same (hid b l H) (hid b l H')) (B : Bx H' b l) : Hist K C P0 H' S b l p pe pu pr n i rs xss xs := by
  obtain ⟨w, t⟩ := h.lr.draw s B
  exact ⟨h.at_, tabS_keep h.tb (h.lr.li h.hS) t, w, t _ _ h.row, h.rows.mono t, h.sd, h.len, h.hS⟩
theorem Hist.le (h : Hist K C P0 H S b l p pe pu pr n i rs xss xs) : n ≤ i := by
  have := (List.getElem?_eq_some_iff.mp h.at_).1
  have := h.len
  omega
theorem Hist.sdx (h : Hist K C P0 H S b l p pe pu pr n i rs xss xs) : Sd n xs := h.sd n xs h.at_
/-- row[at] -/
theorem Hist.get (h : Hist K C P0 H S b l p pe pu pr n i rs xss xs) : ∃ pa ys, rs[n]? = some (.ref pa) ∧ R.hidL S H pa = some (.lst ys) ∧ DpAll K (R.hidL S H) ys (xs.map dS) := by
  have hl := A2.len h.rows
  have hn := (List.getElem?_eq_some_iff.mp h.at_).1
  obtain ⟨y, hy⟩ : ∃ y, rs[n]? = some y := ⟨_, List.getElem?_eq_getElem (by omega)⟩
  obtain ⟨x, hx, pa, ys, rfl, h1, h2⟩ := A2.at h.rows hy
  rw [h.at_] at hx
  obtain rfl := Option.some.inj hx
  exact ⟨pa, ys, hy, h1, h2⟩
end
theorem tabS_draw {H H' : Hp} {P0 b l : Addr} {q : Str} (t : LamX.TabS H P0 q) (B : Bx H b l) (s : Same (hid b l H) (hid b l H')) : LamX.TabS H' P0 q := by
  obtain ⟨xs, st, h4, h5⟩ := B.ex
  refine tabS_keep (S := [b, l]) t (fun a ha => ?_) (hid_hidL (by simp) (by simp) s)
  simp only [List.mem_cons, List.not_mem_nil, or_false] at ha
  rcases ha with rfl | rfl
  · exact .inl ⟨_, h4⟩
  · exact .inl ⟨_, h5⟩
theorem fn_okC {k : Nat} {f c : Addr} {x : Str} {st : Stmt} {kV doc pm ct oc : Value} {an od : Option Addr} {osl : Array (Option Value)} {N ps : List Str} {sp : Sp} (lk : K.lookup f = some ⟨oc, od, .func (PySem.W.fnOf x x (defArgs st) (defBody st) (defScope st) .none kV doc pm an (.ref c) ct), osl⟩) (hcd : PySem.W.codeIn K (.ref c) x = true) (S : FnScope N ps (defScope st))
    (len : ∀ vs H Q E, sp vs H Q E → vs.length = ps.length)
    (hbody : ∀ (A : Around) (outer : List Env) (s : Shared) (H : Hp) (vs : List V) (Q : VK) (E : XK), Room k (A.deeper (envOfC x (defScope st) s.heap.objs.size f (.ref c))) → sp vs H Q E →
      ∃ t, PSs (cxOf CX0 P w K mg base N x (defScope st) f (.ref c) A outer s H E).nox (defBody st) t ∧ t { nx := fun _ H' => Q .non H', rt := Q } (start N vs) H) :
    FnOk P w K mg base CX0 (k + 1) f (PySem.W.fnOf x x (defArgs st) (defBody st) (defScope st) .none kV doc pm an (.ref c) ct) ps sp :=
  fn_of lk hcd S len fun A outer s H vs Q E hr h => let ⟨t, h1, h2⟩ := hbody A outer s H vs Q E hr h; ⟨t, h1.nox, h2⟩
theorem hid_new {H : Hp} {b l a : Addr} {o : HO} (B : Bx H b l) (n : H a = none) : hid b l (upd H a o) a = some o := by
  obtain ⟨bxs, bst, hb1, hb2⟩ := B.ex
  unfold hid
  rw [if_neg]
  · exact upd_same
  · rintro (z | z)
    · rw [z, hb1] at n
      cases n
    · rw [z, hb2] at n
      cases n
theorem cutTo (ys : List V) (n : Nat) : cutV ys none (some (n : Int)) = ys.take n := by
  unfold cutV
  rw [HT.sIx_none, HT.sIx_nat]
  show (ys.drop 0).take (min n ys.length - 0) = _
  rw [List.drop_zero, Nat.sub_zero]
  by_cases h : n ≤ ys.length
  · rw [Nat.min_eq_left h]
  · rw [Nat.min_eq_right (by omega), List.take_length, List.take_of_length_le (by omega)]
theorem A2.take {α β : Type} {R : α → β → Prop} : ∀ {xs : List α} {ys : List β} (n : Nat), A2 R xs ys → A2 R (xs.take n) (ys.take n)
  | _, _, 0, _ => .nil
  | _, _, _ + 1, .nil => .nil
  | _, _, n + 1, .cons a b => .cons a (A2.take n b)
section
variable {C P0 : Addr} {H H' H2 H3 : Hp} {S : List Addr} {b l p pe pu pr pn p1 : Addr} {n i : Nat} {rs : List V} {xss : List (List St3)} {xs xs' : List St3} {pre : List (List St3)} {x : List St3} {ys' : List V}
theorem Hist.extN (h : Hist K C P0 H S b l p pe pu pr n i rs xss xs) (s : LamX.ExtN H H') (t : LamX.TabS H' P0 qLam) : Hist K C P0 H' S b l p pe pu pr n i rs xss xs :=
  ⟨h.at_, t, h.lr.extN h.hS s, extN_hidL s _ _ h.row (fun _ z => nomatch z), h.rows.extN (extN_hidL s), h.sd, h.len, h.hS⟩
theorem Hist.next (h : Hist K C P0 H S b l p pe pu pr n i rs xss xs) : Hist K C P0 H S b l p pe pu pr n (i + 1) rs xss xs := ⟨h.at_, h.tb, h.lr, h.row, h.rows, h.sd, Nat.le_succ_of_le h.len, h.hS⟩
theorem Hist.back1 (h : Hist K C P0 H S b l p pe pu pr (n + 1) i rs xss xs) (e : (xss.take (n + 1)).map normM = pre ++ [x]) (r : RAt K C H' S p pe pu x pre (((xss.drop (n + 1 + 1)).map normM).reverse ++ [normM xs])) (k : Kp3 p pe pu H H') :
    ∃ xn, Hist K C P0 H' S b l p pe pu pr n (i + 1) rs xss xn := by
  obtain ⟨w, t⟩ := h.lr.kp r k
  have hn := (List.getElem?_eq_some_iff.mp h.at_).1
  obtain ⟨xn, hx⟩ : ∃ xn, xss[n]? = some xn := ⟨_, List.getElem?_eq_getElem (by omega)⟩
  rw [take_more hx, List.map_append] at e
  obtain ⟨e1, e2⟩ := List.append_inj' e rfl
  have e2 : normM xn = x := (List.cons.inj e2).1
  subst e1 e2
  have ed : xss.drop (n + 1) = xs :: xss.drop (n + 1 + 1) := drop_more h.at_
  refine ⟨xn, hx, tabS_keep h.tb (h.lr.li h.hS) t, ?_, t _ _ h.row, h.rows.mono t, h.sd, Nat.le_succ_of_le h.len, h.hS⟩
  rw [ed, List.map_cons, List.reverse_cons]
  exact w
theorem Hist.again1 (h : Hist K C P0 H S b l p pe pu pr n i rs xss xs) (e : ((xss.drop (n + 1)).map normM).reverse = pre ++ [x]) (r : RAt K C H' S p pe pu x ((xss.take n).map normM ++ [normM xs]) pre) (k : Kp3 p pe pu H H') :
    ∃ xn, Hist K C P0 H' S b l p pe pu pr (n + 1) (i + 1) rs xss xn := by
  obtain ⟨w, t⟩ := h.lr.kp r k
  have hn : n + 1 < xss.length := by
    by_cases c : n + 1 < xss.length
    · exact c
    · rw [List.drop_eq_nil_of_le (by omega)] at e
      have := congrArg List.length e
      rw [List.length_append] at this
      have this : 0 = pre.length + 1 := this
      omega
  obtain ⟨xn, hx⟩ : ∃ xn, xss[n + 1]? = some xn := ⟨_, List.getElem?_eq_getElem hn⟩
  rw [drop_more hx, List.map_cons, List.reverse_cons] at e
  obtain ⟨e1, e2⟩ := List.append_inj' e rfl
  have e2 : normM xn = x := (List.cons.inj e2).1
  subst e1 e2
  refine ⟨xn, hx, tabS_keep h.tb (h.lr.li h.hS) t, ?_, t _ _ h.row, h.rows.mono t, h.sd, Nat.le_succ_of_le h.len, h.hS⟩
  rw [take_more h.at_, List.map_append]
  exact w
theorem Hist.deed (h : Hist K C P0 H S b l p pe pu pr n i rs xss xs) (w : Lr K C H2 S b l p pe pu (normM xs') ((xss.take n).map normM ++ [normM xs]) []) (t : Same (R.hidL S H) (R.hidL S H2)) (g1 : R.hidL S H2 p1 = some (.lst ys')) (g2 : DpAll K (R.hidL S H2) ys' (xs'.map dS)) (sd' : Sd (n + 1) xs') (s : Same H2 H3) (hp : R.hidL S H3 pn = some (.lst (rs.take (n + 1) ++ [.ref p1]))) :
    Hist K C P0 H3 S b l p pe pu pn (n + 1) (i + 1) (rs.take (n + 1) ++ [.ref p1]) (xss.take (n + 1) ++ [xs']) xs' := by
  have hn := (List.getElem?_eq_some_iff.mp h.at_).1
  have lt : (xss.take (n + 1)).length = n + 1 := by
    rw [List.length_take]
    omega
  have s' := Same.hidL (S := S) s
  have hi := h.le
  have atn : (xss.take (n + 1) ++ [xs'])[n + 1]? = some xs' := by
    rw [List.getElem?_append_right (by omega), lt, Nat.sub_self]
    rfl
  refine ⟨atn, (tabS_keep h.tb (h.lr.li h.hS) t).ext s, ?_, hp, A2.snoc ⟨p1, ys', rfl, s' _ _ g1, dpa_mono s' _ _ g2⟩ (A2.take (n + 1) (h.rows.mono (t.trans s'))), fun j y hj => ?_, ?_, h.hS⟩
  · have ed : (xss.take (n + 1) ++ [xs']).drop (n + 1 + 1) = [] := List.drop_eq_nil_of_le (by rw [List.length_append, lt]; exact Nat.le_refl _)
    rw [ed, List.take_append_of_le_length (by omega), List.take_take, Nat.min_self, take_more h.at_, List.map_append]
    exact w.mono s
  · by_cases c : j < n + 1
    · rw [List.getElem?_append_left (by omega), List.getElem?_take_of_lt c] at hj
      exact h.sd j y hj
    · have hl := (List.getElem?_eq_some_iff.mp hj).1
      rw [List.length_append, lt] at hl
      have hl : j < n + 1 + 1 := hl
      have : j = n + 1 := by omega
      subst this
      rw [atn] at hj
      rw [← Option.some.inj hj]
      exact sd'
  · rw [List.length_append, lt]
    show n + 1 + 1 ≤ _
    omega
end
theorem way_test {σ : L2.St} {H : Hp} {x y : Int} {Q : Bool → Hp → Prop} (h6 : σ[6]? = some (some (.int x))) (h4 : σ[4]? = some (some (.int y))) (h : Q (decide (x = 0) || (decide (x = 1) && decide (y = 0))) H) :
    tOr (tTest (tOp rEq (tVar 6) (tC (.int 0)))) (tAnd (tTest (tOp rEq (tVar 6) (tC (.int 1)))) (tTest (tOp rEq (tVar 4) (tC (.int 0))))) σ H Q := by
  have dv : ∀ i j : Int, decide (V.int i = V.int j) = decide (i = j) := fun i j => by
    by_cases c : i = j
    · rw [c, decide_eq_true rfl, decide_eq_true rfl]
    · rw [decide_eq_false c, decide_eq_false (fun z => c (V.int.inj z))]
  refine ⟨_, h6, rfl, _, rfl, ?_⟩
  rw [dv]
  cases e : decide (x = 0) with
  | true =>
    rw [e, Bool.true_or] at h
    exact iteY rfl h
  | false =>
    rw [e, Bool.false_or] at h
    refine iteN rfl ⟨_, h6, rfl, _, rfl, ?_⟩
    rw [dv]
    cases e2 : decide (x = 1) with
    | true =>
      rw [e2, Bool.true_and] at h
      refine iteY rfl ⟨_, h4, rfl, _, rfl, ?_⟩
      rw [dv]
      exact h
    | false =>
      rw [e2, Bool.false_and] at h
      exact iteN rfl h
def dNo : PyData := .tuple [.str "no", .bool true]
theorem no_dp {H : Hp} {p : Addr} (h : H p = some (.tup [.str "no", .bl true])) : Dp K H (.ref p) dNo := .tup (.inl (.inl h)) (.cons (.str _) (.cons (.bl _) .nil))
theorem shaped_dNo : SeqAt.shaped dNo = true := by decide +kernel
theorem neq_dNo : (!PyData.eqv dNo dNo) = false := by decide +kernel
def spLaw (K : PySem.W.Frag) (P0 : Addr) : Sp := fun vs H Q _ => ∃ (a : Addr) (ns : List Int), vs = [.ref a] ∧ SqL K H a (ns.map V.int) ∧ ns.length ≤ 63 ∧ LamX.TabS H P0 qLam ∧ ∀ H', Q (.bl true) H'
theorem ok_law {f c P0 : Addr} {kV doc pm ct oc : Value} {an od : Option Addr} {osl : Array (Option Value)} (lk : K.lookup f = some ⟨oc, od, .func (PySem.W.fnOf "law" "law" (defArgs s_law) (defBody s_law) (defScope s_law) .none kV doc pm an (.ref c) ct), osl⟩) (hcd : PySem.W.codeIn K (.ref c) "law" = true) (T : Txt K mg) (TB : LamX.TabB base mg c P0) :
    FnOk P w K mg base CX0 10 f (PySem.W.fnOf "law" "law" (defArgs s_law) (defBody s_law) (defScope s_law) .none kV doc pm an (.ref c) ct) ["_law_script"] (spLaw K P0) := by
  obtain ⟨C, k_Reel⟩ := T.o_Reel
  obtain ⟨C0, e_OffReel⟩ := T.e_OffReel
  obtain ⟨C1, e_NoDeed⟩ := T.e_NoDeed
  obtain ⟨g, fdS, FS, gS, bS⟩ := T.d_Lstepped.ex
  have kS := FS.kp
  obtain ⟨ocS, odS, kVS, docS, pmS, anS, cdvS, ctS, oslS, rfl, lkS, cS⟩ := FS.ex
  have c_Lbegun := cl_Lbegun (P := P) (w := w) (base := base) T
  have c_Lshow := cl_Lshow (P := P) (w := w) (base := base) T
  have c_Lone := cl_Lone (P := P) (w := w) (base := base) T
  have c_Llong := cl_Llong (P := P) (w := w) (base := base) T
  have c_Ltake := cl_Ltake (P := P) (w := w) (base := base) T
  have c_Lalike := cl_Lalike (P := P) (w := w) (base := base) T 4
  have c_Ldeed := cl_Ldeed (P := P) (w := w) (base := base) T k_Reel e_OffReel
  have c_Lis_off := cl_Lis_off (P := P) (w := w) (base := base) T k_Reel e_OffReel
  have c_Reel_show := cl_Reel_show (P := P) (w := w) (base := base) T k_Reel
  have c_Reel_back := cl_Reel_back (P := P) (w := w) (base := base) T k_Reel e_NoDeed
  have c_Reel_again := cl_Reel_again (P := P) (w := w) (base := base) T k_Reel e_NoDeed
  have c_Reel___init__ := cl_Reel___init__ (P := P) (w := w) (base := base) T k_Reel
  refine fn_okC lk hcd sc_law (fun vs H Q E h => ?_) (fun A outer s H vs Q E hr h => ?_)
  · obtain ⟨a, ns, rfl, _⟩ := h
    rfl
  · obtain ⟨a, ns, rfl, hS, hlen, tab, q⟩ := h
    refine ⟨_, (pss_cons (ps_set (i := 1) sc_law.nd rfl (.inl rfl) (pe_cl c_Lbegun hr (by decide) (by rfl) (pa_cons (pv 0) pa_nil)))
      (pss_cons (ps_set (i := 2) sc_law.nd rfl (.inl rfl) (pe_lst (pa_cons (pe_cl c_Lshow hr (by decide) (by rfl) (pa_cons (pv 1) pa_nil)) pa_nil)))
      (pss_cons (ps_set (i := 3) sc_law.nd rfl (.inl rfl) (pe_op op_add pe_int (pe_cl c_Ltake hr (by decide) (by rfl) (pa_cons (pv 1) (pa_cons pe_int pa_nil)))))
      (Evl.pss_cut (ps_if (pt_cmpR op_eq (pe_cl c_Ltake hr (by decide) (by rfl) (pa_cons (pv 1) (pa_cons pe_int pa_nil))) pe_int (nomark _))
        (pss_cons (ps_set (i := 2) sc_law.nd rfl (.inl rfl) (pe_lst (pa_cons (pe_slice sl_list (pe_ix ix_list (pv 2) pe_int (fun _ _ => rfl)) po_none (po_some pe_int)) pa_nil)))
      (pss_one (ps_set (i := 3) sc_law.nd rfl (.inl rfl) (pe_op op_add pe_int (pe_cl c_Ltake hr (by decide) (by rfl) (pa_cons (pv 1) (pa_cons pe_int pa_nil)))))))
        pss_nil)
      (pss_cons (ps_set (i := 4) sc_law.nd rfl (.inl rfl) pe_int)
      (pss_cons (ps_set (i := 9) sc_law.nd rfl (.inr rfl) (pe_mkC c_Reel___init__ k_Reel.oc hr (by decide) (by rfl) (pa_cons (pe_ix ix_list (pv 2) pe_int (fun _ _ => rfl)) pa_nil)))
      (pss_cons (ps_for PassesOwn.never rfl (pi_range1 (by rfl) T.m_range (pa_cons (pv 3) pa_nil)) (pg_name (i := 5) sc_law.nd rfl (.inl rfl))
        (Evl.pss_cut (ps_if (pt_cmpR op_eq (pe_cl c_Ltake hr (by decide) (by rfl) (pa_cons (pv 1) (pa_cons pe_int pa_nil))) pe_int (nomark _))
        (pss_one (ps_if (pt_not (pt_val (pe_cl c_Lis_off hr (by decide) (by rfl) (pa_cons (pv 9) (pa_cons (pe_cl c_Ltake hr (by decide) (by rfl) (pa_cons (pv 1) (pa_cons pe_int pa_nil))) (pa_cons (pe_cl c_Llong hr (by decide) (by rfl) (pa_cons (pe_ix ix_list (pv 2) (pv 4) (fun _ _ => rfl)) pa_nil)) pa_nil))))))
        (pss_one (ps_ret pe_bl))
        pss_nil))
        pss_nil)
      (pss_cons (ps_set (i := 6) sc_law.nd rfl (.inl rfl) (pe_cl c_Ltake hr (by decide) (by rfl) (pa_cons (pv 1) (pa_cons pe_int pa_nil))))
      (Evl.pss_cut (ps_if (PW.pt (pw_or (pt_cmpR op_eq (pv 6) pe_int (nomark _)) (pw_or1 (PW.pt (pw_and (pt_cmpR op_eq (pv 6) pe_int (nomark _)) (pw_and1 (pt_cmpR op_eq (pv 4) pe_int (nomark _))))))))
        (pss_cons (ps_set (i := 7) sc_law.nd rfl (.inl rfl) (pe_ix ix_list (pe_lst (pa_cons pe_non (pa_cons (pe_tup (pa_cons pe_str (pa_cons pe_bl pa_nil))) pa_nil))) (pe_callTy call_int1 (by rfl) T.m_int (by decide +kernel) (pa_cons (pe_cmpR op_eq (pv 4) pe_int (nomark _)) pa_nil)) (fun _ _ => rfl)))
      (pss_cons (ps_if (pt_cmpR (op_neD hr.units) (LamX.pe_lamcall (T := [(P0, qLam)]) (k := 6) (a := "_law_work") (Ng := ["_law_work", "e"]) (by rfl) gS kS lkS cS bS sc_Lstepped rfl (.inl rfl) (stepped_gives T e_NoDeed) TB rfl (List.mem_singleton.mpr rfl) (fun p hp _ => by rw [List.mem_singleton.mp hp]; rfl) (hr.mono (by decide)) (LamX.lamS_by (sc := defScope s_law) (by decide +kernel)) rfl (fun _ _ _ _ _ => rfl) (fun A outer s H E f c' hr => (pe_mt0S c_Reel_back hr (by decide) k_Reel.oc.cl (takes_of rfl rfl rfl rfl) (pv 9)))) (pv 7) (nomark _))
        (pss_one (ps_ret pe_bl))
        pss_nil)
      (pss_one (ps_set (i := 4) sc_law.nd rfl (.inl rfl) (pe_callB (call_max2 rfl) (by rfl) T.m_max (by decide +kernel) (pa_cons pe_int (pa_cons (pe_op op_sub (pv 4) pe_int) pa_nil)))))))
        (pss_one (ps_if (pt_cmpR op_eq (pv 6) pe_int (nomark _))
        (pss_cons (ps_set (i := 7) sc_law.nd rfl (.inl rfl) (pe_ix ix_list (pe_lst (pa_cons pe_non (pa_cons (pe_tup (pa_cons pe_str (pa_cons pe_bl pa_nil))) pa_nil))) (pe_callTy call_int1 (by rfl) T.m_int (by decide +kernel) (pa_cons (pe_cmpR op_eq (pv 4) (pe_op op_sub (pe_callB call_len_seq (by rfl) T.m_len (by decide +kernel) (pa_cons (pv 2) pa_nil)) pe_int) (nomark _)) pa_nil)) (fun _ _ => rfl)))
      (pss_cons (ps_if (pt_cmpR (op_neD hr.units) (LamX.pe_lamcall (T := [(P0, qLam)]) (k := 6) (a := "_law_work") (Ng := ["_law_work", "e"]) (by rfl) gS kS lkS cS bS sc_Lstepped rfl (.inl rfl) (stepped_gives T e_NoDeed) TB rfl (List.mem_singleton.mpr rfl) (fun p hp _ => by rw [List.mem_singleton.mp hp]; rfl) (hr.mono (by decide)) (LamX.lamS_by (sc := defScope s_law) (by decide +kernel)) rfl (fun _ _ _ _ _ => rfl) (fun A outer s H E f c' hr => (pe_mt0S c_Reel_again hr (by decide) k_Reel.oc.cl (takes_of rfl rfl rfl rfl) (pv 9)))) (pv 7) (nomark _))
        (pss_one (ps_ret pe_bl))
        pss_nil)
      (pss_one (ps_set (i := 4) sc_law.nd rfl (.inl rfl) (pe_callB (call_min2 rfl) (by rfl) T.m_min (by decide +kernel) (pa_cons (pe_op op_add (pv 4) pe_int) (pa_cons (pe_op op_sub (pe_callB call_len_seq (by rfl) T.m_len (by decide +kernel) (pa_cons (pv 2) pa_nil)) pe_int) pa_nil)))))))
        (pss_cons (ps_set (i := 8) sc_law.nd rfl (.inl rfl) (pe_cl c_Ldeed hr (by decide) (by rfl) (pa_cons (pv 1) (pa_cons (pv 9) (pa_cons (pe_ix ix_list (pv 2) (pv 4) (fun _ _ => rfl)) pa_nil)))))
      (pss_cons (ps_if (pt_cmpR op_isN (pv 8) pe_non (nomark _))
        (pss_one (ps_ret pe_bl))
        pss_nil)
      (pss_cons (ps_set (i := 2) sc_law.nd rfl (.inl rfl) (pe_op op_cat (pe_slice sl_list (pv 2) po_none (po_some (pe_op op_add (pv 4) pe_int))) (pe_lst (pa_cons (pv 8) pa_nil))))
      (pss_one (ps_set (i := 4) sc_law.nd rfl (.inl rfl) (pe_op op_add (pv 4) pe_int)))))))))
      (pss_one (ps_if (pt_not (pt_val (pe_cl c_Lalike hr (by decide) (by rfl) (pa_cons (pe_mt0 c_Reel_show hr (by decide) k_Reel.oc.cl (pv 9)) (pa_cons (pe_cl c_Lone hr (by decide) (by rfl) (pa_cons (pe_ix ix_list (pv 2) (pv 4) (fun _ _ => rfl)) pa_nil)) pa_nil)))))
        (pss_one (ps_ret pe_bl))
        pss_nil))))))
      (pss_one (ps_ret pe_bl))))))))), ?_⟩
    refine ⟨_, rfl, a, ns, rfl, hS, fun H1 b l s1 nb nl B1 => ?_⟩
    have tab1 := tab.ext s1
    refine ⟨_, rfl, b, l, rfl, B1, fun H2 p0 ys xs s2 B2 np0 hp0 da hl ok80 fs => ?_⟩
    have tab2 := tabS_draw tab1 B1 s2
    refine ⟨(show 1 ≤ sizeLine by decide), fun pr npr => ?_⟩
    have sr := Same.new (o := .lst [.ref p0]) npr
    have hpr : (upd H2 pr (.lst [.ref p0])) pr = some (.lst [.ref p0]) := upd_same
    have B3 := B2.mono sr
    have tab3 := tab2.ext sr
    have hr3 : hid b l (upd H2 pr (.lst [.ref p0])) pr = some (.lst [.ref p0]) := hid_new B2 npr
    have sr' : Same (hid b l H2) (hid b l (upd H2 pr (.lst [.ref p0]))) := Same.hid sr
    have h03 := sr' _ _ hp0
    have da3 := dpa_mono sr' _ _ (dpa_hid B2.lb B2.ll _ _ (tupA_dS _) da)
    generalize upd H2 pr (.lst [.ref p0]) = H3 at hr3 h03 da3 B3 tab3 ⊢
    clear hpr sr sr' tab2 tab1 s2 B2 hp0 np0 da npr s1 B1
    refine ⟨_, rfl, b, l, _, rfl, B3, by decide, by decide, fun H4 r4 s4 B4 a4 b4 => ?_⟩
    have tab4 := tabS_draw tab3 B3 s4
    have hr4 := s4 _ _ hr3
    have h04 := s4 _ _ h03
    have da4 := dpa_mono s4 _ _ da3
    refine ⟨_, _, rfl, rfl, ?_⟩
    refine ⟨fun σ' H' => ∃ (pr p0 : Addr) (ys : List V) (xs : List St3) (m : Int), σ' = [some (.ref a), some (.ref b), some (.ref pr), some (.int m), none, none, none, none, none, none] ∧ Bx H' b l ∧ hid b l H' pr = some (.lst [.ref p0]) ∧ hid b l H' p0 = some (.lst ys) ∧ DpAll K (hid b l H') ys (xs.map dS) ∧ (∀ s ∈ xs, Fs L30 [] s) ∧ xs.length ≤ 6 ∧ 1 ≤ m ∧ m ≤ 20 ∧ LamX.TabS H' P0 qLam, ?_, fun σ' H' hm => ?_⟩
    · refine ⟨_, rfl, b, l, _, rfl, B4, by decide, by decide, fun H5 r5 s5 B5 a5 b5 => ?_⟩
      have tab5 := tabS_draw tab4 B4 s5
      have hr5 := s5 _ _ hr4
      have h05 := s5 _ _ h04
      have da5 := dpa_mono s5 _ _ da4
      refine ⟨rfl, _, rfl, ite2 (fun z => ?_) (fun z => ?_)⟩
      · refine ⟨_, rfl, _, _, _, _, rfl, rfl, .inl (.inl (hid_same _ _ hr5)), atI_nat (j := 0) rfl, _, rfl, p0, ys, rfl, .inl (.inl (hid_same _ _ h05)), fun pc nc => ?_⟩
        rw [show cutV ys none (some 1) = ys.take 1 from cutTo ys 1]
        have sc := Same.new (o := .lst (ys.take 1)) nc
        have hc6 : hid b l (upd H5 pc (.lst (ys.take 1))) pc = some (.lst (ys.take 1)) := hid_new B5 nc
        have tab6 := tab5.ext sc
        have B6 := B5.mono sc
        have da6 : DpAll K (hid b l (upd H5 pc (.lst (ys.take 1)))) (ys.take 1) ((xs.take 1).map dS) := by
          rw [List.map_take]
          exact dpa_take 1 (dpa_mono (Same.hid sc) _ _ da5)
        generalize upd H5 pc (.lst (ys.take 1)) = H6 at hc6 tab6 B6 da6 ⊢
        refine ⟨(show 1 ≤ sizeLine by decide), fun pr2 npr2 => ?_⟩
        have sc := Same.new (o := .lst [.ref pc]) npr2
        have hr7 : hid b l (upd H6 pr2 (.lst [.ref pc])) pr2 = some (.lst [.ref pc]) := hid_new B6 npr2
        have tab7 := tab6.ext sc
        have B7 := B6.mono sc
        have hc7 := Same.hid (b := b) (l := l) sc _ _ hc6
        have da7 := dpa_mono (Same.hid (b := b) (l := l) sc) _ _ da6
        generalize upd H6 pr2 (.lst [.ref pc]) = H7 at hr7 tab7 B7 hc7 da7 ⊢
        refine ⟨_, rfl, b, l, _, rfl, B7, by decide, by decide, fun H8 r8 s8 B8 a8 b8 => ⟨_, _, rfl, rfl, ?_⟩⟩
        refine ⟨pr2, pc, _, xs.take 1, _, rfl, B8, s8 _ _ hr7, s8 _ _ hc7, dpa_mono s8 _ _ da7, fun s hs => fs s (List.mem_of_mem_take hs), ?_, by omega, by omega, tabS_draw tab7 B7 s8⟩
        rw [List.length_take]
        omega
      · exact ⟨pr, p0, ys, xs, _, rfl, B5, hr5, h05, da5, fs, hl, by omega, by omega, tab5⟩
    · obtain ⟨pr, p0, ys, xs, m, rfl, B6, hr6, h06, da6, fs, hl, m1, m2, tab6⟩ := hm
      clear da4 h04 hr4 tab4 a4 b4 B4 s4 da3 h03 hr3 tab3 B3 ok80
      refine ⟨_, rfl, _, _, _, _, rfl, rfl, .inl (.inl (hid_same _ _ hr6)), atI_nat (j := 0) rfl, fun p dx np ndx nex => ?_⟩
      have sN : Same H' (upd (upd H' dx (.own p)) p (.ins C dx [])) := fun c o e => by
        rw [upd_ne (ne_of_none e np), upd_ne (ne_of_none e ndx)]
        exact e
      have h0' : H' p0 = some (.lst ys) := hid_same _ _ h06
      have da' : DpAll K H' ys (xs.map dS) := dpa_mono hid_same _ _ da6
      refine ⟨p, dx, _, xs, rfl, upd_same, .lst (.inl (.inl (sN _ _ h0'))) (dpa_mono sN _ _ da'), by omega, fun H5 pc pe pu yc old nc ne nu neu nce ncu hp5 hc5 he5 hu5 dc5 => ⟨rfl, ?_⟩⟩
      have s5 : Same H' H5 := fun c o e => old c o (sN _ _ e) (ne_of_none e np)
      have w5 := Lr.make (C := C) (K := K) B6 np s5 (sN.free nc) (sN.free ne) (sN.free nu) (fun z => by rw [z, upd_same] at nc; cases nc) neu nce ncu hp5 hc5 he5 hu5 dc5
      have nin : ∀ x y, hid b l H' x = some y → x ∉ [p, pe, pu, b, l] := by
        intro x y hx hin
        have hx' := hid_same _ _ hx
        have n12 : x ≠ b ∧ x ≠ l := by
          unfold hid at hx
          split at hx
          · cases hx
          · rename_i z
            exact ⟨fun y => z (.inl y), fun y => z (.inr y)⟩
        simp only [List.mem_cons, List.not_mem_nil, or_false] at hin
        rcases hin with z | z | z | z | z
        · exact ne_of_none hx' np z
        · exact ne_of_none (sN _ _ hx') ne z
        · exact ne_of_none (sN _ _ hx') nu z
        · exact n12.1 z
        · exact n12.2 z
      have h5 : Hist K C P0 H5 [p, pe, pu, b, l] b l p pe pu pr 0 0 [.ref p0] [xs] xs :=
        ⟨rfl, tab6.ext s5, w5, hidL_at (nin _ _ hr6) (s5 _ _ (hid_same _ _ hr6)), .cons ⟨p0, ys, rfl, hidL_at (nin _ _ h06) (s5 _ _ h0'), dpa_hidL w5.r.nt _ _ (tupA_dS _) (dpa_mono s5 _ _ da')⟩ .nil,
          (fun j x hj => by
            match j, hj with
            | 0, hj =>
              rw [← Option.some.inj (show some xs = some x from hj)]
              exact Sd.start fs hl
            | j + 1, hj => exact absurd (show (none : Option (List St3)) = some x from hj) (by simp)), Nat.le_refl _, by simp⟩
      generalize [p, pe, pu, b, l] = S at h5
      clear w5 nin s5 sN old nc ne nu neu nce ncu hp5 hc5 he5 hu5 dc5 da' h0' da6 h06 hr6 B6 tab6 np ndx nex
      refine ⟨_, rfl, m, rfl, by omega, by omega, for_range (lo := 0) (n := m.toNat) (fun i σ Hx => ∃ (pr : Addr) (n : Nat) (rs : List V) (xss : List (List St3)) (xs : List St3) (c5 c6 c7 c8 : Option V), σ = [some (.ref a), some (.ref b), some (.ref pr), some (.int m), some (.int n), c5, c6, c7, c8, some (.ref p)] ∧ Hist K C P0 Hx S b l p pe pu pr n i rs xss xs) ⟨pr, 0, _, _, _, none, none, none, none, rfl, h5⟩ (fun i σ Hx hi h => ?_) (fun σ Hx h => ?_)⟩
      · obtain ⟨pr, n, rs, xss, xs, c5, c6, c7, c8, rfl, h8⟩ := h
        clear h5
        have hi : i ≤ 19 := by omega
        have hn := h8.le
        refine ⟨fun σ' Hy => ∃ c5, σ' = [some (.ref a), some (.ref b), some (.ref pr), some (.int m), some (.int n), c5, c6, c7, c8, some (.ref p)] ∧ Hist K C P0 Hy S b l p pe pu pr n i rs xss xs, ?_, fun σ' Hy hm => ?_⟩
        · refine ⟨_, rfl, b, l, _, rfl, h8.lr.bx, by decide, by decide, fun H9 r9 s9 B9 a9 b9 => ⟨rfl, _, rfl, ite2 (fun z => ?_) (fun z => ⟨_, rfl, h8.draw s9 B9⟩)⟩⟩
          have h9 := h8.draw s9 B9
          refine ⟨_, rfl, _, rfl, b, l, _, rfl, h9.lr.bx, by decide, by decide, fun Ha ra sa Ba aa ba => ?_⟩
          have ha := h9.draw sa Ba
          obtain ⟨pa, ya, g1, g2, g3⟩ := ha.get
          have sdx := ha.sdx
          have okx := sdx.ok (by omega)
          have lx := sdx.len
          have ln := norm_le xs
          refine ⟨_, rfl, _, rfl, _, _, _, _, rfl, rfl, .inl (.inl (hidL_same _ _ ha.row)), atI_nat g1, _, xs, 2240, rfl, .lst (.inl (.inl (hidL_same _ _ g2))) (dpa_mono hidL_same _ _ g3), okx, Nat.le_refl _, fun Hb vb sb db => ?_⟩
          have hb := ha.mono sb
          refine ⟨S, p, pe, pu, _, _, _, ra, _, rfl, hb.lr.r, by rw [lenS_norm]; exact db, aa, ba, sdx.norm.ok (by omega), by rw [lenS_norm]; exact (sdx.time (by omega) (tq_all xs)).1, by rw [lenS_norm]; exact (sdx.half (by omega)).1, by omega, by rw [List.length_map, List.length_take]; omega, by rw [lenS_norm]; exact (sdx.half (by omega)).2, fun Hc sc => ?_⟩
          exact ⟨_, rfl, iteN rfl ⟨_, rfl, hb.mono sc⟩⟩
        · obtain ⟨c5, rfl, h9⟩ := hm
          refine ⟨_, rfl, b, l, _, rfl, h9.lr.bx, by decide, by decide, fun Ha way sa Ba aa ba => ?_⟩
          have ha := h9.draw sa Ba
          clear h9 h8
          refine ⟨fun σ' Hy => ∃ (pr : Addr) (n : Nat) (rs : List V) (xss : List (List St3)) (xs : List St3) (c5 c6 c7 c8 : Option V), σ' = [some (.ref a), some (.ref b), some (.ref pr), some (.int m), some (.int n), c5, c6, c7, c8, some (.ref p)] ∧ Hist K C P0 Hy S b l p pe pu pr n (i + 1) rs xss xs, ?_, fun σ' Hy hm => ?_⟩
          · refine way_test rfl rfl (ite2 (fun z => ?_) (fun z => ?_))
            · refine ⟨(show 2 ≤ sizeLine by decide), fun pt npt => ?_⟩
              have st := Same.new (o := .tup [.str "no", .bl true]) npt
              have ht : (upd Ha pt (.tup [.str "no", .bl true])) pt = some (.tup [.str "no", .bl true]) := upd_same
              have hb := ha.mono st
              generalize upd Ha pt (.tup [.str "no", .bl true]) = Hb at st ht hb ⊢
              refine ⟨(show 2 ≤ sizeLine by decide), fun pl npl => ?_⟩
              have sl := Same.new (o := .lst [.non, .ref pt]) npl
              have hl' : (upd Hb pl (.lst [.non, .ref pt])) pl = some (.lst [.non, .ref pt]) := upd_same
              have ht := sl _ _ ht
              have hb := hb.mono sl
              generalize upd Hb pl (.lst [.non, .ref pt]) = Hc at sl hl' ht hb ⊢
              clear ha st npt npl
              cases n with
              | zero =>
                refine ⟨_, rfl, rfl, .inr ⟨_, rfl, pl, _, _, .ref pt, rfl, rfl, .inl (.inl hl'), atI_nat (j := 1) rfl, ?_⟩⟩
                refine ⟨fun p hp => by rw [List.mem_singleton.mp hp]; exact hb.tb, fun Hd eN tN => ?_⟩
                have hd := hb.extN eN (tN _ (List.mem_singleton.mpr rfl))
                have ht := eN _ _ ht (fun _ z => nomatch z)
                obtain ⟨dx, vc, h1, _⟩ := hd.lr.r.ob
                refine ⟨_, rfl, p, dx, _, rfl, h1, rF_no _ _ _ (by decide +kernel) (by decide +kernel) (by decide +kernel), S, p, pe, pu, _, _, _, rfl, hd.lr.r, by rw [List.length_reverse, List.length_map, List.length_drop]; have := hd.len; omega, fun _ He se => ⟨rfl, rfl, fun pn npn => ?_⟩, fun pre x e => absurd (congrArg List.length e) (by simp)⟩
                have he := hd.mono se
                have ht := se _ _ ht
                have sn := Same.new (o := .tup [.str "no", .bl true]) npn
                refine ⟨_, rfl, dNo, dNo, no_dp upd_same, no_dp (sn _ _ ht), shaped_dNo, shaped_dNo, _, rfl, iteN neq_dNo ?_⟩
                exact ⟨_, rfl, _, _, rfl, rfl, _, _, rfl, pr, 0, rs, xss, xs, _, _, _, _, rfl, (he.mono sn).next⟩
              | succ n =>
                have ez : decide (V.int ((n + 1 : Nat) : Int) = V.int 0) = false := decide_eq_false fun z => by
                  have := V.int.inj z
                  omega
                refine ⟨_, rfl, rfl, .inr ⟨_, rfl, pl, [.non, .ref pt], ((0 : Nat) : Int), .non, rfl, by rw [ez]; rfl, .inl (.inl hl'), atI_nat (j := 0) rfl, ?_⟩⟩
                refine ⟨fun p hp => by rw [List.mem_singleton.mp hp]; exact hb.tb, fun Hd eN tN => ?_⟩
                have hd := hb.extN eN (tN _ (List.mem_singleton.mpr rfl))
                obtain ⟨dx, vc, h1, _⟩ := hd.lr.r.ob
                have hn2 := (List.getElem?_eq_some_iff.mp hd.at_).1
                refine ⟨_, rfl, p, dx, _, rfl, h1, rF_no _ _ _ (by decide +kernel) (by decide +kernel) (by decide +kernel), S, p, pe, pu, _, _, _, rfl, hd.lr.r, by rw [List.length_reverse, List.length_map, List.length_drop]; have := hd.len; omega, fun e0 => absurd (congrArg List.length e0) (by rw [List.length_map, List.length_take]; show ¬ (min (n + 1) xss.length = 0); omega), fun pre x e He r k => ?_⟩
                obtain ⟨xn, he⟩ := hd.back1 e r k
                refine ⟨_, rfl, .none, .none, .non, .non, rfl, rfl, _, rfl, iteN rfl ?_⟩
                have em : (if ((n + 1 : Nat) : Int) - 1 > 0 then ((n + 1 : Nat) : Int) - 1 else 0) = (n : Int) := by split <;> omega
                exact ⟨_, rfl, _, _, rfl, rfl, _, _, rfl, pr, n, rs, xss, xn, c5, some (.int way), some .non, c8, congrArg (fun z : Int => [some (V.ref a), some (V.ref b), some (V.ref pr), some (V.int m), some (V.int z), c5, some (V.int way), some V.non, c8, some (V.ref p)]) em, he⟩
            · refine ⟨_, rfl, rfl, _, rfl, ite2 (fun z2 => ?_) (fun z2 => ?_)⟩
              · refine ⟨(show 2 ≤ sizeLine by decide), fun pt npt => ?_⟩
                have st := Same.new (o := .tup [.str "no", .bl true]) npt
                have ht : (upd Ha pt (.tup [.str "no", .bl true])) pt = some (.tup [.str "no", .bl true]) := upd_same
                have hb := ha.mono st
                generalize upd Ha pt (.tup [.str "no", .bl true]) = Hb at st ht hb ⊢
                refine ⟨(show 2 ≤ sizeLine by decide), fun pl npl => ?_⟩
                have sl := Same.new (o := .lst [.non, .ref pt]) npl
                have hl' : (upd Hb pl (.lst [.non, .ref pt])) pl = some (.lst [.non, .ref pt]) := upd_same
                have ht := sl _ _ ht
                have hb := hb.mono sl
                generalize upd Hb pl (.lst [.non, .ref pt]) = Hc at sl hl' ht hb ⊢
                clear ha st npt npl
                have hl2 := A2.len hb.rows
                have hn2 := (List.getElem?_eq_some_iff.mp hb.at_).1
                refine ⟨_, rfl, _, rfl, pr, rs, rfl, .inl (.inl (.inl (hidL_same _ _ hb.row))), _, _, rfl, rfl, rfl, ?_⟩
                by_cases hx : n + 1 = xss.length
                · have ez : decide (V.int (n : Int) = V.int ((rs.length : Int) - 1)) = true := decide_eq_true (congrArg V.int (by omega))
                  refine .inr ⟨_, rfl, pl, [.non, .ref pt], ((1 : Nat) : Int), .ref pt, rfl, by rw [ez]; rfl, .inl (.inl hl'), atI_nat (j := 1) rfl, ?_⟩
                  refine ⟨fun p hp => by rw [List.mem_singleton.mp hp]; exact hb.tb, fun Hd eN tN => ?_⟩
                  have hd := hb.extN eN (tN _ (List.mem_singleton.mpr rfl))
                  have ht := eN _ _ ht (fun _ z => nomatch z)
                  obtain ⟨dx, vc, h1, _⟩ := hd.lr.r.ob
                  refine ⟨_, rfl, p, dx, _, rfl, h1, rF_no _ _ _ (by decide +kernel) (by decide +kernel) (by decide +kernel), S, p, pe, pu, _, _, _, rfl, hd.lr.r, by rw [List.length_map, List.length_take]; omega, fun _ He se => ⟨rfl, rfl, fun pn npn => ?_⟩, fun pre x e => absurd (congrArg List.length e) (by rw [List.length_reverse, List.length_map, List.length_drop, List.length_append]; show ¬ (xss.length - (n + 1) = pre.length + 1); omega)⟩
                  have he := hd.mono se
                  have ht := se _ _ ht
                  have sn := Same.new (o := .tup [.str "no", .bl true]) npn
                  refine ⟨_, rfl, dNo, dNo, no_dp upd_same, no_dp (sn _ _ ht), shaped_dNo, shaped_dNo, _, rfl, iteN neq_dNo ?_⟩
                  have em : (if (rs.length : Int) - 1 < (n : Int) + 1 then (rs.length : Int) - 1 else (n : Int) + 1) = (n : Int) := by split <;> omega
                  exact ⟨_, rfl, _, _, rfl, rfl, _, rfl, pr, rs, rfl, .inl (.inl (.inl (hidL_same _ _ (he.mono sn).row))), _, _, rfl, rfl, _, _, rfl, pr, n, rs, xss, xs, c5, some (.int way), some (.ref pt), c8, congrArg (fun z : Int => [some (V.ref a), some (V.ref b), some (V.ref pr), some (V.int m), some (V.int z), c5, some (V.int way), some (V.ref pt), c8, some (V.ref p)]) em, (he.mono sn).next⟩
                · have ez : decide (V.int (n : Int) = V.int ((rs.length : Int) - 1)) = false := decide_eq_false fun z => by
                    have := V.int.inj z
                    omega
                  refine .inr ⟨_, rfl, pl, [.non, .ref pt], ((0 : Nat) : Int), .non, rfl, by rw [ez]; rfl, .inl (.inl hl'), atI_nat (j := 0) rfl, ?_⟩
                  refine ⟨fun p hp => by rw [List.mem_singleton.mp hp]; exact hb.tb, fun Hd eN tN => ?_⟩
                  have hd := hb.extN eN (tN _ (List.mem_singleton.mpr rfl))
                  obtain ⟨dx, vc, h1, _⟩ := hd.lr.r.ob
                  refine ⟨_, rfl, p, dx, _, rfl, h1, rF_no _ _ _ (by decide +kernel) (by decide +kernel) (by decide +kernel), S, p, pe, pu, _, _, _, rfl, hd.lr.r, by rw [List.length_map, List.length_take]; omega, fun e0 => absurd (congrArg List.length e0) (by rw [List.length_reverse, List.length_map, List.length_drop]; show ¬ (xss.length - (n + 1) = 0); omega), fun pre x e He r k => ?_⟩
                  obtain ⟨xn, he⟩ := hd.again1 e r k
                  refine ⟨_, rfl, .none, .none, .non, .non, rfl, rfl, _, rfl, iteN rfl ?_⟩
                  have em : (if (rs.length : Int) - 1 < (n : Int) + 1 then (rs.length : Int) - 1 else (n : Int) + 1) = ((n + 1 : Nat) : Int) := by split <;> omega
                  exact ⟨_, rfl, _, _, rfl, rfl, _, rfl, pr, rs, rfl, .inl (.inl (.inl (hidL_same _ _ he.row))), _, _, rfl, rfl, _, _, rfl, pr, n + 1, rs, xss, xn, c5, some (.int way), some .non, c8, congrArg (fun z : Int => [some (V.ref a), some (V.ref b), some (V.ref pr), some (V.int m), some (V.int z), c5, some (V.int way), some V.non, c8, some (V.ref p)]) em, he⟩
              · obtain ⟨pa, ya, g1, g2, g3⟩ := ha.get
                have sdx := ha.sdx
                have hl2 := A2.len ha.rows
                have hn2 := (List.getElem?_eq_some_iff.mp ha.at_).1
                have hxl := ha.len
                refine ⟨_, rfl, _, rfl, _, rfl, _, rfl, _, _, _, _, rfl, rfl, .inl (.inl (hidL_same _ _ ha.row)), atI_nat g1, S, b, l, p, pe, pu, pa, ya, xs, _, _, n, rfl, ha.lr, g2, g3, sdx, by omega, by rw [List.length_map, List.length_take]; omega, fun Hb p1 y1 x1 wb tb q1 q2 sd' => ?_⟩
                refine ⟨_, rfl, rfl, _, rfl, iteN rfl ?_⟩
                have hrow := hidL_same _ _ (tb _ _ ha.row)
                refine ⟨_, rfl, _, rfl, _, _, rfl, rfl, _, rfl, pr, rs, rfl, .inl (.inl hrow), fun pc nc => ?_⟩
                rw [show cutV rs none (some ((n : Int) + 1)) = rs.take (n + 1) from cutTo rs (n + 1)]
                have sc := Same.new (o := .lst (rs.take (n + 1))) nc
                have hc : (upd Hb pc (.lst (rs.take (n + 1)))) pc = some (.lst (rs.take (n + 1))) := upd_same
                generalize upd Hb pc (.lst (rs.take (n + 1))) = Hc at sc hc ⊢
                refine ⟨_, rfl, (show 1 ≤ sizeLine by decide), fun pd nd => ?_⟩
                have sd2 := Same.new (o := .lst [.ref p1]) nd
                have hd : (upd Hc pd (.lst [.ref p1])) pd = some (.lst [.ref p1]) := upd_same
                have hc := sd2 _ _ hc
                have scd := sc.trans sd2
                generalize upd Hc pd (.lst [.ref p1]) = Hd at scd hc hd ⊢
                refine ⟨pc, pd, _, _, rfl, rfl, hc, hd, Nat.le_trans (show (rs.take (n + 1)).length + 1 ≤ 1000 by rw [List.length_take]; omega) (by decide), fun pn nn => ?_⟩
                have sn := Same.new (o := .lst (rs.take (n + 1) ++ [.ref p1])) nn
                have wn := (wb.mono scd).r.notin nn
                exact ⟨_, rfl, _, _, rfl, rfl, pn, n + 1, _, _, x1, _, _, _, _, rfl, ha.deed wb tb q1 q2 sd' (scd.trans sn) (hidL_at wn upd_same)⟩
          · obtain ⟨pr, n, rs, xss, xs, c5, c6, c7, c8, rfl, hb⟩ := hm
            obtain ⟨dx, vc, h1, h2⟩ := hb.lr.r.ob
            obtain ⟨pa, ya, g1, g2, g3⟩ := hb.get
            have lx : xs.length ≤ 1000 := by
              have := hb.sdx.len
              have := hb.le
              omega
            have nl : (normM xs).length < 2 ^ 62 := by
              have := norm_le xs
              omega
            refine ⟨_, rfl, p, dx, _, rfl, h1, rF_no _ _ _ (by decide +kernel) (by decide +kernel) (by decide +kernel), S, p, pe, pu, _, _, _, rfl, hb.lr.r, fun Hc rc yc sc nc hc dc => ?_⟩
            have hcc := hb.mono sc
            refine ⟨_, rfl, _, rfl, _, _, _, _, rfl, rfl, .inl (.inl (hidL_same _ _ hcc.row)), atI_nat g1, _, xs, rfl, .lst (.inl (.inl (sc _ _ (hidL_same _ _ g2)))) (dpa_mono sc _ _ (dpa_mono hidL_same _ _ g3)), lx, fun Hd rd yd sd nd hd dd => ?_⟩
            exact ⟨_, _, dSh (normM xs), rfl, .lst (.inl (.inl (sd _ _ hc))) (dpa_mono sd _ _ dc), .lst (.inl (.inl hd)) dd, dep_dSh _, sz_dSh _ nl, _, rfl, iteN rfl ⟨pr, n, rs, xss, xs, _, _, _, _, rfl, hcc.mono sd⟩⟩
      · exact q _
end
theorem txt_mk {K : PySem.W.Frag} {h : Heap} {mg : Str → Option Value} (X : K.In h) (G : h.Ns mainGlobals mg)
    {f0 : Addr} {od0 an0 : Option Addr} {sl0 : Array (Option Value)} {oc0 kV0 dc0 pm0 cd0 ct0 : Value}
    (a0 : PySem.W.nsIn K mainGlobals "common_divisor" = some (some (.ref f0))) (l0 : K.lookup f0 = some ⟨oc0, od0, .func (PySem.W.fnOf "common_divisor" "common_divisor" (defArgs s_common_divisor) (defBody s_common_divisor) (defScope s_common_divisor) .none kV0 dc0 pm0 an0 cd0 ct0), sl0⟩) (c0 : PySem.W.codeIn K cd0 "common_divisor" = true) (k0 : PySem.W.keepIn K (.ref f0) = true)
    {f1 : Addr} {od1 an1 : Option Addr} {sl1 : Array (Option Value)} {oc1 kV1 dc1 pm1 cd1 ct1 : Value}
    (a1 : PySem.W.nsIn K mainGlobals "made" = some (some (.ref f1))) (l1 : K.lookup f1 = some ⟨oc1, od1, .func (PySem.W.fnOf "made" "made" (defArgs s_made) (defBody s_made) (defScope s_made) .none kV1 dc1 pm1 an1 cd1 ct1), sl1⟩) (c1 : PySem.W.codeIn K cd1 "made" = true) (k1 : PySem.W.keepIn K (.ref f1) = true)
    {f2 : Addr} {od2 an2 : Option Addr} {sl2 : Array (Option Value)} {oc2 kV2 dc2 pm2 cd2 ct2 : Value}
    (a2 : PySem.W.nsIn K mainGlobals "added" = some (some (.ref f2))) (l2 : K.lookup f2 = some ⟨oc2, od2, .func (PySem.W.fnOf "added" "added" (defArgs s_added) (defBody s_added) (defScope s_added) .none kV2 dc2 pm2 an2 cd2 ct2), sl2⟩) (c2 : PySem.W.codeIn K cd2 "added" = true) (k2 : PySem.W.keepIn K (.ref f2) = true)
    {f3 : Addr} {od3 an3 : Option Addr} {sl3 : Array (Option Value)} {oc3 kV3 dc3 pm3 cd3 ct3 : Value}
    (a3 : PySem.W.nsIn K mainGlobals "less" = some (some (.ref f3))) (l3 : K.lookup f3 = some ⟨oc3, od3, .func (PySem.W.fnOf "less" "less" (defArgs s_less) (defBody s_less) (defScope s_less) .none kV3 dc3 pm3 an3 cd3 ct3), sl3⟩) (c3 : PySem.W.codeIn K cd3 "less" = true) (k3 : PySem.W.keepIn K (.ref f3) = true)
    {f4 : Addr} {od4 an4 : Option Addr} {sl4 : Array (Option Value)} {oc4 kV4 dc4 pm4 cd4 ct4 : Value}
    (a4 : PySem.W.nsIn K mainGlobals "timed" = some (some (.ref f4))) (l4 : K.lookup f4 = some ⟨oc4, od4, .func (PySem.W.fnOf "timed" "timed" (defArgs s_timed) (defBody s_timed) (defScope s_timed) .none kV4 dc4 pm4 an4 cd4 ct4), sl4⟩) (c4 : PySem.W.codeIn K cd4 "timed" = true) (k4 : PySem.W.keepIn K (.ref f4) = true)
    {f5 : Addr} {od5 an5 : Option Addr} {sl5 : Array (Option Value)} {oc5 kV5 dc5 pm5 cd5 ct5 : Value}
    (a5 : PySem.W.nsIn K mainGlobals "over" = some (some (.ref f5))) (l5 : K.lookup f5 = some ⟨oc5, od5, .func (PySem.W.fnOf "over" "over" (defArgs s_over) (defBody s_over) (defScope s_over) .none kV5 dc5 pm5 an5 cd5 ct5), sl5⟩) (c5 : PySem.W.codeIn K cd5 "over" = true) (k5 : PySem.W.keepIn K (.ref f5) = true)
    {f6 : Addr} {od6 an6 : Option Addr} {sl6 : Array (Option Value)} {oc6 kV6 dc6 pm6 cd6 ct6 : Value}
    (a6 : PySem.W.nsIn K mainGlobals "is_below" = some (some (.ref f6))) (l6 : K.lookup f6 = some ⟨oc6, od6, .func (PySem.W.fnOf "is_below" "is_below" (defArgs s_is_below) (defBody s_is_below) (defScope s_is_below) .none kV6 dc6 pm6 an6 cd6 ct6), sl6⟩) (c6 : PySem.W.codeIn K cd6 "is_below" = true) (k6 : PySem.W.keepIn K (.ref f6) = true)
    {f7 : Addr} {od7 an7 : Option Addr} {sl7 : Array (Option Value)} {oc7 kV7 dc7 pm7 cd7 ct7 : Value}
    (a7 : PySem.W.nsIn K mainGlobals "smaller" = some (some (.ref f7))) (l7 : K.lookup f7 = some ⟨oc7, od7, .func (PySem.W.fnOf "smaller" "smaller" (defArgs s_smaller) (defBody s_smaller) (defScope s_smaller) .none kV7 dc7 pm7 an7 cd7 ct7), sl7⟩) (c7 : PySem.W.codeIn K cd7 "smaller" = true) (k7 : PySem.W.keepIn K (.ref f7) = true)
    {f8 : Addr} {od8 an8 : Option Addr} {sl8 : Array (Option Value)} {oc8 kV8 dc8 pm8 cd8 ct8 : Value}
    (a8 : PySem.W.nsIn K mainGlobals "larger" = some (some (.ref f8))) (l8 : K.lookup f8 = some ⟨oc8, od8, .func (PySem.W.fnOf "larger" "larger" (defArgs s_larger) (defBody s_larger) (defScope s_larger) .none kV8 dc8 pm8 an8 cd8 ct8), sl8⟩) (c8 : PySem.W.codeIn K cd8 "larger" = true) (k8 : PySem.W.keepIn K (.ref f8) = true)
    {f9 : Addr} {od9 an9 : Option Addr} {sl9 : Array (Option Value)} {oc9 kV9 dc9 pm9 cd9 ct9 : Value}
    (a9 : PySem.W.nsIn K mainGlobals "lasting" = some (some (.ref f9))) (l9 : K.lookup f9 = some ⟨oc9, od9, .func (PySem.W.fnOf "lasting" "lasting" (defArgs s_lasting) (defBody s_lasting) (defScope s_lasting) .none kV9 dc9 pm9 an9 cd9 ct9), sl9⟩) (c9 : PySem.W.codeIn K cd9 "lasting" = true) (k9 : PySem.W.keepIn K (.ref f9) = true)
    {f10 : Addr} {od10 an10 : Option Addr} {sl10 : Array (Option Value)} {oc10 kV10 dc10 pm10 cd10 ct10 : Value}
    (a10 : PySem.W.nsIn K mainGlobals "timetable" = some (some (.ref f10))) (l10 : K.lookup f10 = some ⟨oc10, od10, .func (PySem.W.fnOf "timetable" "timetable" (defArgs s_timetable) (defBody s_timetable) (defScope s_timetable) .none kV10 dc10 pm10 an10 cd10 ct10), sl10⟩) (c10 : PySem.W.codeIn K cd10 "timetable" = true) (k10 : PySem.W.keepIn K (.ref f10) = true)
    {f11 : Addr} {od11 an11 : Option Addr} {sl11 : Array (Option Value)} {oc11 kV11 dc11 pm11 cd11 ct11 : Value}
    (a11 : PySem.W.nsIn K mainGlobals "length" = some (some (.ref f11))) (l11 : K.lookup f11 = some ⟨oc11, od11, .func (PySem.W.fnOf "length" "length" (defArgs s_length) (defBody s_length) (defScope s_length) .none kV11 dc11 pm11 an11 cd11 ct11), sl11⟩) (c11 : PySem.W.codeIn K cd11 "length" = true) (k11 : PySem.W.keepIn K (.ref f11) = true)
    {f12 : Addr} {od12 an12 : Option Addr} {sl12 : Array (Option Value)} {oc12 kV12 dc12 pm12 cd12 ct12 : Value}
    (a12 : PySem.W.nsIn K mainGlobals "normal" = some (some (.ref f12))) (l12 : K.lookup f12 = some ⟨oc12, od12, .func (PySem.W.fnOf "normal" "normal" (defArgs s_normal) (defBody s_normal) (defScope s_normal) .none kV12 dc12 pm12 an12 cd12 ct12), sl12⟩) (c12 : PySem.W.codeIn K cd12 "normal" = true) (k12 : PySem.W.keepIn K (.ref f12) = true)
    {f13 : Addr} {od13 an13 : Option Addr} {sl13 : Array (Option Value)} {oc13 kV13 dc13 pm13 cd13 ct13 : Value}
    (a13 : PySem.W.nsIn K mainGlobals "place_in" = some (some (.ref f13))) (l13 : K.lookup f13 = some ⟨oc13, od13, .func (PySem.W.fnOf "place_in" "place_in" (defArgs s_place_in) (defBody s_place_in) (defScope s_place_in) .none kV13 dc13 pm13 an13 cd13 ct13), sl13⟩) (c13 : PySem.W.codeIn K cd13 "place_in" = true) (k13 : PySem.W.keepIn K (.ref f13) = true)
    {f14 : Addr} {od14 an14 : Option Addr} {sl14 : Array (Option Value)} {oc14 kV14 dc14 pm14 cd14 ct14 : Value}
    (a14 : PySem.W.nsIn K mainGlobals "taken" = some (some (.ref f14))) (l14 : K.lookup f14 = some ⟨oc14, od14, .func (PySem.W.fnOf "taken" "taken" (defArgs s_taken) (defBody s_taken) (defScope s_taken) .none kV14 dc14 pm14 an14 cd14 ct14), sl14⟩) (c14 : PySem.W.codeIn K cd14 "taken" = true) (k14 : PySem.W.keepIn K (.ref f14) = true)
    {f15 : Addr} {od15 an15 : Option Addr} {sl15 : Array (Option Value)} {oc15 kV15 dc15 pm15 cd15 ct15 : Value}
    (a15 : PySem.W.nsIn K mainGlobals "piece" = some (some (.ref f15))) (l15 : K.lookup f15 = some ⟨oc15, od15, .func (PySem.W.fnOf "piece" "piece" (defArgs s_piece) (defBody s_piece) (defScope s_piece) .none kV15 dc15 pm15 an15 cd15 ct15), sl15⟩) (c15 : PySem.W.codeIn K cd15 "piece" = true) (k15 : PySem.W.keepIn K (.ref f15) = true)
    {f16 : Addr} {od16 an16 : Option Addr} {sl16 : Array (Option Value)} {oc16 kV16 dc16 pm16 cd16 ct16 : Value}
    (a16 : PySem.W.nsIn K mainGlobals "_law_begun" = some (some (.ref f16))) (l16 : K.lookup f16 = some ⟨oc16, od16, .func (PySem.W.fnOf "_law_begun" "_law_begun" (defArgs s_Lbegun) (defBody s_Lbegun) (defScope s_Lbegun) .none kV16 dc16 pm16 an16 cd16 ct16), sl16⟩) (c16 : PySem.W.codeIn K cd16 "_law_begun" = true) (k16 : PySem.W.keepIn K (.ref f16) = true)
    {f17 : Addr} {od17 an17 : Option Addr} {sl17 : Array (Option Value)} {oc17 kV17 dc17 pm17 cd17 ct17 : Value}
    (a17 : PySem.W.nsIn K mainGlobals "_law_take" = some (some (.ref f17))) (l17 : K.lookup f17 = some ⟨oc17, od17, .func (PySem.W.fnOf "_law_take" "_law_take" (defArgs s_Ltake) (defBody s_Ltake) (defScope s_Ltake) .none kV17 dc17 pm17 an17 cd17 ct17), sl17⟩) (c17 : PySem.W.codeIn K cd17 "_law_take" = true) (k17 : PySem.W.keepIn K (.ref f17) = true)
    {f18 : Addr} {od18 an18 : Option Addr} {sl18 : Array (Option Value)} {oc18 kV18 dc18 pm18 cd18 ct18 : Value}
    (a18 : PySem.W.nsIn K mainGlobals "_law_alike" = some (some (.ref f18))) (l18 : K.lookup f18 = some ⟨oc18, od18, .func (PySem.W.fnOf "_law_alike" "_law_alike" (defArgs s_Lalike) (defBody s_Lalike) (defScope s_Lalike) .none kV18 dc18 pm18 an18 cd18 ct18), sl18⟩) (c18 : PySem.W.codeIn K cd18 "_law_alike" = true) (k18 : PySem.W.keepIn K (.ref f18) = true)
    {f19 : Addr} {od19 an19 : Option Addr} {sl19 : Array (Option Value)} {oc19 kV19 dc19 pm19 cd19 ct19 : Value}
    (a19 : PySem.W.nsIn K mainGlobals "_law_fr" = some (some (.ref f19))) (l19 : K.lookup f19 = some ⟨oc19, od19, .func (PySem.W.fnOf "_law_fr" "_law_fr" (defArgs s_Lfr) (defBody s_Lfr) (defScope s_Lfr) .none kV19 dc19 pm19 an19 cd19 ct19), sl19⟩) (c19 : PySem.W.codeIn K cd19 "_law_fr" = true) (k19 : PySem.W.keepIn K (.ref f19) = true)
    {f20 : Addr} {od20 an20 : Option Addr} {sl20 : Array (Option Value)} {oc20 kV20 dc20 pm20 cd20 ct20 : Value}
    (a20 : PySem.W.nsIn K mainGlobals "_law_sum" = some (some (.ref f20))) (l20 : K.lookup f20 = some ⟨oc20, od20, .func (PySem.W.fnOf "_law_sum" "_law_sum" (defArgs s_Lsum) (defBody s_Lsum) (defScope s_Lsum) .none kV20 dc20 pm20 an20 cd20 ct20), sl20⟩) (c20 : PySem.W.codeIn K cd20 "_law_sum" = true) (k20 : PySem.W.keepIn K (.ref f20) = true)
    {f21 : Addr} {od21 an21 : Option Addr} {sl21 : Array (Option Value)} {oc21 kV21 dc21 pm21 cd21 ct21 : Value}
    (a21 : PySem.W.nsIn K mainGlobals "_law_minus" = some (some (.ref f21))) (l21 : K.lookup f21 = some ⟨oc21, od21, .func (PySem.W.fnOf "_law_minus" "_law_minus" (defArgs s_Lminus) (defBody s_Lminus) (defScope s_Lminus) .none kV21 dc21 pm21 an21 cd21 ct21), sl21⟩) (c21 : PySem.W.codeIn K cd21 "_law_minus" = true) (k21 : PySem.W.keepIn K (.ref f21) = true)
    {f22 : Addr} {od22 an22 : Option Addr} {sl22 : Array (Option Value)} {oc22 kV22 dc22 pm22 cd22 ct22 : Value}
    (a22 : PySem.W.nsIn K mainGlobals "_law_times" = some (some (.ref f22))) (l22 : K.lookup f22 = some ⟨oc22, od22, .func (PySem.W.fnOf "_law_times" "_law_times" (defArgs s_Ltimes) (defBody s_Ltimes) (defScope s_Ltimes) .none kV22 dc22 pm22 an22 cd22 ct22), sl22⟩) (c22 : PySem.W.codeIn K cd22 "_law_times" = true) (k22 : PySem.W.keepIn K (.ref f22) = true)
    {f23 : Addr} {od23 an23 : Option Addr} {sl23 : Array (Option Value)} {oc23 kV23 dc23 pm23 cd23 ct23 : Value}
    (a23 : PySem.W.nsIn K mainGlobals "_law_by" = some (some (.ref f23))) (l23 : K.lookup f23 = some ⟨oc23, od23, .func (PySem.W.fnOf "_law_by" "_law_by" (defArgs s_Lby) (defBody s_Lby) (defScope s_Lby) .none kV23 dc23 pm23 an23 cd23 ct23), sl23⟩) (c23 : PySem.W.codeIn K cd23 "_law_by" = true) (k23 : PySem.W.keepIn K (.ref f23) = true)
    {f24 : Addr} {od24 an24 : Option Addr} {sl24 : Array (Option Value)} {oc24 kV24 dc24 pm24 cd24 ct24 : Value}
    (a24 : PySem.W.nsIn K mainGlobals "_law_low" = some (some (.ref f24))) (l24 : K.lookup f24 = some ⟨oc24, od24, .func (PySem.W.fnOf "_law_low" "_law_low" (defArgs s_Llow) (defBody s_Llow) (defScope s_Llow) .none kV24 dc24 pm24 an24 cd24 ct24), sl24⟩) (c24 : PySem.W.codeIn K cd24 "_law_low" = true) (k24 : PySem.W.keepIn K (.ref f24) = true)
    {f25 : Addr} {od25 an25 : Option Addr} {sl25 : Array (Option Value)} {oc25 kV25 dc25 pm25 cd25 ct25 : Value}
    (a25 : PySem.W.nsIn K mainGlobals "_law_time" = some (some (.ref f25))) (l25 : K.lookup f25 = some ⟨oc25, od25, .func (PySem.W.fnOf "_law_time" "_law_time" (defArgs s_Ltime) (defBody s_Ltime) (defScope s_Ltime) .none kV25 dc25 pm25 an25 cd25 ct25), sl25⟩) (c25 : PySem.W.codeIn K cd25 "_law_time" = true) (k25 : PySem.W.keepIn K (.ref f25) = true)
    {f26 : Addr} {od26 an26 : Option Addr} {sl26 : Array (Option Value)} {oc26 kV26 dc26 pm26 cd26 ct26 : Value}
    (a26 : PySem.W.nsIn K mainGlobals "_law_pace" = some (some (.ref f26))) (l26 : K.lookup f26 = some ⟨oc26, od26, .func (PySem.W.fnOf "_law_pace" "_law_pace" (defArgs s_Lpace) (defBody s_Lpace) (defScope s_Lpace) .none kV26 dc26 pm26 an26 cd26 ct26), sl26⟩) (c26 : PySem.W.codeIn K cd26 "_law_pace" = true) (k26 : PySem.W.keepIn K (.ref f26) = true)
    {f27 : Addr} {od27 an27 : Option Addr} {sl27 : Array (Option Value)} {oc27 kV27 dc27 pm27 cd27 ct27 : Value}
    (a27 : PySem.W.nsIn K mainGlobals "_law_show" = some (some (.ref f27))) (l27 : K.lookup f27 = some ⟨oc27, od27, .func (PySem.W.fnOf "_law_show" "_law_show" (defArgs s_Lshow) (defBody s_Lshow) (defScope s_Lshow) .none kV27 dc27 pm27 an27 cd27 ct27), sl27⟩) (c27 : PySem.W.codeIn K cd27 "_law_show" = true) (k27 : PySem.W.keepIn K (.ref f27) = true)
    {f28 : Addr} {od28 an28 : Option Addr} {sl28 : Array (Option Value)} {oc28 kV28 dc28 pm28 cd28 ct28 : Value}
    (a28 : PySem.W.nsIn K mainGlobals "_law_last" = some (some (.ref f28))) (l28 : K.lookup f28 = some ⟨oc28, od28, .func (PySem.W.fnOf "_law_last" "_law_last" (defArgs s_Llast) (defBody s_Llast) (defScope s_Llast) .none kV28 dc28 pm28 an28 cd28 ct28), sl28⟩) (c28 : PySem.W.codeIn K cd28 "_law_last" = true) (k28 : PySem.W.keepIn K (.ref f28) = true)
    {f29 : Addr} {od29 an29 : Option Addr} {sl29 : Array (Option Value)} {oc29 kV29 dc29 pm29 cd29 ct29 : Value}
    (a29 : PySem.W.nsIn K mainGlobals "_law_long" = some (some (.ref f29))) (l29 : K.lookup f29 = some ⟨oc29, od29, .func (PySem.W.fnOf "_law_long" "_law_long" (defArgs s_Llong) (defBody s_Llong) (defScope s_Llong) .none kV29 dc29 pm29 an29 cd29 ct29), sl29⟩) (c29 : PySem.W.codeIn K cd29 "_law_long" = true) (k29 : PySem.W.keepIn K (.ref f29) = true)
    {f30 : Addr} {od30 an30 : Option Addr} {sl30 : Array (Option Value)} {oc30 kV30 dc30 pm30 cd30 ct30 : Value}
    (a30 : PySem.W.nsIn K mainGlobals "_law_one" = some (some (.ref f30))) (l30 : K.lookup f30 = some ⟨oc30, od30, .func (PySem.W.fnOf "_law_one" "_law_one" (defArgs s_Lone) (defBody s_Lone) (defScope s_Lone) .none kV30 dc30 pm30 an30 cd30 ct30), sl30⟩) (c30 : PySem.W.codeIn K cd30 "_law_one" = true) (k30 : PySem.W.keepIn K (.ref f30) = true)
    {f31 : Addr} {od31 an31 : Option Addr} {sl31 : Array (Option Value)} {oc31 kV31 dc31 pm31 cd31 ct31 : Value}
    (a31 : PySem.W.nsIn K mainGlobals "_law_cut" = some (some (.ref f31))) (l31 : K.lookup f31 = some ⟨oc31, od31, .func (PySem.W.fnOf "_law_cut" "_law_cut" (defArgs s_Lcut) (defBody s_Lcut) (defScope s_Lcut) .none kV31 dc31 pm31 an31 cd31 ct31), sl31⟩) (c31 : PySem.W.codeIn K cd31 "_law_cut" = true) (k31 : PySem.W.keepIn K (.ref f31) = true)
    {f32 : Addr} {od32 an32 : Option Addr} {sl32 : Array (Option Value)} {oc32 kV32 dc32 pm32 cd32 ct32 : Value}
    (a32 : PySem.W.nsIn K mainGlobals "_law_within" = some (some (.ref f32))) (l32 : K.lookup f32 = some ⟨oc32, od32, .func (PySem.W.fnOf "_law_within" "_law_within" (defArgs s_Lwithin) (defBody s_Lwithin) (defScope s_Lwithin) .none kV32 dc32 pm32 an32 cd32 ct32), sl32⟩) (c32 : PySem.W.codeIn K cd32 "_law_within" = true) (k32 : PySem.W.keepIn K (.ref f32) = true)
    {f33 : Addr} {od33 an33 : Option Addr} {sl33 : Array (Option Value)} {oc33 kV33 dc33 pm33 cd33 ct33 : Value}
    (a33 : PySem.W.nsIn K mainGlobals "_law_deed" = some (some (.ref f33))) (l33 : K.lookup f33 = some ⟨oc33, od33, .func (PySem.W.fnOf "_law_deed" "_law_deed" (defArgs s_Ldeed) (defBody s_Ldeed) (defScope s_Ldeed) .none kV33 dc33 pm33 an33 cd33 ct33), sl33⟩) (c33 : PySem.W.codeIn K cd33 "_law_deed" = true) (k33 : PySem.W.keepIn K (.ref f33) = true)
    {f34 : Addr} {od34 an34 : Option Addr} {sl34 : Array (Option Value)} {oc34 kV34 dc34 pm34 cd34 ct34 : Value}
    (a34 : PySem.W.nsIn K mainGlobals "_law_stepped" = some (some (.ref f34))) (l34 : K.lookup f34 = some ⟨oc34, od34, .func (PySem.W.fnOf "_law_stepped" "_law_stepped" (defArgs s_Lstepped) (defBody s_Lstepped) (defScope s_Lstepped) .none kV34 dc34 pm34 an34 cd34 ct34), sl34⟩) (c34 : PySem.W.codeIn K cd34 "_law_stepped" = true) (k34 : PySem.W.keepIn K (.ref f34) = true)
    {f35 : Addr} {od35 an35 : Option Addr} {sl35 : Array (Option Value)} {oc35 kV35 dc35 pm35 cd35 ct35 : Value}
    (a35 : PySem.W.nsIn K mainGlobals "_law_is_off" = some (some (.ref f35))) (l35 : K.lookup f35 = some ⟨oc35, od35, .func (PySem.W.fnOf "_law_is_off" "_law_is_off" (defArgs s_Lis_off) (defBody s_Lis_off) (defScope s_Lis_off) .none kV35 dc35 pm35 an35 cd35 ct35), sl35⟩) (c35 : PySem.W.codeIn K cd35 "_law_is_off" = true) (k35 : PySem.W.keepIn K (.ref f35) = true)
    {f36 : Addr} {od36 an36 : Option Addr} {sl36 : Array (Option Value)} {oc36 kV36 dc36 pm36 cd36 ct36 : Value}
    (a36 : PySem.W.nsIn K mainGlobals "law" = some (some (.ref f36))) (l36 : K.lookup f36 = some ⟨oc36, od36, .func (PySem.W.fnOf "law" "law" (defArgs s_law) (defBody s_law) (defScope s_law) .none kV36 dc36 pm36 an36 cd36 ct36), sl36⟩) (c36 : PySem.W.codeIn K cd36 "law" = true) (k36 : PySem.W.keepIn K (.ref f36) = true)
    (z_abs : PySem.W.nsIn K mainGlobals "abs" = some none)
    (z_list : PySem.W.nsIn K mainGlobals "list" = some none)
    (z_int : PySem.W.nsIn K mainGlobals "int" = some none)
    (z_len : PySem.W.nsIn K mainGlobals "len" = some none)
    (z_isinstance : PySem.W.nsIn K mainGlobals "isinstance" = some none)
    (z_bool : PySem.W.nsIn K mainGlobals "bool" = some none)
    (z_str : PySem.W.nsIn K mainGlobals "str" = some none)
    (z_tuple : PySem.W.nsIn K mainGlobals "tuple" = some none)
    (z_range : PySem.W.nsIn K mainGlobals "range" = some none)
    (z_ValueError : PySem.W.nsIn K mainGlobals "ValueError" = some none)
    (z_max : PySem.W.nsIn K mainGlobals "max" = some none)
    (z_min : PySem.W.nsIn K mainGlobals "min" = some none)
    {C_OffReel : Addr} (ag_OffReel : PySem.W.nsIn K mainGlobals "OffReel" = some (some (.ref C_OffReel))) (ax_OffReel : PySem.W.excIn K C_OffReel [.type "ValueError", .type "Exception", .type "BaseException", .type "object"] "ValueError.__new__" = true) (ak_OffReel : PySem.W.keepIn K (.ref C_OffReel) = true) (ab_OffReel : PySem.W.subIn K (.ref C_OffReel) (.type "BaseException") = some true) (at_OffReel : PySem.W.typeIn K (.ref C_OffReel) = some (.type "type")) (ai_OffReel : PySem.W.isClsIn K C_OffReel = true) (as_OffReel : PySem.W.subIn K (.ref C_OffReel) (.ref C_OffReel) = some true)
    {C_NoDeed : Addr} (ag_NoDeed : PySem.W.nsIn K mainGlobals "NoDeed" = some (some (.ref C_NoDeed))) (ax_NoDeed : PySem.W.excIn K C_NoDeed [.type "ValueError", .type "Exception", .type "BaseException", .type "object"] "ValueError.__new__" = true) (ak_NoDeed : PySem.W.keepIn K (.ref C_NoDeed) = true) (ab_NoDeed : PySem.W.subIn K (.ref C_NoDeed) (.type "BaseException") = some true) (at_NoDeed : PySem.W.typeIn K (.ref C_NoDeed) = some (.type "type")) (ai_NoDeed : PySem.W.isClsIn K C_NoDeed = true) (as_NoDeed : PySem.W.subIn K (.ref C_NoDeed) (.ref C_NoDeed) = some true)
    {C_ReelError : Addr} (ag_ReelError : PySem.W.nsIn K mainGlobals "ReelError" = some (some (.ref C_ReelError)))
    {C_Reel : Addr} (ag_Reel : PySem.W.nsIn K mainGlobals "Reel" = some (some (.ref C_Reel))) (pg_Reel : PySem.W.plainGet K C_Reel Str.empty = true) (hd_Reel : PySem.W.hasDictIn K C_Reel = true) (po_Reel : PySem.W.plainOver K C_Reel = true) (sa_Reel : PySem.W.findIn K (.ref C_Reel) "__setattr__" = some (some (.builtin "object.__setattr__"))) (mk_Reel : PySem.W.makesIn K C_Reel = true) (kc_Reel : PySem.W.keepIn K (.ref C_Reel) = true)
    (n_Reel_current : PySem.W.findIn K (.ref C_Reel) "current" = some none)
    (n_Reel_earlier : PySem.W.findIn K (.ref C_Reel) "earlier" = some none)
    (n_Reel_undone : PySem.W.findIn K (.ref C_Reel) "undone" = some none)
    {fm0 : Addr} {odm0 anm0 : Option Addr} {slm0 : Array (Option Value)} {ocm0 kVm0 dcm0 pmm0 cdm0 ctm0 : Value}
    (am0 : PySem.W.findIn K (.ref C_Reel) "__init__" = some (some (.ref fm0))) (im0 : PySem.W.isFn K (.ref fm0) = true) (lm0 : K.lookup fm0 = some ⟨ocm0, odm0, .func (PySem.W.fnOf "__init__" "Reel.__init__" (defArgs s_Reel___init__) (defBody s_Reel___init__) (defScope s_Reel___init__) .none kVm0 dcm0 pmm0 anm0 cdm0 ctm0), slm0⟩) (cm0 : PySem.W.codeIn K cdm0 "Reel.__init__" = true) (km0 : PySem.W.keepIn K (.ref fm0) = true)
    {fm1 : Addr} {odm1 anm1 : Option Addr} {slm1 : Array (Option Value)} {ocm1 kVm1 dcm1 pmm1 cdm1 ctm1 : Value}
    (am1 : PySem.W.findIn K (.ref C_Reel) "show" = some (some (.ref fm1))) (im1 : PySem.W.isFn K (.ref fm1) = true) (lm1 : K.lookup fm1 = some ⟨ocm1, odm1, .func (PySem.W.fnOf "show" "Reel.show" (defArgs s_Reel_show) (defBody s_Reel_show) (defScope s_Reel_show) .none kVm1 dcm1 pmm1 anm1 cdm1 ctm1), slm1⟩) (cm1 : PySem.W.codeIn K cdm1 "Reel.show" = true) (km1 : PySem.W.keepIn K (.ref fm1) = true)
    {fm2 : Addr} {odm2 anm2 : Option Addr} {slm2 : Array (Option Value)} {ocm2 kVm2 dcm2 pmm2 cdm2 ctm2 : Value}
    (am2 : PySem.W.findIn K (.ref C_Reel) "out" = some (some (.ref fm2))) (im2 : PySem.W.isFn K (.ref fm2) = true) (lm2 : K.lookup fm2 = some ⟨ocm2, odm2, .func (PySem.W.fnOf "out" "Reel.out" (defArgs s_Reel_out) (defBody s_Reel_out) (defScope s_Reel_out) .none kVm2 dcm2 pmm2 anm2 cdm2 ctm2), slm2⟩) (cm2 : PySem.W.codeIn K cdm2 "Reel.out" = true) (km2 : PySem.W.keepIn K (.ref fm2) = true)
    {fm3 : Addr} {odm3 anm3 : Option Addr} {slm3 : Array (Option Value)} {ocm3 kVm3 dcm3 pmm3 cdm3 ctm3 : Value}
    (am3 : PySem.W.findIn K (.ref C_Reel) "into" = some (some (.ref fm3))) (im3 : PySem.W.isFn K (.ref fm3) = true) (lm3 : K.lookup fm3 = some ⟨ocm3, odm3, .func (PySem.W.fnOf "into" "Reel.into" (defArgs s_Reel_into) (defBody s_Reel_into) (defScope s_Reel_into) .none kVm3 dcm3 pmm3 anm3 cdm3 ctm3), slm3⟩) (cm3 : PySem.W.codeIn K cdm3 "Reel.into" = true) (km3 : PySem.W.keepIn K (.ref fm3) = true)
    {fm4 : Addr} {odm4 anm4 : Option Addr} {slm4 : Array (Option Value)} {ocm4 kVm4 dcm4 pmm4 cdm4 ctm4 : Value}
    (am4 : PySem.W.findIn K (.ref C_Reel) "faster" = some (some (.ref fm4))) (im4 : PySem.W.isFn K (.ref fm4) = true) (lm4 : K.lookup fm4 = some ⟨ocm4, odm4, .func (PySem.W.fnOf "faster" "Reel.faster" (defArgs s_Reel_faster) (defBody s_Reel_faster) (defScope s_Reel_faster) .none kVm4 dcm4 pmm4 anm4 cdm4 ctm4), slm4⟩) (cm4 : PySem.W.codeIn K cdm4 "Reel.faster" = true) (km4 : PySem.W.keepIn K (.ref fm4) = true)
    {fm5 : Addr} {odm5 anm5 : Option Addr} {slm5 : Array (Option Value)} {ocm5 kVm5 dcm5 pmm5 cdm5 ctm5 : Value}
    (am5 : PySem.W.findIn K (.ref C_Reel) "fill" = some (some (.ref fm5))) (im5 : PySem.W.isFn K (.ref fm5) = true) (lm5 : K.lookup fm5 = some ⟨ocm5, odm5, .func (PySem.W.fnOf "fill" "Reel.fill" (defArgs s_Reel_fill) (defBody s_Reel_fill) (defScope s_Reel_fill) .none kVm5 dcm5 pmm5 anm5 cdm5 ctm5), slm5⟩) (cm5 : PySem.W.codeIn K cdm5 "Reel.fill" = true) (km5 : PySem.W.keepIn K (.ref fm5) = true)
    {fm6 : Addr} {odm6 anm6 : Option Addr} {slm6 : Array (Option Value)} {ocm6 kVm6 dcm6 pmm6 cdm6 ctm6 : Value}
    (am6 : PySem.W.findIn K (.ref C_Reel) "back" = some (some (.ref fm6))) (im6 : PySem.W.isFn K (.ref fm6) = true) (lm6 : K.lookup fm6 = some ⟨ocm6, odm6, .func (PySem.W.fnOf "back" "Reel.back" (defArgs s_Reel_back) (defBody s_Reel_back) (defScope s_Reel_back) .none kVm6 dcm6 pmm6 anm6 cdm6 ctm6), slm6⟩) (cm6 : PySem.W.codeIn K cdm6 "Reel.back" = true) (km6 : PySem.W.keepIn K (.ref fm6) = true)
    {fm7 : Addr} {odm7 anm7 : Option Addr} {slm7 : Array (Option Value)} {ocm7 kVm7 dcm7 pmm7 cdm7 ctm7 : Value}
    (am7 : PySem.W.findIn K (.ref C_Reel) "again" = some (some (.ref fm7))) (im7 : PySem.W.isFn K (.ref fm7) = true) (lm7 : K.lookup fm7 = some ⟨ocm7, odm7, .func (PySem.W.fnOf "again" "Reel.again" (defArgs s_Reel_again) (defBody s_Reel_again) (defScope s_Reel_again) .none kVm7 dcm7 pmm7 anm7 cdm7 ctm7), slm7⟩) (cm7 : PySem.W.codeIn K cdm7 "Reel.again" = true) (km7 : PySem.W.keepIn K (.ref fm7) = true)
    (hg_x_own : PySem.W.findIn K (.ref C_NoDeed) "__getattribute__" = some (some (.builtin "BaseException.__getattribute__"))) (hk_x_own : PySem.W.findIn K (.ref C_NoDeed) "__getattr__" = some none) (hs_x_own : PySem.W.subIn K (.ref C_NoDeed) (.type "BaseException") = some true) (hd_x_own : PySem.W.hasDictIn K C_NoDeed = true) (ha_x_own : PySem.W.findIn K (.ref C_NoDeed) "__class__" = some (some (.builtin "object.__class__"))) (hn_x_own : PySem.W.specialIn K (.builtin "object.__class__") "__get__" = some (some (.builtin "getset_descriptor.__get__"))) (ht_x_own : PySem.W.takesIn K (.builtin "object.__class__") = some true) (hm_x_own : PySem.W.mroIn K C_NoDeed (.type "object") = some true)
    (ys_x_reel : PySem.W.subIn K (.ref C_NoDeed) (.ref C_ReelError) = some true) (yi_x_reel : PySem.W.isClsIn K C_ReelError = true) (yt_x_reel : PySem.W.typeIn K (.ref C_ReelError) = some (.type "type")) (yn_x_reel : (Value.ref C_NoDeed == Value.ref C_ReelError) = false)
    (y_x_ve : PySem.W.subIn K (.ref C_NoDeed) (.type "ValueError") = some true)
    (ys_x_off : PySem.W.subIn K (.ref C_NoDeed) (.ref C_OffReel) = some false) (yi_x_off : PySem.W.isClsIn K C_OffReel = true) (yt_x_off : PySem.W.typeIn K (.ref C_OffReel) = some (.type "type")) (yn_x_off : (Value.ref C_NoDeed == Value.ref C_OffReel) = false)
    {p_NOUGHT : Addr} {t1_NOUGHT t2_NOUGHT : Tok} {n_NOUGHT : Nat} {od_NOUGHT : Option Addr} {sl_NOUGHT : Array (Option Value)} (y_NOUGHT : PySem.W.nsIn K mainGlobals "NOUGHT" = some (some (.ref p_NOUGHT))) (w_NOUGHT : K.lookup p_NOUGHT = some ⟨.type "tuple", od_NOUGHT, .seq #[.int 0 t1_NOUGHT, .int 1 t2_NOUGHT] n_NOUGHT, sl_NOUGHT⟩) : Txt K mg := by
  constructor
  · exact ⟨_, _, fun_mk (st := s_common_divisor) l0 c0 k0, PySem.W.mg_of X G a0, (fun_mk (st := s_common_divisor) l0 c0 k0).binds (ps := ["one", "two"]) fun _ _ _ _ _ _ us hl => match us, hl with | [_, _], _ => rfl⟩
  · exact ⟨_, _, fun_mk (st := s_made) l1 c1 k1, PySem.W.mg_of X G a1, (fun_mk (st := s_made) l1 c1 k1).binds (ps := ["top", "bottom"]) fun _ _ _ _ _ _ us hl => match us, hl with | [_, _], _ => rfl⟩
  · exact ⟨_, _, fun_mk (st := s_added) l2 c2 k2, PySem.W.mg_of X G a2, (fun_mk (st := s_added) l2 c2 k2).binds (ps := ["one", "two"]) fun _ _ _ _ _ _ us hl => match us, hl with | [_, _], _ => rfl⟩
  · exact ⟨_, _, fun_mk (st := s_less) l3 c3 k3, PySem.W.mg_of X G a3, (fun_mk (st := s_less) l3 c3 k3).binds (ps := ["one", "two"]) fun _ _ _ _ _ _ us hl => match us, hl with | [_, _], _ => rfl⟩
  · exact ⟨_, _, fun_mk (st := s_timed) l4 c4 k4, PySem.W.mg_of X G a4, (fun_mk (st := s_timed) l4 c4 k4).binds (ps := ["one", "two"]) fun _ _ _ _ _ _ us hl => match us, hl with | [_, _], _ => rfl⟩
  · exact ⟨_, _, fun_mk (st := s_over) l5 c5 k5, PySem.W.mg_of X G a5, (fun_mk (st := s_over) l5 c5 k5).binds (ps := ["one", "two"]) fun _ _ _ _ _ _ us hl => match us, hl with | [_, _], _ => rfl⟩
  · exact ⟨_, _, fun_mk (st := s_is_below) l6 c6 k6, PySem.W.mg_of X G a6, (fun_mk (st := s_is_below) l6 c6 k6).binds (ps := ["one", "two"]) fun _ _ _ _ _ _ us hl => match us, hl with | [_, _], _ => rfl⟩
  · exact ⟨_, _, fun_mk (st := s_smaller) l7 c7 k7, PySem.W.mg_of X G a7, (fun_mk (st := s_smaller) l7 c7 k7).binds (ps := ["one", "two"]) fun _ _ _ _ _ _ us hl => match us, hl with | [_, _], _ => rfl⟩
  · exact ⟨_, _, fun_mk (st := s_larger) l8 c8 k8, PySem.W.mg_of X G a8, (fun_mk (st := s_larger) l8 c8 k8).binds (ps := ["one", "two"]) fun _ _ _ _ _ _ us hl => match us, hl with | [_, _], _ => rfl⟩
  · exact ⟨_, _, fun_mk (st := s_lasting) l9 c9 k9, PySem.W.mg_of X G a9, (fun_mk (st := s_lasting) l9 c9 k9).binds (ps := ["stretch"]) fun _ _ _ _ _ _ us hl => match us, hl with | [_], _ => rfl⟩
  · exact ⟨_, _, fun_mk (st := s_timetable) l10 c10 k10, PySem.W.mg_of X G a10, (fun_mk (st := s_timetable) l10 c10 k10).binds (ps := ["show"]) fun _ _ _ _ _ _ us hl => match us, hl with | [_], _ => rfl⟩
  · exact ⟨_, _, fun_mk (st := s_length) l11 c11 k11, PySem.W.mg_of X G a11, (fun_mk (st := s_length) l11 c11 k11).binds (ps := ["show"]) fun _ _ _ _ _ _ us hl => match us, hl with | [_], _ => rfl⟩
  · exact ⟨_, _, fun_mk (st := s_normal) l12 c12 k12, PySem.W.mg_of X G a12, (fun_mk (st := s_normal) l12 c12 k12).binds (ps := ["show"]) fun _ _ _ _ _ _ us hl => match us, hl with | [_], _ => rfl⟩
  · exact ⟨_, _, fun_mk (st := s_place_in) l13 c13 k13, PySem.W.mg_of X G a13, (fun_mk (st := s_place_in) l13 c13 k13).binds (ps := ["stretch", "since"]) fun _ _ _ _ _ _ us hl => match us, hl with | [_, _], _ => rfl⟩
  · exact ⟨_, _, fun_mk (st := s_taken) l14 c14 k14, PySem.W.mg_of X G a14, (fun_mk (st := s_taken) l14 c14 k14).binds (ps := ["show", "begin", "end"]) fun _ _ _ _ _ _ us hl => match us, hl with | [_, _, _], _ => rfl⟩
  · exact ⟨_, _, fun_mk (st := s_piece) l15 c15 k15, PySem.W.mg_of X G a15, (fun_mk (st := s_piece) l15 c15 k15).binds (ps := ["stretch", "since", "until"]) fun _ _ _ _ _ _ us hl => match us, hl with | [_, _, _], _ => rfl⟩
  · exact ⟨_, _, fun_mk (st := s_Lbegun) l16 c16 k16, PySem.W.mg_of X G a16, (fun_mk (st := s_Lbegun) l16 c16 k16).binds (ps := ["_law_script"]) fun _ _ _ _ _ _ us hl => match us, hl with | [_], _ => rfl⟩
  · exact ⟨_, _, fun_mk (st := s_Ltake) l17 c17 k17, PySem.W.mg_of X G a17, (fun_mk (st := s_Ltake) l17 c17 k17).binds (ps := ["_law_box", "_law_many"]) fun _ _ _ _ _ _ us hl => match us, hl with | [_, _], _ => rfl⟩
  · exact ⟨_, _, fun_mk (st := s_Lalike) l18 c18 k18, PySem.W.mg_of X G a18, (fun_mk (st := s_Lalike) l18 c18 k18).binds (ps := ["_law_found", "_law_due"]) fun _ _ _ _ _ _ us hl => match us, hl with | [_, _], _ => rfl⟩
  · exact ⟨_, _, fun_mk (st := s_Lfr) l19 c19 k19, PySem.W.mg_of X G a19, (fun_mk (st := s_Lfr) l19 c19 k19).binds (ps := ["_law_top", "_law_bottom"]) fun _ _ _ _ _ _ us hl => match us, hl with | [_, _], _ => rfl⟩
  · exact ⟨_, _, fun_mk (st := s_Lsum) l20 c20 k20, PySem.W.mg_of X G a20, (fun_mk (st := s_Lsum) l20 c20 k20).binds (ps := ["_law_one_here", "_law_two"]) fun _ _ _ _ _ _ us hl => match us, hl with | [_, _], _ => rfl⟩
  · exact ⟨_, _, fun_mk (st := s_Lminus) l21 c21 k21, PySem.W.mg_of X G a21, (fun_mk (st := s_Lminus) l21 c21 k21).binds (ps := ["_law_one_here", "_law_two"]) fun _ _ _ _ _ _ us hl => match us, hl with | [_, _], _ => rfl⟩
  · exact ⟨_, _, fun_mk (st := s_Ltimes) l22 c22 k22, PySem.W.mg_of X G a22, (fun_mk (st := s_Ltimes) l22 c22 k22).binds (ps := ["_law_one_here", "_law_two"]) fun _ _ _ _ _ _ us hl => match us, hl with | [_, _], _ => rfl⟩
  · exact ⟨_, _, fun_mk (st := s_Lby) l23 c23 k23, PySem.W.mg_of X G a23, (fun_mk (st := s_Lby) l23 c23 k23).binds (ps := ["_law_one_here", "_law_two"]) fun _ _ _ _ _ _ us hl => match us, hl with | [_, _], _ => rfl⟩
  · exact ⟨_, _, fun_mk (st := s_Llow) l24 c24 k24, PySem.W.mg_of X G a24, (fun_mk (st := s_Llow) l24 c24 k24).binds (ps := ["_law_one_here", "_law_two"]) fun _ _ _ _ _ _ us hl => match us, hl with | [_, _], _ => rfl⟩
  · exact ⟨_, _, fun_mk (st := s_Ltime) l25 c25 k25, PySem.W.mg_of X G a25, (fun_mk (st := s_Ltime) l25 c25 k25).binds (ps := ["_law_box", "_law_most"]) fun _ _ _ _ _ _ us hl => match us, hl with | [_, _], _ => rfl⟩
  · exact ⟨_, _, fun_mk (st := s_Lpace) l26 c26 k26, PySem.W.mg_of X G a26, (fun_mk (st := s_Lpace) l26 c26 k26).binds (ps := ["_law_box"]) fun _ _ _ _ _ _ us hl => match us, hl with | [_], _ => rfl⟩
  · exact ⟨_, _, fun_mk (st := s_Lshow) l27 c27 k27, PySem.W.mg_of X G a27, (fun_mk (st := s_Lshow) l27 c27 k27).binds (ps := ["_law_box"]) fun _ _ _ _ _ _ us hl => match us, hl with | [_], _ => rfl⟩
  · exact ⟨_, _, fun_mk (st := s_Llast) l28 c28 k28, PySem.W.mg_of X G a28, (fun_mk (st := s_Llast) l28 c28 k28).binds (ps := ["_law_stretch"]) fun _ _ _ _ _ _ us hl => match us, hl with | [_], _ => rfl⟩
  · exact ⟨_, _, fun_mk (st := s_Llong) l29 c29 k29, PySem.W.mg_of X G a29, (fun_mk (st := s_Llong) l29 c29 k29).binds (ps := ["_law_show_here"]) fun _ _ _ _ _ _ us hl => match us, hl with | [_], _ => rfl⟩
  · exact ⟨_, _, fun_mk (st := s_Lone) l30 c30 k30, PySem.W.mg_of X G a30, (fun_mk (st := s_Lone) l30 c30 k30).binds (ps := ["_law_show_here"]) fun _ _ _ _ _ _ us hl => match us, hl with | [_], _ => rfl⟩
  · exact ⟨_, _, fun_mk (st := s_Lcut) l31 c31 k31, PySem.W.mg_of X G a31, (fun_mk (st := s_Lcut) l31 c31 k31).binds (ps := ["_law_show_here", "_law_begin", "_law_end"]) fun _ _ _ _ _ _ us hl => match us, hl with | [_, _, _], _ => rfl⟩
  · exact ⟨_, _, fun_mk (st := s_Lwithin) l32 c32 k32, PySem.W.mg_of X G a32, (fun_mk (st := s_Lwithin) l32 c32 k32).binds (ps := ["_law_box", "_law_most"]) fun _ _ _ _ _ _ us hl => match us, hl with | [_, _], _ => rfl⟩
  · exact ⟨_, _, fun_mk (st := s_Ldeed) l33 c33 k33, PySem.W.mg_of X G a33, (fun_mk (st := s_Ldeed) l33 c33 k33).binds (ps := ["_law_box", "_law_reel", "_law_show_here"]) fun _ _ _ _ _ _ us hl => match us, hl with | [_, _, _], _ => rfl⟩
  · exact ⟨_, _, fun_mk (st := s_Lstepped) l34 c34 k34, PySem.W.mg_of X G a34, (fun_mk (st := s_Lstepped) l34 c34 k34).binds (ps := ["_law_work"]) fun _ _ _ _ _ _ us hl => match us, hl with | [_], _ => rfl⟩
  · exact ⟨_, _, fun_mk (st := s_Lis_off) l35 c35 k35, PySem.W.mg_of X G a35, (fun_mk (st := s_Lis_off) l35 c35 k35).binds (ps := ["_law_reel", "_law_way", "_law_whole"]) fun _ _ _ _ _ _ us hl => match us, hl with | [_, _, _], _ => rfl⟩
  · exact ⟨_, _, fun_mk (st := s_law) l36 c36 k36, PySem.W.mg_of X G a36, (fun_mk (st := s_law) l36 c36 k36).binds (ps := ["_law_script"]) fun _ _ _ _ _ _ us hl => match us, hl with | [_], _ => rfl⟩
  · exact PySem.W.mg_none_of X G z_abs
  · exact PySem.W.mg_none_of X G z_list
  · exact PySem.W.mg_none_of X G z_int
  · exact PySem.W.mg_none_of X G z_len
  · exact PySem.W.mg_none_of X G z_isinstance
  · exact PySem.W.mg_none_of X G z_bool
  · exact PySem.W.mg_none_of X G z_str
  · exact PySem.W.mg_none_of X G z_tuple
  · exact PySem.W.mg_none_of X G z_range
  · exact PySem.W.mg_none_of X G z_ValueError
  · exact PySem.W.mg_none_of X G z_max
  · exact PySem.W.mg_none_of X G z_min
  · exact ⟨C_OffReel, PySem.W.mg_of X G ag_OffReel, ax_OffReel, ak_OffReel, ab_OffReel, at_OffReel, exm_gen ab_OffReel ai_OffReel at_OffReel as_OffReel⟩
  · exact ⟨C_NoDeed, PySem.W.mg_of X G ag_NoDeed, ax_NoDeed, ak_NoDeed, ab_NoDeed, at_NoDeed, exm_gen ab_NoDeed ai_NoDeed at_NoDeed as_NoDeed⟩
  · exact ⟨C_ReelError, PySem.W.mg_of X G ag_ReelError⟩
  · exact ⟨C_Reel, ⟨PySem.W.mg_of X G ag_Reel, ⟨pg_Reel, hd_Reel, po_Reel, sa_Reel⟩, mk_Reel, kc_Reel⟩, n_Reel_current, n_Reel_earlier, n_Reel_undone, ⟨_, _, fun_mk (st := s_Reel___init__) lm0 cm0 km0, ⟨am0, im0, km0⟩, (fun_mk (st := s_Reel___init__) lm0 cm0 km0).binds (ps := ["self", "show"]) fun _ _ _ _ _ _ us hl => match us, hl with | [_, _], _ => rfl⟩, ⟨_, _, fun_mk (st := s_Reel_show) lm1 cm1 km1, ⟨am1, im1, km1⟩, (fun_mk (st := s_Reel_show) lm1 cm1 km1).binds (ps := ["self"]) fun _ _ _ _ _ _ us hl => match us, hl with | [_], _ => rfl⟩, ⟨_, _, fun_mk (st := s_Reel_out) lm2 cm2 km2, ⟨am2, im2, km2⟩, (fun_mk (st := s_Reel_out) lm2 cm2 km2).binds (ps := ["self", "begin", "end"]) fun _ _ _ _ _ _ us hl => match us, hl with | [_, _, _], _ => rfl⟩, ⟨_, _, fun_mk (st := s_Reel_into) lm3 cm3 km3, ⟨am3, im3, km3⟩, (fun_mk (st := s_Reel_into) lm3 cm3 km3).binds (ps := ["self", "time", "other"]) fun _ _ _ _ _ _ us hl => match us, hl with | [_, _, _], _ => rfl⟩, ⟨_, _, fun_mk (st := s_Reel_faster) lm4 cm4 km4, ⟨am4, im4, km4⟩, (fun_mk (st := s_Reel_faster) lm4 cm4 km4).binds (ps := ["self", "begin", "end", "factor"]) fun _ _ _ _ _ _ us hl => match us, hl with | [_, _, _, _], _ => rfl⟩, ⟨_, _, fun_mk (st := s_Reel_fill) lm5 cm5 km5, ⟨am5, im5, km5⟩, (fun_mk (st := s_Reel_fill) lm5 cm5 km5).binds (ps := ["self", "begin", "end", "stretches"]) fun _ _ _ _ _ _ us hl => match us, hl with | [_, _, _, _], _ => rfl⟩, ⟨_, _, fun_mk (st := s_Reel_back) lm6 cm6 km6, ⟨am6, im6, km6⟩, (fun_mk (st := s_Reel_back) lm6 cm6 km6).binds (ps := ["self"]) fun _ _ _ _ _ _ us hl => match us, hl with | [_], _ => rfl⟩, ⟨_, _, fun_mk (st := s_Reel_again) lm7 cm7 km7, ⟨am7, im7, km7⟩, (fun_mk (st := s_Reel_again) lm7 cm7 km7).binds (ps := ["self"]) fun _ _ _ _ _ _ us hl => match us, hl with | [_], _ => rfl⟩⟩
  · intro C h1; cases h1.symm.trans (PySem.W.mg_of X G ag_NoDeed); exact ⟨hg_x_own, hk_x_own, hs_x_own, hd_x_own, ha_x_own, hn_x_own, ht_x_own, hm_x_own⟩
  · intro C C2 h1 h2; cases h1.symm.trans (PySem.W.mg_of X G ag_NoDeed); cases h2.symm.trans (PySem.W.mg_of X G ag_ReelError); exact kit_gen ys_x_reel yi_x_reel yt_x_reel yn_x_reel
  · intro C h1; cases h1.symm.trans (PySem.W.mg_of X G ag_NoDeed); exact kit_ve y_x_ve
  · intro C C2 h1 h2; cases h1.symm.trans (PySem.W.mg_of X G ag_NoDeed); cases h2.symm.trans (PySem.W.mg_of X G ag_OffReel); exact kit_gen ys_x_off yi_x_off yt_x_off yn_x_off
  · exact ⟨p_NOUGHT, ⟨_, PySem.W.mg_of X G y_NOUGHT, rfl⟩, fun H => .inr ⟨_, _, _, w_NOUGHT, rfl, rfl, (show 2 ≤ sizeLine by decide), .cons ⟨_, rfl⟩ (.cons ⟨_, rfl⟩ .nil)⟩⟩
theorem law_mk {l : PySem.W.OpenLaw} {w : World} {K : PySem.W.Frag} {h : Heap} {mg : Str → Option Value} {fa f2 : Addr} (X : K.In h) (G : h.Ns mainGlobals mg) (hfa : mg "law" = some (.ref fa)) (T : Txt K mg)
    {od2 an2 : Option Addr} {sl2 : Array (Option Value)} {oc2 kV2 dc2 pm2 ct2 : Value} {c P0 : Addr}
    (a2 : PySem.W.nsIn K mainGlobals "law" = some (some (.ref f2))) (l2 : K.lookup f2 = some ⟨oc2, od2, .func (PySem.W.fnOf "law" "law" (defArgs s_law) (defBody s_law) (defScope s_law) .none kV2 dc2 pm2 an2 (.ref c) ct2), sl2⟩) (c2 : PySem.W.codeIn K (.ref c) "law" = true) (k2 : PySem.W.keepIn K (.ref f2) = true)
    (tabs : ∀ f, mg "law" = some (.ref f) → LamX.OwnTab K f h)
    {e3 : Value} {dd3 : Option Addr} {vs3 : Array Value} {sl4 : Array (Option Value)} (m3 : K.lookup c = some ⟨e3, dd3, .fields vs3, sl4⟩) (p3 : vs3[11]? = some (.ref P0)) (n3 : K.lookup P0 = none) (h3 : PySem.W.codeHdIn K c P0 = true) :
    LamX.LawAtS l w K CX0 10 63 "_law_script" mg fa h := by
  have e := hfa.symm.trans (PySem.W.mg_of X G a2)
  cases e
  have tP := tabs _ hfa c P0 _ _ _ _ _ _ l2 rfl rfl m3 p3
  refine ⟨PySem.W.fnOf "law" "law" (defArgs s_law) (defBody s_law) (defScope s_law) .none kV2 dc2 pm2 an2 (.ref c) ct2, [(c, P0)], spLaw K P0, fun p hp => ?_, fun p hp => ?_, fun p hp => ?_, fun s v => .of_eq rfl, fun H a ns hl hbits hT hS => ?_, fun base _ _ tb => ?_⟩
  · rw [List.mem_singleton.mp hp]
    exact tP
  · rw [List.mem_singleton.mp hp]
    exact n3
  · rw [List.mem_singleton.mp hp]
    exact PySem.W.codeHd_of_K X h3
  · exact ⟨a, ns, rfl, hS, hl, LamX.TabS.nil (hT _ (List.mem_singleton.mpr rfl)), fun _ => rfl⟩
  · have t := tb _ (List.mem_singleton.mpr rfl)
    exact ok_law l2 c2 T ⟨t.code, t.bm, t.gP⟩
end R
open PySem PySem.W PyProof.Rows
set_option maxHeartbeats 0 in
theorem PySem.Challenge.cw_reels_k08_whole_undone_holds : PySem.Challenge.rw_reels_k08_whole_undone.Holds := by
  w_on; o_law; k_head; (case hw => w_witness2)
  k_fill
  refine R.walk_tab (l := PySem.Challenge.rw_reels_k08_whole_undone) (n := 63) (k := 10) (x := "_law_script") (CX := fun _ => L2.CX0) "law" rfl (by decide) rfl ⟨rfl, by decide, by decide⟩ ?R (fun w h Y => PySem.W.km_in_of Y) ?F (fun _ _ _ _ _ h => h)
  case R => first | rfl | decide +kernel
  case F =>
    intro w mg fa h KX G hmg tabs
    refine' R.law_mk KX G hmg (R.txt_mk KX G ?a0 ?l0 ?c0 ?k0 ?a1 ?l1 ?c1 ?k1 ?a2 ?l2 ?c2 ?k2 ?a3 ?l3 ?c3 ?k3 ?a4 ?l4 ?c4 ?k4 ?a5 ?l5 ?c5 ?k5 ?a6 ?l6 ?c6 ?k6 ?a7 ?l7 ?c7 ?k7 ?a8 ?l8 ?c8 ?k8 ?a9 ?l9 ?c9 ?k9 ?a10 ?l10 ?c10 ?k10 ?a11 ?l11 ?c11 ?k11 ?a12 ?l12 ?c12 ?k12 ?a13 ?l13 ?c13 ?k13 ?a14 ?l14 ?c14 ?k14 ?a15 ?l15 ?c15 ?k15 ?a16 ?l16 ?c16 ?k16 ?a17 ?l17 ?c17 ?k17 ?a18 ?l18 ?c18 ?k18 ?a19 ?l19 ?c19 ?k19 ?a20 ?l20 ?c20 ?k20 ?a21 ?l21 ?c21 ?k21 ?a22 ?l22 ?c22 ?k22 ?a23 ?l23 ?c23 ?k23 ?a24 ?l24 ?c24 ?k24 ?a25 ?l25 ?c25 ?k25 ?a26 ?l26 ?c26 ?k26 ?a27 ?l27 ?c27 ?k27 ?a28 ?l28 ?c28 ?k28 ?a29 ?l29 ?c29 ?k29 ?a30 ?l30 ?c30 ?k30 ?a31 ?l31 ?c31 ?k31 ?a32 ?l32 ?c32 ?k32 ?a33 ?l33 ?c33 ?k33 ?a34 ?l34 ?c34 ?k34 ?a35 ?l35 ?c35 ?k35 ?a36 ?l36 ?c36 ?k36 ?z_abs ?z_list ?z_int ?z_len ?z_isinstance ?z_bool ?z_str ?z_tuple ?z_range ?z_ValueError ?z_max ?z_min ?ag_OffReel ?ax_OffReel ?ak_OffReel ?ab_OffReel ?at_OffReel ?ai_OffReel ?as_OffReel ?ag_NoDeed ?ax_NoDeed ?ak_NoDeed ?ab_NoDeed ?at_NoDeed ?ai_NoDeed ?as_NoDeed ?ag_ReelError ?ag_Reel ?pg_Reel ?hd_Reel ?po_Reel ?sa_Reel ?mk_Reel ?kc_Reel ?n_Reel_current ?n_Reel_earlier ?n_Reel_undone ?am0 ?im0 ?lm0 ?cm0 ?km0 ?am1 ?im1 ?lm1 ?cm1 ?km1 ?am2 ?im2 ?lm2 ?cm2 ?km2 ?am3 ?im3 ?lm3 ?cm3 ?km3 ?am4 ?im4 ?lm4 ?cm4 ?km4 ?am5 ?im5 ?lm5 ?cm5 ?km5 ?am6 ?im6 ?lm6 ?cm6 ?km6 ?am7 ?im7 ?lm7 ?cm7 ?km7 ?hg_x_own ?hk_x_own ?hs_x_own ?hd_x_own ?ha_x_own ?hn_x_own ?ht_x_own ?hm_x_own ?ys_x_reel ?yi_x_reel ?yt_x_reel ?yn_x_reel ?y_x_ve ?ys_x_off ?yi_x_off ?yt_x_off ?yn_x_off ?y_NOUGHT ?w_NOUGHT) ?ra ?rl ?rc ?rk tabs ?rm ?rp ?rn ?rh
    (case ra => k_is); (case rl => k_is); (case rc => k_is); (case rk => k_is); (case rm => k_is); (case rp => rfl); (case rn => first | k_is | rfl); (case rh => first | k_is | rfl)
    (case a0 => k_is); (case l0 => k_is); (case c0 => k_is); (case k0 => k_is); (case a1 => k_is); (case l1 => k_is); (case c1 => k_is); (case k1 => k_is); (case a2 => k_is); (case l2 => k_is); (case c2 => k_is); (case k2 => k_is); (case a3 => k_is); (case l3 => k_is); (case c3 => k_is); (case k3 => k_is); (case a4 => k_is); (case l4 => k_is); (case c4 => k_is); (case k4 => k_is); (case a5 => k_is); (case l5 => k_is); (case c5 => k_is); (case k5 => k_is); (case a6 => k_is); (case l6 => k_is); (case c6 => k_is); (case k6 => k_is); (case a7 => k_is); (case l7 => k_is); (case c7 => k_is); (case k7 => k_is); (case a8 => k_is); (case l8 => k_is); (case c8 => k_is); (case k8 => k_is); (case a9 => k_is); (case l9 => k_is); (case c9 => k_is); (case k9 => k_is); (case a10 => k_is); (case l10 => k_is); (case c10 => k_is); (case k10 => k_is); (case a11 => k_is); (case l11 => k_is); (case c11 => k_is); (case k11 => k_is); (case a12 => k_is); (case l12 => k_is); (case c12 => k_is); (case k12 => k_is); (case a13 => k_is); (case l13 => k_is); (case c13 => k_is); (case k13 => k_is); (case a14 => k_is); (case l14 => k_is); (case c14 => k_is); (case k14 => k_is); (case a15 => k_is); (case l15 => k_is); (case c15 => k_is); (case k15 => k_is); (case a16 => k_is); (case l16 => k_is); (case c16 => k_is); (case k16 => k_is); (case a17 => k_is); (case l17 => k_is); (case c17 => k_is); (case k17 => k_is); (case a18 => k_is); (case l18 => k_is); (case c18 => k_is); (case k18 => k_is); (case a19 => k_is); (case l19 => k_is); (case c19 => k_is); (case k19 => k_is); (case a20 => k_is); (case l20 => k_is); (case c20 => k_is); (case k20 => k_is); (case a21 => k_is); (case l21 => k_is); (case c21 => k_is); (case k21 => k_is); (case a22 => k_is); (case l22 => k_is); (case c22 => k_is); (case k22 => k_is); (case a23 => k_is); (case l23 => k_is); (case c23 => k_is); (case k23 => k_is); (case a24 => k_is); (case l24 => k_is); (case c24 => k_is); (case k24 => k_is); (case a25 => k_is); (case l25 => k_is); (case c25 => k_is); (case k25 => k_is); (case a26 => k_is); (case l26 => k_is); (case c26 => k_is); (case k26 => k_is); (case a27 => k_is); (case l27 => k_is); (case c27 => k_is); (case k27 => k_is); (case a28 => k_is); (case l28 => k_is); (case c28 => k_is); (case k28 => k_is); (case a29 => k_is); (case l29 => k_is); (case c29 => k_is); (case k29 => k_is); (case a30 => k_is); (case l30 => k_is); (case c30 => k_is); (case k30 => k_is); (case a31 => k_is); (case l31 => k_is); (case c31 => k_is); (case k31 => k_is); (case a32 => k_is); (case l32 => k_is); (case c32 => k_is); (case k32 => k_is); (case a33 => k_is); (case l33 => k_is); (case c33 => k_is); (case k33 => k_is); (case a34 => k_is); (case l34 => k_is); (case c34 => k_is); (case k34 => k_is); (case a35 => k_is); (case l35 => k_is); (case c35 => k_is); (case k35 => k_is); (case a36 => k_is); (case l36 => k_is); (case c36 => k_is); (case k36 => k_is)
    (case z_abs => k_is); (case z_list => k_is); (case z_int => k_is); (case z_len => k_is); (case z_isinstance => k_is); (case z_bool => k_is); (case z_str => k_is); (case z_tuple => k_is); (case z_range => k_is); (case z_ValueError => k_is); (case z_max => k_is); (case z_min => k_is)
    (case ag_OffReel => k_is); (case ax_OffReel => k_exc); (case ak_OffReel => k_is); (case ab_OffReel => k_is); (case at_OffReel => k_is); (case ai_OffReel => k_is); (case as_OffReel => first | rfl | k_is)
    (case ag_NoDeed => k_is); (case ax_NoDeed => k_exc); (case ak_NoDeed => k_is); (case ab_NoDeed => k_is); (case at_NoDeed => k_is); (case ai_NoDeed => k_is); (case as_NoDeed => first | rfl | k_is)
    (case ag_ReelError => k_is)
    (case ag_Reel => k_is); (case pg_Reel => k_is); (case hd_Reel => k_is); (case po_Reel => k_is); (case sa_Reel => k_is); (case mk_Reel => k_is); (case kc_Reel => k_is); (case n_Reel_current => k_is); (case n_Reel_earlier => k_is); (case n_Reel_undone => k_is); (case am0 => k_is); (case im0 => k_is); (case lm0 => k_is); (case cm0 => k_is); (case km0 => k_is); (case am1 => k_is); (case im1 => k_is); (case lm1 => k_is); (case cm1 => k_is); (case km1 => k_is); (case am2 => k_is); (case im2 => k_is); (case lm2 => k_is); (case cm2 => k_is); (case km2 => k_is); (case am3 => k_is); (case im3 => k_is); (case lm3 => k_is); (case cm3 => k_is); (case km3 => k_is); (case am4 => k_is); (case im4 => k_is); (case lm4 => k_is); (case cm4 => k_is); (case km4 => k_is); (case am5 => k_is); (case im5 => k_is); (case lm5 => k_is); (case cm5 => k_is); (case km5 => k_is); (case am6 => k_is); (case im6 => k_is); (case lm6 => k_is); (case cm6 => k_is); (case km6 => k_is); (case am7 => k_is); (case im7 => k_is); (case lm7 => k_is); (case cm7 => k_is); (case km7 => k_is)
    (case hg_x_own => k_is); (case hk_x_own => k_is); (case hs_x_own => k_is); (case hd_x_own => k_is); (case ha_x_own => k_is); (case hn_x_own => k_is); (case ht_x_own => k_is); (case hm_x_own => k_is)
    (case ys_x_reel => first | rfl | k_is); (case yi_x_reel => first | rfl | k_is); (case yt_x_reel => first | rfl | k_is); (case yn_x_reel => first | rfl | k_is)
    (case y_x_ve => k_is)
    (case ys_x_off => first | rfl | k_is); (case yi_x_off => first | rfl | k_is); (case yt_x_off => first | rfl | k_is); (case yn_x_off => first | rfl | k_is)
    (case y_NOUGHT => k_is); (case w_NOUGHT => k_is)
