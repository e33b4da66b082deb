import PyProof.Rows.All
import Wide.All
import OpenK.AllK
import Wide.FinOn
import HandS.ForMost
import HandS.IsInst
import HandS.Wide
import HandS.FStr
import PyProof.FString3
import PyProof.Rows.StrIntSpec
import HandS.Sort
import HandS.SortOrd
import KE.SortData
import KE.SortKeyHeap
import HandS.ForExc
import HandS.ExcIs
import HandS.AnyAll
import HandS.EndTab
import HandS.EndOwn
import KE.KNestM
import HandS.Nested
import HandS.Words
import HandS.Evl
import HandS.Lambda
import PySem.Challenge.RW_reels_k13_whole_one_again
set_option Elab.async false
set_option linter.all false
set_option maxRecDepth 100000
set_option maxHeartbeats 4000000
namespace R
/-! the greatest common divisor as the loops reckon it, and fractions as Rat -/
theorem fmod_nat (a b : Nat) : ((a : Int).fmod (b : Int)) = ((a % b : Nat) : Int) := by
  rw [Int.fmod_eq_emod_of_nonneg _ (by omega)]
  rfl
theorem gcd_turn (a b : Nat) : Nat.gcd b (a % b) = Nat.gcd a b := by
  rw [Nat.gcd_comm a b, Nat.gcd_rec b a, Nat.gcd_comm]
theorem gcd_pos {t b : Int} (h : b ≠ 0) : 0 < Nat.gcd t.natAbs b.natAbs := Nat.gcd_pos_of_pos_right _ (by omega)
theorem abs_nat (i : Int) : (if i < 0 then -i else i) = (i.natAbs : Int) := by
  split <;> omega
def frI (t b : Int) : Int := if b < 0 then -(Nat.gcd t.natAbs b.natAbs : Int) else (Nat.gcd t.natAbs b.natAbs : Int)
theorem frI_ne {t b : Int} (h : b ≠ 0) : frI t b ≠ 0 := by
  have := gcd_pos (t := t) h
  unfold frI
  split <;> omega
theorem frI_dt (t b : Int) : frI t b ∣ t := by
  have h : ((Nat.gcd t.natAbs b.natAbs : Nat) : Int) ∣ t := Int.ofNat_dvd_left.mpr (Nat.gcd_dvd_left _ _)
  unfold frI
  split
  · exact Int.neg_dvd.mpr h
  · exact h
theorem frI_db (t b : Int) : frI t b ∣ b := by
  have h : ((Nat.gcd t.natAbs b.natAbs : Nat) : Int) ∣ b := Int.ofNat_dvd_left.mpr (Nat.gcd_dvd_right _ _)
  unfold frI
  split
  · exact Int.neg_dvd.mpr h
  · exact h
theorem gcd_eq (t b : Int) : (b.gcd t) = Nat.gcd t.natAbs b.natAbs := by
  unfold Int.gcd
  exact Nat.gcd_comm _ _
theorem fdiv_exact {t d : Int} (hd : d ≠ 0) (h : d ∣ t) : t.fdiv d = t / d := by
  obtain ⟨k, rfl⟩ := h
  rw [Int.mul_fdiv_cancel_left _ hd, Int.mul_ediv_cancel_left _ hd]
theorem fr_num {t b : Int} (h : b ≠ 0) : t.fdiv (frI t b) = (Rat.divInt t b).num := by
  rw [fdiv_exact (frI_ne h) (frI_dt t b), Rat.num_divInt, gcd_eq]
  unfold frI
  split
  · rename_i h0
    rw [Int.sign_eq_neg_one_of_neg h0, Int.ediv_neg, Int.neg_one_mul]
    have hd : ((Nat.gcd t.natAbs b.natAbs : Nat) : Int) ∣ t := Int.ofNat_dvd_left.mpr (Nat.gcd_dvd_left _ _)
    rw [Int.neg_ediv_of_dvd hd]
  · rename_i h0
    rw [Int.sign_eq_one_of_pos (by omega), Int.one_mul]
theorem fr_den {t b : Int} (h : b ≠ 0) : b.fdiv (frI t b) = ((Rat.divInt t b).den : Int) := by
  rw [fdiv_exact (frI_ne h) (frI_db t b), Rat.den_divInt, gcd_eq, if_neg h]
  unfold frI
  split
  · rename_i h0
    rw [Int.ediv_neg]
    have hd : ((Nat.gcd t.natAbs b.natAbs : Nat) : Int) ∣ b := Int.ofNat_dvd_left.mpr (Nat.gcd_dvd_right _ _)
    rw [← Int.neg_ediv_of_dvd hd, show -b = ((b.natAbs : Nat) : Int) by omega, ← Int.natCast_ediv]
  · rename_i h0
    rw [show (b / ((Nat.gcd t.natAbs b.natAbs : Nat) : Int)) = (((b.natAbs : Nat) : Int) / ((Nat.gcd t.natAbs b.natAbs : Nat) : Int)) by
      rw [show ((b.natAbs : Nat) : Int) = b by omega], ← Int.natCast_ediv]
theorem frI_natAbs {t b : Int} (h : b ≠ 0) : (frI t b).natAbs ≤ b.natAbs := by
  have h1 : Nat.gcd t.natAbs b.natAbs ≤ b.natAbs := Nat.gcd_le_right _ (by omega)
  unfold frI
  split <;> omega
/-! sums and products of fractions by their parts -/
theorem den_ne (x : Rat) : ((x.den : Nat) : Int) ≠ 0 := by
  have := x.den_nz
  omega
theorem den_pos (x : Rat) : (0 : Int) < ((x.den : Nat) : Int) := by
  have := x.den_nz
  omega
theorem add_parts (x y : Rat) : Rat.divInt (x.num * y.den + y.num * x.den) ((x.den : Int) * y.den) = x + y := by
  conv => rhs; rw [← Rat.num_divInt_den x, ← Rat.num_divInt_den y]
  rw [Rat.divInt_add_divInt _ _ (den_ne x) (den_ne y)]
theorem sub_parts (x y : Rat) : Rat.divInt (x.num * y.den - y.num * x.den) ((x.den : Int) * y.den) = x - y := by
  conv => rhs; rw [← Rat.num_divInt_den x, ← Rat.num_divInt_den y]
  rw [Rat.divInt_sub_divInt _ _ (den_ne x) (den_ne y)]
theorem mul_parts (x y : Rat) : Rat.divInt (x.num * y.num) ((x.den : Int) * y.den) = x * y := by
  conv => rhs; rw [← Rat.num_divInt_den x, ← Rat.num_divInt_den y]
  rw [Rat.divInt_mul_divInt]
theorem div_parts (x y : Rat) : Rat.divInt (x.num * y.den) ((x.den : Int) * y.num) = x / y := by
  rw [Rat.div_def, Rat.inv_def]
  conv => rhs; rw [← Rat.num_divInt_den x]
  rw [Rat.divInt_mul_divInt]
theorem lt_parts (x y : Rat) : decide (x.num * y.den < y.num * x.den) = decide (x < y) := by
  rw [decide_eq_decide, Rat.lt_iff]
/-! sizes -/
structure Sz (n : Nat) (x : Rat) : Prop where
  num : x.num.natAbs < 2 ^ n
  den : x.den < 2 ^ n
theorem Sz.mono {n m : Nat} {x : Rat} (h : Sz n x) (k : n ≤ m) : Sz m x :=
  ⟨Nat.lt_of_lt_of_le h.num (Nat.pow_le_pow_right (by decide) k), Nat.lt_of_lt_of_le h.den (Nat.pow_le_pow_right (by decide) k)⟩
theorem divInt_num_le (t b : Int) : (Rat.divInt t b).num.natAbs ≤ t.natAbs := by
  by_cases h : b = 0
  · subst h
    rw [Rat.divInt_zero]
    exact Nat.zero_le _
  · rw [← fr_num h, fdiv_exact (frI_ne h) (frI_dt t b)]
    exact Int.natAbs_ediv_le_natAbs _ _
theorem divInt_den_le {t b : Int} (h : b ≠ 0) : (Rat.divInt t b).den ≤ b.natAbs := by
  rw [Rat.den_divInt, if_neg h]
  exact Nat.div_le_self _ _
theorem sz_divInt {n : Nat} {t b : Int} (ht : t.natAbs < 2 ^ n) (hb : b.natAbs < 2 ^ n) (h : b ≠ 0) : Sz n (Rat.divInt t b) :=
  ⟨Nat.lt_of_le_of_lt (divInt_num_le t b) ht, Nat.lt_of_le_of_lt (divInt_den_le h) hb⟩
theorem mul_bits {i j : Int} {a b : Nat} (ha : i.natAbs < 2 ^ a) (hb : j.natAbs < 2 ^ b) : (i * j).natAbs < 2 ^ (a + b) := by
  rw [Int.natAbs_mul, Nat.pow_add]
  exact Nat.mul_lt_mul'' ha hb
theorem add_bits {i j : Int} {a : Nat} (ha : i.natAbs < 2 ^ a) (hb : j.natAbs < 2 ^ a) : (i + j).natAbs < 2 ^ (a + 1) := by
  have : (i + j).natAbs ≤ i.natAbs + j.natAbs := Int.natAbs_add_le _ _
  rw [Nat.pow_succ]
  omega
theorem sub_bits {i j : Int} {a : Nat} (ha : i.natAbs < 2 ^ a) (hb : j.natAbs < 2 ^ a) : (i - j).natAbs < 2 ^ (a + 1) := by
  rw [Int.sub_eq_add_neg]
  exact add_bits ha (by omega)
theorem Sz.den' {n : Nat} {x : Rat} (h : Sz n x) : ((x.den : Nat) : Int).natAbs < 2 ^ n := h.den
theorem den_mul_ne (x y : Rat) : ((x.den : Int) * y.den) ≠ 0 := Int.mul_ne_zero (den_ne x) (den_ne y)
theorem up1 {i : Int} {a : Nat} (h : i.natAbs < 2 ^ a) : i.natAbs < 2 ^ (a + 1) := Nat.lt_of_lt_of_le h (Nat.pow_le_pow_right (by decide) (by omega))
theorem sz_add {n m : Nat} {x y : Rat} (hx : Sz n x) (hy : Sz m y) : Sz (n + m + 1) (x + y) := by
  rw [← add_parts]
  refine sz_divInt (add_bits (mul_bits hx.num hy.den') ?_) (up1 (mul_bits hx.den' hy.den')) (den_mul_ne x y)
  rw [Nat.add_comm n m]
  exact mul_bits hy.num hx.den'
theorem sz_sub {n m : Nat} {x y : Rat} (hx : Sz n x) (hy : Sz m y) : Sz (n + m + 1) (x - y) := by
  rw [← sub_parts]
  refine sz_divInt (sub_bits (mul_bits hx.num hy.den') ?_) (up1 (mul_bits hx.den' hy.den')) (den_mul_ne x y)
  rw [Nat.add_comm n m]
  exact mul_bits hy.num hx.den'
theorem sz_mul {n m : Nat} {x y : Rat} (hx : Sz n x) (hy : Sz m y) : Sz (n + m) (x * y) := by
  rw [← mul_parts]
  exact sz_divInt (mul_bits hx.num hy.num) (mul_bits hx.den' hy.den') (den_mul_ne x y)
theorem num_ne {y : Rat} (h : y ≠ 0) : y.num ≠ 0 := fun e => h (Rat.num_eq_zero.mp e)
theorem sz_div {n m : Nat} {x y : Rat} (hx : Sz n x) (hy : Sz m y) (h : y ≠ 0) : Sz (n + m) (x / y) := by
  rw [← div_parts]
  exact sz_divInt (mul_bits hx.num hy.den') (mul_bits hx.den' hy.num) (Int.mul_ne_zero (den_ne x) (num_ne h))
theorem sz_int {n : Nat} {i : Int} (hn : 0 < n) (h : i.natAbs < 2 ^ n) : Sz n (i : Rat) :=
  ⟨h, by
    show 1 < 2 ^ n
    exact Nat.one_lt_two_pow (by omega)⟩
/-! the sum as it is reckoned by what the bottoms have in common -/
theorem add_split (x y : Rat) : (x + y).num = (x.num * ((y.den / (x.den.gcd y.den) : Nat) : Int) + y.num * ((x.den / (x.den.gcd y.den) : Nat) : Int)) / (((x.num * ((y.den / (x.den.gcd y.den) : Nat) : Int) + y.num * ((x.den / (x.den.gcd y.den) : Nat) : Int)).natAbs.gcd (x.den.gcd y.den) : Nat) : Int) ∧
   (x + y).den = x.den / (x.den.gcd y.den) * (y.den / ((x.num * ((y.den / (x.den.gcd y.den) : Nat) : Int) + y.num * ((x.den / (x.den.gcd y.den) : Nat) : Int)).natAbs.gcd (x.den.gcd y.den))) := by
  have e : x + y = Rat.add x y := rfl
  rw [e]
  unfold Rat.add
  dsimp only
  by_cases hg : x.den.gcd y.den = 1
  · rw [dif_pos hg]
    constructor
    · show x.num * (y.den : Int) + y.num * (x.den : Int) = _
      rw [hg, Nat.div_one, Nat.div_one, Nat.gcd_one_right]
      exact (Int.ediv_one _).symm
    · show x.den * y.den = _
      rw [hg, Nat.div_one, Nat.div_one, Nat.gcd_one_right, Nat.div_one]
  · rw [dif_neg hg]
    unfold Rat.maybeNormalize
    split
    · rename_i h1
      refine ⟨?_, ?_⟩
      · show x.num * ((y.den / (x.den.gcd y.den) : Nat) : Int) + y.num * ((x.den / (x.den.gcd y.den) : Nat) : Int) = _
        rw [h1]
        exact (Int.ediv_one _).symm
      · show x.den / (x.den.gcd y.den) * y.den = _
        rw [h1, Nat.div_one]
    · refine ⟨?_, ?_⟩
      · exact Int.divExact_eq_ediv (Int.ofNat_dvd_left.mpr (Nat.gcd_dvd_left _ _))
      · show _ / _ = _
        rw [Nat.mul_div_assoc]
        exact Nat.dvd_trans (Nat.gcd_dvd_right _ _) (Nat.gcd_dvd_right _ _)
theorem fdiv_nat (a b : Nat) : ((a : Int).fdiv (b : Int)) = ((a / b : Nat) : Int) := by
  rw [Int.fdiv_eq_ediv_of_nonneg _ (by omega)]
  rfl
theorem fdiv_natR (a : Int) (b : Nat) : (a.fdiv (b : Int)) = a / (b : Int) := Int.fdiv_eq_ediv_of_nonneg _ (by omega)
def sG (x y : Rat) : Nat := x.den.gcd y.den
def sT (x y : Rat) : Int := x.num * ((y.den / sG x y : Nat) : Int) + y.num * ((x.den / sG x y : Nat) : Int)
def sD (x y : Rat) : Nat := (sT x y).natAbs.gcd (sG x y)
theorem sum_num (x y : Rat) : (sT x y).fdiv (sD x y : Int) = (x + y).num := by
  rw [fdiv_natR]
  exact (add_split x y).1.symm
theorem sum_den (x y : Rat) : (((x.den / sG x y : Nat) : Int) * ((y.den / sD x y : Nat) : Int)) = (((x + y).den : Nat) : Int) := by
  rw [show (x + y).den = x.den / sG x y * (y.den / sD x y) from (add_split x y).2]
  rfl
theorem sG_pos (x y : Rat) : 0 < sG x y := Nat.gcd_pos_of_pos_left _ x.den_pos
theorem sD_pos (x y : Rat) : 0 < sD x y := Nat.gcd_pos_of_pos_right _ (sG_pos x y)
theorem sG_le (x y : Rat) : sG x y ≤ x.den := Nat.gcd_le_left _ x.den_pos
theorem sD_le (x y : Rat) : sD x y ≤ x.den := Nat.le_trans (Nat.gcd_le_right _ (sG_pos x y)) (sG_le x y)
end R
namespace R
/-! ### what a fraction becomes whole by -/
def Iz (D : Nat) (x : Rat) : Prop := ∃ k : Int, x * (D : Rat) = (k : Rat)
theorem Iz.add {D : Nat} {x y : Rat} (hx : Iz D x) (hy : Iz D y) : Iz D (x + y) := by
  obtain ⟨k, h⟩ := hx
  obtain ⟨m, g⟩ := hy
  exact ⟨k + m, by rw [Rat.intCast_add, ← h, ← g]; grind⟩
theorem Iz.sub {D : Nat} {x y : Rat} (hx : Iz D x) (hy : Iz D y) : Iz D (x - y) := by
  obtain ⟨k, h⟩ := hx
  obtain ⟨m, g⟩ := hy
  exact ⟨k - m, by rw [Rat.intCast_sub, ← h, ← g]; grind⟩
theorem Iz.mul {D E : Nat} {x y : Rat} (hx : Iz D x) (hy : Iz E y) : Iz (D * E) (x * y) := by
  obtain ⟨k, h⟩ := hx
  obtain ⟨m, g⟩ := hy
  exact ⟨k * m, by rw [Rat.intCast_mul, ← h, ← g, Rat.natCast_mul]; grind⟩
theorem Iz.up {D : Nat} {x : Rat} (hx : Iz D x) (E : Nat) : Iz (D * E) x := by
  obtain ⟨k, h⟩ := hx
  exact ⟨k * E, by rw [Rat.intCast_mul, ← h, Rat.natCast_mul]; show x * ((D : Rat) * (E : Rat)) = x * (D : Rat) * ((E : Int) : Rat); rw [Rat.intCast_natCast]; grind⟩
theorem Iz.dvd {D E : Nat} {x : Rat} (hx : Iz D x) (h : D ∣ E) : Iz E x := by
  obtain ⟨c, rfl⟩ := h
  exact hx.up c
theorem iz_zero (D : Nat) : Iz D 0 := ⟨0, by grind⟩
theorem iz_int (D : Nat) (i : Int) : Iz D (i : Rat) := by
  refine ⟨i * D, ?_⟩
  rw [Rat.intCast_mul]
  rfl
theorem iz_divInt {t c : Int} {D : Nat} (hc : 0 < c) (h : c ∣ (D : Int)) : Iz D (Rat.divInt t c) := by
  obtain ⟨k, e⟩ := h
  refine ⟨t * k, ?_⟩
  have hc' : (c : Rat) ≠ 0 := fun z => by
    have := Rat.intCast_inj.mp (show (c : Rat) = ((0 : Int) : Rat) from z)
    omega
  have e2 : (D : Rat) = (c : Rat) * (k : Rat) := by
    rw [← Rat.intCast_mul, ← e]
    rfl
  rw [Rat.divInt_eq_div, e2, Rat.intCast_mul, Rat.div_def]
  have := Rat.mul_inv_cancel _ hc'
  grind
theorem Iz.eq {D : Nat} {x : Rat} (hD : 0 < D) (h : Iz D x) : ∃ k : Int, x = Rat.divInt k D ∧ x * (D : Rat) = (k : Rat) := by
  obtain ⟨k, h⟩ := h
  refine ⟨k, ?_, h⟩
  have hD' : (D : Rat) ≠ 0 := fun z => by
    have := Rat.natCast_inj.mp (show (D : Rat) = ((0 : Nat) : Rat) from z)
    omega
  rw [Rat.divInt_eq_div, ← h]
  show x = x * (D : Rat) / (((D : Nat) : Int) : Rat)
  rw [Rat.intCast_natCast, Rat.div_def]
  have := Rat.mul_inv_cancel _ hD'
  grind
/-- the size, by what it becomes whole by and how far it is from nought -/
theorem Iz.sz {D M n : Nat} {x : Rat} (hD : 0 < D) (h : Iz D x) (h1 : -(M : Rat) ≤ x) (h2 : x ≤ (M : Rat)) (hn : M * D < 2 ^ n) (hm : D < 2 ^ n) : Sz n x := by
  obtain ⟨k, e, g⟩ := h.eq hD
  rw [e]
  refine sz_divInt ?_ hm (by omega)
  have d0 : (0 : Rat) ≤ (D : Rat) := Rat.natCast_nonneg
  have a1 : (k : Rat) ≤ (((M * D : Nat) : Int) : Rat) := by
    rw [← g, Rat.intCast_natCast, Rat.natCast_mul]
    exact Rat.mul_le_mul_of_nonneg_right h2 d0
  have a2 : ((-((M * D : Nat) : Int) : Int) : Rat) ≤ (k : Rat) := by
    rw [← g, Rat.intCast_neg, Rat.intCast_natCast, Rat.natCast_mul, ← Rat.neg_mul]
    exact Rat.mul_le_mul_of_nonneg_right h1 d0
  have b1 := Rat.intCast_le_intCast.mp a1
  have b2 := Rat.intCast_le_intCast.mp a2
  omega
end R
namespace R
open PySem PySem.Spec PyProof.Rows L2
/-! ### a def of the text, and what it promises -/
structure Df (K : PySem.W.Frag) (mg : Str → Option Value) (x : Str) (st : Stmt) (ps : List Str) : Prop where
  ex : ∃ (f : Addr) (fd : FuncData), Fun K x x st f fd ∧ mg x = some (.ref f) ∧ Binds K fd ps []
structure Cl (P : Program) (w : World) (K : PySem.W.Frag) (mg : Str → Option Value) (base : Heap) (CX : CXT) (k : Nat) (x : Str) (sp : Sp) : Prop where
  ex : ∃ (f : Addr) (fd : FuncData) (ps : List Str), FnOk P w K mg base CX k f fd ps sp ∧ mg x = some (.ref f) ∧ PySem.W.keepIn K (.ref f) = true ∧ Binds K fd ps []
section
variable {P : Program} {w : World} {K : PySem.W.Frag} {mg : Str → Option Value} {base : Heap}
theorem Df.cl {x : Str} {st : Stmt} {N ps : List Str} {k : Nat} {sp : Sp} (D : Df K mg x st ps) (S : FnScope N ps (defScope st)) (len : ∀ vs H Q E, sp vs H Q E → vs.length = ps.length)
    (hbody : ∀ (f : Addr) (cdv : Value) (A : Around) (outer : List Env) (s : Shared) (H : Hp) (vs : List V) (Q : VK) (E : XK), Room k (A.deeper (envOfC x (defScope st) s.heap.objs.size f cdv)) → sp vs H Q E →
      ∃ t, PSs (cxOf CX0 P w K mg base N x (defScope st) f cdv A outer s H E).nox (defBody st) t ∧ t { nx := fun _ H' => Q .non H', rt := Q } (start N vs) H) : Cl P w K mg base CX0 (k + 1) x sp := by
  obtain ⟨f, fd, F, g, b⟩ := D.ex
  exact ⟨f, fd, ps, F.ok S len (hbody f), g, F.kp, b⟩
end
section
variable {X : Cx}
theorem pe_cl {k j : Nat} {x : Str} {sp : Sp} {p pos : Pos} {e : Expr} {es : List Expr} {t : TA} (c : Cl X.prog X.w X.K X.mg X.base CX0 k x sp) (hr : Room j X.A) (hk : k ≤ j) (hg : Gl X x) (ha : PA X (e :: es) t)
    (hdb : (x == ("__debug__" : Str)) = false := by decide) (he : starEach (e :: es) X.env = (false, eval e X.env) :: starEach es X.env := by rfl) (hpl : (backTo pos (starEach es X.env)).any (·.1) = false := by rfl) :
    PE X (.Call (.Name x p) (e :: es) [] pos) (tCall sp [] E0 t) := by
  obtain ⟨f, fd, ps, F, hm, kp, b⟩ := c.ex
  exact pe_call F (hr.mono hk) hg hm kp b .nil pass0 ha hdb he hpl
/-- // by any divisor but 0, below 2 ^ 9000 -/
def CDivX (_ j : Int) : Prop := j ≠ 0 ∧ j.natAbs.log2 < 9000
theorem op_fdivX : OpR X (binaryOp .FloorDiv) (rI CDivX fun i j => .int (i.fdiv j)) := opI fun i j _ _ _ _ _ hc q =>
  floordiv_int hc.1 q (.inl (PyProof.noPylong_of_log2 hc.2))
end
theorem cdiv {i j : Int} {b : Nat} (h : j ≠ 0) (hb : j.natAbs < 2 ^ b) (h0 : 0 < b) (h9 : b ≤ 9000) : CDivX i j := ⟨h, Nat.lt_of_lt_of_le (PySem.Flt.log2_lt_of h0 hb) h9⟩
/-! ### data at a heap -/
theorem Same.tup {K : PySem.W.Frag} {H H' : Hp} {a : Addr} {xs : List V} (e : Same H H') (h : SqT K H a xs) : SqT K H' a xs := by
  rcases h with (h | ⟨o, h⟩) | h
  · exact .inl (.inl (e _ _ h))
  · exact .inl (.inr ⟨o, e _ _ h⟩)
  · exact .inr h
theorem Same.new {H : Hp} {p : Addr} {o : HO} (h : H p = none) : Same H (upd H p o) := fun b x e => by
  rw [upd_ne (ne_of_none e h)]
  exact e
mutual
theorem dp_mono {K : PySem.W.Frag} {H H' : Hp} (s : Same H H') : ∀ (d : PyData) (v : V), Dp K H v d → Dp K H' v d
  | .none, _, h => by cases h; exact .non
  | .bool _, _, h => by cases h; exact .bl _
  | .int _, _, h => by cases h; exact .int _
  | .str _, _, h => by cases h; exact .str _
  | .list ds, _, h => by
    cases h with
    | lst hs ha => exact .lst (s.seq hs) (dpa_mono s ds _ ha)
  | .tuple ds, _, h => by
    cases h with
    | tup hs ha => exact .tup (Same.tup s hs) (dpa_mono s ds _ ha)
  | .dict _, _, h => by cases h
theorem dpa_mono {K : PySem.W.Frag} {H H' : Hp} (s : Same H H') : ∀ (ds : List PyData) (vs : List V), DpAll K H vs ds → DpAll K H' vs ds
  | [], _, h => by cases h; exact .nil
  | d :: ds, _, h => by
    cases h with
    | cons h1 h2 => exact .cons (dp_mono s d _ h1) (dpa_mono s ds _ h2)
end
end R
namespace R
section
open PySem PySem.Spec PyProof.Rows L2 Builtin Builtin.Str Builtin.Int Builtin.Float
/-! ### the field {x:02d} of an int that is not negative -/
def f02 : FormatSpec := { fill := 48, align := 61, width := some 2, type := some 100 }
theorem p02 : parseFormatSpec [48, 50, 100] "int" 62 = .ok f02 := rfl
theorem gives_02d (a : Int) (t u : Tok) (hs : a.natAbs.log2 < 1920) : Gives («int.__format__» ⟨[.int a t, .str "02d" u], []⟩) (.str (intSpecText f02 a)) := by
  intro prog w A R s hq
  unfold Builtin.«int.__format__»
  simp only [selfAndOne, noKeywords, Int.intOfSelf, asInt?, asStr?, List.isEmpty_nil, if_true, pure_bind, bind_pure, bind_assoc]
  rw [show (Value.str (Str.ofString "02d") u == Value.none) = false from rfl]
  simp only [Bool.false_eq_true, if_false]
  refine wpAny_bind (wpAny_typeNameOf (T := "str") (typeIs_str _ _ _) (by decide) fun _ => ?_)
  rw [show ((Str.ofString "02d").length == 0) = false by decide +kernel]
  simp only [Bool.false_eq_true, if_false, pure_bind]
  rw [show (((Str.ofString "02d").cps.toList.drop 1).any (fun x => decide (x ≥ 128)) || (decide ((Str.ofString "02d").cps.getD 0 0 ≥ 128) && !([60, 62, 61, 94] : List Nat).contains ((Str.ofString "02d").cps.getD 1 0))) = false by decide +kernel]
  simp only [Bool.false_eq_true, if_false, pure_bind]
  refine wpAny_bind (wpAny_typeNameOfCut_int ?_)
  rw [show (Str.ofString "02d").cps.toList = [48, 50, 100] by decide +kernel, p02]
  dsimp only
  rw [if_pos (by decide +kernel)]
  show wpAny _ _ (do let r ← Builtin.overDigitLimit? a; _) _ _ _
  rw [PySem.overDigitLimit_small hs, pure_bind]
  show wpAny _ _ (retStr _) _ _ _
  refine Gives.of_eq (m := .str (intSpecText f02 a)) ?_ prog w A R s hq
  unfold intSpecText
  rfl
end
open PySem PySem.Spec PyProof.Rows L2
/-! ### texts of numbers -/
def sI (i : Int) : Str := Str.ofString (toString i)
def pad2 (i : Int) : Str := if i < 10 then (⟨#[48]⟩ : Str) ++ sI i else sI i
theorem sapp (a b c : Str) : (a ++ b) ++ c = a ++ (b ++ c) := by
  refine Str.ext' ?_
  rw [Str.cps_append, Str.cps_append, Str.cps_append, Str.cps_append, Array.append_assoc]
theorem sapp_nil (a : Str) : a ++ Str.empty = a := Str.append_right_empty rfl
theorem nil_sapp (a : Str) : Str.empty ++ a = a := Str.append_left_empty rfl
theorem slen (a b : Str) : (a ++ b).length = a.length + b.length := by
  unfold Str.length
  rw [Str.cps_append, Array.size_append]
theorem sI_nat (m : Nat) : sI (m : Int) = ⟨((Nat.toDigits 10 m).map Char.toNat).toArray⟩ := text_ofNat m
theorem sI_len {i : Int} (h0 : 0 ≤ i) (h : i < 10 ^ 30) : (sI i).length ≤ 30 := by
  obtain ⟨m, rfl⟩ := Int.eq_ofNat_of_zero_le h0
  rw [sI_nat]
  show ((Nat.toDigits 10 m).map Char.toNat).toArray.size ≤ 30
  rw [List.size_toArray, List.length_map]
  exact digits10_le (by decide) (by
    have : ((m : Nat) : Int) < ((10 ^ 30 : Nat) : Int) := h
    omega)
theorem lg {i : Int} (h0 : 0 ≤ i) (h : i < 10 ^ 30) : i.natAbs.log2 < 1920 :=
  PySem.Flt.log2_lt_of (by decide) (Nat.lt_of_lt_of_le (show i.natAbs < 2 ^ 128 by omega) (Nat.pow_le_pow_right (by decide) (by decide)))
theorem pad2_len {i : Int} (h0 : 0 ≤ i) (h : i < 10 ^ 30) : (pad2 i).length ≤ 31 := by
  have := sI_len h0 h
  unfold pad2
  split
  · rw [slen]
    show 1 + _ ≤ 31
    omega
  · omega
theorem f02_text {a : Int} (h0 : 0 ≤ a) : intSpecText f02 a = pad2 a := by
  rw [intSpecText_zero (f := f02) rfl rfl rfl rfl h0]
  have D := digitsFacts10 a.natAbs
  unfold pad2
  split
  · rename_i h
    rw [D.lt10 (by omega)]
    rfl
  · rename_i h
    have := D.ge10 (by omega)
    rw [show f02.width.getD 0 - (Nat.toDigits 10 a.natAbs).length = 0 by
      show 2 - _ = 0
      omega]
    exact nil_sapp _
section
variable {X : Cx}
def tFmt02 (te : TE) : TE := fun σ H Q => te σ H fun x H1 => ∃ i : Int, x = .int i ∧ 0 ≤ i ∧ i < 10 ^ 30 ∧ Q (.str (pad2 i)) H1
theorem pe_fmt02 {e : Expr} {te : TE} {k : Nat} {p1 p2 pos : Pos} (he : PE X e te) : PE X (.FormattedValue e (-1) (some (.JoinedStr [.Constant (.str "02d") k p1] p2)) pos) (tFmt02 te) := by
  refine ⟨fun pins s σ H Q I h => ?_⟩
  refine wpAny_FormattedValue_spec (thn (he.run pins s σ H _ I h) fun v s1 hv => ?_)
  obtain ⟨x, H1, I1, r1, i, rfl, h0, h1, q⟩ := hv
  obtain ⟨t, rfl⟩ := r1
  refine thn ((pe_joined1 (pe_str (x := "02d"))).run pins s1 σ H1 (fun v H' => v = .str "02d" ∧ H' = H1) I1 ⟨rfl, rfl⟩) fun u s2 hu => ?_
  obtain ⟨y, H2, I2, r2, rfl, rfl⟩ := hu
  obtain ⟨t2, rfl⟩ := r2
  refine ⟨"02d", t2, rfl, ?_⟩
  refine wpAny_formatField_spec (by decide +kernel) (fun s' => typeIs_int s' i t) F.slot_int_format F.entry_int_format F.args_int_format_2 (fun u => gives_02d i t u (lg h0 h1)) ?_ (by decide +kernel) ?_
  · rw [f02_text h0]
    exact ⟨.str (pad2 i), H2, I2.tok _, ⟨_, rfl⟩, q⟩
  · rw [f02_text h0]
    exact Nat.le_trans (pad2_len h0 h1) (by decide)
theorem pe_gl {x : Str} {pos : Pos} {v : V} (hg : Gl X x) (h : ∃ u, X.mg x = some u ∧ RelV v u) (hd : (x == ("__debug__" : Str)) = false := by decide) : PE X (.Name x pos) (tC v) := by
  obtain ⟨u, h1, h2⟩ := h
  exact pe_glob hg h1 h2 hd
end
end R
namespace R
/-! ### shows, as plain data: the mathematics -/
abbrev St3 := Rat × Rat × Rat
def lst3 (s : St3) : Rat := (s.2.1 - s.1) / s.2.2
def lenS : List St3 → Rat
  | [] => 0
  | s :: r => lst3 s + lenS r
theorem lenS_app : ∀ (a b : List St3), lenS (a ++ b) = lenS a + lenS b
  | [], b => by
    show lenS b = 0 + lenS b
    rw [Rat.zero_add]
  | s :: r, b => by
    show lst3 s + lenS (r ++ b) = lst3 s + lenS r + lenS b
    rw [lenS_app r b, Rat.add_assoc]
theorem take_more {α : Type} : ∀ {l : List α} {i : Nat} {x : α}, l[i]? = some x → l.take (i + 1) = l.take i ++ [x]
  | [], i, x, h => by simp at h
  | a :: l, 0, x, h => by
    have e : a = x := Option.some.inj h
    subst e
    rfl
  | a :: l, i + 1, x, h => by
    have ih := take_more (l := l) (i := i) (x := x) h
    show a :: l.take (i + 1) = a :: l.take i ++ [x]
    rw [ih]
    rfl
theorem drop_more {α : Type} : ∀ {l : List α} {i : Nat} {x : α}, l[i]? = some x → l.drop i = x :: l.drop (i + 1)
  | [], i, x, h => by simp at h
  | a :: l, 0, x, h => by
    have e : a = x := Option.some.inj h
    subst e
    rfl
  | a :: l, i + 1, x, h => drop_more (l := l) (i := i) (x := x) h
theorem lenS_more {l : List St3} {i : Nat} {x : St3} (h : l[i]? = some x) : lenS (l.take (i + 1)) = lenS (l.take i) + lst3 x := by
  rw [take_more h, lenS_app]
  show lenS (l.take i) + (lst3 x + 0) = _
  rw [Rat.add_zero]
structure StOk (N : Nat) (s : St3) : Prop where
  b : Sz N s.1
  e : Sz N s.2.1
  p : Sz N s.2.2
  pos : 0 < s.2.2
structure ShOk (N : Nat) (xs : List St3) : Prop where
  each : ∀ s ∈ xs, StOk N s
  sums : ∀ k, Sz N (lenS (xs.take k))
  lasts : ∀ s ∈ xs, Sz N (lst3 s)
theorem ne_of_pos {x : Rat} (h : 0 < x) : x ≠ 0 := fun e => by
  rw [e] at h
  exact Rat.lt_irrefl h
theorem sz_lst {N : Nat} {s : St3} (h : StOk N s) : Sz (3 * N + 1) (lst3 s) := by
  have := sz_div (sz_sub h.e h.b) h.p (ne_of_pos h.pos)
  exact this.mono (by omega)
/-- what is shown at a time -/
def seen : List St3 → Rat → Option Rat
  | [], _ => none
  | s :: r, t => if t < lst3 s then some (s.1 + t * s.2.2) else seen r (t - lst3 s)
/-- the rows of a timetable -/
def tabF (t0 : Rat) : List St3 → List (Rat × Rat × St3)
  | [] => []
  | s :: r => (t0, t0 + lst3 s, s) :: tabF (t0 + lst3 s) r
theorem tabF_get : ∀ (t0 : Rat) (xs : List St3) (i : Nat), (tabF t0 xs)[i]? = (xs[i]?).map fun s => (t0 + lenS (xs.take i), t0 + lenS (xs.take (i + 1)), s)
  | _, [], i => by simp [tabF]
  | t0, s :: r, 0 => by
    show some (t0, t0 + lst3 s, s) = some (t0 + 0, t0 + (lst3 s + 0), s)
    rw [Rat.add_zero, Rat.add_zero]
  | t0, s :: r, i + 1 => by
    show (tabF (t0 + lst3 s) r)[i]? = _
    rw [tabF_get (t0 + lst3 s) r i]
    show (r[i]?).map _ = (r[i]?).map _
    congr 1
    funext z
    show (t0 + lst3 s + lenS (r.take i), t0 + lst3 s + lenS (r.take (i + 1)), z) = (t0 + (lst3 s + lenS (r.take i)), t0 + (lst3 s + lenS (r.take (i + 1))), z)
    rw [Rat.add_assoc, Rat.add_assoc]
theorem tabF_len : ∀ (t0 : Rat) (xs : List St3), (tabF t0 xs).length = xs.length
  | _, [] => rfl
  | t0, s :: r => by
    show (tabF (t0 + lst3 s) r).length + 1 = r.length + 1
    rw [tabF_len]
theorem seen_turn {xs : List St3} {i : Nat} {s : St3} {t : Rat} (h : xs[i]? = some s) : seen (xs.drop i) (t - lenS (xs.take i)) =
    if t < lenS (xs.take (i + 1)) then some (s.1 + (t - lenS (xs.take i)) * s.2.2) else seen (xs.drop (i + 1)) (t - lenS (xs.take (i + 1))) := by
  rw [drop_more h, lenS_more h]
  show (if t - lenS (xs.take i) < lst3 s then _ else _) = _
  by_cases c : t - lenS (xs.take i) < lst3 s
  · rw [if_pos c, if_pos (by grind)]
  · rw [if_neg c, if_neg (by grind), show t - lenS (xs.take i) - lst3 s = t - (lenS (xs.take i) + lst3 s) by grind]
/-- stretches that go on are made one -/
def nstep (acc : List St3) (s : St3) : List St3 := match acc.getLast? with
  | some l => if l.2.1 = s.1 ∧ l.2.2 = s.2.2 then acc.dropLast ++ [(l.1, s.2.1, s.2.2)] else acc ++ [s]
  | none => [s]
def normM (xs : List St3) : List St3 := xs.foldl nstep []
theorem normM_more {xs : List St3} {i : Nat} {s : St3} (h : xs[i]? = some s) : normM (xs.take (i + 1)) = nstep (normM (xs.take i)) s := by
  unfold normM
  rw [take_more h, List.foldl_append]
  rfl
/-- what lies between two times, from the show's start -/
def piece (s : St3) (b e : Rat) : List St3 :=
  if (if 0 < b then b else 0) < (if e < lst3 s then e else lst3 s) then [(s.1 + (if 0 < b then b else 0) * s.2.2, s.1 + (if e < lst3 s then e else lst3 s) * s.2.2, s.2.2)] else []
def cutM : List St3 → Rat → Rat → List St3
  | [], _, _ => []
  | s :: r, b, e => piece s b e ++ cutM r (b - lst3 s) (e - lst3 s)
theorem cutM_turn {xs : List St3} {i : Nat} {s : St3} {b e : Rat} (h : xs[i]? = some s) : cutM (xs.drop i) (b - lenS (xs.take i)) (e - lenS (xs.take i)) =
    piece s (b - lenS (xs.take i)) (e - lenS (xs.take i)) ++ cutM (xs.drop (i + 1)) (b - lenS (xs.take (i + 1))) (e - lenS (xs.take (i + 1))) := by
  rw [drop_more h, lenS_more h]
  show _ ++ cutM (xs.drop (i + 1)) (b - lenS (xs.take i) - lst3 s) (e - lenS (xs.take i) - lst3 s) = _
  rw [show b - lenS (xs.take i) - lst3 s = b - (lenS (xs.take i) + lst3 s) by grind, show e - lenS (xs.take i) - lst3 s = e - (lenS (xs.take i) + lst3 s) by grind]
end R
namespace R
theorem divInt_pos {t b : Int} (ht : 0 < t) (hb : 0 < b) : 0 < Rat.divInt t b := by
  rw [Rat.divInt_eq_div, Rat.div_def]
  exact Rat.mul_pos (Rat.intCast_pos.mpr ht) (Rat.inv_pos.mpr (Rat.intCast_pos.mpr hb))
theorem piece_eq (s : St3) (b e st : Rat) : piece s (b - st) (e - st) =
    if (if b < st then st else b) < (if st + lst3 s < e then st + lst3 s else e) then
      [(s.1 + ((if b < st then st else b) - st) * s.2.2, s.1 + ((if st + lst3 s < e then st + lst3 s else e) - st) * s.2.2, s.2.2)] else [] := by
  have e1 : (if 0 < b - st then b - st else 0) = (if b < st then st else b) - st := by
    split <;> split <;> grind
  have e2 : (if e - st < lst3 s then e - st else lst3 s) = (if st + lst3 s < e then st + lst3 s else e) - st := by
    split <;> split <;> grind
  unfold piece
  rw [e1, e2]
  by_cases c : (if b < st then st else b) < (if st + lst3 s < e then st + lst3 s else e)
  · rw [if_pos c, if_pos (by grind)]
  · rw [if_neg c, if_neg (by grind)]
theorem piece_len (s : St3) (b e : Rat) : (piece s b e).length ≤ 1 := by
  unfold piece
  generalize (if 0 < b then b else 0) = f
  generalize (if e < lst3 s then e else lst3 s) = g
  by_cases c : f < g
  · rw [if_pos c]
    exact Nat.le_refl _
  · rw [if_neg c]
    exact Nat.zero_le _
/-- one turn of making stretches one: the part that stays, and what stands last -/
theorem nstep_cases (acc : List St3) (s : St3) : (acc = [] ∧ nstep acc s = [] ++ [(s.1, s.2.1, s.2.2)]) ∨ ∃ pre l, acc = pre ++ [l] ∧
    ((l.2.1 = s.1 ∧ l.2.2 = s.2.2 ∧ nstep acc s = pre ++ [(l.1, s.2.1, s.2.2)]) ∨ (¬ (l.2.1 = s.1 ∧ l.2.2 = s.2.2) ∧ nstep acc s = acc ++ [(s.1, s.2.1, s.2.2)])) := by
  unfold nstep
  cases h : acc.getLast? with
  | none => exact .inl ⟨List.getLast?_eq_none_iff.mp h, rfl⟩
  | some l =>
    obtain ⟨pre, rfl⟩ := List.getLast?_eq_some_iff.mp h
    refine .inr ⟨pre, l, rfl, ?_⟩
    dsimp only
    by_cases c : l.2.1 = s.1 ∧ l.2.2 = s.2.2
    · rw [if_pos c, List.dropLast_concat]
      exact .inl ⟨c.1, c.2, rfl⟩
    · rw [if_neg c]
      exact .inr ⟨c, rfl⟩
theorem nstep_len (acc : List St3) (s : St3) : (nstep acc s).length ≤ acc.length + 1 := by
  rcases nstep_cases acc s with ⟨h, e⟩ | ⟨pre, l, h, (⟨_, _, e⟩ | ⟨_, e⟩)⟩
  · rw [e]
    simp
  · rw [e, h]
    simp
  · rw [e]
    simp
end R
namespace R
/-! ### normal shows: making one is a way of reading -/
theorem nstep_join (acc : List St3) (s t : St3) (h1 : s.2.1 = t.1) (h2 : s.2.2 = t.2.2) : nstep (nstep acc s) t = nstep acc (s.1, t.2.1, t.2.2) := by
  have key : ∀ (pre : List St3) (f : Rat), nstep (pre ++ [(f, s.2.1, s.2.2)]) t = pre ++ [(f, t.2.1, t.2.2)] := by
    intro pre f
    unfold nstep
    rw [List.getLast?_append, List.getLast?_singleton]
    dsimp only [Option.some_or]
    rw [if_pos ⟨h1, h2⟩, List.dropLast_concat]
  rcases nstep_cases acc s with ⟨e0, e1⟩ | ⟨pre, l, e0, (⟨c1, c2, e1⟩ | ⟨c, e1⟩)⟩
  · rw [e1, key, e0]
    rfl
  · rw [e1, key, e0]
    unfold nstep
    rw [List.getLast?_append, List.getLast?_singleton]
    dsimp only [Option.some_or]
    rw [if_pos ⟨c1, by rw [← h2]; exact c2⟩, List.dropLast_concat]
  · rw [e1, key, e0]
    unfold nstep
    rw [List.getLast?_append, List.getLast?_singleton]
    dsimp only [Option.some_or]
    rw [if_neg (fun z => c ⟨z.1, by rw [h2]; exact z.2⟩)]
theorem snoc_ind {α : Type} {P : List α → Prop} (h0 : P []) (h1 : ∀ b s, P b → P (b ++ [s])) (b : List α) : P b := by
  have : ∀ l : List α, P l.reverse := by
    intro l
    induction l with
    | nil => exact h0
    | cons x l ih =>
      rw [List.reverse_cons]
      exact h1 _ _ ih
  have h := this b.reverse
  rw [List.reverse_reverse] at h
  exact h
/-- behind anything, a show and its normal one come to the same -/
theorem fold_norm (acc0 : List St3) : ∀ (b : List St3), (normM b).foldl nstep acc0 = b.foldl nstep acc0 := by
  intro b
  refine snoc_ind (P := fun b => (normM b).foldl nstep acc0 = b.foldl nstep acc0) rfl (fun b s ih => ?_) b
  · have e : normM (b ++ [s]) = nstep (normM b) s := by
      unfold normM
      rw [List.foldl_append]
      rfl
    rw [e, List.foldl_append, ← ih]
    show _ = nstep ((normM b).foldl nstep acc0) s
    rcases nstep_cases (normM b) s with ⟨e0, e1⟩ | ⟨pre, l, e0, (⟨c1, c2, e1⟩ | ⟨c, e1⟩)⟩
    · rw [e1, e0]
      rfl
    · rw [e1, e0, List.foldl_append, List.foldl_append]
      show nstep (pre.foldl nstep acc0) (l.1, s.2.1, s.2.2) = nstep (nstep (pre.foldl nstep acc0) l) s
      rw [nstep_join _ _ _ c1 c2]
    · rw [e1, List.foldl_append]
      rfl
theorem norm_app (a b : List St3) : normM (a ++ b) = b.foldl nstep (normM a) := by
  unfold normM
  rw [List.foldl_append]
theorem norm_norm (b : List St3) : normM (normM b) = normM b := fold_norm [] b
theorem norm_left (a b : List St3) : normM (normM a ++ b) = normM (a ++ b) := by
  rw [norm_app, norm_app, norm_norm]
theorem norm_right (a b : List St3) : normM (a ++ normM b) = normM (a ++ b) := by
  rw [norm_app, norm_app, fold_norm]
theorem norm_congr {a a' b b' : List St3} (h1 : normM a = normM a') (h2 : normM b = normM b') : normM (a ++ b) = normM (a' ++ b') := by
  rw [← norm_left, h1, norm_left, ← norm_right, h2, norm_right]
/-! ### what is cut out of a show and of its normal one -/
def Pos3 (xs : List St3) : Prop := ∀ s ∈ xs, 0 < s.2.2
theorem lst_join {s t : St3} (h1 : s.2.1 = t.1) (h2 : s.2.2 = t.2.2) : lst3 (s.1, t.2.1, t.2.2) = lst3 s + lst3 t := by
  unfold lst3
  dsimp only
  rw [h2, Rat.div_def, Rat.div_def, Rat.div_def, ← Rat.add_mul, h1]
  congr 1
  grind
theorem lst_mul {s : St3} (h : 0 < s.2.2) : lst3 s * s.2.2 = s.2.1 - s.1 := by
  unfold lst3
  rw [Rat.div_mul_cancel (ne_of_pos h)]
theorem cutM_app : ∀ (xs ys : List St3) (b e : Rat), cutM (xs ++ ys) b e = cutM xs b e ++ cutM ys (b - lenS xs) (e - lenS xs)
  | [], ys, b, e => by
    show cutM ys b e = cutM ys (b - 0) (e - 0)
    rw [show b - 0 = b by grind, show e - 0 = e by grind]
  | s :: r, ys, b, e => by
    show piece s b e ++ cutM (r ++ ys) (b - lst3 s) (e - lst3 s) = (piece s b e ++ cutM r (b - lst3 s) (e - lst3 s)) ++ cutM ys (b - (lst3 s + lenS r)) (e - (lst3 s + lenS r))
    rw [cutM_app r ys, List.append_assoc, show b - lst3 s - lenS r = b - (lst3 s + lenS r) by grind, show e - lst3 s - lenS r = e - (lst3 s + lenS r) by grind]
theorem cutM_one (s : St3) (b e : Rat) : cutM [s] b e = piece s b e := by
  show piece s b e ++ [] = _
  rw [List.append_nil]
/-- the first and the last time of a piece -/
def pf (b : Rat) : Rat := if 0 < b then b else 0
def pg (l e : Rat) : Rat := if e < l then e else l
theorem piece_pf (s : St3) (b e : Rat) : piece s b e = if pf b < pg (lst3 s) e then [(s.1 + pf b * s.2.2, s.1 + pg (lst3 s) e * s.2.2, s.2.2)] else [] := rfl
theorem norm_two (x y : St3) (h1 : x.2.1 = y.1) (h2 : x.2.2 = y.2.2) : normM [x, y] = normM [(x.1, y.2.1, y.2.2)] := by
  show nstep (nstep [] x) y = nstep [] _
  exact nstep_join [] x y h1 h2
theorem pg_shift (u v e : Rat) : pg (u + v) e = u + pg v (e - u) := by
  unfold pg
  grind
theorem pf0 (b : Rat) : 0 ≤ pf b := by
  unfold pf
  grind
theorem pfb (b : Rat) : b ≤ pf b := by
  unfold pf
  grind
theorem pf_neg {b : Rat} (h : b ≤ 0) : pf b = 0 := by
  unfold pf
  grind
theorem pf_pos {b : Rat} (h : 0 ≤ b) : pf b = b := by
  unfold pf
  grind
theorem pge (l e : Rat) : pg l e ≤ e := by
  unfold pg
  grind
theorem pgl (l e : Rat) : pg l e ≤ l := by
  unfold pg
  grind
theorem pg_l {l e : Rat} (h : l ≤ e) : pg l e = l := by
  unfold pg
  grind
theorem pg_e {l e : Rat} (h : e ≤ l) : pg l e = e := by
  unfold pg
  grind
theorem pfg1 {u v b e : Rat} (c1 : pf b < pg u e) (c2 : pf (b - u) < pg v (e - u)) : pf (b - u) = 0 ∧ pg u e = u := by
  have h1 := pf0 (b - u)
  have h2 := pge v (e - u)
  have h3 := pgl u e
  have h4 := pfb b
  have h5 : u ≤ e := by grind
  have h6 : b - u ≤ 0 := by grind
  exact ⟨pf_neg h6, pg_l h5⟩
theorem pfg2 {u v b e : Rat} (l1 : 0 ≤ u) (l2 : 0 ≤ v) (c1 : pf b < pg u e) (c2 : ¬ pf (b - u) < pg v (e - u)) : pg (u + v) e = pg u e := by
  by_cases h : e ≤ u
  · rw [pg_e h, pg_e (by grind)]
  · have h3 := pgl u e
    have h4 := pfb b
    have h5 : pf (b - u) = 0 := pf_neg (by grind)
    rw [pg_l (show u ≤ e by grind), pg_shift]
    rw [h5] at c2
    by_cases h6 : e - u ≤ v
    · rw [pg_e h6] at c2
      grind
    · rw [pg_l (show v ≤ e - u by grind)] at c2 ⊢
      grind
theorem pfg3 {u v b e : Rat} (l1 : 0 ≤ u) (c1 : ¬ pf b < pg u e) (c2 : pf (b - u) < pg v (e - u)) : pf (b - u) = pf b - u := by
  have h1 := pf0 (b - u)
  have h2 := pge v (e - u)
  have h5 : pg u e = u := pg_l (by grind)
  rw [h5] at c1
  by_cases h6 : b ≤ 0
  · have h7 := pf_neg h6
    rw [h7] at c1 ⊢
    rw [pf_neg (show b - u ≤ 0 by grind)]
    grind
  · have h7 := pf_pos (show 0 ≤ b by grind)
    rw [h7] at c1 ⊢
    rw [pf_pos (show 0 ≤ b - u by grind)]
theorem pfg4 {u v b e : Rat} (l1 : 0 ≤ u) (l2 : 0 ≤ v) (c1 : ¬ pf b < pg u e) (c2 : ¬ pf (b - u) < pg v (e - u)) : ¬ pf b < pg (u + v) e := by
  by_cases h : e ≤ u
  · rw [pg_e h] at c1
    rw [pg_e (by grind)]
    exact c1
  · rw [pg_l (show u ≤ e by grind)] at c1
    rw [pg_shift]
    by_cases h6 : b - u ≤ 0
    · rw [pf_neg h6] at c2
      grind
    · rw [pf_pos (show 0 ≤ b - u by grind)] at c2
      rw [pf_pos (show 0 ≤ b by grind)] at c1 ⊢
      grind
theorem piece_join {s t : St3} (h1 : s.2.1 = t.1) (h2 : s.2.2 = t.2.2) (hp : 0 < s.2.2) (l1 : 0 ≤ lst3 s) (l2 : 0 ≤ lst3 t) (b e : Rat) :
    normM (piece s b e ++ piece t (b - lst3 s) (e - lst3 s)) = normM (piece (s.1, t.2.1, t.2.2) b e) := by
  have m1 := lst_mul hp
  have hm : s.2.1 = s.1 + lst3 s * s.2.2 := by grind
  rw [piece_pf, piece_pf, piece_pf, lst_join h1 h2]
  dsimp only
  rw [← h2, ← h1, hm]
  clear hm m1 h1 h2 hp
  generalize lst3 s = u at *
  generalize lst3 t = v at *
  generalize s.2.2 = p at *
  generalize s.1 = a at *
  by_cases c1 : pf b < pg u e
  · by_cases c2 : pf (b - u) < pg v (e - u)
    · obtain ⟨e1, e2⟩ := pfg1 c1 c2
      have e3 := pg_shift u v e
      have c3 : pf b < pg (u + v) e := by
        rw [e3]
        rw [e2] at c1
        rw [e1] at c2
        grind
      rw [if_pos c1, if_pos c2, if_pos c3, e1, e2, e3]
      generalize pg v (e - u) = w
      generalize pf b = z
      refine (norm_two (a + z * p, a + u * p, p) (a + u * p + 0 * p, a + u * p + w * p, p) ?_ rfl).trans ?_
      · show a + u * p = a + u * p + 0 * p
        grind
      · show normM [(a + z * p, a + u * p + w * p, p)] = _
        rw [show a + u * p + w * p = a + (u + w) * p by grind]
    · rw [if_pos c1, if_neg c2, pfg2 l1 l2 c1 c2, if_pos c1]
      rfl
  · by_cases c2 : pf (b - u) < pg v (e - u)
    · have e1 := pfg3 l1 c1 c2
      have e3 := pg_shift u v e
      have c3 : pf b < pg (u + v) e := by
        rw [e3]
        rw [e1] at c2
        generalize pg v (e - u) = w at *
        generalize pf b = z at *
        clear c1 e1 e3
        grind
      rw [if_neg c1, if_pos c2, if_pos c3, e1, e3]
      generalize pg v (e - u) = w
      generalize pf b = z
      rw [show a + u * p + (z - u) * p = a + z * p by grind, show a + u * p + w * p = a + (u + w) * p by grind]
      rfl
    · rw [if_neg c1, if_neg c2, if_neg (pfg4 l1 l2 c1 c2)]
      rfl
structure Gd3 (s : St3) : Prop where
  p : 0 < s.2.2
  l : 0 ≤ lst3 s
theorem nstep_all {P : St3 → Prop} (hj : ∀ s t : St3, s.2.1 = t.1 → s.2.2 = t.2.2 → P s → P t → P (s.1, t.2.1, t.2.2)) {acc : List St3} {s : St3} (h : ∀ x ∈ acc, P x) (hs : P s) : ∀ x ∈ nstep acc s, P x := by
  intro x hx
  rcases nstep_cases acc s with ⟨e0, e1⟩ | ⟨pre, l, e0, (⟨c1, c2, e1⟩ | ⟨c, e1⟩)⟩
  · rw [e1] at hx
    have : x = s := List.mem_singleton.mp hx
    rw [this]
    exact hs
  · rw [e1] at hx
    rcases List.mem_append.mp hx with h1 | h1
    · exact h x (by rw [e0]; exact List.mem_append_left _ h1)
    · rw [List.mem_singleton.mp h1]
      exact hj l s c1 c2 (h l (by rw [e0]; exact List.mem_append_right _ (List.mem_singleton.mpr rfl))) hs
  · rw [e1] at hx
    rcases List.mem_append.mp hx with h1 | h1
    · exact h x h1
    · have : x = s := List.mem_singleton.mp h1
      rw [this]
      exact hs
theorem norm_snoc (b : List St3) (s : St3) : normM (b ++ [s]) = nstep (normM b) s := by
  unfold normM
  rw [List.foldl_append]
  rfl
theorem norm_all {P : St3 → Prop} (hj : ∀ s t : St3, s.2.1 = t.1 → s.2.2 = t.2.2 → P s → P t → P (s.1, t.2.1, t.2.2)) (xs : List St3) : (∀ x ∈ xs, P x) → ∀ x ∈ normM xs, P x := by
  refine snoc_ind (P := fun xs => (∀ x ∈ xs, P x) → ∀ x ∈ normM xs, P x) (fun h => h) (fun b s ih h => ?_) xs
  rw [norm_snoc]
  exact nstep_all hj (ih fun x hx => h x (List.mem_append_left _ hx)) (h s (List.mem_append_right _ (List.mem_singleton.mpr rfl)))
theorem gd_join (s t : St3) (h1 : s.2.1 = t.1) (h2 : s.2.2 = t.2.2) (a : Gd3 s) (b : Gd3 t) : Gd3 (s.1, t.2.1, t.2.2) := ⟨b.p, by rw [lst_join h1 h2]; have := a.l; have := b.l; grind⟩
theorem lenS_one (s : St3) : lenS [s] = lst3 s := by
  show lst3 s + 0 = _
  rw [Rat.add_zero]
theorem lenS_norm (xs : List St3) : lenS (normM xs) = lenS xs := by
  refine snoc_ind (P := fun xs => lenS (normM xs) = lenS xs) rfl (fun b s ih => ?_) xs
  rw [norm_snoc, lenS_app, ← ih]
  rcases nstep_cases (normM b) s with ⟨e0, e1⟩ | ⟨pre, l, e0, (⟨c1, c2, e1⟩ | ⟨c, e1⟩)⟩
  · rw [e1, e0]
    show lenS [(s.1, s.2.1, s.2.2)] = 0 + lenS [s]
    rw [Rat.zero_add]
  · rw [e1, e0, lenS_app, lenS_app, lenS_one, lenS_one, lenS_one, lst_join c1 c2]
    grind
  · rw [e1, lenS_app]
theorem cut_norm (xs : List St3) (b e : Rat) : (∀ s ∈ xs, Gd3 s) → normM (cutM (normM xs) b e) = normM (cutM xs b e) := by
  refine snoc_ind (P := fun xs => (∀ s ∈ xs, Gd3 s) → normM (cutM (normM xs) b e) = normM (cutM xs b e)) (fun _ => rfl) (fun ys s ih h => ?_) xs
  have hy : ∀ s ∈ ys, Gd3 s := fun x hx => h x (List.mem_append_left _ hx)
  have hs : Gd3 s := h s (List.mem_append_right _ (List.mem_singleton.mpr rfl))
  have ih := ih hy
  have gn := norm_all gd_join ys hy
  rw [norm_snoc, cutM_app, cutM_one, ← norm_left, ← ih, norm_left, ← lenS_norm ys]
  rcases nstep_cases (normM ys) s with ⟨e0, e1⟩ | ⟨pre, l, e0, (⟨c1, c2, e1⟩ | ⟨c, e1⟩)⟩
  · rw [e1, e0]
    show normM (piece (s.1, s.2.1, s.2.2) b e ++ []) = normM ([] ++ piece s (b - 0) (e - 0))
    rw [List.append_nil, List.nil_append, show b - 0 = b by grind, show e - 0 = e by grind]
  · rw [e1, e0]
    have hl : Gd3 l := gn l (by rw [e0]; exact List.mem_append_right _ (List.mem_singleton.mpr rfl))
    rw [cutM_app, cutM_app, cutM_one, cutM_one, lenS_app, lenS_one, List.append_assoc]
    refine norm_congr rfl ?_
    rw [show b - (lenS pre + lst3 l) = b - lenS pre - lst3 l by grind, show e - (lenS pre + lst3 l) = e - lenS pre - lst3 l by grind]
    exact (piece_join c1 c2 hl.p hl.l hs.l _ _).symm
  · rw [e1, cutM_app, cutM_one]
/-! ### the deeds -/
theorem fill_norm (xs st : List St3) (b e : Rat) (h : ∀ s ∈ xs, Gd3 s) :
    normM (normM (cutM (normM xs) 0 b) ++ st ++ normM (cutM (normM xs) e (lenS (normM xs)))) = normM (cutM xs 0 b ++ st ++ cutM xs e (lenS xs)) := by
  refine norm_congr (norm_congr ?_ rfl) ?_
  · rw [norm_norm, cut_norm xs 0 b h]
  · rw [norm_norm, cut_norm xs e _ h, lenS_norm]
def fastM (f : Rat) (zs : List St3) : List St3 := zs.map fun s => (s.1, s.2.1, s.2.2 * f)
theorem fast_norm {f : Rat} (hf : 0 < f) (zs : List St3) : fastM f (normM zs) = normM (fastM f zs) := by
  refine snoc_ind (P := fun zs => fastM f (normM zs) = normM (fastM f zs)) rfl (fun b s ih => ?_) zs
  have e : fastM f (b ++ [s]) = fastM f b ++ [(s.1, s.2.1, s.2.2 * f)] := by
    unfold fastM
    rw [List.map_append]
    rfl
  have hi : ∀ p q : Rat, p * f = q * f ↔ p = q := fun p q => ⟨fun h => by
    have h1 : (p - q) * f = 0 := by grind
    rcases Rat.mul_eq_zero.mp h1 with h2 | h2
    · grind
    · exact absurd h2 (ne_of_pos hf), fun h => by rw [h]⟩
  rw [norm_snoc, e, norm_snoc, ← ih]
  generalize normM b = acc
  have em : ∀ (pre : List St3) (l : St3), fastM f (pre ++ [l]) = fastM f pre ++ [(l.1, l.2.1, l.2.2 * f)] := fun pre l => by
    unfold fastM
    rw [List.map_append]
    rfl
  rcases nstep_cases acc s with ⟨e0, e1⟩ | ⟨pre, l, e0, (⟨c1, c2, e1⟩ | ⟨c, e1⟩)⟩
  · rw [e1, e0]
    rfl
  · rw [e1, e0, em, em]
    unfold nstep
    rw [List.getLast?_append, List.getLast?_singleton]
    dsimp only [Option.some_or]
    rw [if_pos ⟨c1, (hi _ _).mpr c2⟩, List.dropLast_concat]
  · rw [e1, em, e0, em]
    unfold nstep
    rw [List.getLast?_append, List.getLast?_singleton]
    dsimp only [Option.some_or]
    rw [if_neg (fun z => c ⟨z.1, (hi _ _).mp z.2⟩)]
end R
namespace R
/-! ### what lies between two times, in two parts -/
theorem piece_neg {s : St3} {b b' e : Rat} (h : b ≤ 0) (h' : b' ≤ 0) : piece s b e = piece s b' e := by
  rw [piece_pf, piece_pf, pf_neg h, pf_neg h']
theorem cut_neg : ∀ (xs : List St3) (b b' e : Rat), (∀ s ∈ xs, Gd3 s) → b ≤ 0 → b' ≤ 0 → cutM xs b e = cutM xs b' e
  | [], _, _, _, _, _, _ => rfl
  | s :: r, b, b', e, h, hb, hb' => by
    have hl := (h s List.mem_cons_self).l
    show piece s b e ++ cutM r (b - lst3 s) (e - lst3 s) = piece s b' e ++ cutM r (b' - lst3 s) (e - lst3 s)
    rw [piece_neg hb hb', cut_neg r (b - lst3 s) (b' - lst3 s) (e - lst3 s) (fun z hz => h z (List.mem_cons_of_mem _ hz)) (by grind) (by grind)]
theorem piece_none {s : St3} {b e : Rat} (h : e ≤ 0) : piece s b e = [] := by
  rw [piece_pf]
  have h1 := pf0 b
  have h2 := pge (lst3 s) e
  rw [if_neg (by grind)]
theorem piece_late {s : St3} {b e : Rat} (h : lst3 s ≤ b) : piece s b e = [] := by
  rw [piece_pf]
  have h1 := pfb b
  have h2 := pgl (lst3 s) e
  rw [if_neg (by grind)]
theorem cut_none' : ∀ (xs : List St3) (lo b : Rat), (∀ s ∈ xs, Gd3 s) → b ≤ 0 → cutM xs lo b = []
  | [], _, _, _, _ => rfl
  | s :: r, lo, b, h, hb => by
    have hs := (h s List.mem_cons_self).l
    show piece s lo b ++ cutM r (lo - lst3 s) (b - lst3 s) = []
    rw [piece_none hb, cut_none' r _ _ (fun z hz => h z (List.mem_cons_of_mem _ hz)) (by grind)]
    rfl
theorem piece_two {s : St3} {b m e : Rat} (h1 : b ≤ m) (h2 : m ≤ e) (hl : m ≤ lst3 s) : normM (piece s b m ++ piece s m e) = normM (piece s b e) := by
  by_cases c0 : m ≤ 0
  · rw [piece_none c0, piece_neg (b' := b) c0 (by grind)]
    rfl
  · have em : pf m = m := pf_pos (by grind)
    have gm : pg (lst3 s) m = m := pg_e hl
    have hb : pf b ≤ m := by
      unfold pf
      split <;> grind
    have ge : m ≤ pg (lst3 s) e := by
      unfold pg
      split <;> grind
    rw [piece_pf, piece_pf, piece_pf, em, gm]
    generalize pg (lst3 s) e = g at *
    generalize pf b = f at *
    by_cases c1 : f < m
    · by_cases c2 : m < g
      · rw [if_pos c1, if_pos c2, if_pos (by grind)]
        exact norm_two _ _ rfl rfl
      · have e1 : g = m := by grind
        rw [if_pos c1, if_neg c2, e1, if_pos c1]
        rfl
    · have e1 : f = m := by grind
      rw [if_neg c1, e1]
      rfl
theorem cut_two : ∀ (xs : List St3) (b m e : Rat), (∀ s ∈ xs, Gd3 s) → b ≤ m → m ≤ e → normM (cutM xs b m ++ cutM xs m e) = normM (cutM xs b e)
  | [], _, _, _, _, _, _ => rfl
  | s :: r, b, m, e, h, h1, h2 => by
    have hr : ∀ z ∈ r, Gd3 z := fun z hz => h z (List.mem_cons_of_mem _ hz)
    have hl := (h s List.mem_cons_self).l
    show normM (piece s b m ++ cutM r (b - lst3 s) (m - lst3 s) ++ (piece s m e ++ cutM r (m - lst3 s) (e - lst3 s))) = normM (piece s b e ++ cutM r (b - lst3 s) (e - lst3 s))
    by_cases c : m ≤ lst3 s
    · rw [cut_none' r (b - lst3 s) (m - lst3 s) hr (by grind), List.append_nil, ← List.append_assoc, cut_neg r (m - lst3 s) (b - lst3 s) (e - lst3 s) hr (by grind) (by grind)]
      exact norm_congr (piece_two h1 h2 c) rfl
    · rw [piece_late (b := m) (by grind), List.nil_append, List.append_assoc]
      have e1 : piece s b m = piece s b e := by
        rw [piece_pf, piece_pf, pg_l (show lst3 s ≤ m by grind), pg_l (show lst3 s ≤ e by grind)]
      rw [e1]
      exact norm_congr rfl (cut_two r _ _ _ hr (by grind) (by grind))
/-! the deeds, on the reel's show and on another one that shows the same -/
theorem deed_out (xs : List St3) (b e : Rat) (h : ∀ s ∈ xs, Gd3 s) : normM (normM (cutM (normM xs) 0 b) ++ [] ++ normM (cutM (normM xs) e (lenS (normM xs)))) = normM (cutM xs 0 b ++ cutM xs e (lenS xs)) := by
  rw [fill_norm xs [] b e h, List.append_nil]
theorem deed_into (xs st : List St3) (b e : Rat) (h : ∀ s ∈ xs, Gd3 s) (h1 : b ≤ e) (h2 : e ≤ lenS xs) : normM (normM (cutM (normM xs) 0 b) ++ st ++ normM (cutM (normM xs) b (lenS (normM xs)))) = normM (cutM xs 0 b ++ st ++ cutM xs b e ++ cutM xs e (lenS xs)) := by
  rw [fill_norm xs st b b h, List.append_assoc (cutM xs 0 b ++ st)]
  exact norm_congr rfl (cut_two xs b e (lenS xs) h h1 h2).symm
theorem deed_fast {f : Rat} (hf : 0 < f) (xs : List St3) (b e : Rat) (h : ∀ s ∈ xs, Gd3 s) : normM (normM (cutM (normM xs) 0 b) ++ fastM f (normM (cutM (normM xs) b e)) ++ normM (cutM (normM xs) e (lenS (normM xs)))) = normM (cutM xs 0 b ++ fastM f (cutM xs b e) ++ cutM xs e (lenS xs)) := by
  rw [fill_norm xs _ b e h, cut_norm xs b e h, fast_norm hf]
  refine norm_congr (norm_congr rfl (norm_norm _)) rfl
end R
namespace R
def L30 : Nat := 2329089562800
theorem l30_dvd : ∀ c : Nat, c < 31 → 0 < c → c ∣ L30 := by decide
theorem t2520_dvd : ∀ c : Nat, c < 10 → 0 < c → c ∣ 2520 := by decide
/-! ### paces as they are drawn -/
structure Pc (p : Rat) : Prop where
  pos : 0 < p
  n9 : p.num.natAbs ≤ 9
  d9 : p.den ≤ 9
theorem num_pos' {p : Rat} (h : 0 < p) : 0 < p.num := by
  have h1 := (Rat.lt_iff 0 p).mp h
  have e1 : (0 : Rat).num = 0 := rfl
  have e2 : (0 : Rat).den = 1 := rfl
  rw [e1, e2, Int.zero_mul] at h1
  omega
theorem mul_den (p : Rat) : p * (p.den : Rat) = (p.num : Rat) := by
  have h := Rat.num_divInt_den p
  rw [Rat.divInt_eq_div, Rat.intCast_natCast] at h
  have hd : (p.den : Rat) ≠ 0 := fun z => p.den_nz (Rat.natCast_inj.mp (show (p.den : Rat) = ((0 : Nat) : Rat) from z))
  have hc := Rat.inv_mul_cancel _ hd
  rw [Rat.div_def] at h
  generalize (p.den : Rat) = d at *
  generalize (p.num : Rat) = n at *
  rw [← h]
  grind
theorem iz_den (p : Rat) : Iz p.den p := ⟨p.num, mul_den p⟩
theorem iz_num {p : Rat} (h : 0 < p) : Iz p.num.natAbs p⁻¹ := by
  have h1 := num_pos' h
  refine ⟨(p.den : Int), ?_⟩
  have e : ((p.num.natAbs : Nat) : Rat) = (p.num : Rat) := by
    rw [← Rat.intCast_natCast]
    congr 1
    omega
  rw [e, ← mul_den p, Rat.intCast_natCast]
  have h2 := Rat.inv_mul_cancel p (ne_of_pos h)
  grind
theorem Pc.iz {p : Rat} (h : Pc p) : Iz 2520 p := (iz_den p).dvd (t2520_dvd _ (by have := h.d9; omega) p.den_pos)
theorem Pc.iv {p : Rat} (h : Pc p) : Iz 2520 p⁻¹ := (iz_num h.pos).dvd (t2520_dvd _ (by have := h.n9; omega) (by have := num_pos' h.pos; omega))
def gm (p : Rat) : Nat := p.num.natAbs * p.den
theorem Pc.gm_le {p : Rat} (h : Pc p) : gm p ≤ 81 := Nat.mul_le_mul h.n9 h.d9
theorem Pc.gm_pos {p : Rat} (h : Pc p) : 0 < gm p := Nat.mul_pos (by have := num_pos' h.pos; omega) p.den_pos
theorem Pc.izg {p : Rat} (h : Pc p) : Iz (gm p) p := (iz_den p).dvd (Nat.dvd_mul_left _ _)
theorem Pc.ivg {p : Rat} (h : Pc p) : Iz (gm p) p⁻¹ := (iz_num h.pos).dvd (Nat.dvd_mul_right _ _)
theorem den_pos_q (p : Rat) : (1 : Rat) ≤ (p.den : Rat) := by
  have : ((1 : Nat) : Rat) ≤ (p.den : Rat) := Rat.natCast_le_natCast.mpr p.den_pos
  exact this
theorem Pc.hi {p : Rat} (h : Pc p) : p ≤ 9 := by
  have h1 : (p.num : Rat) ≤ ((9 : Int) : Rat) := Rat.intCast_le_intCast.mpr (by have := h.n9; omega)
  rw [← mul_den p] at h1
  have h2 := den_pos_q p
  have h3 : p * 1 ≤ p * (p.den : Rat) := Rat.mul_le_mul_of_nonneg_left h2 (by have := h.pos; grind)
  have h4 : ((9 : Int) : Rat) = 9 := rfl
  grind
theorem Pc.lo {p : Rat} (h : Pc p) : p⁻¹ ≤ 9 := by
  have n1 : ((1 : Int) : Rat) ≤ (p.num : Rat) := Rat.intCast_le_intCast.mpr (by have := num_pos' h.pos; omega)
  have h1 : (p.den : Rat) ≤ ((9 : Nat) : Rat) := Rat.natCast_le_natCast.mpr h.d9
  have h2 := mul_den p
  have hi := Rat.inv_pos.mpr h.pos
  have hc := Rat.inv_mul_cancel p (ne_of_pos h.pos)
  have e : p⁻¹ * (p.num : Rat) = (p.den : Rat) := by
    rw [← h2]
    grind
  have h5 : p⁻¹ * 1 ≤ p⁻¹ * (p.num : Rat) := Rat.mul_le_mul_of_nonneg_left n1 (by grind)
  have h4 : ((9 : Nat) : Rat) = 9 := rfl
  grind
/-! ### products of some of the factors -/
inductive Fx : List Rat → Rat → Prop
  | nil : Fx [] 1
  | skip {f : Rat} {fs : List Rat} {x : Rat} : Fx fs x → Fx (f :: fs) x
  | take {f : Rat} {fs : List Rat} {x : Rat} : Fx fs x → Fx (f :: fs) (x * f)
def Gam : List Rat → Nat
  | [] => 1
  | f :: fs => Gam fs * gm f
theorem fx_one : ∀ fs : List Rat, Fx fs 1
  | [] => .nil
  | _ :: fs => .skip (fx_one fs)
theorem Gam_pos : ∀ fs : List Rat, (∀ f ∈ fs, Pc f) → 0 < Gam fs
  | [], _ => Nat.one_pos
  | f :: fs, h => Nat.mul_pos (Gam_pos fs fun g hg => h g (List.mem_cons_of_mem _ hg)) (h f List.mem_cons_self).gm_pos
theorem Gam_le : ∀ fs : List Rat, (∀ f ∈ fs, Pc f) → Gam fs ≤ 81 ^ fs.length
  | [], _ => Nat.le_refl _
  | f :: fs, h => by
    show Gam fs * gm f ≤ 81 ^ (fs.length + 1)
    rw [Nat.pow_succ]
    exact Nat.mul_le_mul (Gam_le fs fun g hg => h g (List.mem_cons_of_mem _ hg)) (h f List.mem_cons_self).gm_le
theorem fx_pos : ∀ {fs : List Rat} {x : Rat}, (∀ f ∈ fs, Pc f) → Fx fs x → 0 < x
  | [], _, _, .nil => by decide
  | f :: fs, _, h, .skip g => fx_pos (fun a ha => h a (List.mem_cons_of_mem _ ha)) g
  | f :: fs, _, h, .take g => Rat.mul_pos (fx_pos (fun a ha => h a (List.mem_cons_of_mem _ ha)) g) (h f List.mem_cons_self).pos
theorem inv_mul2 {x y : Rat} (hx : 0 < x) (hy : 0 < y) : (x * y)⁻¹ = x⁻¹ * y⁻¹ := by
  have h1 := Rat.inv_mul_cancel x (ne_of_pos hx)
  have h2 := Rat.inv_mul_cancel y (ne_of_pos hy)
  have h3 := Rat.inv_mul_cancel (x * y) (ne_of_pos (Rat.mul_pos hx hy))
  have : (x * y)⁻¹ * ((x * y) * (x⁻¹ * y⁻¹)) = x⁻¹ * y⁻¹ := by grind
  have h4 : (x * y) * (x⁻¹ * y⁻¹) = 1 := by grind
  rw [h4] at this
  grind
theorem fx_ratio : ∀ {fs : List Rat} {x y : Rat}, (∀ f ∈ fs, Pc f) → Fx fs x → Fx fs y → Iz (Gam fs) (x * y⁻¹)
  | [], _, _, _, .nil, .nil => ⟨1, by show (1 : Rat) * 1⁻¹ * ((1 : Nat) : Rat) = ((1 : Int) : Rat); grind⟩
  | f :: fs, _, _, h, .skip a, .skip b => (fx_ratio (fun c hc => h c (List.mem_cons_of_mem _ hc)) a b).up _
  | f :: fs, _, _, h, @Fx.take _ _ x a, .skip b => by
    have ih := fx_ratio (fun c hc => h c (List.mem_cons_of_mem _ hc)) a b
    have := ih.mul (h f List.mem_cons_self).izg
    rename_i y
    rw [show x * f * y⁻¹ = x * y⁻¹ * f by grind]
    exact this
  | f :: fs, _, _, h, @Fx.skip _ _ x a, @Fx.take _ _ y b => by
    have h' : ∀ c ∈ fs, Pc c := fun c hc => h c (List.mem_cons_of_mem _ hc)
    have ih := fx_ratio h' a b
    have := ih.mul (h f List.mem_cons_self).ivg
    rw [inv_mul2 (fx_pos h' b) (h f List.mem_cons_self).pos, show x * (y⁻¹ * f⁻¹) = x * y⁻¹ * f⁻¹ by grind]
    exact this
  | f :: fs, _, _, h, @Fx.take _ _ x a, @Fx.take _ _ y b => by
    have h' : ∀ c ∈ fs, Pc c := fun c hc => h c (List.mem_cons_of_mem _ hc)
    have ih := fx_ratio h' a b
    have hf := (h f List.mem_cons_self).pos
    have h2 := Rat.inv_mul_cancel f (ne_of_pos hf)
    rw [inv_mul2 (fx_pos h' b) hf, show x * f * (y⁻¹ * f⁻¹) = x * y⁻¹ by grind]
    exact ih.up _
def p9 : Nat → Rat
  | 0 => 1
  | n + 1 => p9 n * 9
theorem p9_pos : ∀ n, 0 < p9 n
  | 0 => by decide
  | n + 1 => Rat.mul_pos (p9_pos n) (by decide)
theorem mul_le2 {a b c d : Rat} (ha : 0 ≤ a) (hc : 0 ≤ c) (h1 : a ≤ b) (h2 : c ≤ d) : a * c ≤ b * d := by
  have e1 := Rat.mul_le_mul_of_nonneg_right h1 hc
  have e2 := Rat.mul_le_mul_of_nonneg_left h2 (show 0 ≤ b by grind)
  grind
theorem fx_le : ∀ {fs : List Rat} {x : Rat}, (∀ f ∈ fs, Pc f) → Fx fs x → x ≤ p9 fs.length ∧ x⁻¹ ≤ p9 fs.length
  | [], _, _, .nil => ⟨by decide, by show (1 : Rat)⁻¹ ≤ 1; grind⟩
  | f :: fs, _, h, .skip g => by
    have h' : ∀ c ∈ fs, Pc c := fun c hc => h c (List.mem_cons_of_mem _ hc)
    obtain ⟨h1, h2⟩ := fx_le h' g
    have := p9_pos fs.length
    show _ ≤ p9 fs.length * 9 ∧ _ ≤ p9 fs.length * 9
    grind
  | f :: fs, _, h, @Fx.take _ _ x g => by
    have h' : ∀ c ∈ fs, Pc c := fun c hc => h c (List.mem_cons_of_mem _ hc)
    obtain ⟨h1, h2⟩ := fx_le h' g
    have hf := h f List.mem_cons_self
    have hx := fx_pos h' g
    have hi := Rat.inv_pos.mpr hf.pos
    have hj := Rat.inv_pos.mpr hx
    have l1 := hf.hi
    have l2 := hf.lo
    have l3 := hf.pos
    show _ ≤ p9 fs.length * 9 ∧ _ ≤ p9 fs.length * 9
    rw [inv_mul2 hx hf.pos]
    exact ⟨mul_le2 (by grind) (by grind) h1 l1, mul_le2 (by grind) (by grind) h2 l2⟩
end R
namespace R
/-! ### stretches: what they become whole by, their paces -/
structure Fs (D : Nat) (fs : List Rat) (s : St3) : Prop where
  b0 : 0 ≤ s.1
  lt : s.1 < s.2.1
  hi : s.2.1 ≤ 300
  zb : Iz D s.1
  ze : Iz D s.2.1
  pc : ∃ p x, s.2.2 = p * x ∧ Pc p ∧ Fx fs x
section
variable {D : Nat} {fs : List Rat}
theorem fs_join (s t : St3) (h1 : s.2.1 = t.1) (h2 : s.2.2 = t.2.2) (a : Fs D fs s) (b : Fs D fs t) : Fs D fs (s.1, t.2.1, t.2.2) :=
  ⟨a.b0, by have := a.lt; have := b.lt; show s.1 < t.2.1; grind, b.hi, a.zb, b.ze, b.pc⟩
theorem Fs.pos {s : St3} (hf : ∀ f ∈ fs, Pc f) (a : Fs D fs s) : 0 < s.2.2 := by
  obtain ⟨p, x, e, h1, h2⟩ := a.pc
  rw [e]
  exact Rat.mul_pos h1.pos (fx_pos hf h2)
theorem Fs.inv {s : St3} (hf : ∀ f ∈ fs, Pc f) (a : Fs D fs s) : Iz (2520 * Gam fs) s.2.2⁻¹ ∧ s.2.2⁻¹ ≤ 9 * p9 fs.length ∧ Iz (2520 * Gam fs) s.2.2 ∧ s.2.2 ≤ 9 * p9 fs.length := by
  obtain ⟨p, x, e, h1, h2⟩ := a.pc
  have hx := fx_pos hf h2
  have r := fx_ratio hf (fx_one fs) h2
  rw [Rat.one_mul] at r
  have r2 := fx_ratio hf h2 (fx_one fs)
  rw [show x * (1 : Rat)⁻¹ = x by grind] at r2
  obtain ⟨l1, l2⟩ := fx_le hf h2
  have q1 := Rat.inv_pos.mpr h1.pos
  have q2 := Rat.inv_pos.mpr hx
  have q3 := h1.pos
  rw [e, inv_mul2 h1.pos hx]
  exact ⟨h1.iv.mul r, mul_le2 (by grind) (by grind) h1.lo l2, h1.iz.mul r2, mul_le2 (by grind) (by grind) h1.hi l1⟩
theorem Fs.gd {s : St3} (hf : ∀ f ∈ fs, Pc f) (a : Fs D fs s) : Gd3 s := by
  have hp := a.pos hf
  refine ⟨hp, ?_⟩
  unfold lst3
  rw [Rat.div_def]
  have h1 := a.lt
  have h2 := Rat.inv_pos.mpr hp
  have := Rat.mul_nonneg (show 0 ≤ s.2.1 - s.1 by grind) (show 0 ≤ s.2.2⁻¹ by grind)
  exact this
theorem Fs.lst {s : St3} (hf : ∀ f ∈ fs, Pc f) (a : Fs D fs s) : Iz (D * (2520 * Gam fs)) (lst3 s) ∧ 0 ≤ lst3 s ∧ lst3 s ≤ 300 * (9 * p9 fs.length) := by
  refine ⟨?_, (a.gd hf).l, ?_⟩
  · unfold lst3
    rw [Rat.div_def]
    exact (a.ze.sub a.zb).mul (a.inv hf).1
  · unfold lst3
    rw [Rat.div_def]
    have h1 := a.lt
    have h2 := Rat.inv_pos.mpr (a.pos hf)
    have h3 := a.hi
    have h4 := a.b0
    exact mul_le2 (by grind) (by grind) (by grind) (a.inv hf).2.1
def G9 (fs : List Rat) : Nat := 2520 * 2520 * Gam fs
theorem Fs.ratio {s t : St3} (hf : ∀ f ∈ fs, Pc f) (a : Fs D fs s) (b : Fs D fs t) : Iz (G9 fs) (s.2.2⁻¹ * t.2.2) := by
  obtain ⟨p, x, e, h1, h2⟩ := a.pc
  obtain ⟨q, y, e2, h3, h4⟩ := b.pc
  rw [e, e2, inv_mul2 h1.pos (fx_pos hf h2), show p⁻¹ * x⁻¹ * (q * y) = p⁻¹ * q * (y * x⁻¹) by grind]
  exact (h1.iv.mul h3.iz).mul (fx_ratio hf h4 h2)
/-- times of the show: by each pace places of the reel -/
def Tz (D E : Nat) (fs : List Rat) (t : Rat) : Prop := ∀ s, Fs D fs s → Iz E (t * s.2.2)
theorem tz_lst {s : St3} (hf : ∀ f ∈ fs, Pc f) (a : Fs D fs s) : Tz D (D * G9 fs) fs (lst3 s) := by
  intro t ht
  unfold lst3
  rw [Rat.div_def, Rat.mul_assoc]
  exact (a.ze.sub a.zb).mul (a.ratio hf ht)
theorem tz_sub {E : Nat} {x y : Rat} (hx : Tz D E fs x) (hy : Tz D E fs y) : Tz D E fs (x - y) := fun s hs => by
  rw [show (x - y) * s.2.2 = x * s.2.2 - y * s.2.2 by grind]
  exact (hx s hs).sub (hy s hs)
theorem tz_add {E : Nat} {x y : Rat} (hx : Tz D E fs x) (hy : Tz D E fs y) : Tz D E fs (x + y) := fun s hs => by
  rw [Rat.add_mul]
  exact (hx s hs).add (hy s hs)
theorem tz_zero {E : Nat} : Tz D E fs 0 := fun s _ => by
  rw [Rat.zero_mul]
  exact iz_zero _
theorem tz_len (hf : ∀ f ∈ fs, Pc f) : ∀ (xs : List St3), (∀ s ∈ xs, Fs D fs s) → Tz D (D * G9 fs) fs (lenS xs)
  | [], _ => tz_zero
  | s :: r, h => tz_add (tz_lst hf (h s List.mem_cons_self)) (tz_len hf r fun z hz => h z (List.mem_cons_of_mem _ hz))
theorem Tz.part {E : Nat} {x q : Rat} (hx : Tz D E fs x) (hq : Iz 1100 q) : Tz D (E * 1100) fs (x * q) := fun s hs => by
  rw [show x * q * s.2.2 = x * s.2.2 * q by grind]
  exact (hx s hs).mul hq
theorem Tz.up {E : Nat} {x : Rat} (hx : Tz D E fs x) (n : Nat) : Tz D (E * n) fs x := fun s hs => (hx s hs).up n
theorem pf_cases (b : Rat) : pf b = b ∨ pf b = 0 := by
  unfold pf
  split
  · exact .inl rfl
  · exact .inr rfl
theorem pg_cases (l e : Rat) : pg l e = e ∨ pg l e = l := by
  unfold pg
  split
  · exact .inl rfl
  · exact .inr rfl
theorem piece_fs {E : Nat} {s : St3} {b e : Rat} (hf : ∀ f ∈ fs, Pc f) (a : Fs D fs s) (hE : D ∣ E) (hl : Tz D E fs (lst3 s)) (hb : Tz D E fs b) (he : Tz D E fs e) : ∀ t ∈ piece s b e, Fs E fs t := by
  intro t ht
  rw [piece_pf] at ht
  have hp := a.pos hf
  split at ht
  · rename_i c
    rw [List.mem_singleton.mp ht]
    have f0 := pf0 b
    have g0 := pgl (lst3 s) e
    have m := lst_mul hp
    have h1 : 0 ≤ pf b * s.2.2 := Rat.mul_nonneg f0 (by grind)
    have h2 : pf b * s.2.2 < pg (lst3 s) e * s.2.2 := Rat.mul_lt_mul_of_pos_right c hp
    have h3 : pg (lst3 s) e * s.2.2 ≤ lst3 s * s.2.2 := Rat.mul_le_mul_of_nonneg_right g0 (by grind)
    have h4 := a.b0
    have h5 := a.hi
    have zf : Iz E (pf b * s.2.2) := by
      rcases pf_cases b with z | z
      · rw [z]
        exact hb s a
      · rw [z]
        exact tz_zero (E := E) s a
    have zg : Iz E (pg (lst3 s) e * s.2.2) := by
      rcases pg_cases (lst3 s) e with z | z
      · rw [z]
        exact he s a
      · rw [z]
        exact hl s a
    refine ⟨?_, ?_, ?_, (a.zb.dvd hE).add zf, (a.zb.dvd hE).add zg, a.pc⟩
    · show 0 ≤ s.1 + pf b * s.2.2
      grind
    · show s.1 + pf b * s.2.2 < s.1 + pg (lst3 s) e * s.2.2
      grind
    · show s.1 + pg (lst3 s) e * s.2.2 ≤ 300
      grind
  · cases ht
theorem cut_fs {E : Nat} (hf : ∀ f ∈ fs, Pc f) (hE : D * G9 fs ∣ E) : ∀ (xs : List St3) (b e : Rat), (∀ s ∈ xs, Fs D fs s) → Tz D E fs b → Tz D E fs e → ∀ t ∈ cutM xs b e, Fs E fs t
  | [], _, _, _, _, _, t, ht => by cases ht
  | s :: r, b, e, h, hb, he, t, ht => by
    have a := h s List.mem_cons_self
    have hl : Tz D E fs (lst3 s) := fun u hu => (tz_lst hf a u hu).dvd hE
    rcases List.mem_append.mp (show t ∈ piece s b e ++ cutM r (b - lst3 s) (e - lst3 s) from ht) with h1 | h1
    · exact piece_fs hf a (Nat.dvd_trans (Nat.dvd_mul_right _ _) hE) hl hb he t h1
    · exact cut_fs hf hE r _ _ (fun z hz => h z (List.mem_cons_of_mem _ hz)) (tz_sub hb hl) (tz_sub he hl) t h1
theorem Fs.dvd {E : Nat} {s : St3} (a : Fs D fs s) (h : D ∣ E) : Fs E fs s := ⟨a.b0, a.lt, a.hi, a.zb.dvd h, a.ze.dvd h, a.pc⟩
theorem Fs.more {f : Rat} {s : St3} (a : Fs D fs s) : Fs D (f :: fs) s := by
  obtain ⟨p, x, e, h1, h2⟩ := a.pc
  exact ⟨a.b0, a.lt, a.hi, a.zb, a.ze, p, x, e, h1, .skip h2⟩
theorem Fs.fast {f : Rat} {s : St3} (a : Fs D fs s) : Fs D (f :: fs) (s.1, s.2.1, s.2.2 * f) := by
  obtain ⟨p, x, e, h1, h2⟩ := a.pc
  exact ⟨a.b0, a.lt, a.hi, a.zb, a.ze, p, x * f, by show s.2.2 * f = p * (x * f); rw [e]; grind, h1, .take h2⟩
end
/-! how many pieces there are -/
theorem cut_none : ∀ (xs : List St3) (lo b : Rat), (∀ s ∈ xs, Gd3 s) → b ≤ 0 → cutM xs lo b = []
  | [], _, _, _, _ => rfl
  | s :: r, lo, b, h, hb => by
    have hs := (h s List.mem_cons_self).l
    have e : piece s lo b = [] := by
      rw [piece_pf]
      have h1 := pf0 lo
      have h2 := pge (lst3 s) b
      rw [if_neg (by grind)]
    show piece s lo b ++ cutM r (lo - lst3 s) (b - lst3 s) = []
    rw [e, cut_none r _ _ (fun z hz => h z (List.mem_cons_of_mem _ hz)) (by grind)]
    rfl
theorem piece_lt {s : St3} {b e : Rat} (h : (piece s b e).length ≠ 0) : b < lst3 s ∧ 0 < e := by
  rw [piece_pf] at h
  split at h
  · rename_i c
    have h1 := pfb b
    have h2 := pf0 b
    have h3 := pge (lst3 s) e
    have h4 := pgl (lst3 s) e
    grind
  · exact absurd rfl h
theorem cut_len1 (xs : List St3) (b e : Rat) : (cutM xs b e).length ≤ xs.length := by
  induction xs generalizing b e with
  | nil => exact Nat.le_refl _
  | cons s r ih =>
    have h1 := piece_len s b e
    have h2 := ih (b - lst3 s) (e - lst3 s)
    show (piece s b e ++ cutM r (b - lst3 s) (e - lst3 s)).length ≤ r.length + 1
    rw [List.length_append]
    omega
theorem cut_len2 : ∀ (xs : List St3) (lo b e hi : Rat), (∀ s ∈ xs, Gd3 s) → b ≤ e → (cutM xs lo b).length + (cutM xs e hi).length ≤ xs.length + 1
  | [], _, _, _, _, _, _ => by show 0 + 0 ≤ 0 + 1; omega
  | s :: r, lo, b, e, hi, h, hbe => by
    have hr : ∀ z ∈ r, Gd3 z := fun z hz => h z (List.mem_cons_of_mem _ hz)
    have ih := cut_len2 r (lo - lst3 s) (b - lst3 s) (e - lst3 s) (hi - lst3 s) hr (by grind)
    have p1 := piece_len s lo b
    have p2 := piece_len s e hi
    have c2 := cut_len1 r (e - lst3 s) (hi - lst3 s)
    show (piece s lo b ++ cutM r (lo - lst3 s) (b - lst3 s)).length + (piece s e hi ++ cutM r (e - lst3 s) (hi - lst3 s)).length ≤ r.length + 1 + 1
    rw [List.length_append, List.length_append]
    by_cases c : (piece s e hi).length = 0
    · omega
    · have := (piece_lt c).1
      rw [cut_none r (lo - lst3 s) (b - lst3 s) hr (by grind)]
      show _ + 0 + _ ≤ _
      omega
theorem cut_len3 : ∀ (xs : List St3) (lo b e hi : Rat), (∀ s ∈ xs, Gd3 s) → b ≤ e → (cutM xs lo b).length + (cutM xs b e).length + (cutM xs e hi).length ≤ xs.length + 2
  | [], _, _, _, _, _, _ => by show 0 + 0 + 0 ≤ 0 + 2; omega
  | s :: r, lo, b, e, hi, h, hbe => by
    have hr : ∀ z ∈ r, Gd3 z := fun z hz => h z (List.mem_cons_of_mem _ hz)
    have ih := cut_len3 r (lo - lst3 s) (b - lst3 s) (e - lst3 s) (hi - lst3 s) hr (by grind)
    have ih2 := cut_len2 r (b - lst3 s) (e - lst3 s) (e - lst3 s) (hi - lst3 s) hr (Rat.le_refl)
    have p1 := piece_len s lo b
    have p2 := piece_len s e hi
    have p3 := piece_len s b e
    have c2 := cut_len1 r (e - lst3 s) (hi - lst3 s)
    show (piece s lo b ++ cutM r (lo - lst3 s) (b - lst3 s)).length + (piece s b e ++ cutM r (b - lst3 s) (e - lst3 s)).length + (piece s e hi ++ cutM r (e - lst3 s) (hi - lst3 s)).length ≤ r.length + 1 + 2
    rw [List.length_append, List.length_append, List.length_append]
    by_cases c : (piece s e hi).length = 0
    · by_cases c' : (piece s b e).length = 0
      · omega
      · have := (piece_lt c').1
        rw [cut_none r (lo - lst3 s) (b - lst3 s) hr (by grind)]
        show _ + 0 + _ + _ ≤ _
        omega
    · have := (piece_lt c).1
      rw [cut_none r (lo - lst3 s) (b - lst3 s) hr (by grind), cut_none r (b - lst3 s) (e - lst3 s) hr (by grind)]
      show _ + 0 + (_ + 0) + _ ≤ _
      omega
end R
namespace R
/-! ### shows behind so many deeds -/
def gB (i : Nat) : Nat := 2520 * 2520 * 81 ^ i
def dB : Nat → Nat
  | 0 => L30
  | i + 1 => dB i * gB i * 1100
structure SdX (i D : Nat) (fs : List Rat) (xs : List St3) : Prop where
  d0 : 0 < D
  dl : L30 ∣ D
  db : D ≤ dB i
  fl : fs.length ≤ i
  pf : ∀ f ∈ fs, Pc f
  each : ∀ s ∈ xs, Fs D fs s
  len : xs.length ≤ 6 + 4 * i
def Sd (i : Nat) (xs : List St3) : Prop := ∃ D fs, SdX i D fs xs
theorem dB_pos : ∀ i, 0 < dB i
  | 0 => by decide
  | i + 1 => Nat.mul_pos (Nat.mul_pos (dB_pos i) (Nat.mul_pos (by decide) (Nat.pow_pos (by decide)))) (by decide)
theorem dB_step (i : Nat) : dB i ≤ dB (i + 1) := by
  show dB i ≤ dB i * gB i * 1100
  have h1 : 0 < gB i := Nat.mul_pos (by decide) (Nat.pow_pos (by decide))
  calc dB i = dB i * 1 * 1 := by omega
    _ ≤ dB i * gB i * 1100 := Nat.mul_le_mul (Nat.mul_le_mul (Nat.le_refl _) h1) (by decide)
theorem dB_mono {i j : Nat} (h : i ≤ j) : dB i ≤ dB j := by
  induction h with
  | refl => exact Nat.le_refl _
  | step _ ih => exact Nat.le_trans ih (dB_step _)
theorem p9_nat : ∀ n : Nat, p9 n = ((9 ^ n : Nat) : Rat)
  | 0 => rfl
  | n + 1 => by
    show p9 n * 9 = _
    rw [p9_nat n, Nat.pow_succ, Rat.natCast_mul]
    rfl
theorem len_le {D : Nat} {fs : List Rat} (hf : ∀ f ∈ fs, Pc f) : ∀ (xs : List St3), (∀ s ∈ xs, Fs D fs s) → Iz (D * (2520 * Gam fs)) (lenS xs) ∧ 0 ≤ lenS xs ∧ lenS xs ≤ ((xs.length * (300 * (9 * 9 ^ fs.length)) : Nat) : Rat)
  | [], _ => ⟨iz_zero _, Rat.le_refl, by show (0 : Rat) ≤ _; exact Rat.natCast_nonneg⟩
  | s :: r, h => by
    obtain ⟨h1, h2, h3⟩ := (h s List.mem_cons_self).lst hf
    obtain ⟨g1, g2, g3⟩ := len_le hf r fun z hz => h z (List.mem_cons_of_mem _ hz)
    refine ⟨h1.add g1, Rat.add_nonneg h2 g2, ?_⟩
    rw [p9_nat] at h3
    have e : (((s :: r).length * (300 * (9 * 9 ^ fs.length)) : Nat) : Rat) = ((r.length * (300 * (9 * 9 ^ fs.length)) : Nat) : Rat) + 300 * (9 * ((9 ^ fs.length : Nat) : Rat)) := by
      rw [List.length_cons, Nat.add_mul, Nat.one_mul, Rat.natCast_add, Rat.natCast_mul 300, Rat.natCast_mul 9]
      rfl
    rw [e]
    show lst3 s + lenS r ≤ _
    grind
theorem big1 : 76400 * (9 * 9 ^ 19) * (dB 19 * (2520 * 81 ^ 19) * 1100) < 2 ^ 2240 := by decide +kernel
theorem big {M E : Nat} (hM : M ≤ 76400 * (9 * 9 ^ 19)) (hE : E ≤ dB 19 * (2520 * 81 ^ 19) * 1100) : M * E < 2 ^ 2240 := Nat.lt_of_le_of_lt (Nat.mul_le_mul hM hE) big1
theorem big' {E : Nat} (hE : E ≤ dB 19 * (2520 * 81 ^ 19) * 1100) : E < 2 ^ 2240 := by
  have := big (M := 1) (by decide +kernel) hE
  omega
theorem szB {E M : Nat} {x : Rat} (h0 : 0 < E) (hE : E ≤ dB 19 * (2520 * 81 ^ 19) * 1100) (hz : Iz E x) (h1 : 0 ≤ x) (h2 : x ≤ (M : Rat)) (hM : M ≤ 76400 * (9 * 9 ^ 19)) : Sz 2240 x := by
  refine hz.sz h0 (M := M) ?_ h2 (big hM hE) (big' hE)
  have : (0 : Rat) ≤ (M : Rat) := Rat.natCast_nonneg
  grind
section
variable {i D : Nat} {fs : List Rat} {xs : List St3}
theorem SdX.gam (h : SdX i D fs xs) (hi : i ≤ 19) : 0 < Gam fs ∧ Gam fs ≤ 81 ^ 19 := ⟨Gam_pos fs h.pf, Nat.le_trans (Gam_le fs h.pf) (Nat.pow_le_pow_right (by decide) (Nat.le_trans h.fl hi))⟩
theorem SdX.E1 (h : SdX i D fs xs) (hi : i ≤ 19) : D * (2520 * Gam fs) * 1100 ≤ dB 19 * (2520 * 81 ^ 19) * 1100 :=
  Nat.mul_le_mul (Nat.mul_le_mul (Nat.le_trans h.db (dB_mono hi)) (Nat.mul_le_mul (Nat.le_refl _) (h.gam hi).2)) (Nat.le_refl _)
theorem SdX.E1p (h : SdX i D fs xs) (hi : i ≤ 19) : 0 < D * (2520 * Gam fs) * 1100 := Nat.mul_pos (Nat.mul_pos h.d0 (Nat.mul_pos (by decide) (h.gam hi).1)) (by decide)
theorem SdX.M1 (h : SdX i D fs xs) (hi : i ≤ 19) {n : Nat} (hn : n ≤ 82) : n * (300 * (9 * 9 ^ fs.length)) ≤ 76400 * (9 * 9 ^ 19) := by
  have h1 : 9 ^ fs.length ≤ 9 ^ 19 := Nat.pow_le_pow_right (by decide) (Nat.le_trans h.fl hi)
  calc n * (300 * (9 * 9 ^ fs.length)) ≤ 82 * (300 * (9 * 9 ^ 19)) := Nat.mul_le_mul hn (Nat.mul_le_mul (Nat.le_refl _) (Nat.mul_le_mul (Nat.le_refl _) h1))
    _ ≤ 76400 * (9 * 9 ^ 19) := by decide +kernel
theorem SdX.ok (h : SdX i D fs xs) (hi : i ≤ 19) : ShOk 2240 xs := by
  have hl : ∀ ys : List St3, (∀ s ∈ ys, s ∈ xs) → ys.length ≤ 82 → Sz 2240 (lenS ys) := by
    intro ys hy hn
    obtain ⟨h1, h2, h3⟩ := len_le h.pf ys fun s hs => h.each s (hy s hs)
    exact szB (h.E1p hi) (h.E1 hi) (h1.up 1100) h2 h3 (h.M1 hi hn)
  have hD : ∀ s ∈ xs, Iz (D * (2520 * Gam fs) * 1100) s.1 ∧ Iz (D * (2520 * Gam fs) * 1100) s.2.1 ∧ Iz (D * (2520 * Gam fs) * 1100) s.2.2 := by
    intro s hs
    have a := h.each s hs
    refine ⟨(a.zb.up _).up _, (a.ze.up _).up _, ?_⟩
    rw [Nat.mul_comm D]
    exact ((a.inv h.pf).2.2.1.up D).up _
  refine ⟨fun s hs => ?_, fun k => ?_, fun s hs => ?_⟩
  · have a := h.each s hs
    obtain ⟨z1, z2, z3⟩ := hD s hs
    have hp := a.pos h.pf
    have b1 := a.b0
    have b2 := a.lt
    have b3 := a.hi
    have m3 : ((300 : Nat) : Rat) = 300 := rfl
    refine ⟨szB (M := 300) (h.E1p hi) (h.E1 hi) z1 b1 (by grind) (by decide +kernel), szB (M := 300) (h.E1p hi) (h.E1 hi) z2 (by grind) (by grind) (by decide +kernel), szB (M := 1 * (300 * (9 * 9 ^ fs.length))) (h.E1p hi) (h.E1 hi) z3 (by grind) ?_ (h.M1 hi (by decide)), hp⟩
    have := (a.inv h.pf).2.2.2
    rw [p9_nat] at this
    rw [Nat.one_mul, Rat.natCast_mul 300, Rat.natCast_mul 9]
    have q : (0 : Rat) ≤ ((9 ^ fs.length : Nat) : Rat) := Rat.natCast_nonneg
    show s.2.2 ≤ 300 * (9 * ((9 ^ fs.length : Nat) : Rat))
    grind
  · refine hl _ (fun s hs => List.mem_of_mem_take hs) ?_
    have := h.len
    rw [List.length_take]
    omega
  · have := hl [s] (fun t ht => by rw [List.mem_singleton.mp ht]; exact hs) (by show 1 ≤ 82; decide)
    rw [lenS_one] at this
    exact this
theorem SdX.gd (h : SdX i D fs xs) : ∀ s ∈ xs, Gd3 s := fun s hs => (h.each s hs).gd h.pf
/-- a time of a show -/
def Tq (xs : List St3) (t : Rat) : Prop := ∃ q, Iz 1100 q ∧ 0 ≤ q ∧ q ≤ 1 ∧ t = lenS xs * q
theorem SdX.time (h : SdX i D fs xs) (hi : i ≤ 19) {t : Rat} (ht : Tq xs t) : Sz 2240 t ∧ 0 ≤ t ∧ t ≤ lenS xs := by
  obtain ⟨q, h1, h2, h3, rfl⟩ := ht
  obtain ⟨g1, g2, g3⟩ := len_le h.pf xs h.each
  have p1 : lenS xs * q ≤ lenS xs * 1 := Rat.mul_le_mul_of_nonneg_left h3 g2
  have p0 := Rat.mul_nonneg g2 h2
  refine ⟨szB (h.E1p hi) (h.E1 hi) (g1.mul h1) p0 ?_ (h.M1 hi (n := xs.length) (by have := h.len; omega)), p0, by grind⟩
  grind
theorem tq_zero (xs : List St3) : Tq xs 0 := ⟨0, iz_zero _, Rat.le_refl, by decide, by grind⟩
theorem tq_all (xs : List St3) : Tq xs (lenS xs) := ⟨1, iz_int 1100 1, by decide, Rat.le_refl, by grind⟩
theorem Tq.tz (h : SdX i D fs xs) {t : Rat} (ht : Tq xs t) : Tz D (D * G9 fs * 1100) fs t := by
  obtain ⟨q, h1, _, _, rfl⟩ := ht
  exact (tz_len h.pf xs h.each).part h1
theorem SdX.cut (h : SdX i D fs xs) {b e : Rat} (hb : Tq xs b) (he : Tq xs e) : ∀ s ∈ cutM xs b e, Fs (D * G9 fs * 1100) fs s :=
  cut_fs h.pf (Nat.dvd_mul_right _ _) xs b e h.each (hb.tz h) (he.tz h)
theorem SdX.next (h : SdX i D fs xs) {ys : List St3} {gs : List Rat} (hg : gs.length ≤ i + 1) (pg : ∀ f ∈ gs, Pc f) (he : ∀ s ∈ ys, Fs (D * G9 fs * 1100) gs s) (hl : ys.length ≤ xs.length + 4) : SdX (i + 1) (D * G9 fs * 1100) gs ys := by
  refine ⟨Nat.mul_pos (Nat.mul_pos h.d0 (Nat.mul_pos (by decide) (Gam_pos fs h.pf))) (by decide), Nat.dvd_trans h.dl (Nat.dvd_trans (Nat.dvd_mul_right _ _) (Nat.dvd_mul_right _ _)), ?_, hg, pg, he, by have := h.len; omega⟩
  refine Nat.mul_le_mul (Nat.mul_le_mul h.db ?_) (Nat.le_refl _)
  exact Nat.mul_le_mul (Nat.le_refl _) (Nat.le_trans (Gam_le fs h.pf) (Nat.pow_le_pow_right (by decide) h.fl))
theorem mem_app {P : St3 → Prop} {a b : List St3} (ha : ∀ s ∈ a, P s) (hb : ∀ s ∈ b, P s) : ∀ s ∈ a ++ b, P s := fun s hs => (List.mem_append.mp hs).elim (ha s) (hb s)
theorem Sd.out (h : Sd i xs) {b e : Rat} (hb : Tq xs b) (he : Tq xs e) (hbe : b ≤ e) : Sd (i + 1) (cutM xs 0 b ++ cutM xs e (lenS xs)) := by
  obtain ⟨D, fs, h⟩ := h
  refine ⟨_, fs, h.next (by have := h.fl; omega) h.pf (mem_app (h.cut (tq_zero xs) hb) (h.cut he (tq_all xs))) ?_⟩
  rw [List.length_append]
  have := cut_len2 xs 0 b e (lenS xs) h.gd hbe
  omega
theorem fs_new {E : Nat} {gs : List Rat} {s : St3} (a : Fs L30 [] s) (h : L30 ∣ E) : Fs E gs s := by
  obtain ⟨p, x, e, h1, h2⟩ := a.pc
  cases h2
  exact ⟨a.b0, a.lt, a.hi, a.zb.dvd h, a.ze.dvd h, p, 1, e, h1, fx_one gs⟩
theorem Sd.into (h : Sd i xs) {b e : Rat} (hb : Tq xs b) (he : Tq xs e) (hbe : b ≤ e) {ys : List St3} (hy : ∀ s ∈ ys, Fs L30 [] s) (ly : ys.length ≤ 2) : Sd (i + 1) (cutM xs 0 b ++ ys ++ cutM xs b e ++ cutM xs e (lenS xs)) := by
  obtain ⟨D, fs, h⟩ := h
  refine ⟨_, fs, h.next (by have := h.fl; omega) h.pf (mem_app (mem_app (mem_app (h.cut (tq_zero xs) hb) fun s hs => fs_new (hy s hs) (Nat.dvd_trans h.dl (Nat.dvd_trans (Nat.dvd_mul_right _ _) (Nat.dvd_mul_right _ _)))) (h.cut hb he)) (h.cut he (tq_all xs))) ?_⟩
  rw [List.length_append, List.length_append, List.length_append]
  have := cut_len3 xs 0 b e (lenS xs) h.gd hbe
  omega
theorem Sd.faster (h : Sd i xs) {b e f : Rat} (hb : Tq xs b) (he : Tq xs e) (hbe : b ≤ e) (hf : Pc f) : Sd (i + 1) (cutM xs 0 b ++ fastM f (cutM xs b e) ++ cutM xs e (lenS xs)) := by
  obtain ⟨D, fs, h⟩ := h
  refine ⟨_, f :: fs, h.next (by have := h.fl; show fs.length + 1 ≤ _; omega) ?_ (mem_app (mem_app (fun s hs => (h.cut (tq_zero xs) hb s hs).more) ?_) (fun s hs => (h.cut he (tq_all xs) s hs).more)) ?_⟩
  · intro g hg
    rcases List.mem_cons.mp hg with z | z
    · rw [z]
      exact hf
    · exact h.pf g z
  · intro s hs
    obtain ⟨t, ht, rfl⟩ := List.mem_map.mp hs
    exact (h.cut hb he t ht).fast
  · rw [List.length_append, List.length_append, show (fastM f (cutM xs b e)).length = (cutM xs b e).length from List.length_map ..]
    have := cut_len3 xs 0 b e (lenS xs) h.gd hbe
    omega
theorem norm_le (xs : List St3) : (normM xs).length ≤ xs.length := by
  refine snoc_ind (P := fun xs => (normM xs).length ≤ xs.length) (Nat.le_refl _) (fun b s ih => ?_) xs
  rw [norm_snoc, List.length_append]
  have := nstep_len (normM b) s
  show _ ≤ _ + 1
  omega
theorem Sd.norm (h : Sd i xs) : Sd i (normM xs) := by
  obtain ⟨D, fs, h⟩ := h
  exact ⟨D, fs, h.d0, h.dl, h.db, h.fl, h.pf, norm_all fs_join xs h.each, Nat.le_trans (norm_le xs) h.len⟩
theorem Sd.start (hy : ∀ s ∈ xs, Fs L30 [] s) (ly : xs.length ≤ 6) : Sd 0 xs := ⟨L30, [], by decide, Nat.dvd_refl _, Nat.le_refl _, Nat.le_refl _, (fun f hf => nomatch hf), hy, by omega⟩
theorem Sd.ok (h : Sd i xs) (hi : i ≤ 19) : ShOk 2240 xs := let ⟨_, _, h⟩ := h; h.ok hi
theorem Sd.gd (h : Sd i xs) : ∀ s ∈ xs, Gd3 s := let ⟨_, _, h⟩ := h; h.gd
theorem Sd.time (h : Sd i xs) (hi : i ≤ 19) {t : Rat} (ht : Tq xs t) : Sz 2240 t ∧ 0 ≤ t ∧ t ≤ lenS xs := let ⟨_, _, h⟩ := h; h.time hi ht
theorem Sd.len (h : Sd i xs) : xs.length ≤ 6 + 4 * i := let ⟨_, _, h⟩ := h; h.len
end
end R
namespace R
/-! ### what is drawn -/
structure Tm (m : Int) (x : Rat) : Prop where
  iz : Iz L30 x
  lo : 0 ≤ x
  hi : x ≤ (m : Rat)
  sz : Sz 17 x
  s6 : m ≤ 60 → Sz 6 x
  dn : x.den ≤ 30
theorem l30_int {c : Int} (h0 : 0 < c) (h1 : c ≤ 30) : c ∣ (L30 : Int) := by
  have := l30_dvd c.natAbs (by omega) (by omega)
  exact Int.natAbs_dvd_natAbs.mp this
theorem div_le {r c : Int} (h0 : 0 ≤ r) (c0 : 0 < c) : 0 ≤ Rat.divInt r c ∧ Rat.divInt r c ≤ (r : Rat) := by
  have hr : (0 : Rat) ≤ (r : Rat) := Rat.intCast_nonneg.mpr h0
  have hc : (0 : Rat) < (c : Rat) := Rat.intCast_pos.mpr c0
  have h1 : ((1 : Int) : Rat) ≤ (c : Rat) := Rat.intCast_le_intCast.mpr (by omega)
  have hi := Rat.inv_pos.mpr hc
  have hm := Rat.inv_mul_cancel _ (ne_of_pos hc)
  have e1 : ((1 : Int) : Rat) = 1 := rfl
  rw [Rat.divInt_eq_div, Rat.div_def]
  refine ⟨Rat.mul_nonneg hr (by grind), ?_⟩
  have h2 : (c : Rat)⁻¹ * 1 ≤ (c : Rat)⁻¹ * (c : Rat) := Rat.mul_le_mul_of_nonneg_left (by grind) (by grind)
  have h3 : (r : Rat) * (c : Rat)⁻¹ ≤ (r : Rat) * 1 := Rat.mul_le_mul_of_nonneg_left (by grind) hr
  grind
theorem tm_frac {m r c : Int} (h0 : 0 ≤ r) (h1 : r < m) (hm : m ≤ 100000) (c0 : 0 < c) (c1 : c ≤ 30) : Tm m (Rat.divInt r c) := by
  obtain ⟨a1, a2⟩ := div_le h0 c0
  have h2 : (r : Rat) ≤ (m : Rat) := Rat.intCast_le_intCast.mpr (by omega)
  refine ⟨iz_divInt c0 (l30_int c0 c1), a1, Rat.le_trans a2 h2, sz_divInt (by omega) (by omega) (by omega), fun hh => sz_divInt (by omega) (by omega) (by omega), ?_⟩
  have := divInt_den_le (t := r) (b := c) (by omega)
  omega
theorem tm_int {m r : Int} (h0 : 0 ≤ r) (h1 : r < m) (hm : m ≤ 100000) : Tm m (r : Rat) := by
  refine ⟨iz_int _ _, Rat.intCast_nonneg.mpr h0, Rat.intCast_le_intCast.mpr (by omega), sz_int (by decide) (by omega), fun hh => sz_int (by decide) (by omega), by show 1 ≤ 30; decide⟩
theorem pc_frac {a b : Int} (a0 : 1 ≤ a) (a9 : a ≤ 9) (b0 : 1 ≤ b) (b9 : b ≤ 9) : Pc (Rat.divInt a b) := by
  refine ⟨?_, ?_, ?_⟩
  · rw [Rat.divInt_eq_div, Rat.div_def]
    exact Rat.mul_pos (Rat.intCast_pos.mpr (by omega)) (Rat.inv_pos.mpr (Rat.intCast_pos.mpr (by omega)))
  · have := divInt_num_le a b
    omega
  · have := divInt_den_le (t := a) (b := b) (by omega)
    omega
structure Wq (q : Rat) : Prop where
  iz : Iz 1100 q
  lo : 0 ≤ q
  hi : q ≤ 1
  sz : Sz 7 q
theorem wq_frac {r c : Int} (h0 : 0 ≤ r) (h1 : r ≤ c) (c0 : 0 < c) (hc : c ∣ 1100) (h7 : c ≤ 100) : Wq (Rat.divInt r c) := by
  refine ⟨iz_divInt c0 hc, (div_le h0 c0).1, ?_, sz_divInt (by omega) (by omega) (by omega)⟩
  have hp : (0 : Rat) < (c : Rat) := Rat.intCast_pos.mpr c0
  have hi := Rat.inv_pos.mpr hp
  have hm := Rat.mul_inv_cancel _ (ne_of_pos hp)
  have h2 : (r : Rat) ≤ (c : Rat) := Rat.intCast_le_intCast.mpr h1
  rw [Rat.divInt_eq_div, Rat.div_def]
  have := Rat.mul_le_mul_of_nonneg_right h2 (show 0 ≤ (c : Rat)⁻¹ by grind)
  grind
def bnd : Nat → Rat
  | 0 => 60
  | n + 1 => bnd n + 31
theorem bnd_le : ∀ n, 60 ≤ bnd n
  | 0 => by decide
  | n + 1 => by
    have := bnd_le n
    show 60 ≤ bnd n + 31
    grind
theorem bnd_step (n : Nat) : bnd n ≤ bnd (n + 1) := by
  show bnd n ≤ bnd n + 31
  grind
theorem bnd_300 : ∀ n, n ≤ 6 → bnd n ≤ 300
  | 0, _ => by decide
  | 1, _ => by show (60 : Rat) + 31 ≤ (300 : Rat); grind
  | 2, _ => by show (60 : Rat) + 31 + 31 ≤ (300 : Rat); grind
  | 3, _ => by show (60 : Rat) + 31 + 31 + 31 ≤ (300 : Rat); grind
  | 4, _ => by show (60 : Rat) + 31 + 31 + 31 + 31 ≤ (300 : Rat); grind
  | 5, _ => by show (60 : Rat) + 31 + 31 + 31 + 31 + 31 ≤ (300 : Rat); grind
  | 6, _ => by show (60 : Rat) + 31 + 31 + 31 + 31 + 31 + 31 ≤ (300 : Rat); grind
  | n + 7, h => absurd h (by omega)
/-- a stretch as it is drawn -/
theorem fs_drawn {i : Nat} (hi : i ≤ 5) {b t p : Rat} (zb : Iz L30 b) (b0 : 0 ≤ b) (bb : b ≤ bnd i) (ht : Tm 30 t) (hp : Pc p) : Fs L30 [] (b, b + (Rat.divInt 1 2 + t), p) ∧ b + (Rat.divInt 1 2 + t) ≤ bnd (i + 1) := by
  have h1 : (0 : Rat) < Rat.divInt 1 2 := by decide
  have h2 : Rat.divInt 1 2 ≤ 1 := by decide
  have h3 := ht.lo
  have h4 := ht.hi
  have e30 : ((30 : Int) : Rat) = 30 := rfl
  rw [e30] at h4
  have h5 : b + (Rat.divInt 1 2 + t) ≤ bnd (i + 1) := by
    show _ ≤ bnd i + 31
    grind
  have h6 := bnd_300 (i + 1) (by omega)
  refine ⟨⟨b0, ?_, Rat.le_trans h5 h6, zb, zb.add ((iz_divInt (by decide) (l30_int (by decide) (by decide))).add ht.iz), p, 1, by show p = p * 1; grind, hp, .nil⟩, h5⟩
  show b < b + (Rat.divInt 1 2 + t)
  grind
end R
namespace R
/-! ### cues, as plain data -/
structure TB (x : Rat) : Prop where
  lo : 0 ≤ x
  hi : x ≤ 100100
  dn : x.den ≤ 29700
theorem den_add_le (x y : Rat) : (x + y).den ≤ x.den * y.den := by
  rw [← add_parts]
  exact divInt_den_le (den_mul_ne x y)
theorem den_mul_le (x y : Rat) : (x * y).den ≤ x.den * y.den := by
  rw [← mul_parts]
  exact divInt_den_le (den_mul_ne x y)
theorem num_nonneg {x : Rat} (h : 0 ≤ x) : 0 ≤ x.num := by
  have h1 := (Rat.le_iff 0 x).mp h
  have e1 : (0 : Rat).num = 0 := rfl
  have e2 : (0 : Rat).den = 1 := rfl
  rw [e1, e2, Int.zero_mul] at h1
  omega
theorem TB.num {x : Rat} (h : TB x) : 0 ≤ x.num ∧ x.num ≤ 2972970000 := by
  refine ⟨num_nonneg h.lo, ?_⟩
  have h1 := mul_den x
  have h2 : x * (x.den : Rat) ≤ 100100 * (x.den : Rat) := Rat.mul_le_mul_of_nonneg_right h.hi Rat.natCast_nonneg
  have h3 : (x.den : Rat) ≤ ((29700 : Nat) : Rat) := Rat.natCast_le_natCast.mpr h.dn
  have e3 : ((29700 : Nat) : Rat) = 29700 := rfl
  have h4 : (x.num : Rat) ≤ ((2972970000 : Int) : Rat) := by
    rw [← h1]
    have e4 : ((2972970000 : Int) : Rat) = 2972970000 := rfl
    rw [e4]
    grind
  exact Rat.intCast_le_intCast.mp h4
theorem TB.sz {x : Rat} (h : TB x) : Sz 32 x := ⟨by have := h.num; omega, by have := h.dn; omega⟩
theorem dn3 : (Rat.divInt 1 3).den ≤ 3 := divInt_den_le (by decide)
structure CueB (b t : Rat) : Prop where
  b : Tm 99999 b
  t : Tm 25 t
section
variable {b t : Rat}
def cEnd (b t : Rat) : Rat := b + (Rat.divInt 1 3 + t)
theorem third : (0 : Rat) < Rat.divInt 1 3 ∧ Rat.divInt 1 3 ≤ 1 := by decide
theorem CueB.lt (h : CueB b t) : b < cEnd b t := by
  have := h.t.lo
  have := third.1
  unfold cEnd
  grind
theorem e25 : ((25 : Int) : Rat) = 25 := rfl
theorem e99 : ((99999 : Int) : Rat) = 99999 := rfl
theorem CueB.end_le (h : CueB b t) : cEnd b t ≤ 100100 := by
  have h1 := h.t.hi
  have h2 := third.2
  have h3 := h.b.hi
  rw [e25] at h1
  rw [e99] at h3
  unfold cEnd
  grind
theorem CueB.tb (h : CueB b t) : TB b := ⟨h.b.lo, by have h3 := h.b.hi; rw [e99] at h3; grind, by have := h.b.dn; omega⟩
theorem far_dn (h : CueB b t) : (Rat.divInt 1 3 + t).den ≤ 90 := by
  have h1 := den_add_le (Rat.divInt 1 3) t
  have h2 : (Rat.divInt 1 3).den * t.den ≤ 3 * 30 := Nat.mul_le_mul dn3 h.t.dn
  omega
theorem CueB.te (h : CueB b t) : TB (cEnd b t) := by
  refine ⟨?_, h.end_le, ?_⟩
  · have := h.lt
    have := h.b.lo
    grind
  · have h1 := den_add_le b (Rat.divInt 1 3 + t)
    have h2 : b.den * (Rat.divInt 1 3 + t).den ≤ 30 * 90 := Nat.mul_le_mul h.b.dn (far_dn h)
    unfold cEnd
    omega
theorem inv11 : (0 : Rat) ≤ ((11 : Int) : Rat)⁻¹ := Rat.le_of_lt (Rat.inv_pos.mpr (Rat.intCast_pos.mpr (by decide)))
/-- the time of a word -/
def cAt (b t : Rat) (a : Int) : Rat := b + (cEnd b t - b) * Rat.divInt a 11
theorem far_eq (b t : Rat) : cEnd b t - b = Rat.divInt 1 3 + t := by
  unfold cEnd
  grind
theorem cAt_le {a c : Int} (h : CueB b t) (hac : a ≤ c) : cAt b t a ≤ cAt b t c := by
  have hf : 0 ≤ cEnd b t - b := by have := h.lt; grind
  have hq : Rat.divInt a 11 ≤ Rat.divInt c 11 := by
    rw [Rat.divInt_eq_div, Rat.divInt_eq_div, Rat.div_def, Rat.div_def]
    exact Rat.mul_le_mul_of_nonneg_right (Rat.intCast_le_intCast.mpr hac) inv11
  have := Rat.mul_le_mul_of_nonneg_left hq hf
  unfold cAt
  grind
theorem cAt_rg {a : Int} (h : CueB b t) (h0 : 0 ≤ a) (h1 : a ≤ 10) : b ≤ cAt b t a ∧ cAt b t a < cEnd b t ∧ TB (cAt b t a) := by
  have hl := h.lt
  have hf : 0 < cEnd b t - b := by grind
  have q0 := (div_le (r := a) (c := 11) h0 (by decide)).1
  have q1 : Rat.divInt a 11 < 1 := by
    have e : Rat.divInt a 11 ≤ Rat.divInt 10 11 := by
      rw [Rat.divInt_eq_div, Rat.divInt_eq_div, Rat.div_def, Rat.div_def]
      exact Rat.mul_le_mul_of_nonneg_right (Rat.intCast_le_intCast.mpr h1) inv11
    have e2 : Rat.divInt 10 11 < 1 := by decide
    grind
  have m0 := Rat.mul_nonneg (Rat.le_of_lt hf) q0
  have m1 : (cEnd b t - b) * Rat.divInt a 11 < (cEnd b t - b) * 1 := Rat.mul_lt_mul_of_pos_left q1 hf
  have r0 : b ≤ cAt b t a := by
    unfold cAt
    grind
  have r1 : cAt b t a < cEnd b t := by
    unfold cAt
    grind
  refine ⟨r0, r1, ?_, ?_, ?_⟩
  · have := h.b.lo
    grind
  · have := h.end_le
    grind
  · have d1 := den_mul_le (cEnd b t - b) (Rat.divInt a 11)
    rw [far_eq] at d1
    have d2 : (Rat.divInt a 11).den ≤ 11 := divInt_den_le (by decide)
    have d3 : (Rat.divInt 1 3 + t).den * (Rat.divInt a 11).den ≤ 90 * 11 := Nat.mul_le_mul (far_dn h) d2
    have d4 := den_add_le b ((cEnd b t - b) * Rat.divInt a 11)
    have d5 : b.den * ((cEnd b t - b) * Rat.divInt a 11).den ≤ 30 * 990 := Nat.mul_le_mul h.b.dn (by rw [far_eq]; omega)
    unfold cAt
    omega
end
end R
namespace R
/-! ### the parts of a cue -/
/-- (first place, last place, begin, end) -/
abbrev Run := Rat × Rat × Rat × Rat
def maxR (a b : Rat) : Rat := if a < b then b else a
def minR (a b : Rat) : Rat := if b < a then b else a
def tOf (st : Rat) (s : St3) (x : Rat) : Rat := st + (x - s.1) / s.2.2
/-- what a stretch shows of the frames from cb on, ahead of ce -/
def ovl (cb ce st : Rat) (s : St3) : List Run := if maxR cb s.1 < minR ce s.2.1 then [(maxR cb s.1, minR ce s.2.1, tOf st s (maxR cb s.1), tOf st s (minR ce s.2.1))] else []
def ovls (cb ce : Rat) : Rat → List St3 → List Run
  | _, [] => []
  | st, s :: r => ovl cb ce st s ++ ovls cb ce (st + lst3 s) r
def goesOn (a r : Run) : Prop := a.2.1 = r.1 ∧ a.2.2.2 = r.2.2.1
instance (a r : Run) : Decidable (goesOn a r) := inferInstanceAs (Decidable (_ ∧ _))
def rstep (acc : List Run) (r : Run) : List Run := match acc.getLast? with
  | some a => if goesOn a r then acc.dropLast ++ [(a.1, r.2.1, a.2.2.1, r.2.2.2)] else acc ++ [r]
  | none => [r]
def runsM (cb ce : Rat) (xs : List St3) : List Run := (ovls cb ce 0 xs).foldl rstep []
theorem rstep_cases (acc : List Run) (r : Run) : (acc = [] ∧ rstep acc r = [] ++ [r]) ∨ ∃ pre a, acc = pre ++ [a] ∧ ((goesOn a r ∧ rstep acc r = pre ++ [(a.1, r.2.1, a.2.2.1, r.2.2.2)]) ∨ (¬ goesOn a r ∧ rstep acc r = acc ++ [r])) := by
  unfold rstep
  cases h : acc.getLast? with
  | none => exact .inl ⟨List.getLast?_eq_none_iff.mp h, rfl⟩
  | some l =>
    obtain ⟨pre, rfl⟩ := List.getLast?_eq_some_iff.mp h
    refine .inr ⟨pre, l, rfl, ?_⟩
    dsimp only
    by_cases c : goesOn l r
    · rw [if_pos c, List.dropLast_concat]
      exact .inl ⟨c, rfl⟩
    · rw [if_neg c]
      exact .inr ⟨c, rfl⟩
theorem ovls_app (cb ce : Rat) : ∀ (st : Rat) (xs ys : List St3), ovls cb ce st (xs ++ ys) = ovls cb ce st xs ++ ovls cb ce (st + lenS xs) ys
  | st, [], ys => by
    show ovls cb ce st ys = ovls cb ce (st + 0) ys
    rw [Rat.add_zero]
  | st, s :: r, ys => by
    show ovl cb ce st s ++ ovls cb ce (st + lst3 s) (r ++ ys) = (ovl cb ce st s ++ ovls cb ce (st + lst3 s) r) ++ ovls cb ce (st + (lst3 s + lenS r)) ys
    rw [ovls_app cb ce _ r ys, List.append_assoc, Rat.add_assoc]
theorem runsM_more {cb ce : Rat} {xs : List St3} {i : Nat} {s : St3} (h : xs[i]? = some s) : runsM cb ce (xs.take (i + 1)) = (ovl cb ce (lenS (xs.take i)) s).foldl rstep (runsM cb ce (xs.take i)) := by
  unfold runsM
  rw [take_more h, ovls_app, List.foldl_append]
  congr 1
  show ovl cb ce (0 + lenS (xs.take i)) s ++ [] = _
  rw [List.append_nil, Rat.zero_add]
theorem runs_yes {cb ce : Rat} {xs : List St3} {i : Nat} {s : St3} (h : xs[i]? = some s) (c : maxR cb s.1 < minR ce s.2.1) : runsM cb ce (xs.take (i + 1)) = rstep (runsM cb ce (xs.take i)) (maxR cb s.1, minR ce s.2.1, tOf (lenS (xs.take i)) s (maxR cb s.1), tOf (lenS (xs.take i)) s (minR ce s.2.1)) := by
  rw [runsM_more h]
  unfold ovl
  rw [if_pos c]
  rfl
theorem runs_no {cb ce : Rat} {xs : List St3} {i : Nat} {s : St3} (h : xs[i]? = some s) (c : ¬ maxR cb s.1 < minR ce s.2.1) : runsM cb ce (xs.take (i + 1)) = runsM cb ce (xs.take i) := by
  rw [runsM_more h]
  unfold ovl
  rw [if_neg c]
  rfl
theorem rstep_len (acc : List Run) (r : Run) : (rstep acc r).length ≤ acc.length + 1 := by
  rcases rstep_cases acc r with ⟨h, e⟩ | ⟨pre, a, h, (⟨_, e⟩ | ⟨_, e⟩)⟩
  · rw [e]
    simp
  · rw [e, h]
    simp
  · rw [e]
    simp
theorem ovl_len (cb ce st : Rat) (s : St3) : (ovl cb ce st s).length ≤ 1 := by
  unfold ovl
  split
  · exact Nat.le_refl _
  · exact Nat.zero_le _
theorem runs_le (cb ce : Rat) (xs : List St3) : ∀ i, (runsM cb ce (xs.take i)).length ≤ i
  | 0 => by
    rw [List.take_zero]
    exact Nat.le_refl _
  | i + 1 => by
    have ih := runs_le cb ce xs i
    cases h : xs[i]? with
    | none =>
      rw [List.take_of_length_le (by rw [List.getElem?_eq_none_iff] at h; omega)]
      rw [List.take_of_length_le (by rw [List.getElem?_eq_none_iff] at h; omega)] at ih
      omega
    | some s =>
      by_cases c : maxR cb s.1 < minR ce s.2.1
      · rw [runs_yes h c]
        have := rstep_len (runsM cb ce (xs.take i)) (maxR cb s.1, minR ce s.2.1, tOf (lenS (xs.take i)) s (maxR cb s.1), tOf (lenS (xs.take i)) s (minR ce s.2.1))
        omega
      · rw [runs_no h c]
        omega
/-- first places are ahead of last ones -/
theorem runs_lt (cb ce : Rat) (xs : List St3) : ∀ r ∈ runsM cb ce xs, r.1 < r.2.1 := by
  have hs : ∀ (st : Rat) (ys : List St3), ∀ r ∈ ovls cb ce st ys, r.1 < r.2.1 := by
    intro st ys
    induction ys generalizing st with
    | nil =>
      intro r hr
      cases hr
    | cons s t ih =>
      intro r hr
      rcases List.mem_append.mp (show r ∈ ovl cb ce st s ++ ovls cb ce (st + lst3 s) t from hr) with h | h
      · unfold ovl at h
        split at h
        · rename_i c
          rw [List.mem_singleton.mp h]
          exact c
        · cases h
      · exact ih _ r h
  have hf : ∀ (rs acc : List Run), (∀ r ∈ rs, r.1 < r.2.1) → (∀ r ∈ acc, r.1 < r.2.1) → ∀ r ∈ rs.foldl rstep acc, r.1 < r.2.1 := by
    intro rs
    induction rs with
    | nil => exact fun acc _ h => h
    | cons x t ih =>
      intro acc h1 h2
      refine ih _ (fun r hr => h1 r (List.mem_cons_of_mem _ hr)) ?_
      have hx := h1 x List.mem_cons_self
      intro r hr
      rcases rstep_cases acc x with ⟨h, e⟩ | ⟨pre, a, h, (⟨c, e⟩ | ⟨_, e⟩)⟩
      · rw [e] at hr
        rw [List.mem_singleton.mp hr]
        exact hx
      · rw [e] at hr
        rcases List.mem_append.mp hr with z | z
        · exact h2 r (by rw [h]; exact List.mem_append_left _ z)
        · rw [List.mem_singleton.mp z]
          have ha := h2 a (by rw [h]; exact List.mem_append_right _ (List.mem_singleton.mpr rfl))
          have := c.1
          show a.1 < x.2.1
          grind
      · rw [e] at hr
        rcases List.mem_append.mp hr with z | z
        · exact h2 r z
        · rw [List.mem_singleton.mp z]
          exact hx
  exact hf _ _ (hs 0 xs) (fun r hr => nomatch hr)
section
variable {α : Type}
/-- the words from one place on, ahead of another -/
def wordsIn (ws : List (α × Rat)) (f g : Rat) : List α := (ws.filter fun x => !decide (x.2 < f) && decide (x.2 < g)).map (·.1)
theorem wordsIn_split {ws : List (α × Rat)} (h : ws.Pairwise fun x y => x.2 ≤ y.2) {f m g : Rat} (h1 : f ≤ m) (h2 : m ≤ g) : wordsIn ws f m ++ wordsIn ws m g = wordsIn ws f g := by
  induction ws with
  | nil => rfl
  | cons x r ih =>
    obtain ⟨hx, hr⟩ := List.pairwise_cons.mp h
    have ih := ih hr
    by_cases c : x.2 < m
    · have e2 : wordsIn (x :: r) m g = wordsIn r m g := by
        unfold wordsIn
        rw [List.filter_cons_of_neg (by rw [decide_eq_true c]; simp)]
      rw [e2]
      by_cases d : x.2 < f
      · have e1 : ∀ k, wordsIn (x :: r) f k = wordsIn r f k := fun k => by
          unfold wordsIn
          rw [List.filter_cons_of_neg (by rw [decide_eq_true d]; simp)]
        rw [e1, e1]
        exact ih
      · have e1 : ∀ k, x.2 < k → wordsIn (x :: r) f k = x.1 :: wordsIn r f k := fun k hk => by
          unfold wordsIn
          rw [List.filter_cons_of_pos (by rw [decide_eq_false d, decide_eq_true hk]; decide)]
          rfl
        rw [e1 m c, e1 g (by grind), List.cons_append, ih]
    · have e1 : ∀ y ∈ x :: r, ¬ y.2 < m := fun y hy => by
        rcases List.mem_cons.mp hy with z | z
        · rw [z]
          exact c
        · have := hx y z
          grind
      have e2 : wordsIn (x :: r) f m = [] := by
        unfold wordsIn
        rw [List.filter_eq_nil_iff.mpr (fun y hy => by rw [decide_eq_false (e1 y hy)]; simp)]
        rfl
      rw [e2, List.nil_append]
      unfold wordsIn
      congr 1
      refine List.filter_congr fun y hy => ?_
      have n1 := e1 y hy
      rw [decide_eq_false n1, decide_eq_false (show ¬ y.2 < f by grind)]
end
end R
namespace R
/-! ### runs: they rise, they last as long as is shown, they are on where the place is within the cue -/
structure St0 (s : St3) : Prop where
  p : 0 < s.2.2
  lt : s.1 < s.2.1
theorem tOf_mono {st : Rat} {s : St3} (h : St0 s) {x y : Rat} : tOf st s x < tOf st s y ↔ x < y := by
  have hi := Rat.inv_pos.mpr h.p
  unfold tOf
  rw [Rat.div_def, Rat.div_def]
  constructor
  · intro g
    refine Rat.not_le.mp fun c => ?_
    have := Rat.mul_le_mul_of_nonneg_right (show y - s.1 ≤ x - s.1 by grind) (show 0 ≤ s.2.2⁻¹ by grind)
    grind
  · intro g
    have := Rat.mul_lt_mul_of_pos_right (show x - s.1 < y - s.1 by grind) hi
    grind
theorem tOf_b (st : Rat) (s : St3) : tOf st s s.1 = st := by
  unfold tOf
  rw [show s.1 - s.1 = 0 by grind, Rat.div_def, Rat.zero_mul, Rat.add_zero]
theorem tOf_e (st : Rat) (s : St3) : tOf st s s.2.1 = st + lst3 s := rfl
theorem tOf_at {st t : Rat} {s : St3} (h : St0 s) : tOf st s (s.1 + (t - st) * s.2.2) = t := by
  unfold tOf
  rw [show s.1 + (t - st) * s.2.2 - s.1 = (t - st) * s.2.2 by grind, Rat.div_def, Rat.mul_assoc, Rat.mul_inv_cancel _ (ne_of_pos h.p)]
  grind
theorem lst_pos {s : St3} (h : St0 s) : 0 < lst3 s := by
  have := (tOf_mono (st := 0) h).mpr h.lt
  rw [tOf_b, tOf_e] at this
  grind
theorem le_iff_not {a b : Rat} : a ≤ b ↔ ¬ b < a := by
  constructor <;> intro h <;> grind
theorem tOf_le {st : Rat} {s : St3} (h : St0 s) {x y : Rat} : tOf st s x ≤ tOf st s y ↔ x ≤ y := by
  rw [le_iff_not, le_iff_not, tOf_mono h]
theorem max_le_iff (a b x : Rat) : maxR a b ≤ x ↔ a ≤ x ∧ b ≤ x := by
  unfold maxR
  split <;> constructor <;> intro h <;> grind
theorem lt_min_iff (a b x : Rat) : x < minR a b ↔ x < a ∧ x < b := by
  unfold minR
  split <;> constructor <;> intro h <;> grind
/-- a run is on at a time -/
def onR (r : Run) (t : Rat) : Prop := r.2.2.1 ≤ t ∧ t < r.2.2.2
def onS (rs : List Run) (t : Rat) : Prop := ∃ r ∈ rs, onR r t
def durS : List Run → Rat
  | [] => 0
  | r :: t => (r.2.2.2 - r.2.2.1) + durS t
theorem durS_app : ∀ a b : List Run, durS (a ++ b) = durS a + durS b
  | [], b => by
    show durS b = 0 + durS b
    rw [Rat.zero_add]
  | r :: t, b => by
    show _ + durS (t ++ b) = _ + durS t + durS b
    rw [durS_app t b, Rat.add_assoc]
/-- runs in their order, from lo to hi -/
inductive Ch : Rat → List Run → Rat → Prop
  | nil {lo hi : Rat} : lo ≤ hi → Ch lo [] hi
  | cons {lo hi : Rat} {r : Run} {rs : List Run} : lo ≤ r.2.2.1 → r.2.2.1 < r.2.2.2 → Ch r.2.2.2 rs hi → Ch lo (r :: rs) hi
theorem Ch.le : ∀ {lo hi : Rat} {rs : List Run}, Ch lo rs hi → lo ≤ hi
  | _, _, _, .nil h => h
  | _, _, _, .cons h1 h2 h3 => by
    have := h3.le
    grind
theorem Ch.up : ∀ {lo hi hi' : Rat} {rs : List Run}, Ch lo rs hi → hi ≤ hi' → Ch lo rs hi'
  | _, _, _, _, .nil h, g => .nil (Rat.le_trans h g)
  | _, _, _, _, .cons h1 h2 h3, g => .cons h1 h2 (h3.up g)
theorem Ch.down {lo lo' hi : Rat} {rs : List Run} (h : Ch lo rs hi) (g : lo' ≤ lo) : Ch lo' rs hi := by
  cases h with
  | nil h => exact .nil (Rat.le_trans g h)
  | cons h1 h2 h3 => exact .cons (Rat.le_trans g h1) h2 h3
theorem Ch.app : ∀ {lo m hi : Rat} {a b : List Run}, Ch lo a m → Ch m b hi → Ch lo (a ++ b) hi
  | _, _, _, [], _, .nil h, g => g.down h
  | _, _, _, _ :: _, _, .cons h1 h2 h3, g => .cons h1 h2 (h3.app g)
theorem Ch.split : ∀ {pre : List Run} {lo hi : Rat} {a : Run}, Ch lo (pre ++ [a]) hi → Ch lo pre a.2.2.1 ∧ a.2.2.1 < a.2.2.2 ∧ a.2.2.2 ≤ hi
  | [], _, _, _, .cons h1 h2 h3 => ⟨.nil h1, h2, h3.le⟩
  | _ :: _, _, _, _, .cons h1 h2 h3 => by
    obtain ⟨g1, g2, g3⟩ := Ch.split h3
    exact ⟨.cons h1 h2 g1, g2, g3⟩
theorem ch_step {acc : List Run} {r : Run} {lo hi : Rat} (h : Ch lo acc r.2.2.1) (hr : r.2.2.1 < r.2.2.2) (hh : r.2.2.2 ≤ hi) : Ch lo (rstep acc r) hi ∧ durS (rstep acc r) = durS acc + (r.2.2.2 - r.2.2.1) ∧ ∀ t, onS (rstep acc r) t ↔ onS acc t ∨ onR r t := by
  have one : ∀ x : Run, durS [x] = x.2.2.2 - x.2.2.1 := fun x => by
    show _ + 0 = _
    rw [Rat.add_zero]
  have onApp : ∀ (a : List Run) (x : Run) (t : Rat), onS (a ++ [x]) t ↔ onS a t ∨ onR x t := fun a x t => by
    constructor
    · rintro ⟨y, hy, g⟩
      rcases List.mem_append.mp hy with z | z
      · exact .inl ⟨y, z, g⟩
      · rw [List.mem_singleton.mp z] at g
        exact .inr g
    · rintro (⟨y, hy, g⟩ | g)
      · exact ⟨y, List.mem_append_left _ hy, g⟩
      · exact ⟨x, List.mem_append_right _ (List.mem_singleton.mpr rfl), g⟩
  have plain : rstep acc r = acc ++ [r] → Ch lo (rstep acc r) hi ∧ durS (rstep acc r) = durS acc + (r.2.2.2 - r.2.2.1) ∧ ∀ t, onS (rstep acc r) t ↔ onS acc t ∨ onR r t := fun e => by
    rw [e]
    refine ⟨h.app (.cons Rat.le_refl hr (.nil hh)), ?_, fun t => onApp acc r t⟩
    rw [durS_app, one]
  rcases rstep_cases acc r with ⟨e0, e⟩ | ⟨pre, a, e0, (⟨g, e⟩ | ⟨_, e⟩)⟩
  · refine plain ?_
    rw [e, e0]
  · subst e0
    obtain ⟨h1, h2, h3⟩ := h.split
    have g2 : a.2.2.2 = r.2.2.1 := g.2
    rw [e]
    refine ⟨h1.app (.cons Rat.le_refl ?_ (.nil hh)), ?_, fun t => ?_⟩
    · show a.2.2.1 < r.2.2.2
      grind
    · rw [durS_app, durS_app, one, one]
      show durS pre + (r.2.2.2 - a.2.2.1) = _
      grind
    · rw [onApp, onApp]
      show onS pre t ∨ (a.2.2.1 ≤ t ∧ t < r.2.2.2) ↔ (onS pre t ∨ (a.2.2.1 ≤ t ∧ t < a.2.2.2)) ∨ (r.2.2.1 ≤ t ∧ t < r.2.2.2)
      constructor
      · rintro (z | z)
        · exact .inl (.inl z)
        · by_cases w : t < a.2.2.2
          · exact .inl (.inr ⟨z.1, w⟩)
          · exact .inr ⟨by grind, z.2⟩
      · rintro ((z | z) | z)
        · exact .inl z
        · exact .inr ⟨z.1, by grind⟩
        · exact .inr ⟨by grind, z.2⟩
  · exact plain e
theorem ch_fold : ∀ {rs acc : List Run} {lo m hi : Rat}, Ch lo acc m → Ch m rs hi → Ch lo (rs.foldl rstep acc) hi ∧ durS (rs.foldl rstep acc) = durS acc + durS rs ∧ ∀ t, onS (rs.foldl rstep acc) t ↔ onS acc t ∨ onS rs t
  | [], acc, _, _, _, h, .nil g => ⟨h.up g, (Rat.add_zero _).symm, fun t => ⟨.inl, fun z => z.elim id fun ⟨_, hy, _⟩ => nomatch hy⟩⟩
  | r :: rs, acc, _, _, _, h, .cons g1 g2 g3 => by
    obtain ⟨k1, k2, k3⟩ := ch_step (h.up g1) g2 Rat.le_refl
    obtain ⟨l1, l2, l3⟩ := ch_fold k1 g3
    refine ⟨l1, ?_, fun t => ?_⟩
    · show durS (rs.foldl rstep (rstep acc r)) = _
      rw [l2, k2]
      show _ = durS acc + (_ + durS rs)
      grind
    · show onS (rs.foldl rstep (rstep acc r)) t ↔ _
      rw [l3, k3]
      constructor
      · rintro ((z | z) | ⟨y, hy, z⟩)
        · exact .inl z
        · exact .inr ⟨r, List.mem_cons_self, z⟩
        · exact .inr ⟨y, List.mem_cons_of_mem _ hy, z⟩
      · rintro (z | ⟨y, hy, z⟩)
        · exact .inl (.inl z)
        · rcases List.mem_cons.mp hy with w | w
          · rw [w] at z
            exact .inl (.inr z)
          · exact .inr ⟨y, w, z⟩
/-- how long the frames of a cue are shown -/
def shownM (cb ce : Rat) : List St3 → Rat
  | [] => 0
  | s :: r => (if maxR cb s.1 < minR ce s.2.1 then (minR ce s.2.1 - maxR cb s.1) / s.2.2 else 0) + shownM cb ce r
theorem ovl_ch {cb ce st : Rat} {s : St3} (h : St0 s) : Ch st (ovl cb ce st s) (st + lst3 s) ∧ durS (ovl cb ce st s) = (if maxR cb s.1 < minR ce s.2.1 then (minR ce s.2.1 - maxR cb s.1) / s.2.2 else 0) := by
  have hl := lst_pos h
  unfold ovl
  by_cases c : maxR cb s.1 < minR ce s.2.1
  · rw [if_pos c, if_pos c]
    have m1 := ((max_le_iff cb s.1 (maxR cb s.1)).mp Rat.le_refl).2
    have m2 : minR ce s.2.1 ≤ s.2.1 := by
      unfold minR
      split <;> grind
    have a1 := (tOf_le (st := st) h).mpr m1
    have a2 := (tOf_le (st := st) h).mpr m2
    rw [tOf_b] at a1
    rw [tOf_e] at a2
    refine ⟨.cons a1 ((tOf_mono h).mpr c) (.nil a2), ?_⟩
    show tOf st s (minR ce s.2.1) - tOf st s (maxR cb s.1) + 0 = _
    unfold tOf
    rw [Rat.div_def, Rat.div_def, Rat.div_def]
    grind
  · rw [if_neg c, if_neg c]
    exact ⟨.nil (by grind), rfl⟩
theorem ovls_ch {cb ce : Rat} : ∀ {xs : List St3} {st : Rat}, (∀ s ∈ xs, St0 s) → Ch st (ovls cb ce st xs) (st + lenS xs) ∧ durS (ovls cb ce st xs) = shownM cb ce xs
  | [], st, _ => ⟨.nil (by show st ≤ st + 0; grind), rfl⟩
  | s :: r, st, h => by
    obtain ⟨a1, a2⟩ := ovl_ch (cb := cb) (ce := ce) (st := st) (h s List.mem_cons_self)
    obtain ⟨b1, b2⟩ := ovls_ch (cb := cb) (ce := ce) (xs := r) (st := st + lst3 s) fun z hz => h z (List.mem_cons_of_mem _ hz)
    refine ⟨?_, ?_⟩
    · have := a1.app b1
      rw [Rat.add_assoc] at this
      exact this
    · show durS (ovl cb ce st s ++ ovls cb ce (st + lst3 s) r) = _
      rw [durS_app, a2, b2]
      rfl
theorem Ch.before {lo hi t : Rat} {rs : List Run} (h : Ch lo rs hi) (g : t < lo) : ¬ onS rs t := by
  rintro ⟨r, hr, o⟩
  induction h with
  | nil _ => cases hr
  | cons h1 h2 h3 ih =>
    rcases List.mem_cons.mp hr with z | z
    · rw [z] at o
      have := o.1
      grind
    · exact ih (by grind) z
theorem Ch.behind {lo hi t : Rat} {rs : List Run} (h : Ch lo rs hi) (g : hi ≤ t) : ¬ onS rs t := by
  rintro ⟨r, hr, o⟩
  induction h with
  | nil _ => cases hr
  | cons h1 h2 h3 ih =>
    rcases List.mem_cons.mp hr with z | z
    · rw [z] at o
      have := o.2
      have := h3.le
      grind
    · exact ih g z
theorem onS_app {a b : List Run} {t : Rat} : onS (a ++ b) t ↔ onS a t ∨ onS b t := by
  constructor
  · rintro ⟨y, hy, g⟩
    exact (List.mem_append.mp hy).elim (fun z => .inl ⟨y, z, g⟩) (fun z => .inr ⟨y, z, g⟩)
  · rintro (⟨y, hy, g⟩ | ⟨y, hy, g⟩)
    · exact ⟨y, List.mem_append_left _ hy, g⟩
    · exact ⟨y, List.mem_append_right _ hy, g⟩
theorem ovl_on {cb ce st t : Rat} {s : St3} (h : St0 s) (h1 : st ≤ t) (h2 : t < st + lst3 s) : onS (ovl cb ce st s) t ↔ cb ≤ s.1 + (t - st) * s.2.2 ∧ s.1 + (t - st) * s.2.2 < ce := by
  have et := tOf_at (st := st) (t := t) h
  generalize s.1 + (t - st) * s.2.2 = y at et
  have y1 : s.1 ≤ y := by
    rw [← tOf_le (st := st) h, tOf_b, et]
    exact h1
  have y2 : y < s.2.1 := by
    rw [← tOf_mono (st := st) h, tOf_e, et]
    exact h2
  have key : (maxR cb s.1 ≤ y ∧ y < minR ce s.2.1) ↔ (cb ≤ y ∧ y < ce) := by
    rw [max_le_iff, lt_min_iff]
    constructor
    · exact fun z => ⟨z.1.1, z.2.1⟩
    · exact fun z => ⟨⟨z.1, y1⟩, ⟨z.2, y2⟩⟩
  rw [← key]
  unfold ovl
  constructor
  · rintro ⟨r, hr, o⟩
    split at hr
    · rw [List.mem_singleton.mp hr] at o
      obtain ⟨o1, o2⟩ := o
      have o1 : tOf st s (maxR cb s.1) ≤ t := o1
      have o2 : t < tOf st s (minR ce s.2.1) := o2
      rw [← et, tOf_le h] at o1
      rw [← et, tOf_mono h] at o2
      exact ⟨o1, o2⟩
    · cases hr
  · rintro ⟨o1, o2⟩
    rw [if_pos (by grind)]
    refine ⟨_, List.mem_singleton.mpr rfl, ?_, ?_⟩
    · show tOf st s (maxR cb s.1) ≤ t
      rw [← et, tOf_le h]
      exact o1
    · show t < tOf st s (minR ce s.2.1)
      rw [← et, tOf_mono h]
      exact o2
theorem ovls_on {cb ce : Rat} : ∀ {xs : List St3} {st t : Rat}, (∀ s ∈ xs, St0 s) → st ≤ t → ∀ y, seen xs (t - st) = some y → (onS (ovls cb ce st xs) t ↔ cb ≤ y ∧ y < ce)
  | [], _, _, _, _, _, h => by cases h
  | s :: r, st, t, hx, h1, y, hy => by
    have hs := hx s List.mem_cons_self
    have hr : ∀ z ∈ r, St0 z := fun z hz => hx z (List.mem_cons_of_mem _ hz)
    show onS (ovl cb ce st s ++ ovls cb ce (st + lst3 s) r) t ↔ _
    rw [onS_app]
    have hy : (if t - st < lst3 s then some (s.1 + (t - st) * s.2.2) else seen r (t - st - lst3 s)) = some y := hy
    by_cases c : t - st < lst3 s
    · rw [if_pos c] at hy
      have e := Option.some.inj hy
      have n : ¬ onS (ovls cb ce (st + lst3 s) r) t := (ovls_ch hr).1.before (by grind)
      rw [ovl_on hs h1 (by grind), e]
      exact ⟨fun z => z.elim id fun w => absurd w n, .inl⟩
    · rw [if_neg c, show t - st - lst3 s = t - (st + lst3 s) by grind] at hy
      have n : ¬ onS (ovl cb ce st s) t := (ovl_ch hs).1.behind (by grind)
      rw [← ovls_on hr (by grind) y hy]
      exact ⟨fun z => z.elim (fun w => absurd w n) id, .inr⟩
/-- the whole of it -/
theorem runs_whole {cb ce : Rat} {xs : List St3} (h : ∀ s ∈ xs, St0 s) : Ch 0 (runsM cb ce xs) (lenS xs) ∧ durS (runsM cb ce xs) = shownM cb ce xs ∧ ∀ t y, 0 ≤ t → seen xs t = some y → (onS (runsM cb ce xs) t ↔ cb ≤ y ∧ y < ce) := by
  obtain ⟨a1, a2⟩ := ovls_ch (cb := cb) (ce := ce) (xs := xs) (st := 0) h
  rw [Rat.zero_add] at a1
  obtain ⟨b1, b2, b3⟩ := ch_fold (acc := []) (.nil Rat.le_refl) a1
  refine ⟨b1, ?_, fun t y h0 hy => ?_⟩
  · show durS ((ovls cb ce 0 xs).foldl rstep []) = _
    rw [b2, a2]
    exact Rat.zero_add _
  · show onS ((ovls cb ce 0 xs).foldl rstep []) t ↔ _
    rw [b3, ← ovls_on (cb := cb) (ce := ce) h h0 y (by rw [show t - 0 = t by grind]; exact hy)]
    exact ⟨fun z => z.elim (fun ⟨_, hy, _⟩ => nomatch hy) id, .inr⟩
end R
namespace R
/-! ### words told over a show, as against words due -/
section
variable {α : Type}
def told (ws : List (α × Rat)) (rs : List Run) : List α := rs.flatMap fun r => wordsIn ws r.1 r.2.1
theorem told_app (ws : List (α × Rat)) (a b : List Run) : told ws (a ++ b) = told ws a ++ told ws b := by
  unfold told
  rw [List.flatMap_append]
theorem told_one (ws : List (α × Rat)) (r : Run) : told ws [r] = wordsIn ws r.1 r.2.1 := by
  unfold told
  rw [List.flatMap_cons, List.flatMap_nil, List.append_nil]
theorem told_step {ws : List (α × Rat)} (h : ws.Pairwise fun x y => x.2 ≤ y.2) {acc : List Run} {r : Run} (ha : ∀ x ∈ acc, x.1 < x.2.1) (hr : r.1 < r.2.1) : told ws (rstep acc r) = told ws acc ++ wordsIn ws r.1 r.2.1 ∧ ∀ x ∈ rstep acc r, x.1 < x.2.1 := by
  have plain : rstep acc r = acc ++ [r] → told ws (rstep acc r) = told ws acc ++ wordsIn ws r.1 r.2.1 ∧ ∀ x ∈ rstep acc r, x.1 < x.2.1 := fun e => by
    rw [e, told_app, told_one]
    refine ⟨rfl, fun x hx => ?_⟩
    rcases List.mem_append.mp hx with z | z
    · exact ha x z
    · rw [List.mem_singleton.mp z]
      exact hr
  rcases rstep_cases acc r with ⟨e0, e⟩ | ⟨pre, a, e0, (⟨g, e⟩ | ⟨_, e⟩)⟩
  · refine plain ?_
    rw [e, e0]
  · have g1 : a.2.1 = r.1 := g.1
    have la : a.1 < a.2.1 := ha a (by rw [e0]; exact List.mem_append_right _ (List.mem_singleton.mpr rfl))
    rw [e, e0, told_app, told_app, told_one, told_one, List.append_assoc]
    refine ⟨?_, fun x hx => ?_⟩
    · congr 1
      show wordsIn ws a.1 r.2.1 = wordsIn ws a.1 a.2.1 ++ wordsIn ws r.1 r.2.1
      rw [← g1]
      exact (wordsIn_split h (by grind) (by grind)).symm
    · rcases List.mem_append.mp hx with z | z
      · exact ha x (by rw [e0]; exact List.mem_append_left _ z)
      · rw [List.mem_singleton.mp z]
        show a.1 < r.2.1
        grind
  · exact plain e
theorem told_fold {ws : List (α × Rat)} (h : ws.Pairwise fun x y => x.2 ≤ y.2) : ∀ (rs acc : List Run), (∀ x ∈ acc, x.1 < x.2.1) → (∀ x ∈ rs, x.1 < x.2.1) → told ws (rs.foldl rstep acc) = told ws acc ++ told ws rs
  | [], acc, _, _ => by
    show told ws acc = told ws acc ++ []
    rw [List.append_nil]
  | r :: rs, acc, ha, hr => by
    obtain ⟨e1, e2⟩ := told_step h ha (hr r List.mem_cons_self)
    show told ws (rs.foldl rstep (rstep acc r)) = _
    rw [told_fold h rs _ e2 (fun x hx => hr x (List.mem_cons_of_mem _ hx)), e1, List.append_assoc]
    congr 1
theorem ovls_lt (cb ce : Rat) : ∀ (xs : List St3) (st : Rat), ∀ r ∈ ovls cb ce st xs, r.1 < r.2.1
  | [], _, r, hr => nomatch hr
  | s :: t, st, r, hr => by
    rcases List.mem_append.mp (show r ∈ ovl cb ce st s ++ ovls cb ce (st + lst3 s) t from hr) with h | h
    · unfold ovl at h
      split at h
      · rename_i c
        rw [List.mem_singleton.mp h]
        exact c
      · cases h
    · exact ovls_lt cb ce t _ r h
theorem ovls_told {cb ce : Rat} {ws : List (α × Rat)} (hw : ∀ x ∈ ws, cb ≤ x.2 ∧ x.2 < ce) : ∀ (xs : List St3) (st : Rat), told ws (ovls cb ce st xs) = xs.flatMap fun s => wordsIn ws s.1 s.2.1
  | [], _ => rfl
  | s :: t, st => by
    show told ws (ovl cb ce st s ++ ovls cb ce (st + lst3 s) t) = _
    rw [told_app, ovls_told hw t, List.flatMap_cons]
    congr 1
    have key : ∀ x ∈ ws, (maxR cb s.1 ≤ x.2 ∧ x.2 < minR ce s.2.1) ↔ (s.1 ≤ x.2 ∧ x.2 < s.2.1) := fun x hx => by
      rw [max_le_iff, lt_min_iff]
      have := hw x hx
      exact ⟨fun z => ⟨z.1.2, z.2.2⟩, fun z => ⟨⟨this.1, z.1⟩, ⟨this.2, z.2⟩⟩⟩
    unfold ovl
    by_cases c : maxR cb s.1 < minR ce s.2.1
    · rw [if_pos c, told_one]
      unfold wordsIn
      congr 1
      refine List.filter_congr fun x hx => ?_
      have k := key x hx
      rw [le_iff_not, le_iff_not] at k
      show (!decide (x.2 < maxR cb s.1) && decide (x.2 < minR ce s.2.1)) = (!decide (x.2 < s.1) && decide (x.2 < s.2.1))
      by_cases u : ¬ x.2 < s.1 ∧ x.2 < s.2.1
      · have v := k.mpr u
        rw [decide_eq_false u.1, decide_eq_true u.2, decide_eq_false v.1, decide_eq_true v.2]
      · have v : ¬ (¬ x.2 < maxR cb s.1 ∧ x.2 < minR ce s.2.1) := fun z => u (k.mp z)
        rw [← decide_not, ← decide_not, ← Bool.decide_and, ← Bool.decide_and, decide_eq_false u, decide_eq_false v]
    · rw [if_neg c]
      show [] = wordsIn ws s.1 s.2.1
      unfold wordsIn
      rw [List.filter_eq_nil_iff.mpr]
      · rfl
      · intro x hx z
        have z2 := Bool.and_eq_true_iff.mp z
        have z3 : ¬ x.2 < s.1 := fun y => by
          rw [decide_eq_true y] at z2
          cases z2.1
        have z4 := of_decide_eq_true z2.2
        have := (key x hx).mpr ⟨le_iff_not.mpr z3, z4⟩
        exact c (by grind)
/-- each word as often as it is shown -/
def dueM (xs : List St3) (ws : List (α × Rat)) : List α := ws.flatMap fun w => (xs.filter fun s => !decide (w.2 < s.1) && decide (w.2 < s.2.1)).map fun _ => w.1
theorem flat_perm (a b : (α × Rat) → List α) : ∀ ws : List (α × Rat), (ws.flatMap fun w => a w ++ b w).Perm (ws.flatMap a ++ ws.flatMap b)
  | [] => .nil
  | w :: ws => by
    rw [List.flatMap_cons, List.flatMap_cons, List.flatMap_cons, List.append_assoc, List.append_assoc]
    refine List.Perm.append_left _ ?_
    refine (List.Perm.append_left _ (flat_perm a b ws)).trans ?_
    rw [← List.append_assoc, ← List.append_assoc]
    exact List.Perm.append_right _ List.perm_append_comm
theorem flat_if (p : (α × Rat) → Bool) : ∀ ws : List (α × Rat), (ws.flatMap fun w => if p w = true then [w.1] else []) = (ws.filter p).map (·.1)
  | [] => rfl
  | w :: ws => by
    rw [List.flatMap_cons, flat_if p ws]
    by_cases c : p w = true
    · rw [if_pos c, List.filter_cons_of_pos c]
      rfl
    · rw [if_neg c, List.filter_cons_of_neg c]
      rfl
theorem flat_none : ∀ ws : List (α × Rat), (ws.flatMap fun _ => ([] : List α)) = []
  | [] => rfl
  | _ :: ws => by
    rw [List.flatMap_cons, flat_none ws]
    rfl
theorem due_perm (ws : List (α × Rat)) : ∀ xs : List St3, (xs.flatMap fun s => wordsIn ws s.1 s.2.1).Perm (dueM xs ws)
  | [] => by
    unfold dueM
    show List.Perm [] (ws.flatMap fun _ => [])
    rw [flat_none]
  | s :: r => by
    have e : dueM (s :: r) ws = ws.flatMap fun w => (if (!decide (w.2 < s.1) && decide (w.2 < s.2.1)) = true then [w.1] else []) ++ ((r.filter fun s => !decide (w.2 < s.1) && decide (w.2 < s.2.1)).map fun _ => w.1) := by
      unfold dueM
      congr 1
      funext w
      rw [List.filter_cons]
      split
      · rfl
      · rfl
    rw [e, List.flatMap_cons]
    refine List.Perm.trans ?_ (flat_perm _ _ ws).symm
    refine List.Perm.append ?_ (due_perm ws r)
    rw [flat_if fun w => !decide (w.2 < s.1) && decide (w.2 < s.2.1)]
    exact List.Perm.refl _
theorem told_due {cb ce : Rat} {ws : List (α × Rat)} (xs : List St3) (h : ws.Pairwise fun x y => x.2 ≤ y.2) (hw : ∀ x ∈ ws, cb ≤ x.2 ∧ x.2 < ce) : (told ws (runsM cb ce xs)).Perm (dueM xs ws) := by
  have e : told ws (runsM cb ce xs) = told ws (ovls cb ce 0 xs) := told_fold h _ [] (fun x hx => nomatch hx) (ovls_lt cb ce xs 0)
  rw [e, ovls_told hw]
  exact due_perm ws xs
theorem due_more {xs : List St3} {ws : List (α × Rat)} {i : Nat} {w : α × Rat} (h : ws[i]? = some w) : dueM xs (ws.take (i + 1)) = dueM xs (ws.take i) ++ (xs.filter fun s => !decide (w.2 < s.1) && decide (w.2 < s.2.1)).map fun _ => w.1 := by
  unfold dueM
  rw [take_more h, List.flatMap_append, List.flatMap_cons, List.flatMap_nil, List.append_nil]
theorem told_more {ws : List (α × Rat)} {rs : List Run} {i : Nat} {r : Run} (h : rs[i]? = some r) : told ws (rs.take (i + 1)) = told ws (rs.take i) ++ wordsIn ws r.1 r.2.1 := by
  rw [take_more h, told_app, told_one]
theorem wordsIn_le1 (ws : List (α × Rat)) (f g : Rat) : (wordsIn ws f g).length ≤ ws.length := by
  unfold wordsIn
  rw [List.length_map]
  exact List.length_filter_le _ _
theorem told_len (ws : List (α × Rat)) : ∀ rs : List Run, (told ws rs).length ≤ rs.length * ws.length
  | [] => Nat.zero_le _
  | r :: rs => by
    unfold told
    rw [List.flatMap_cons, List.length_append, List.length_cons, Nat.succ_mul]
    have := told_len ws rs
    have := wordsIn_le1 ws r.1 r.2.1
    unfold told at *
    omega
theorem told_mem {ws : List (α × Rat)} {rs : List Run} {x : α} (h : x ∈ told ws rs) : ∃ w ∈ ws, x = w.1 := by
  obtain ⟨r, _, hr⟩ := List.mem_flatMap.mp h
  obtain ⟨w, hw, e⟩ := List.mem_map.mp hr
  exact ⟨w, (List.mem_filter.mp hw).1, e.symm⟩
theorem due_mem {xs : List St3} {ws : List (α × Rat)} {x : α} (h : x ∈ dueM xs ws) : ∃ w ∈ ws, x = w.1 := by
  obtain ⟨w, hw, hr⟩ := List.mem_flatMap.mp h
  obtain ⟨_, _, e⟩ := List.mem_map.mp hr
  exact ⟨w, hw, e.symm⟩
theorem due_len (xs : List St3) : ∀ ws : List (α × Rat), (dueM xs ws).length ≤ ws.length * xs.length
  | [] => Nat.zero_le _
  | w :: ws => by
    unfold dueM
    rw [List.flatMap_cons, List.length_append, List.length_cons, Nat.succ_mul, List.length_map]
    have := due_len xs ws
    have := List.length_filter_le (fun s : St3 => !decide (w.2 < s.1) && decide (w.2 < s.2.1)) xs
    unfold dueM at *
    omega
end
/-! ### the runs one after another, and sizes -/
def lastE (lo : Rat) (rs : List Run) : Rat := rs.foldl (fun _ r => r.2.2.2) lo
theorem lastE_more {lo : Rat} {rs : List Run} {j : Nat} {r : Run} (h : rs[j]? = some r) : lastE lo (rs.take (j + 1)) = r.2.2.2 := by
  unfold lastE
  rw [take_more h, List.foldl_append]
  rfl
theorem durS_more {rs : List Run} {j : Nat} {r : Run} (h : rs[j]? = some r) : durS (rs.take (j + 1)) = durS (rs.take j) + (r.2.2.2 - r.2.2.1) := by
  rw [take_more h, durS_app]
  show _ + (_ + 0) = _
  rw [Rat.add_zero]
theorem Ch.at : ∀ {rs : List Run} {lo hi : Rat} {j : Nat} {r : Run}, Ch lo rs hi → rs[j]? = some r → lastE lo (rs.take j) ≤ r.2.2.1 ∧ r.2.2.1 < r.2.2.2 ∧ lo ≤ r.2.2.1 ∧ r.2.2.2 ≤ hi
  | _ :: _, lo, hi, 0, r, .cons h1 h2 h3, e => by
    have e := Option.some.inj e
    rw [← e]
    exact ⟨h1, h2, h1, h3.le⟩
  | _ :: _, lo, hi, j + 1, r, .cons h1 h2 h3, e => by
    obtain ⟨a, b, c, d⟩ := Ch.at (j := j) h3 e
    exact ⟨a, b, by grind, d⟩
theorem Ch.take : ∀ {rs : List Run} {lo hi : Rat} (j : Nat), Ch lo rs hi → Ch lo (rs.take j) hi
  | _, _, _, 0, h => by
    rw [List.take_zero]
    exact .nil h.le
  | [], _, _, _ + 1, h => h
  | _ :: _, _, _, j + 1, .cons h1 h2 h3 => .cons h1 h2 (h3.take j)
theorem Ch.dur : ∀ {rs : List Run} {lo hi : Rat}, Ch lo rs hi → 0 ≤ durS rs ∧ durS rs ≤ hi - lo
  | _, lo, hi, .nil h => ⟨Rat.le_refl, by show (0 : Rat) ≤ hi - lo; grind⟩
  | _, lo, hi, .cons h1 h2 h3 => by
    obtain ⟨a, b⟩ := h3.dur
    constructor
    · show 0 ≤ _ - _ + durS _
      grind
    · show _ - _ + durS _ ≤ hi - lo
      grind
theorem Ch.lastE_le : ∀ {rs : List Run} {lo hi : Rat}, Ch lo rs hi → lastE lo rs ≤ hi ∧ lo ≤ lastE lo rs
  | _, lo, hi, .nil h => ⟨h, Rat.le_refl⟩
  | _, lo, hi, .cons h1 h2 h3 => by
    obtain ⟨a, b⟩ := h3.lastE_le
    refine ⟨a, Rat.le_trans ?_ b⟩
    grind
theorem nil_pc : ∀ f ∈ ([] : List Rat), Pc f := fun f hf => by cases hf
def cueD (cb ce : Rat) : Nat := L30 * (cb.den * ce.den) * (2520 * 1)
structure Dn (cb ce : Rat) (xs : List St3) : Prop where
  b : TB cb
  e : TB ce
  fs : ∀ s ∈ xs, Fs L30 [] s
  len : xs.length ≤ 6
section
variable {cb ce : Rat} {xs : List St3}
theorem fs_st0 {s : St3} (h : Fs L30 [] s) : St0 s := ⟨h.pos nil_pc, h.lt⟩
theorem Dn.st0 (h : Dn cb ce xs) : ∀ s ∈ xs, St0 s := fun s hs => fs_st0 (h.fs s hs)
theorem cueD_pos (cb ce : Rat) : 0 < cueD cb ce := Nat.mul_pos (Nat.mul_pos (by decide) (Nat.mul_pos cb.den_pos ce.den_pos)) (by decide)
theorem Dn.dle (h : Dn cb ce xs) : cueD cb ce ≤ L30 * (29700 * 29700) * (2520 * 1) := Nat.mul_le_mul_right _ (Nat.mul_le_mul_left _ (Nat.mul_le_mul h.b.dn h.e.dn))
theorem iz_tOf {s : St3} {st x : Rat} (hs : Fs L30 [] s) (hst : Iz (cueD cb ce) st) (hx : Iz (L30 * (cb.den * ce.den)) x) : Iz (cueD cb ce) (tOf st s x) := by
  unfold tOf
  rw [Rat.div_def]
  exact hst.add ((hx.sub (hs.zb.up _)).mul (hs.inv nil_pc).1)
theorem iz_b (cb ce : Rat) : Iz (L30 * (cb.den * ce.den)) cb := (iz_den cb).dvd ⟨L30 * ce.den, by rw [Nat.mul_left_comm]⟩
theorem iz_e (cb ce : Rat) : Iz (L30 * (cb.den * ce.den)) ce := (iz_den ce).dvd ⟨L30 * cb.den, by rw [Nat.mul_left_comm, ← Nat.mul_assoc, Nat.mul_comm]; simp [Nat.mul_comm, Nat.mul_left_comm]⟩
theorem iz_lst {s : St3} (hs : Fs L30 [] s) : Iz (cueD cb ce) (lst3 s) := by
  have := (hs.lst nil_pc).1
  exact this.dvd ⟨cb.den * ce.den, by unfold cueD; show _ = L30 * (2520 * 1) * _; rw [Nat.mul_right_comm]⟩
theorem ovls_iz : ∀ (ys : List St3) (st : Rat), (∀ s ∈ ys, Fs L30 [] s) → Iz (cueD cb ce) st → ∀ r ∈ ovls cb ce st ys, Iz (cueD cb ce) r.2.2.1 ∧ Iz (cueD cb ce) r.2.2.2
  | [], _, _, _, r, hr => nomatch hr
  | s :: t, st, hy, hst, r, hr => by
    have hs := hy s List.mem_cons_self
    rcases List.mem_append.mp (show r ∈ ovl cb ce st s ++ ovls cb ce (st + lst3 s) t from hr) with h | h
    · unfold ovl at h
      split at h
      · rw [List.mem_singleton.mp h]
        refine ⟨iz_tOf hs hst ?_, iz_tOf hs hst ?_⟩
        · unfold maxR
          split
          · exact hs.zb.up _
          · exact iz_b cb ce
        · unfold minR
          split
          · exact hs.ze.up _
          · exact iz_e cb ce
      · cases h
    · exact ovls_iz t _ (fun z hz => hy z (List.mem_cons_of_mem _ hz)) (hst.add (iz_lst hs)) r h
theorem fold_times {P : Rat → Prop} : ∀ (rs acc : List Run), (∀ r ∈ rs, P r.2.2.1 ∧ P r.2.2.2) → (∀ r ∈ acc, P r.2.2.1 ∧ P r.2.2.2) → ∀ r ∈ rs.foldl rstep acc, P r.2.2.1 ∧ P r.2.2.2
  | [], _, _, h => h
  | x :: t, acc, h1, h2 => by
    refine fold_times t _ (fun r hr => h1 r (List.mem_cons_of_mem _ hr)) ?_
    have hx := h1 x List.mem_cons_self
    intro r hr
    rcases rstep_cases acc x with ⟨h, e⟩ | ⟨pre, a, h, (⟨c, e⟩ | ⟨_, e⟩)⟩
    · rw [e] at hr
      rw [List.mem_singleton.mp hr]
      exact hx
    · rw [e] at hr
      rcases List.mem_append.mp hr with z | z
      · exact h2 r (by rw [h]; exact List.mem_append_left _ z)
      · rw [List.mem_singleton.mp z]
        exact ⟨(h2 a (by rw [h]; exact List.mem_append_right _ (List.mem_singleton.mpr rfl))).1, hx.2⟩
    · rw [e] at hr
      rcases List.mem_append.mp hr with z | z
      · exact h2 r z
      · rw [List.mem_singleton.mp z]
        exact hx
theorem runs_iz (h : ∀ s ∈ xs, Fs L30 [] s) : ∀ r ∈ runsM cb ce xs, Iz (cueD cb ce) r.2.2.1 ∧ Iz (cueD cb ce) r.2.2.2 := fold_times _ _ (ovls_iz xs 0 h (iz_zero _)) (fun r hr => nomatch hr)
theorem durS_iz {D : Nat} : ∀ {rs : List Run}, (∀ r ∈ rs, Iz D r.2.2.1 ∧ Iz D r.2.2.2) → Iz D (durS rs)
  | [], _ => iz_zero _
  | r :: t, h => ((h r List.mem_cons_self).2.sub (h r List.mem_cons_self).1).add (durS_iz fun x hx => h x (List.mem_cons_of_mem _ hx))
theorem Dn.take (h : Dn cb ce xs) (i : Nat) : Dn cb ce (xs.take i) := ⟨h.b, h.e, fun s hs => h.fs s (List.mem_of_mem_take hs), by rw [List.length_take]; have := h.len; omega⟩
theorem Dn.far (h : Dn cb ce xs) : lenS xs ≤ ((16200 : Nat) : Rat) := by
  have h1 := (len_le nil_pc xs h.fs).2.2
  refine Rat.le_trans h1 (Rat.natCast_le_natCast.mpr ?_)
  show xs.length * (300 * (9 * 1)) ≤ 16200
  have := h.len
  omega
theorem Dn.sz (h : Dn cb ce xs) {x : Rat} (hz : Iz (cueD cb ce) x) (h0 : 0 ≤ x) (h1 : x ≤ lenS xs) : Sz 160 x := by
  have hf := h.far
  have hd := h.dle
  refine Iz.sz (M := 16200) (cueD_pos cb ce) hz ?_ (Rat.le_trans h1 hf) (Nat.lt_of_le_of_lt (Nat.mul_le_mul_left _ hd) (by decide)) (Nat.lt_of_le_of_lt hd (by decide))
  have : (0 : Rat) ≤ ((16200 : Nat) : Rat) := Rat.natCast_nonneg
  grind
theorem Dn.ch (h : Dn cb ce xs) : Ch 0 (runsM cb ce xs) (lenS xs) := (runs_whole h.st0).1
theorem Dn.times (h : Dn cb ce xs) {j : Nat} {r : Run} (hj : (runsM cb ce xs)[j]? = some r) : Sz 160 r.2.2.1 ∧ Sz 160 r.2.2.2 := by
  obtain ⟨i1, i2⟩ := runs_iz (cb := cb) (ce := ce) h.fs r (List.mem_of_getElem? hj)
  obtain ⟨_, a, b, c⟩ := h.ch.at hj
  exact ⟨h.sz i1 b (by grind), h.sz i2 (by grind) c⟩
theorem Dn.dur (h : Dn cb ce xs) (j : Nat) : Sz 160 (durS ((runsM cb ce xs).take j)) := by
  obtain ⟨a, b⟩ := (h.ch.take j).dur
  exact h.sz (durS_iz fun r hr => runs_iz h.fs r (List.mem_of_mem_take hr)) a (by grind)
theorem sz0 : Sz 160 (0 : Rat) := ⟨by decide, by decide⟩
theorem Dn.last (h : Dn cb ce xs) (j : Nat) : Sz 160 (lastE 0 ((runsM cb ce xs).take j)) := by
  induction j with
  | zero =>
    rw [List.take_zero]
    exact sz0
  | succ j ih =>
    cases e : (runsM cb ce xs)[j]? with
    | none =>
      rw [List.getElem?_eq_none_iff] at e
      rw [List.take_of_length_le (by omega)]
      rw [List.take_of_length_le (by omega)] at ih
      exact ih
    | some r =>
      rw [lastE_more e]
      exact (h.times e).2
theorem Dn.shown (h : Dn cb ce xs) (i : Nat) : Sz 160 (shownM cb ce (xs.take i)) := by
  have g := h.take i
  rw [← (runs_whole (cb := cb) (ce := ce) g.st0).2.1]
  have := g.dur (runsM cb ce (xs.take i)).length
  rw [List.take_length] at this
  exact this
end
theorem shownM_app (cb ce : Rat) : ∀ a b : List St3, shownM cb ce (a ++ b) = shownM cb ce a + shownM cb ce b
  | [], b => (Rat.zero_add _).symm
  | s :: a, b => by
    show _ + shownM cb ce (a ++ b) = _ + shownM cb ce a + shownM cb ce b
    rw [shownM_app cb ce a b, Rat.add_assoc]
theorem shown_more {cb ce : Rat} {xs : List St3} {i : Nat} {s : St3} (h : xs[i]? = some s) : shownM cb ce (xs.take (i + 1)) = shownM cb ce (xs.take i) + (if maxR cb s.1 < minR ce s.2.1 then (minR ce s.2.1 - maxR cb s.1) / s.2.2 else 0) := by
  rw [take_more h, shownM_app]
  show _ + (_ + 0) = _
  rw [Rat.add_zero]
theorem seen_some : ∀ {xs : List St3} {t : Rat}, (∀ s ∈ xs, St0 s) → t < lenS xs → 0 ≤ t → ∃ y, seen xs t = some y
  | [], t, _, h, h0 => by
    have : t < 0 := h
    grind
  | s :: r, t, hs, h, h0 => by
    unfold seen
    by_cases c : t < lst3 s
    · rw [if_pos c]
      exact ⟨_, rfl⟩
    · rw [if_neg c]
      have h' : t < lst3 s + lenS r := h
      exact seen_some (fun z hz => hs z (List.mem_cons_of_mem _ hz)) (by grind) (by grind)
theorem seen_at : ∀ {xs : List St3} {t y : Rat}, seen xs t = some y → ∃ i s, xs[i]? = some s ∧ y = s.1 + (t - lenS (xs.take i)) * s.2.2
  | [], _, _, h => nomatch h
  | s :: r, t, y, h => by
    unfold seen at h
    by_cases c : t < lst3 s
    · rw [if_pos c] at h
      refine ⟨0, s, rfl, ?_⟩
      have := Option.some.inj h
      rw [← this]
      show _ = s.1 + (t - 0) * s.2.2
      grind
    · rw [if_neg c] at h
      obtain ⟨i, z, h1, h2⟩ := seen_at h
      refine ⟨i + 1, z, h1, ?_⟩
      rw [h2]
      show _ = z.1 + (t - (lst3 s + lenS (r.take i))) * z.2.2
      grind
theorem seen_sz {N : Nat} {xs : List St3} {t y : Rat} (ok : ShOk N xs) (zt : Sz N t) (h : seen xs t = some y) : Sz (4 * N + 2) y := by
  obtain ⟨i, s, h1, rfl⟩ := seen_at h
  have o := ok.each s (List.mem_of_getElem? h1)
  have := sz_add o.b (sz_mul (sz_sub zt (ok.sums i)) o.p)
  exact this.mono (by omega)
end R
namespace R
open PySem PySem.Spec PyProof.Rows L2
/-! ### sorted(xs), xs a list of like data -/
def rSortedD (K : PySem.W.Frag) {β : Type} (enc : β → PyData) : List V → Hp → VK → Prop := fun vs H Q => ∃ (a : Addr) (xs : List V) (bs : List β), vs = [V.ref a] ∧ SqL K H a xs ∧ DpAll K H xs (bs.map enc) ∧ PySem.W.AllAlike (bs.map enc) ∧ PySem.W.Sortable (bs.map enc) ∧ (∀ b ∈ bs, (enc b).depth ≤ 60) ∧
  ∀ ys p, H p = none → DpAll K H ys ((bs.mergeSort (PySem.W.dataLe false enc)).map enc) → Q (.ref p) (upd H p (.lst ys))
theorem dpl {K : PySem.W.Frag} {H : Hp} : ∀ {vs : List V} {ds : List PyData}, DpAll K H vs ds → vs.length = ds.length
  | _, _, .nil => rfl
  | _, _, .cons _ h => by rw [List.length_cons, List.length_cons, dpl h]
section
variable {X : Cx}
theorem dpa_each {K : PySem.W.Frag} {H : Hp} {β : Type} {enc : β → PyData} : ∀ {xs : List V} {us : List Value} {bs : List β}, Vals xs us → DpAll K H xs (bs.map enc) → PySem.W.EachIs (fun u b => ∃ v, RelV v u ∧ Dp K H v (enc b)) us bs
  | [], _, [], .nil, _ => .nil
  | [], _, _ :: _, .nil, h => by cases h
  | _ :: _, _, [], .cons _ _, h => by cases h
  | v :: xs, _, b :: bs, .cons r rs, h => by
    cases h with
    | cons h1 h2 => exact .cons ⟨v, r, h1⟩ (dpa_each rs h2)
theorem each_dpa {K : PySem.W.Frag} {H : Hp} {β : Type} {enc : β → PyData} : ∀ {us : List Value} {bs : List β}, PySem.W.EachIs (fun u b => ∃ v, RelV v u ∧ Dp K H v (enc b)) us bs → ∃ xs, Vals xs us ∧ DpAll K H xs (bs.map enc)
  | _, _, .nil => ⟨[], .nil, .nil⟩
  | _, _, .cons ⟨v, r, h1⟩ h2 => by
    obtain ⟨xs, rs, hs⟩ := each_dpa h2
    exact ⟨v :: xs, .cons r rs, .cons h1 hs⟩
theorem cr_sortedD {β : Type} (enc : β → PyData) (hu : X.A.units + 64 < cLine) : CallR X (.builtin "sorted") (rSortedD X.K enc) := by
  intro pins s σ H vs us Q I r h
  obtain ⟨a, xs, bs, rfl, hs, hx, hal, hso, hdp, q⟩ := h
  obtain ⟨its, rv, hl, hz⟩ := I.list hs
  obtain ⟨u, rfl, ru⟩ := vals1 r
  obtain rfl : u = Value.ref a := ru
  have e := dpa_each rv hx
  have lb : xs.length = bs.length := by rw [dpl hx, List.length_map]
  have er : PySem.W.EachIs (fun v b => ∃ as, Reads s.heap v (enc b) as) its bs := e.mono fun u b ⟨v, rv, hv⟩ => Dp.reads I _ _ _ hv rv
  refine PySem.W.sorted_data hl.isList e er hal hso (by rw [← lb]; exact hz) (fun b hb => ?_) fun out hlen eo => ?_
  · have := hdp b hb
    omega
  · obtain ⟨ys, ry, dy⟩ := each_dpa eo
    obtain ⟨n, hn⟩ := sortedAll_at s.heap its (List.toArray out)
    have hd : s.heap.objs.size ≤ s.heap.objs.size + 1 := Nat.le_succ _
    refine ⟨.ref (s.heap.objs.size + 1), upd H (s.heap.objs.size + 1) (.lst ys), I.laid (t' := s.toks) (fun b o e => sortedAll_old e) hd ⟨?_, out, n, ry, hn⟩, rfl, q _ _ (I.hok.fresh hd) dy⟩
    rw [ry.length, hlen, ← lb]
    exact hz
end
end R
namespace R
open PySem PySem.Spec PyProof.Rows L2
/-! ### defs that raise; classes of errors over ValueError, without methods of their own -/
structure ExcT (K : PySem.W.Frag) (mg : Str → Option Value) (x : Str) (C : Addr) : Prop where
  g : mg x = some (.ref C)
  x : PySem.W.excIn K C [.type "ValueError", .type "Exception", .type "BaseException", .type "object"] "ValueError.__new__" = true
  k : PySem.W.keepIn K (.ref C) = true
  b : PySem.W.subIn K (.ref C) (.type "BaseException") = some true
  t : PySem.W.typeIn K (.ref C) = some (.type "type")
  e : PySem.W.exmOne K (.ref C) (.ref C) = some true
theorem exm_gen {K : PySem.W.Frag} {S C : Addr} {r : Bool} (h1 : PySem.W.subIn K (.ref C) (.type "BaseException") = some true) (h2 : PySem.W.isClsIn K C = true)
    (h3 : PySem.W.typeIn K (.ref C) = some (.type "type")) (h4 : PySem.W.subIn K (.ref S) (.ref C) = some r) : PySem.W.exmOne K (.ref S) (.ref C) = some r := by
  unfold PySem.W.exmOne
  rw [if_pos (by rw [h1]; rfl)]
  unfold PySem.W.kitCls
  dsimp only
  rw [if_pos (by rw [show (PySem.W.clsIn K C).isSome = true from h2, h3]; rfl)]
  exact h4
section
variable {P : Program} {w : World} {K : PySem.W.Frag} {mg : Str → Option Value} {base : Heap}
theorem Df.clX {x : Str} {st : Stmt} {N ps : List Str} {k : Nat} {sp : Sp} (D : Df K mg x st ps) (S : FnScope N ps (defScope st)) (len : ∀ vs H Q E, sp vs H Q E → vs.length = ps.length)
    (hbody : ∀ (f : Addr) (cdv : Value) (A : Around) (outer : List Env) (s : Shared) (H : Hp) (vs : List V) (Q : VK) (E : XK), Room k (A.deeper (envOfC x (defScope st) s.heap.objs.size f cdv)) → sp vs H Q E →
      ∃ t, PSs (cxOf (L2.CX P w) P w K mg base N x (defScope st) f cdv A outer s H E) (defBody st) t ∧ t { nx := fun _ H' => Q .non H', rt := Q } (start N vs) H) : Cl P w K mg base (L2.CX P w) (k + 1) x sp := by
  obtain ⟨f, fd, F, g, b⟩ := D.ex
  exact ⟨f, fd, ps, F.okX S len (hbody f), g, F.kp, b⟩
end
section
variable {X : Cx}
theorem pe_clS {W : WX} {k j : Nat} {x : Str} {sp : Sp} {p pos : Pos} {e : Expr} {es : List Expr} {t : TA} (c : Cl X.prog X.w X.K X.mg X.base (L2.CX X.prog X.w) k x sp) (hr : Room j X.A) (hk : k ≤ j) (hg : Gl X x) (tk : Takes X W) (ha : PA X (e :: es) t)
    (hdb : (x == ("__debug__" : Str)) = false := by decide) (he : starEach (e :: es) X.env = (false, eval e X.env) :: starEach es X.env := by rfl) (hpl : (backTo pos (starEach es X.env)).any (·.1) = false := by rfl) :
    PE X (.Call (.Name x p) (e :: es) [] pos) (tCallS sp (WE W) t) := by
  obtain ⟨f, fd, ps, F, hm, kp, b⟩ := c.ex
  exact pe_callS F (hr.mono hk) hg hm kp b (fun σ => passAt tk σ) ha hdb he hpl
theorem pe_clN {k j : Nat} {x : Str} {sp : Sp} {p pos : Pos} {e : Expr} {es : List Expr} {t : TA} (c : Cl X.prog X.w X.K X.mg X.base (L2.CX X.prog X.w) k x sp) (hr : Room j X.A) (hk : k ≤ j) (hg : Gl X x) (ha : PA X (e :: es) t)
    (hdb : (x == ("__debug__" : Str)) = false := by decide) (he : starEach (e :: es) X.env = (false, eval e X.env) :: starEach es X.env := by rfl) (hpl : (backTo pos (starEach es X.env)).any (·.1) = false := by rfl) :
    PE X (.Call (.Name x p) (e :: es) [] pos) (tCall sp [] E0 t) := by
  obtain ⟨f, fd, ps, F, hm, kp, b⟩ := c.ex
  exact pe_call F (hr.mono hk) hg hm kp b .nil passL ha hdb he hpl
end
end R
namespace R
open PySem PySem.Spec PyProof.Rows L2
/-! ### isinstance(e, c) of a caught error e, its class told behind -/
def rIsX (K : PySem.W.Frag) (D a : Addr) (cls : Value) (d : Option Addr) : List V → Hp → VK → Prop := fun xs H Q => cls = .ref D ∧ d = none ∧ rIsE K D a xs H Q
theorem call_isX {X : Cx} {a D : Addr} {oe : Obj} {cls : Value} {d : Option Addr} {pn : List (Addr × Obj)} (C : ExcC X.K D) (hz : Zc cls d oe) (hf : ∃ vs, oe.data = .fields vs) :
    CallR (X.suite a ((a, oe) :: pn)) (.builtin "isinstance") (rIsX X.K D a cls d) := by
  intro pins s σ H xs us Q I r h
  obtain ⟨h1, h2, h⟩ := h
  subst h1 h2
  exact call_isE C hz hf pins s σ H xs us Q I r h
theorem op_eqDS {X : Cx} {a : Addr} {pn : List (Addr × Obj)} (hu : X.A.units + 64 < cLine) : OpR (X.suite a pn) (compareOp .Eq) (rEqD X.K) := op_eqD (X := X.suite a pn) hu
theorem kit_self {K : PySem.W.Frag} {S : Addr} : PySem.W.kitOne K (.ref S) (.ref S) = some true := by
  unfold PySem.W.kitOne
  rw [if_pos (beq_self_eq_true _)]
theorem kit_gen {K : PySem.W.Frag} {S C : Addr} {r : Bool} (h1 : PySem.W.subIn K (.ref S) (.ref C) = some r) (h2 : PySem.W.isClsIn K C = true) (h3 : PySem.W.typeIn K (.ref C) = some (.type "type"))
    (h4 : (Value.ref S == Value.ref C) = false) : PySem.W.kitOne K (.ref S) (.ref C) = some r := by
  unfold PySem.W.kitOne
  rw [if_neg (by rw [h4]; exact Bool.false_ne_true)]
  unfold PySem.W.kitCls
  dsimp only
  rw [if_pos (by rw [show (PySem.W.clsIn K C).isSome = true from h2, h3]; rfl)]
  exact h1
theorem kit_ve {K : PySem.W.Frag} {S : Addr} {r : Bool} (h1 : PySem.W.subIn K (.ref S) (.type "ValueError") = some r) : PySem.W.kitOne K (.ref S) (.type "ValueError") = some r := by
  unfold PySem.W.kitOne
  rw [show (Value.ref S == Value.type "ValueError") = false from rfl, if_neg Bool.false_ne_true]
  unfold PySem.W.kitCls
  dsimp only
  rw [if_pos (by decide +kernel)]
  exact h1
/-! the rules of lists and tuples with the written part told by a letter: within a comprehension -/
theorem sl_listK {X : Cx} {K : PySem.W.Frag} (h : X.K = K) : SlR X (rSlL K) := h ▸ sl_list
theorem ix_listK {X : Cx} {K : PySem.W.Frag} (h : X.K = K) : IxR X (rIxL K) := h ▸ ix_list
theorem ix_tupK {X : Cx} {K : PySem.W.Frag} (h : X.K = K) : IxR X (rIxT K) := h ▸ ix_tup
theorem pe_gC {X : Cx} {x : Str} {pos : Pos} {C : Addr} (hg : Gl X x) (h : X.mg x = some (.ref C)) (hd : (x == ("__debug__" : Str)) = false := by decide) : PE X (.Name x pos) (tC (.ref C)) := pe_glob hg h rfl hd
end R
namespace R
open PySem PySem.Spec PyProof.Rows L2
/-! ### methods of an own class -/
structure Dm (K : PySem.W.Frag) (C : Addr) (m q : Str) (st : Stmt) (ps : List Str) : Prop where
  ex : ∃ (f : Addr) (fd : FuncData), Fun K m q st f fd ∧ Meth K C m f ∧ Binds K fd ps []
structure ClM (P : Program) (w : World) (K : PySem.W.Frag) (mg : Str → Option Value) (base : Heap) (CX : CXT) (k : Nat) (C : Addr) (m : Str) (sp : Sp) : Prop where
  ex : ∃ (f : Addr) (fd : FuncData) (ps : List Str), FnOk P w K mg base CX k f fd ps sp ∧ Meth K C m f ∧ Binds K fd ps []
section
variable {P : Program} {w : World} {K : PySem.W.Frag} {mg : Str → Option Value} {base : Heap}
theorem Dm.cl {C : Addr} {m q : Str} {st : Stmt} {N ps : List Str} {k : Nat} {sp : Sp} (D : Dm K C m q st ps) (S : FnScope N ps (defScope st)) (len : ∀ vs H Q E, sp vs H Q E → vs.length = ps.length)
    (hbody : ∀ (f : Addr) (cdv : Value) (A : Around) (outer : List Env) (s : Shared) (H : Hp) (vs : List V) (Q : VK) (E : XK), Room k (A.deeper (envOfC q (defScope st) s.heap.objs.size f cdv)) → sp vs H Q E →
      ∃ t, PSs (cxOf CX0 P w K mg base N q (defScope st) f cdv A outer s H E).nox (defBody st) t ∧ t { nx := fun _ H' => Q .non H', rt := Q } (start N vs) H) : ClM P w K mg base CX0 (k + 1) C m sp := by
  obtain ⟨f, fd, F, g, b⟩ := D.ex
  exact ⟨f, fd, ps, F.ok S len (hbody f), g, b⟩
theorem Dm.clX {C : Addr} {m q : Str} {st : Stmt} {N ps : List Str} {k : Nat} {sp : Sp} (D : Dm K C m q st ps) (S : FnScope N ps (defScope st)) (len : ∀ vs H Q E, sp vs H Q E → vs.length = ps.length)
    (hbody : ∀ (f : Addr) (cdv : Value) (A : Around) (outer : List Env) (s : Shared) (H : Hp) (vs : List V) (Q : VK) (E : XK), Room k (A.deeper (envOfC q (defScope st) s.heap.objs.size f cdv)) → sp vs H Q E →
      ∃ t, PSs (cxOf (L2.CX P w) P w K mg base N q (defScope st) f cdv A outer s H E) (defBody st) t ∧ t { nx := fun _ H' => Q .non H', rt := Q } (start N vs) H) : ClM P w K mg base (L2.CX P w) (k + 1) C m sp := by
  obtain ⟨f, fd, F, g, b⟩ := D.ex
  exact ⟨f, fd, ps, F.okX S len (hbody f), g, b⟩
end
/-- what is asked of the class, besides its methods -/
structure OwnC (K : PySem.W.Frag) (mg : Str → Option Value) (x : Str) (C : Addr) : Prop where
  g : mg x = some (.ref C)
  cl : Cls K C
  ms : PySem.W.makesIn K C = true
  kp : PySem.W.keepIn K (.ref C) = true
section
variable {X : Cx} {k j : Nat} {C : Addr} {m : Str} {sp : Sp} {p pos apos : Pos} {o e : Expr} {es : List Expr} {ta : TE} {t : TA} {W : WX}
/-- o.m(e, ..), what is raised is wished for at the caller's slots -/
def tMethS (C : Addr) (m : Str) (sp : Sp) (E : L2.St → XK) (ta : TE) (t : TA) : TE := fun σ H Q => ta σ H fun x H1 => ∃ a dx fs, x = .ref a ∧ H1 a = some (.ins C dx fs) ∧ fs.lookup m = none ∧ t σ H1 fun vs H2 => sp (x :: vs) H2 Q (E σ)
theorem pe_mt {pl : Sem Bool} (c : ClM X.prog X.w X.K X.mg X.base CX0 k C m sp) (hr : Room j X.A) (hk : k ≤ j) (cl : Cls X.K C) (he : PE X o ta) (ha : PA X (e :: es) t)
    (hst : starEach (e :: es) X.env = (false, eval e X.env) :: starEach es X.env := by rfl) (hpl : (backTo pos (starEach es X.env)).any (·.1) = false := by rfl)
    (ht : eval (.Call (.Attribute o m apos) (e :: es) [] pos) X.env = (do
      let ov ← eval o X.env
      standAt apos.atName
      let (f, first) ← holding [ov] (getMethod ov m pl)
      callWith pos f first (backTo pos (starEach (e :: es) X.env)) (backToKw pos (keywordEach [] X.env))) := by rfl) :
    PE X (.Call (.Attribute o m apos) (e :: es) [] pos) (tMeth C m sp [] E0 ta t) := by
  obtain ⟨f, fd, ps, F, hm, b⟩ := c.ex
  exact pe_meth (pl := pl) he cl hm F (hr.mono hk) b .nil pass0 ha hst hpl ht
theorem pe_mt0 {pl : Sem Bool} (c : ClM X.prog X.w X.K X.mg X.base CX0 k C m sp) (hr : Room j X.A) (hk : k ≤ j) (cl : Cls X.K C) (he : PE X o ta)
    (ht : eval (.Call (.Attribute o m apos) [] [] pos) X.env = (do
      let ov ← eval o X.env
      standAt apos.atName
      let (f, first) ← holding [ov] (getMethod ov m pl)
      callWith pos f first (backTo pos (starEach [] X.env)) (backToKw pos (keywordEach [] X.env))) := by rfl) :
    PE X (.Call (.Attribute o m apos) [] [] pos) (tMeth C m sp [] E0 ta tNil) := by
  obtain ⟨f, fd, ps, F, hm, b⟩ := c.ex
  exact pe_meth0 (pl := pl) he cl hm F (hr.mono hk) b .nil pass0 ht
/-- a method that may raise, where it does not -/
theorem pe_mtN {pl : Sem Bool} (c : ClM X.prog X.w X.K X.mg X.base (L2.CX X.prog X.w) k C m sp) (hr : Room j X.A) (hk : k ≤ j) (cl : Cls X.K C) (he : PE X o ta) (ha : PA X (e :: es) t)
    (hst : starEach (e :: es) X.env = (false, eval e X.env) :: starEach es X.env := by rfl) (hpl : (backTo pos (starEach es X.env)).any (·.1) = false := by rfl)
    (ht : eval (.Call (.Attribute o m apos) (e :: es) [] pos) X.env = (do
      let ov ← eval o X.env
      standAt apos.atName
      let (f, first) ← holding [ov] (getMethod ov m pl)
      callWith pos f first (backTo pos (starEach (e :: es) X.env)) (backToKw pos (keywordEach [] X.env))) := by rfl) :
    PE X (.Call (.Attribute o m apos) (e :: es) [] pos) (tMeth C m sp [] E0 ta t) := by
  obtain ⟨f, fd, ps, F, hm, b⟩ := c.ex
  exact pe_meth (pl := pl) he cl hm F (hr.mono hk) b .nil passL ha hst hpl ht
theorem pe_mt0N {pl : Sem Bool} (c : ClM X.prog X.w X.K X.mg X.base (L2.CX X.prog X.w) k C m sp) (hr : Room j X.A) (hk : k ≤ j) (cl : Cls X.K C) (he : PE X o ta)
    (ht : eval (.Call (.Attribute o m apos) [] [] pos) X.env = (do
      let ov ← eval o X.env
      standAt apos.atName
      let (f, first) ← holding [ov] (getMethod ov m pl)
      callWith pos f first (backTo pos (starEach [] X.env)) (backToKw pos (keywordEach [] X.env))) := by rfl) :
    PE X (.Call (.Attribute o m apos) [] [] pos) (tMeth C m sp [] E0 ta tNil) := by
  obtain ⟨f, fd, ps, F, hm, b⟩ := c.ex
  exact pe_meth0 (pl := pl) he cl hm F (hr.mono hk) b .nil passL ht
theorem pe_mtS {pl : Sem Bool} (c : ClM X.prog X.w X.K X.mg X.base (L2.CX X.prog X.w) k C m sp) (hr : Room j X.A) (hk : k ≤ j) (cl : Cls X.K C) (tk : Takes X W) (he : PE X o ta) (ha : PA X (e :: es) t)
    (hst : starEach (e :: es) X.env = (false, eval e X.env) :: starEach es X.env := by rfl) (hpl : (backTo pos (starEach es X.env)).any (·.1) = false := by rfl)
    (ht : eval (.Call (.Attribute o m apos) (e :: es) [] pos) X.env = (do
      let ov ← eval o X.env
      standAt apos.atName
      let (f, first) ← holding [ov] (getMethod ov m pl)
      callWith pos f first (backTo pos (starEach (e :: es) X.env)) (backToKw pos (keywordEach [] X.env))) := by rfl) :
    PE X (.Call (.Attribute o m apos) (e :: es) [] pos) (tMethS C m sp (WE W) ta t) := by
  obtain ⟨f, fd, ps, F, hm, b⟩ := c.ex
  refine ⟨fun pins s σ H Q I h => ?_⟩
  refine PySem.W.methodCall_KW (pl := pl) (thn (he.run pins s σ H _ I h) fun u s1 ⟨x, H1, I1, rx, a, dx, fs, ex, ea, l, q⟩ => ?_) ht
  subst ex
  obtain rfl : u = Value.ref a := rx
  refine getmeth_ok I1 ea cl hm l ?_
  refine PySem.W.callWith_K (first := [.ref a]) (h₀ := X.base) I.ok.mod.kin hm.kp (thn (ha.run pos pins s1 σ H1 _ I1 q) fun us s2 ⟨vs, H2, I2, r, q2⟩ => ⟨I2.kIn, ?_⟩) hst hpl
  exact run_fnS (us := .ref a :: us) (vs := .ref a :: vs) (E := WE W) F (hr.mono hk) b (passAt tk σ) I2 (.cons rfl r) q2
theorem pe_mt0S {pl : Sem Bool} (c : ClM X.prog X.w X.K X.mg X.base (L2.CX X.prog X.w) k C m sp) (hr : Room j X.A) (hk : k ≤ j) (cl : Cls X.K C) (tk : Takes X W) (he : PE X o ta)
    (ht : eval (.Call (.Attribute o m apos) [] [] pos) X.env = (do
      let ov ← eval o X.env
      standAt apos.atName
      let (f, first) ← holding [ov] (getMethod ov m pl)
      callWith pos f first (backTo pos (starEach [] X.env)) (backToKw pos (keywordEach [] X.env))) := by rfl) :
    PE X (.Call (.Attribute o m apos) [] [] pos) (tMethS C m sp (WE W) ta tNil) := by
  obtain ⟨f, fd, ps, F, hm, b⟩ := c.ex
  refine ⟨fun pins s σ H Q I h => ?_⟩
  refine PySem.W.methodCall_KW (pl := pl) (thn (he.run pins s σ H _ I h) fun u s1 ⟨x, H1, I1, rx, a, dx, fs, ex, ea, l, q⟩ => ?_) ht
  subst ex
  obtain rfl : u = Value.ref a := rx
  refine getmeth_ok I1 ea cl hm l ?_
  exact PySem.W.callWith_K0 (first := [.ref a]) I1.kIn hm.kp (run_fnS (us := [.ref a]) (vs := [.ref a]) (E := WE W) F (hr.mono hk) b (passAt tk σ) I1 (.cons rfl .nil) q)
/-- C(e, ..) -/
theorem pe_mkC {x : Str} (c : ClM X.prog X.w X.K X.mg X.base CX0 k C "__init__" sp) (oc : OwnC X.K X.mg x C) (hr : Room j X.A) (hk : k + 1 ≤ j) (hg : Gl X x) (ha : PA X (e :: es) t)
    (hdb : (x == ("__debug__" : Str)) = false := by decide) (he : starEach (e :: es) X.env = (false, eval e X.env) :: starEach es X.env := by rfl) (hpl : (backTo pos (starEach es X.env)).any (·.1) = false := by rfl) :
    PE X (.Call (.Name x p) (e :: es) [] pos) (tMake C sp [] E0 t) := by
  obtain ⟨f, fd, ps, F, hm, b⟩ := c.ex
  exact pe_make ⟨oc.ms, hm.at_, hm.fn, oc.kp⟩ F (hr.mono hk) hg oc.g b .nil pass0 ha hdb he hpl
end
end R
namespace R
open PySem PySem.Spec PyProof.Rows L2 GxR
/-! ### all(sign in NAME for sign in text), NAME a text of the module: as the layer's rule, but the element may read the module's names -/
def EltG (prog : Program) (w : World) (mg : Str → Option Value) (sc : Scope) (x : Str) (el : Expr) (pb : Nat → Bool) : Prop :=
  ∀ (ce : Env) (B : Around) (R : Value → Shared → Prop) (n : Nat) (tk : Tok) (z : Shared) (ml : Str → Option Value), ce.scope = sc → ce.globals = mainGlobals → z.heap.Ns mainGlobals mg →
    z.heap.Ns ce.locals ml → ml x = some (.str ⟨#[n]⟩ tk) → wpAny (model prog w) B (eval el ce) (fun y z' => y = .bool (pb n) ∧ Keeps z z') R z
theorem elt_in {prog : Program} {w : World} {mg : Str → Option Value} {sc : Scope} {x g : Str} {t : Str} {p1 p2 p3 : Pos} (hk : sc.kind = .function) (hl : sc.names.lookup x = some .local) (hg : sc.names.lookup g = some .globalImplicit)
    (hm : ∃ u, mg g = some u ∧ RelV (.str t) u) (d1 : (x == ("__debug__" : Str)) = false := by decide) (d2 : (g == ("__debug__" : Str)) = false := by decide) :
    EltG prog w mg sc x (.Compare (.Name x p1) [.In] [.Name g p2] p3) (fun c => decide (c ∈ t.cps.toList)) := by
  intro ce B R n tk z ml es eg hG hL hx
  obtain ⟨u, hu, tk2, rfl⟩ := hm
  have k1 : ce.scope.kind = .function := es ▸ hk
  have k2 : ce.kindOf x = some .local := show ce.scope.names.lookup x = _ from es ▸ hl
  have k3 : ce.kindOf g = some .globalImplicit := show ce.scope.names.lookup g = _ from es ▸ hg
  refine wpAny_Compare1 (wpAny_Name (wpAny_loadName_local k1 k2 hL hx ?_) d1)
  refine Calls.Name_function_global k1 k3 (Calls.loadGlobal_global (mg := mg) (by rw [eg]; exact hG) hu ?_) d2
  refine PyProof.Rows.in_str ⟨?_, keeps_refl _⟩
  rw [PySem.StrLaws.found_one t n]
theorem noFree {sc : Scope} {env : Env} (h : ∀ y ∈ sc.names, y.2 ≠ .free) : ∀ y ∈ sc.names, y.2 = .free → ∃ c, env.cells.lookup y.1 = some c := fun y hy e => absurd e (h y hy)
section
variable {X : Cx} {pins : List (Addr × Obj)} {σ : L2.St} {H : Hp} {s : Shared}
theorem gen_strG {c P : Addr} {el it : Expr} {x : Str} {px gp : Pos} {sc : Scope} {pb : Nat → Bool} {te : TE} {k : Nat} {Z : Value → Shared → Prop} {Y : Str → Hp → Prop}
    (hr : Room k X.A) (tb : TabB X.base X.mg c P) (hc : X.env.code = .ref c) (gs : GenS X.env sc x) (pit : PE X it te) (hel : EltG X.prog X.w X.mg sc x el pb) (hf : ∀ v, genFold it X.env v = pure v) (I : Inv X pins σ H s)
    (h : te σ H fun v H1 => ∃ a : Str, v = .str a ∧ TabG H1 P ∧ Y a H1) (hZ : ∀ a H1 g z, Y a H1 → Ready X pins σ H1 P a pb g z → Z (.ref g) z) :
    wpAny (model X.prog X.w) X.A (eval (.GeneratorExp el [⟨.Name x px, it, [], 0⟩] sc gp) X.env) Z X.xe s := by
  refine wpAny_GeneratorExp_walksQ hr.hd gs.co (closure_ok gs.free) gs.cell gs.dot gs.loc gs.kind hr.depth (thn (pit.run pins s σ H _ I h) fun xv s1 q => ?_) hf
  obtain ⟨v, H1, J, rv, a, rfl, ⟨ps, eP, tri⟩, hY⟩ := q
  obtain ⟨tk, rfl⟩ := (show ∃ tk, xv = Value.str a tk from rv)
  refine wpAny_pyIter_str fun o Si W st => ?_
  have oP : s1.heap.get? P = some { cls := .none, data := .fields ps } := J.hok P _ eP
  have ltP : P < s1.heap.objs.size := Heap.lt_size oP
  have oP2 : (s1.heap.push o).get? P = some { cls := .none, data := .fields ps } := Heap.get?_push_of_some _ oP
  have hd : PySem.W.CodeHd (s1.heap.push o) c P := tb.code.keeps fun b u e => Heap.get?_push_of_some _ (J.bk b u e)
  have nl : (s1.heap.push o).NoLimit := J.nolimit.push o
  have go : ∀ (cv : Value) (h3 : Heap) (t3 : Nat) (ps3 : Array Value), Heap.ExtBut P (s1.heap.push o) h3 → (s1.heap.push o).objs.size ≤ h3.objs.size → h3.get? P = some { cls := .none, data := .fields ps3 } → (∃ more, ps3 = ps ++ more) → TriplesOk ps3.toList →
      wpAny (model X.prog X.w) X.A (builtinsFor X.env.globals X.env.builtins) (fun bi s4 => ∃ Ia fp wr n0 Pf St0 pz F, Value.ref s1.heap.objs.size = .ref Ia ∧ (∀ B : Around, B.handled = none → Walks X.prog X.w B Ia fp wr n0 Pf St0) ∧ St0 0 s4.heap ∧
          (∀ b ∈ fp, b < s4.heap.objs.size) ∧ s4.heap.NoLimit ∧ cStatics ∉ wr ∧
          (∀ href : Heap, (∀ b o, s4.heap.get? b = some o → href.get? b = some o) → QuietGen X.prog X.w (genEnv sc (cloFrom X.env.cells sc.names []) s4.heap.objs.size cv bi X.env) x [] el (List.range s4.heap.objs.size) wr Pf pz F href) ∧
          (∀ g h5 t5 gst, gst.bare = true → s4.heap.objs.size < g → h5.objs.size = g + 1 → (∀ b o, s4.heap.get? b = some o → h5.get? b = some o) →
            WalksS X.prog X.w X.A.in4 g (g :: s4.heap.objs.size :: List.range s4.heap.objs.size) (s4.heap.objs.size :: wr) (GenOnlyQ s4.gens.size) (passing pz n0 0).length (fun j y => ∃ i, (passing pz n0 0)[j]? = some i ∧ F i y)
              (GenAt X.prog X.w X.A.in4 g s4.gens.size s4.heap.objs.size (List.range s4.heap.objs.size) wr pz n0 F) →
            GenAt X.prog X.w X.A.in4 g s4.gens.size s4.heap.objs.size (List.range s4.heap.objs.size) wr pz n0 F 0 { s4 with gens := s4.gens.push gst, toks := t5, heap := h5 } →
            Z (.ref g) { s4 with gens := s4.gens.push gst, toks := t5, heap := h5 })) X.xe { s1 with heap := h3, toks := t3 } := by
    intro cv h3 t3 ps3 ext szl oP3 hmore tri3
    have keep : ∀ b u, b ≠ P → s1.heap.get? b = some u → h3.get? b = some u := fun b u nb e => ext b u nb (Heap.get?_push_of_some _ e)
    have glob3 : h3.Ns mainGlobals X.mg := ((J.mod.glob.keeps J.bk).push o).extBut ext tb.gP
    have neC : cStatics ≠ P := fun e => by
      obtain ⟨_, ⟨o', es, ep, ho, hdt, _⟩, _⟩ := J.nolimit
      rw [e, oP] at ho
      cases ho
      cases hdt
    have ltC : cStatics < s1.heap.objs.size := let ⟨_, hns, _⟩ := J.nolimit; hns.lt
    have ltG : mainGlobals < s1.heap.objs.size := (J.mod.glob.keeps J.bk).lt
    have szp : (s1.heap.push o).objs.size = s1.heap.objs.size + 1 := Heap.size_push ..
    obtain ⟨bm, ob, b1, b2, b3, b4, b5, b6, b7, b8⟩ := tb.bm
    refine wpAny_builtinsFor (m := X.mg) (by rw [J.ok.glob]; exact glob3) b1 b2 (keep _ _ b4 (J.bk _ _ b5)) b6 b7 b8 ?_
    refine ⟨s1.heap.objs.size, [s1.heap.objs.size], [s1.heap.objs.size], a.cps.size, SignAt a, Si, fun _ => true, fun i y => ∃ n, a.cps[i]? = some n ∧ y = .bool (pb n), rfl, W, ?_, ?_, nl.extBut ext neC, ?_, ?_, ?_⟩
    · exact (W X.A hr.hd).frame _ _ _ st fun b hb u e => ext b u (by rw [List.mem_singleton.mp hb]; exact (Nat.ne_of_lt ltP).symm) e
    · intro b hb
      rw [List.mem_singleton.mp hb]
      show s1.heap.objs.size < h3.objs.size
      omega
    · intro e
      exact Nat.ne_of_lt ltC (List.mem_singleton.mp e)
    · intro href hx
      constructor
      · intro B R i v z ml _ _ _ _ _
        rw [List.forIn_nil]
        exact wpAny_pure ⟨rfl, keeps_refl _⟩
      · intro B R i v z ml _ pv' _ hL hm hold
        obtain ⟨n, u, en, rfl⟩ := pv'
        have gz : z.heap.Ns mainGlobals X.mg := by
          obtain ⟨og, eg, ep, ho, rest⟩ := glob3
          refine ⟨og, eg, ep, hold mainGlobals (List.mem_range.mpr ?_) (fun e => Nat.ne_of_lt ltG (List.mem_singleton.mp e)) og (hx _ _ ho), rest⟩
          exact Heap.lt_size ho
        exact wpAny_mono (hel _ B R n u z ml rfl (show X.env.globals = mainGlobals from J.ok.glob) gz hL hm) (fun y z' q => ⟨⟨n, en, q.1⟩, q.2⟩) fun _ _ e => e
    · intro g h5 t5 gst gb lg sz5 keep5 W5 at5
      simp only [GxR.passing_true, List.length_range] at W5
      refine hZ a H1 g _ hY ⟨_, _, _, _, _, W5.in4_1, at5, ?_, fun s' mv => ?_⟩
      · intro j y sj Qj Ej fy hQ
        obtain ⟨i, ei, n, en, rfl⟩ := fy
        obtain ⟨hj, ej⟩ := List.getElem?_eq_some_iff.mp ei
        rw [List.getElem_range] at ej
        subst ej
        have e9 : a.cps.toList[j]? = some n := by
          rw [Array.getElem?_toList]
          exact en
        have hQ' : Qj (trF pb a.cps.toList j) sj := hQ
        rw [trF_some e9] at hQ'
        exact wpAny_truthy_bool hQ'
      · obtain ⟨more, rfl⟩ := hmore
        have nw : ∀ b u, s1.heap.get? b = some u → b ∉ h3.objs.size :: [s1.heap.objs.size] := fun b u e hb => by
          have lb := Heap.lt_size e
          rcases List.mem_cons.mp hb with q | q
          · rw [q] at lb
            have : (h3.objs.size : Nat) < s1.heap.objs.size := lb
            omega
          · rw [List.mem_singleton.mp q] at lb
            exact Nat.lt_irrefl _ lb
        have V := inv_tab (more := more) (h' := s'.heap) (g' := s'.gens) (d' := s'.drawn) (t' := s'.toks) J eP (fun b u nb e => mv.heap b u (nw b u e) (keep5 b u (keep b u nb e))) (mv.heap P _ (nw P _ oP) (keep5 P _ oP3)) (AllBare.movedS (J.bare.push gb) mv)
        rw [sh_eta s1 s' mv.os] at V
        exact ⟨_, ⟨⟨ps ++ more, upd_same, tri3⟩, fun b nb => upd_ne nb⟩, V⟩
  refine ⟨nl, ?_⟩
  cases cf : codeAmong gp ps.toList with
  | some cv => exact wpAny_genexprCode_hit hc (hd.code oP2 tri) cf (go cv (s1.heap.push o) s1.toks ps (Heap.ExtBut.refl _ _) (Nat.le_refl _) oP2 ⟨#[], by simp⟩ tri)
  | none =>
    refine wpAny_genexprCodeX hc (hd.code oP2 tri) (hd.tab oP2) cf fun c' h' tk' hx ge lt co _ tab _ => ?_
    obtain ⟨o1, vs, f1, tf, fl, tg, inF, tx, tt, op, _, _, _, _, _, _, _, _, _, htr, _⟩ := co
    exact go _ h' tk' _ hx (Nat.le_trans ge (Nat.le_of_lt lt)) tab.2 ⟨_, rfl⟩ htr
theorem pe_allG {c P : Addr} {el it : Expr} {x : Str} {px p pos gp : Pos} {sc : Scope} {pb : Nat → Bool} {te : TE} {k : Nat} (hr : Room k X.A) (hg : Gl X "all") (hm : X.mg "all" = none) (tb : TabB X.base X.mg c P) (hc : X.env.code = .ref c)
    (gs : GenS X.env sc x) (pit : PE X it te) (hel : EltG X.prog X.w X.mg sc x el pb) (hf : ∀ v, genFold it X.env v = pure v)
    (he : starEach [.GeneratorExp el [⟨.Name x px, it, [], 0⟩] sc gp] X.env = (false, eval (.GeneratorExp el [⟨.Name x px, it, [], 0⟩] sc gp) X.env) :: starEach [] X.env := by rfl) :
    PE X (.Call (.Name "all" p) [.GeneratorExp el [⟨.Name x px, it, [], 0⟩] sc gp] [] pos) (tAllS P pb te) := by
  constructor
  intro pins s σ H Q I h
  have hb : bootBuiltins "all" = some (.builtin "all") := by decide +kernel
  refine wpAny_Call_Name_kw (ld_blt I hg hm hb (PyProof.Rows.callWith_builtin1 ?_ he (by rfl)))
  rw [he]
  show wpAny _ _ (spliced ((false, eval (.GeneratorExp el [⟨.Name x px, it, [], 0⟩] sc gp) X.env) :: backTo pos (starEach [] X.env))) _ _ s
  refine Calls.spliced_cons (gen_strG (Y := fun a H1 => ∀ H2, Tabbed P H1 H2 → Q (.bl (a.cps.toList.all pb)) H2) hr tb hc gs pit hel hf I h fun a H1 g z hY rd => Calls.spliced_nil ?_)
  obtain ⟨fp, wr, G, F, St, W, st, tr, back⟩ := rd
  refine call_all_walkS (W.self 0 _ _ _ st ⟨g, fp, wr, G, _, F, St, _, rfl, W, st, tr, fun z' mv => ?_⟩)
  obtain ⟨H2, tbd, J⟩ := back z' mv
  exact ⟨.bl _, H2, J, rfl, by rw [all_signs a pb]; exact hY H2 tbd⟩
end
end R
namespace R
open PySem PySem.Spec PyProof.Rows L2
/-! ### the law's end, where the table of one def's code is told to be empty -/
theorem walk_tab {l : PySem.W.OpenLaw} {n k : Nat} {q : Program} {loose : List Str} {XP : (Str → Option Value) → Heap → Prop} {YP : World → Heap → Prop} {d : DefRec} {K : Params → PySem.W.Frag} {CX : World → CXT} {x : Str} (nm : Str)
    (hn : l.most = some n) (hn2 : n ≤ sizeLine) (hdf : d.params.defaults = []) (hr : Room k callerA) (hrec : ((recsOf q).any fun e => e.name == nm) = true) (hY : ∀ (w : World) (h : Heap), YP w h → (K w.params).In h)
    (F : ∀ (w : World) (mg : Str → Option Value) (fa : Addr) (h : Heap), (K w.params).In h → h.Ns mainGlobals mg → mg d.name = some (.ref fa) → (∀ f, mg nm = some (.ref f) → LamX.OwnTab (K w.params) f h) → LamX.LawAtS l w (K w.params) (CX w) k n x mg fa h)
    (hCX : ∀ (w : World) (H : Hp) (s : Shared) (e : Value) (s' : Shared), CX w [] H s (fun _ _ _ => False) e s' → False) : PySem.W.WalkO q loose XP YP l.row.toRowW d [] (fun f vs => PySem.call f vs) := by
  refine Att.attach_callB hn hdf fun w s₀ s₁ mg mb fa o pm cd doc a vs ns G Y ho hd hcd hmg hobj hints hlen hbits hg => ?_
  have inK := hY w _ Y
  have tabs : ∀ f, mg nm = some (.ref f) → LamX.OwnTab (K w.params) f s₁.heap := by
    intro f hf c P o1 fd1 e dd vc sl e1 e2 e3 e4 e5
    obtain ⟨dL, hm, he⟩ := List.any_eq_true.mp hrec
    obtain ⟨a', o', fd', c', P', g1, g2, g3, g4, g5, g6⟩ := G.T.tab dL hm
    rw [beq_iff_eq.mp he, hf] at g1
    cases g1
    have q1 := (inK _ _ e1).symm.trans g2
    cases q1
    have q2 := e2.symm.trans g3
    cases q2
    have q3 := e3.symm.trans g4
    cases q3
    obtain ⟨⟨oc, vc', r1, _, r3, r4⟩, rP⟩ := g6
    have q4 := (inK _ _ e4).symm.trans r1
    cases q4
    cases r3
    have q5 := e5.symm.trans r4
    cases q5
    exact rP
  obtain ⟨fd, cs, sp, hT, nT, C, hb, hsp, hF⟩ := F w mg fa _ inK G.T.g hmg tabs
  exact LamX.law_callTs inK G.T.g G.T.b G.T.builtins G.T.nolimit hg hT nT C G.T.bmain hobj hints (Nat.le_trans hlen hn2) hr hF hb (fun H hH hS => hsp H a ns hlen hbits hH hS) fun H e s' => hCX w H s₁ e s'
theorem walk_tabs {l : PySem.W.OpenLaw} {n k : Nat} {q : Program} {loose : List Str} {XP : (Str → Option Value) → Heap → Prop} {YP : World → Heap → Prop} {d : DefRec} {K : Params → PySem.W.Frag} {CX : World → CXT} {x : Str} (nms : List Str)
    (hn : l.most = some n) (hn2 : n ≤ sizeLine) (hdf : d.params.defaults = []) (hr : Room k callerA) (hrec : ∀ nm ∈ nms, ((recsOf q).any fun e => e.name == nm) = true) (hY : ∀ (w : World) (h : Heap), YP w h → (K w.params).In h)
    (F : ∀ (w : World) (mg : Str → Option Value) (fa : Addr) (h : Heap), (K w.params).In h → h.Ns mainGlobals mg → mg d.name = some (.ref fa) → (∀ nm ∈ nms, ∀ f, mg nm = some (.ref f) → LamX.OwnTab (K w.params) f h) → LamX.LawAtS l w (K w.params) (CX w) k n x mg fa h)
    (hCX : ∀ (w : World) (H : Hp) (s : Shared) (e : Value) (s' : Shared), CX w [] H s (fun _ _ _ => False) e s' → False) : PySem.W.WalkO q loose XP YP l.row.toRowW d [] (fun f vs => PySem.call f vs) := by
  refine Att.attach_callB hn hdf fun w s₀ s₁ mg mb fa o pm cd doc a vs ns G Y ho hd hcd hmg hobj hints hlen hbits hg => ?_
  have inK := hY w _ Y
  have tabs : ∀ nm ∈ nms, ∀ f, mg nm = some (.ref f) → LamX.OwnTab (K w.params) f s₁.heap := by
    intro nm hnm f hf c P o1 fd1 e dd vc sl e1 e2 e3 e4 e5
    obtain ⟨dL, hm, he⟩ := List.any_eq_true.mp (hrec nm hnm)
    obtain ⟨a', o', fd', c', P', g1, g2, g3, g4, g5, g6⟩ := G.T.tab dL hm
    rw [beq_iff_eq.mp he, hf] at g1
    cases g1
    have q1 := (inK _ _ e1).symm.trans g2
    cases q1
    have q2 := e2.symm.trans g3
    cases q2
    have q3 := e3.symm.trans g4
    cases q3
    obtain ⟨⟨oc, vc', r1, _, r3, r4⟩, rP⟩ := g6
    have q4 := (inK _ _ e4).symm.trans r1
    cases q4
    cases r3
    have q5 := e5.symm.trans r4
    cases q5
    exact rP
  obtain ⟨fd, cs, sp, hT, nT, C, hb, hsp, hF⟩ := F w mg fa _ inK G.T.g hmg tabs
  exact LamX.law_callTs inK G.T.g G.T.b G.T.builtins G.T.nolimit hg hT nT C G.T.bmain hobj hints (Nat.le_trans hlen hn2) hr hF hb (fun H hH hS => hsp H a ns hlen hbits hH hS) fun H e s' => hCX w H s₁ e s'
end R
namespace R
open PySem
/-! ### rows: begin, end, number, words; their order -/
abbrev Rw := Rat × Rat × Int × List Str
def soonM (x y : Rw) : Bool := decide (x.1 < y.1 ∨ (x.1 = y.1 ∧ (x.2.2.1 < y.2.2.1 ∨ (x.2.2.1 = y.2.2.1 ∧ x.2.1 < y.2.1))))
def leM (x y : Rw) : Bool := !soonM y x
theorem soonM_iff (x y : Rw) : soonM x y = true ↔ (x.1 < y.1 ∨ (x.1 = y.1 ∧ (x.2.2.1 < y.2.2.1 ∨ (x.2.2.1 = y.2.2.1 ∧ x.2.1 < y.2.1)))) := decide_eq_true_iff
theorem leM_iff (x y : Rw) : leM x y = true ↔ ¬ (y.1 < x.1 ∨ (y.1 = x.1 ∧ (y.2.2.1 < x.2.2.1 ∨ (y.2.2.1 = x.2.2.1 ∧ y.2.1 < x.2.1)))) := by
  unfold leM
  rw [Bool.not_eq_true', ← Bool.not_eq_true, soonM_iff]
theorem leM_trans (x y z : Rw) (h1 : leM x y = true) (h2 : leM y z = true) : leM x z = true := by
  rw [leM_iff] at *
  grind
theorem leM_total (x y : Rw) : (leM x y || leM y x) = true := by
  rw [Bool.or_eq_true, leM_iff, leM_iff]
  grind
theorem leM_anti {x y : Rw} (h1 : leM x y = true) (h2 : leM y x = true) : x.1 = y.1 ∧ x.2.2.1 = y.2.2.1 := by
  rw [leM_iff] at *
  grind
theorem soon_le {x y : Rw} (h : soonM x y = true) : leM x y = true := by
  rw [soonM_iff] at h
  rw [leM_iff]
  grind
/-! ### a row put in behind all that are not later -/
theorem cut_ins {α : Type} {p : α → Bool} : ∀ {m : List α}, m.Pairwise (fun a b => p b = true → p a = true) → (∀ o ∈ m.take (m.filter p).length, p o = true) ∧ (∀ o ∈ m.drop (m.filter p).length, p o = false)
  | [], _ => ⟨fun _ h => by simp at h, fun _ h => by simp at h⟩
  | a :: m, h => by
    obtain ⟨h1, h2⟩ := List.pairwise_cons.mp h
    cases e : p a with
    | true =>
      rw [List.filter_cons_of_pos e]
      obtain ⟨k1, k2⟩ := cut_ins h2
      refine ⟨fun o ho => ?_, fun o ho => k2 o ho⟩
      rcases List.mem_cons.mp (show o ∈ a :: m.take (m.filter p).length from ho) with z | z
      · rw [z]
        exact e
      · exact k1 o z
    | false =>
      have hm : ∀ o ∈ m, p o = false := fun o ho => by
        cases e2 : p o with
        | false => rfl
        | true => rw [h1 o ho e2] at e; cases e
      have hf : (a :: m).filter p = [] := List.filter_eq_nil_iff.mpr fun o ho => by
        rcases List.mem_cons.mp ho with z | z
        · rw [z, e]
          decide
        · rw [hm o z]
          decide
      rw [hf]
      refine ⟨fun o ho => by simp at ho, fun o ho => ?_⟩
      rcases List.mem_cons.mp (show o ∈ a :: m from ho) with z | z
      · rw [z]
        exact e
      · exact hm o z
def insM (x : Rw) (m : List Rw) : List Rw := m.take (m.filter fun o => !soonM x o).length ++ [x] ++ m.drop (m.filter fun o => !soonM x o).length
theorem ins_perm (x : Rw) (m : List Rw) : (insM x m).Perm (m ++ [x]) := by
  unfold insM
  generalize (m.filter fun o => !soonM x o).length = n
  have h1 : (m.take n ++ [x] ++ m.drop n).Perm (m.take n ++ m.drop n ++ [x]) := by
    rw [List.append_assoc, List.append_assoc]
    exact (List.perm_append_comm (l₁ := [x]) (l₂ := m.drop n)).append_left _
  rw [List.take_append_drop] at h1
  exact h1
theorem ins_sorted {x : Rw} {m : List Rw} (h : m.Pairwise fun a b => leM a b = true) : (insM x m).Pairwise fun a b => leM a b = true := by
  have hp : m.Pairwise (fun a b => (!soonM x b) = true → (!soonM x a) = true) := h.imp fun {a b} hab hb => leM_trans a b x hab hb
  obtain ⟨k1, k2⟩ := cut_ins (p := fun o => !soonM x o) hp
  unfold insM
  generalize (m.filter fun o => !soonM x o).length = n at k1 k2 ⊢
  have ht := h.sublist (List.take_sublist n m)
  have hd := h.sublist (List.drop_sublist n m)
  have e := List.take_append_drop n m
  have hx : ∀ a ∈ m.take n, ∀ b ∈ m.drop n, leM a b = true := by
    have := h
    rw [← e, List.pairwise_append] at this
    exact this.2.2
  rw [List.pairwise_append, List.pairwise_append]
  refine ⟨⟨ht, List.pairwise_singleton _ _, fun a ha b hb => ?_⟩, hd, fun a ha b hb => ?_⟩
  · rw [List.mem_singleton.mp hb]
    exact k1 a ha
  · rcases List.mem_append.mp ha with z | z
    · exact hx a z b hb
    · rw [List.mem_singleton.mp z]
      refine soon_le ?_
      have := k2 b hb
      simpa using this
/-! ### the keys -/
def scI (B : Nat) (x : Rat) : Int := x.num * ((B : Int) / (x.den : Int))
theorem scI_rat {B : Nat} {x : Rat} (h : x.den ∣ B) : ((scI B x : Int) : Rat) = x * (B : Rat) := by
  obtain ⟨k, rfl⟩ := h
  have hd : (x.den : Int) ≠ 0 := by have := x.den_pos; omega
  unfold scI
  have e : (((x.den * k : Nat) : Int)) / (x.den : Int) = (k : Int) := by
    rw [Int.natCast_mul, Int.mul_ediv_cancel_left _ hd]
  rw [e, Rat.intCast_mul, Rat.natCast_mul, ← mul_den x, Rat.intCast_natCast]
  grind
theorem scI_lt {B : Nat} {x y : Rat} (hB : 0 < B) (hx : x.den ∣ B) (hy : y.den ∣ B) : scI B x < scI B y ↔ x < y := by
  rw [← Rat.intCast_lt_intCast, scI_rat hx, scI_rat hy]
  have hb : (0 : Rat) < (B : Rat) := Rat.natCast_pos.mpr hB
  constructor
  · intro h
    exact Rat.lt_of_mul_lt_mul_right h (Rat.le_of_lt hb)
  · intro h
    exact Rat.mul_lt_mul_of_pos_right h hb
theorem scI_inj {B : Nat} {x y : Rat} (hB : 0 < B) (hx : x.den ∣ B) (hy : y.den ∣ B) : scI B x = scI B y ↔ x = y := by
  constructor
  · intro h
    have h1 : ¬ x < y := fun z => by
      have := (scI_lt hB hx hy).mpr z
      omega
    have h2 : ¬ y < x := fun z => by
      have := (scI_lt hB hy hx).mpr z
      omega
    grind
  · intro h
    rw [h]
def keyR (B : Nat) (r : Rw) : PyData := .tuple [.int (scI B r.1), .int r.2.2.1, .int (scI B r.2.1)]
theorem key_lt (B : Nat) (x y : Rw) : PySem.W.dataLt (keyR B x) (keyR B y) = decide (scI B x.1 < scI B y.1 ∨ (scI B x.1 = scI B y.1 ∧ (x.2.2.1 < y.2.2.1 ∨ (x.2.2.1 = y.2.2.1 ∧ scI B x.2.1 < scI B y.2.1)))) := by
  have e : PySem.W.dataLt (keyR B x) (keyR B y) = PySem.W.rowLt ([scI B x.1, x.2.2.1, scI B x.2.1].map .int) ([scI B y.1, y.2.2.1, scI B y.2.1].map .int) := by
    unfold keyR
    rw [PySem.W.dataLt_tuple]
    rfl
  rw [e, PySem.W.dataLt_ints, decide_eq_decide, List.cons_lt_cons_iff, List.cons_lt_cons_iff, List.cons_lt_cons_iff]
  simp
theorem sorted_keys {B : Nat} (hB : 0 < B) {rs : List Rw} (hd : ∀ r ∈ rs, r.1.den ∣ B ∧ r.2.1.den ∣ B) : (rs.mergeSort (PySem.W.dataLe false (keyR B))).Perm rs ∧ (rs.mergeSort (PySem.W.dataLe false (keyR B))).Pairwise fun a b => leM a b = true := by
  have pm := List.mergeSort_perm rs (PySem.W.dataLe false (keyR B))
  have le_iff : ∀ x y : Rw, PySem.W.dataLe false (keyR B) x y = true ↔ ¬ (scI B y.1 < scI B x.1 ∨ (scI B y.1 = scI B x.1 ∧ (y.2.2.1 < x.2.2.1 ∨ (y.2.2.1 = x.2.2.1 ∧ scI B y.2.1 < scI B x.2.1)))) := fun x y => by
    rw [PySem.W.dataLe_eq]
    show (!PySem.W.dataLt (keyR B y) (keyR B x)) = true ↔ _
    rw [key_lt, Bool.not_eq_true', ← Bool.not_eq_true, decide_eq_true_iff]
  refine ⟨pm, ?_⟩
  have ps := List.pairwise_mergeSort (le := PySem.W.dataLe false (keyR B)) (fun a b c h1 h2 => by
    rw [le_iff] at *
    omega) (fun a b => by
    rw [Bool.or_eq_true, le_iff, le_iff]
    omega) rs
  refine ps.imp_of_mem fun {a b} ha hb h => ?_
  obtain ⟨a1, a2⟩ := hd a (pm.mem_iff.mp ha)
  obtain ⟨b1, b2⟩ := hd b (pm.mem_iff.mp hb)
  rw [le_iff, scI_lt hB b1 a1, scI_inj hB b1 a1, scI_lt hB b2 a2] at h
  rw [leM_iff]
  exact h
theorem rows_one {rs m m' : List Rw} (hd : ∀ a ∈ rs, ∀ b ∈ rs, a.1 = b.1 → a.2.2.1 = b.2.2.1 → a = b) (p : m.Perm rs) (s : m.Pairwise fun a b => leM a b = true) (p' : m'.Perm rs) (s' : m'.Pairwise fun a b => leM a b = true) : m = m' :=
  List.Perm.eq_of_pairwise (fun a b ha hb h1 h2 => hd a (p.mem_iff.mp ha) b (p'.mem_iff.mp hb) (leM_anti h1 h2).1 (leM_anti h1 h2).2) s s' (p.trans p'.symm)
end R
namespace R
open PySem
/-! ### the runs of a show and of its normal form are the same -/
theorem rstep_join (acc : List Run) (r t : Run) (h1 : r.2.1 = t.1) (h2 : r.2.2.2 = t.2.2.1) : rstep (rstep acc r) t = rstep acc (r.1, t.2.1, r.2.2.1, t.2.2.2) := by
  have last : ∀ (pre : List Run) (a : Run), a.2.1 = t.1 → a.2.2.2 = t.2.2.1 → rstep (pre ++ [a]) t = pre ++ [(a.1, t.2.1, a.2.2.1, t.2.2.2)] := fun pre a e1 e2 => by
    unfold rstep
    rw [List.getLast?_concat, List.dropLast_concat]
    show (if goesOn a t then _ else _) = _
    rw [if_pos ⟨e1, e2⟩]
  rcases rstep_cases acc r with ⟨h, e⟩ | ⟨pre, a, h, (⟨c, e⟩ | ⟨c, e⟩)⟩
  · rw [e, last [] r h1 h2, h]
    rfl
  · rw [e, last pre (a.1, r.2.1, a.2.2.1, r.2.2.2) h1 h2, h]
    unfold rstep
    rw [List.getLast?_concat, List.dropLast_concat]
    show _ = (if goesOn a (r.1, t.2.1, r.2.2.1, t.2.2.2) then _ else _)
    rw [if_pos (show goesOn a (r.1, t.2.1, r.2.2.1, t.2.2.2) from c)]
  · rw [e, last acc r h1 h2, h]
    unfold rstep
    rw [List.getLast?_concat, List.dropLast_concat]
    show _ = (if goesOn a (r.1, t.2.1, r.2.2.1, t.2.2.2) then _ else _)
    rw [if_neg (show ¬ goesOn a (r.1, t.2.1, r.2.2.1, t.2.2.2) from c)]
theorem ovls_snoc (cb ce : Rat) : ∀ (b : List St3) (s : St3) (st : Rat), ovls cb ce st (b ++ [s]) = ovls cb ce st b ++ ovl cb ce (st + lenS b) s
  | [], s, st => by
    show ovl cb ce st s ++ [] = [] ++ ovl cb ce (st + 0) s
    rw [List.append_nil, List.nil_append, Rat.add_zero]
  | x :: r, s, st => by
    show ovl cb ce st x ++ ovls cb ce (st + lst3 x) (r ++ [s]) = ovl cb ce st x ++ ovls cb ce (st + lst3 x) r ++ ovl cb ce (st + (lst3 x + lenS r)) s
    rw [ovls_snoc cb ce r s, List.append_assoc, Rat.add_assoc]
theorem runs_snoc (cb ce : Rat) (b : List St3) (s : St3) : runsM cb ce (b ++ [s]) = (ovl cb ce (lenS b) s).foldl rstep (runsM cb ce b) := by
  unfold runsM
  rw [ovls_snoc, List.foldl_append, Rat.zero_add]
theorem ovl_join (cb ce st : Rat) {l s : St3} (h1 : l.2.1 = s.1) (h2 : l.2.2 = s.2.2) (hl : l.1 < l.2.1) (hs : s.1 < s.2.1) (hp : 0 < s.2.2) (acc : List Run) :
    (ovl cb ce st (l.1, s.2.1, s.2.2)).foldl rstep acc = (ovl cb ce (st + lst3 l) s).foldl rstep ((ovl cb ce st l).foldl rstep acc) := by
  have np : s.2.2 ≠ 0 := by grind
  have tl : ∀ x, tOf st l x = tOf st (l.1, s.2.1, s.2.2) x := fun x => by
    unfold tOf
    rw [h2]
  have ts : ∀ x, tOf (st + lst3 l) s x = tOf st (l.1, s.2.1, s.2.2) x := fun x => by
    unfold tOf lst3
    rw [h2, h1]
    show st + (s.1 - l.1) / s.2.2 + (x - s.1) / s.2.2 = st + (x - l.1) / s.2.2
    rw [Rat.div_def, Rat.div_def, Rat.div_def]
    grind
  unfold ovl
  by_cases c1 : maxR cb l.1 < minR ce l.2.1
  · by_cases c2 : maxR cb s.1 < minR ce s.2.1
    · have e1 : maxR cb s.1 = s.1 := by unfold maxR minR at *; grind
      have e2 : minR ce l.2.1 = s.1 := by unfold maxR minR at *; grind
      have c3 : maxR cb l.1 < minR ce s.2.1 := by unfold maxR minR at *; grind
      rw [if_pos c1, if_pos c2, if_pos c3]
      show rstep acc _ = rstep (rstep acc _) _
      rw [rstep_join]
      · show rstep acc (maxR cb l.1, minR ce s.2.1, tOf st (l.1, s.2.1, s.2.2) (maxR cb l.1), tOf st (l.1, s.2.1, s.2.2) (minR ce s.2.1)) = rstep acc (maxR cb l.1, minR ce s.2.1, tOf st l (maxR cb l.1), tOf (st + lst3 l) s (minR ce s.2.1))
        rw [tl, ts]
      · show minR ce l.2.1 = maxR cb s.1
        rw [e1, e2]
      · show tOf st l (minR ce l.2.1) = tOf (st + lst3 l) s (maxR cb s.1)
        rw [tl, ts, e1, e2]
    · have c3 : maxR cb l.1 < minR ce s.2.1 := by unfold maxR minR at *; grind
      have e2 : minR ce s.2.1 = minR ce l.2.1 := by unfold maxR minR at *; grind
      rw [if_pos c1, if_neg c2, if_pos c3]
      show rstep acc _ = rstep acc _
      rw [tl, tl]
      show rstep acc (maxR cb l.1, minR ce s.2.1, _, tOf st (l.1, s.2.1, s.2.2) (minR ce s.2.1)) = _
      rw [e2]
  · by_cases c2 : maxR cb s.1 < minR ce s.2.1
    · have c3 : maxR cb l.1 < minR ce s.2.1 := by unfold maxR minR at *; grind
      have e2 : maxR cb l.1 = maxR cb s.1 := by unfold maxR minR at *; grind
      rw [if_neg c1, if_pos c2, if_pos c3]
      show rstep acc _ = rstep acc _
      rw [ts, ts]
      show rstep acc (maxR cb l.1, minR ce s.2.1, tOf st (l.1, s.2.1, s.2.2) (maxR cb l.1), _) = _
      rw [e2]
    · have c3 : ¬ maxR cb l.1 < minR ce s.2.1 := by unfold maxR minR at *; grind
      rw [if_neg c1, if_neg c2, if_neg c3]
      rfl
theorem runs_norm {cb ce : Rat} : ∀ {xs : List St3}, (∀ s ∈ xs, St0 s) → runsM cb ce (normM xs) = runsM cb ce xs := by
  refine fun {xs} => snoc_ind (P := fun xs => (∀ s ∈ xs, St0 s) → runsM cb ce (normM xs) = runsM cb ce xs) (fun _ => rfl) (fun b s ih h => ?_) xs
  have hb : ∀ x ∈ b, St0 x := fun x hx => h x (List.mem_append_left _ hx)
  have hs := h s (List.mem_append_right _ (List.mem_singleton.mpr rfl))
  have ih := ih hb
  have nb : ∀ x ∈ normM b, St0 x := norm_all (P := St0) (fun s t e1 e2 a b => ⟨by show 0 < t.2.2; exact b.1, by show s.1 < t.2.1; have := a.2; have := b.2; grind⟩) b hb
  rw [norm_snoc, runs_snoc, ← ih, ← lenS_norm]
  rcases nstep_cases (normM b) s with ⟨h0, e⟩ | ⟨pre, l, h0, (⟨e1, e2, e⟩ | ⟨_, e⟩)⟩
  · rw [e, h0]
    exact runs_snoc cb ce [] s
  · rw [e, h0, runs_snoc, runs_snoc, lenS_app]
    have l0 := nb l (by rw [h0]; simp)
    have el : lenS [l] = lst3 l := by
      show lst3 l + 0 = lst3 l
      rw [Rat.add_zero]
    rw [el]
    exact ovl_join cb ce (lenS pre) e1 e2 l0.lt hs.lt hs.p _
  · rw [e]
    exact runs_snoc cb ce (normM b) s
/-! ### the times of runs behind deeds -/
theorem izden {D : Nat} {x : Rat} (h : Iz D x) : x.den ∣ D := by
  obtain ⟨k, e⟩ := h
  have h1 : ((x.num * (D : Int) : Int) : Rat) = ((k * (x.den : Int) : Int) : Rat) := by
    rw [Rat.intCast_mul, Rat.intCast_mul, ← e, Rat.intCast_natCast, Rat.intCast_natCast, ← mul_den x]
    grind
  have h2 := Rat.intCast_inj.mp h1
  have h3 : x.den ∣ x.num.natAbs * D := by
    have := congrArg Int.natAbs h2
    rw [Int.natAbs_mul, Int.natAbs_mul, Int.natAbs_natCast, Int.natAbs_natCast] at this
    rw [this]
    exact Nat.dvd_mul_left _ _
  exact Nat.Coprime.dvd_of_dvd_mul_left x.reduced.symm h3
def gD (D : Nat) (fs : List Rat) (k : Nat) : Nat := D * k * (2520 * Gam fs)
section
variable {D k : Nat} {fs : List Rat} {cb ce : Rat}
theorem izG_tOf {s : St3} {st x : Rat} (hf : ∀ f ∈ fs, Pc f) (hs : Fs D fs s) (hst : Iz (gD D fs k) st) (hx : Iz (D * k) x) : Iz (gD D fs k) (tOf st s x) := by
  unfold tOf
  rw [Rat.div_def]
  exact hst.add ((hx.sub (hs.zb.up _)).mul (hs.inv hf).1)
theorem izG_lst {s : St3} (hf : ∀ f ∈ fs, Pc f) (hs : Fs D fs s) : Iz (gD D fs k) (lst3 s) := (hs.lst hf).1.dvd ⟨k, by unfold gD; rw [Nat.mul_right_comm]⟩
theorem izG_ovls (hf : ∀ f ∈ fs, Pc f) (hb : Iz (D * k) cb) (he : Iz (D * k) ce) : ∀ (ys : List St3) (st : Rat), (∀ s ∈ ys, Fs D fs s) → Iz (gD D fs k) st → ∀ r ∈ ovls cb ce st ys, Iz (gD D fs k) r.2.2.1 ∧ Iz (gD D fs k) r.2.2.2
  | [], _, _, _, r, hr => nomatch hr
  | s :: t, st, hy, hst, r, hr => by
    have hs := hy s List.mem_cons_self
    rcases List.mem_append.mp (show r ∈ ovl cb ce st s ++ ovls cb ce (st + lst3 s) t from hr) with h | h
    · unfold ovl at h
      split at h
      · rw [List.mem_singleton.mp h]
        refine ⟨izG_tOf hf hs hst ?_, izG_tOf hf hs hst ?_⟩
        · unfold maxR
          split
          · exact hs.zb.up _
          · exact hb
        · unfold minR
          split
          · exact hs.ze.up _
          · exact he
      · cases h
    · exact izG_ovls hf hb he t _ (fun z hz => hy z (List.mem_cons_of_mem _ hz)) (hst.add (izG_lst hf hs)) r h
theorem izG_runs {xs : List St3} (hf : ∀ f ∈ fs, Pc f) (hb : Iz (D * k) cb) (he : Iz (D * k) ce) (h : ∀ s ∈ xs, Fs D fs s) : ∀ r ∈ runsM cb ce xs, Iz (gD D fs k) r.2.2.1 ∧ Iz (gD D fs k) r.2.2.2 := fold_times _ _ (izG_ovls hf hb he xs 0 h (iz_zero _)) (fun r hr => nomatch hr)
end
theorem SdX.st0 {i D : Nat} {fs : List Rat} {xs : List St3} (h : SdX i D fs xs) : ∀ s ∈ xs, St0 s := fun s hs => ⟨(h.each s hs).pos h.pf, (h.each s hs).lt⟩
theorem gD_big : dB 8 * 2 ^ 240 * (2520 * 81 ^ 8) < 2 ^ 1500 := by decide +kernel
theorem len_big : 38 * (300 * (9 * 9 ^ 8)) ≤ 2 ^ 100 := by decide +kernel
theorem SdX.gle {i D k : Nat} {fs : List Rat} {xs : List St3} (h : SdX i D fs xs) (hi : i ≤ 8) (hk : k ≤ 2 ^ 240) : gD D fs k < 2 ^ 1500 := by
  refine Nat.lt_of_le_of_lt (Nat.mul_le_mul (Nat.mul_le_mul (Nat.le_trans h.db (dB_mono hi)) hk) (Nat.mul_le_mul_left _ ?_)) gD_big
  exact Nat.le_trans (Gam_le fs h.pf) (Nat.pow_le_pow_right (by decide) (Nat.le_trans h.fl hi))
theorem SdX.gpos {i D k : Nat} {fs : List Rat} {xs : List St3} (h : SdX i D fs xs) (hk : 0 < k) : 0 < gD D fs k := Nat.mul_pos (Nat.mul_pos h.d0 hk) (Nat.mul_pos (by decide) (Gam_pos fs h.pf))
theorem SdX.runs {i D k : Nat} {fs : List Rat} {xs : List St3} {cb ce : Rat} (h : SdX i D fs xs) (hi : i ≤ 8) (hk : k ≤ 2 ^ 240) (k0 : 0 < k) (hb : cb.den ∣ k) (he : ce.den ∣ k) : ∀ u ∈ runsM cb ce xs, (u.2.2.1.den ∣ gD D fs k ∧ u.2.2.2.den ∣ gD D fs k) ∧ Sz 1700 u.2.2.1 ∧ Sz 1700 u.2.2.2 := by
  intro u hu
  have ib : Iz (D * k) cb := (iz_den cb).dvd (Nat.dvd_trans hb (Nat.dvd_mul_left _ _))
  have ie : Iz (D * k) ce := (iz_den ce).dvd (Nat.dvd_trans he (Nat.dvd_mul_left _ _))
  obtain ⟨i1, i2⟩ := izG_runs h.pf ib ie h.each u hu
  obtain ⟨j, hj⟩ := List.getElem?_of_mem hu
  obtain ⟨_, a, b, c⟩ := (runs_whole (cb := cb) (ce := ce) h.st0).1.at hj
  have hl := (len_le h.pf xs h.each).2.2
  have g := h.gle hi hk
  have lb : lenS xs ≤ ((2 ^ 100 : Nat) : Rat) := by
    refine Rat.le_trans hl (Rat.natCast_le_natCast.mpr (Nat.le_trans ?_ len_big))
    have h1 := h.len
    exact Nat.mul_le_mul (by omega) (Nat.mul_le_mul_left _ (Nat.mul_le_mul_left _ (Nat.pow_le_pow_right (by decide) (Nat.le_trans h.fl hi))))
  have sz : ∀ x : Rat, Iz (gD D fs k) x → 0 ≤ x → x ≤ lenS xs → Sz 1700 x := fun x hz h0 h1 => by
    refine Iz.sz (M := 2 ^ 100) (h.gpos k0) hz ?_ (Rat.le_trans h1 lb) ?_ (Nat.lt_trans g (by decide +kernel))
    · have : (0 : Rat) ≤ ((2 ^ 100 : Nat) : Rat) := Rat.natCast_nonneg
      grind
    · calc 2 ^ 100 * gD D fs k < 2 ^ 100 * 2 ^ 1500 := Nat.mul_lt_mul_of_pos_left g (by decide)
        _ ≤ 2 ^ 1700 := by decide +kernel
  exact ⟨⟨izden i1, izden i2⟩, sz _ i1 b (by grind), sz _ i2 (by grind) c⟩
end R
namespace R
open PySem PySem.Spec PyProof.Rows L2 LamX NdefX
/-! ### a lambda with parameters is called -/
section
variable {P : Program} {w : World} {K : PySem.W.Frag} {mg : Str → Option Value} {base : Heap}
theorem lam_run {N ps fr : List Str} {F : NF} {f : Addr} {body : Expr} {pm ctv : Value} {k : Nat} {A : Around} {outer : List Env} {s : Shared} {H : Hp} {us : List Value} {vs : List V} {ws : List (Option V)} {Q : VK} {E : XK} {CX : CXT} {tb : TE}
    (S : NScope N ps fr F.scope) (ho : s.heap.get? f = some (PySem.W.kla_obj "<lambda>" F.qual F.params body F.scope F.cl pm F.c ctv)) (hb : bindArgs (PySem.W.kla_fn "<lambda>" F.qual F.params body F.scope F.cl pm (.ref F.c) ctv) ⟨us, []⟩ = pure (ps.zip us))
    (hr : Room (k + 1) A) (en : Env0 P w K mg base A outer s H) (hc : H F.c = some (CodeO F.c F.qual)) (ca : CellsAt F.cl fr ws s.heap H) (rv : Vals vs us) (hl : vs.length = ps.length)
    (hbody : Room k (A.deeper (envF F f s.heap.objs.size)) → PE (ncx CX P w K mg base N F f A outer s H E) body tb) (hq : tb (startF N vs ws) H Q) : codeAny (model P w) A (.call (.ref f) ⟨us, []⟩) (CR CX outer P w H s Q E) s := by
  have nl : s.heap.NoLimit := en.mod.nolimit.keeps fun x y z => (en.bs x y z).1
  refine PySem.W.kla_callFunE hr.depth ho rfl S.co S.gen rfl (codeO_at en.hok hc) ?_
  rw [hb]
  refine wpAny_pure (wpAny_newFunctionEnv S.nocell (fun ⟨x, _⟩ hx => S.par x (List.of_mem_zip hx).1) (fun h2 hn2 sb2 => ⟨nl.fresh _ sb2, ?_⟩) S.kind)
  have kp : ∀ x y, s.heap.get? x = some y → h2.get? x = some y := fun x y z => sb2.extBut x y (Nat.ne_of_lt (Heap.lt_size z)) (Heap.get?_push_of_some _ z)
  have J : Inv (ncx CX P w K mg base N F f A outer s H E) [] (startF N vs ws) H { s with heap := h2, toks := s.toks + (ps.zip us).length } := inv_startN S hr.hd en hl rv ca hn2 kp
  refine PySem.W.kla_codeExpr (wpAny_mono ((hbody (hr.deeper _)).run [] _ _ H Q J hq) (fun v s2 g => ?_) fun e s2 g => g)
  obtain ⟨v2, H2, J2, r2, q2⟩ := g
  exact ⟨v2, H2, J2.os, J2.bare, J2.base, J2.hok, r2, q2⟩
theorem env0_in {A : Around} {outer : List Env} {s : Shared} {H : Hp} (e : Env0 P w K mg base A outer s H) : Env0 P w K mg base A.in1.in1 outer s H := ⟨e.frames, e.mod, e.bs, e.bsz, e.funs, e.frf, e.hok, e.bare⟩
end
/-! ### an object that is not known changes -/
theorem old_ne {h : Heap} {a b : Addr} {o : Obj} (q : h.get? b = some o) (hk : h.objs.size ≤ a) : b ≠ a := Nat.ne_of_lt (Nat.lt_of_lt_of_le (Heap.lt_size q) hk)
theorem un_new {fs : List Addr} {H H' : Hp} {h h1 h2 : Heap} {k : Addr} (u : Un fs [] H H' h h1) (hk : h.objs.size ≤ k) (sb : ∀ b, b ≠ k → h2.get? b = h1.get? b) : Un fs [] H H' h h2 := by
  have ne : ∀ {b : Addr} {o : Obj}, h.get? b = some o → b ≠ k := fun {b o} q => old_ne q hk
  refine ⟨fun b o q n c d => ?_, fun b o q n c d => ?_, u.free, fun b o q d => ?_, u.tups, u.frzs, u.tbls⟩
  · rw [sb b (ne q)]
    exact u.keep b o q n c d
  · rw [sb b (ne q)]
    exact u.slot b o q n c d
  · rw [sb b (ne q)]
    exact u.there b o q d
theorem hok_new {P : Program} {w : World} {H : Hp} {h1 h2 : Heap} {k : Addr} (x : HOk P w H h1) (hk : H k = none) (sb : ∀ b, b ≠ k → h2.get? b = h1.get? b) : HOk P w H h2 := fun b u e =>
  (x b u e).stay (fun c v hc q => by
    rw [sb c ?_]
    · exact q
    · rintro rfl
      rcases hc with z | z
      · rw [z, e] at hk
        cases hk
      · rw [z] at hk
        cases hk) (fun _ q => q) fun _ _ q => q
theorem freed_none (h : Heap) (k : Addr) : (h.update k fun o => { o with data := .freed }).get? k = none := by
  obtain ⟨objs, l⟩ := h
  unfold Heap.update Heap.get?
  simp only [Array.getElem?_modify]
  cases e : objs[k]? with
  | none => simp [e]
  | some o => simp [e]
theorem dpas {K : PySem.W.Frag} {H : Hp} : ∀ {vs : List V} {ds : List PyData} {v : V} {d : PyData}, DpAll K H vs ds → Dp K H v d → DpAll K H (vs ++ [v]) (ds ++ [d])
  | _, _, _, _, .nil, h => .cons h .nil
  | _, _, _, _, .cons a b, h => .cons a (dpas b h)
section
variable {X : Cx} {pins : List (Addr × Obj)} {σ : L2.St} {H : Hp} {s : Shared}
theorem nofr (I : Inv X pins σ H s) {a : Addr} (h : s.heap.objs.size ≤ a) : a ∉ frs X.stack := fun z => by
  rcases List.mem_cons.mp (I.stkSub _ z) with e | e
  · have := I.lt
    rw [← e] at this
    exact Nat.lt_irrefl _ (Nat.lt_of_lt_of_le this h)
  · exact I.nofs h e
/-- where keys are made: since the sort began all is as a call leaves it; the list is empty, the keys stand in kS -/
def Kst (X : Cx) (H : Hp) (s : Shared) (a kS : Addr) (e1 : Nat) (kz : List PyData) (i : Nat) (s' : Shared) : Prop := ∃ (H' : Hp) (kA : Array Value) (e : Nat) (kv : List V), s'.os = s.os ∧ AllBare s'.gens ∧ Un (frs X.stack) [] H H' s.heap s'.heap ∧ HOk X.prog X.w H' s'.heap ∧ Same H H' ∧ H' a = none ∧ H' kS = none ∧
  s'.heap.get? kS = some (seqObj "list" kA e) ∧ s'.heap.get? a = some (seqObj "list" #[] e1) ∧ Vals kv kA.toList ∧ DpAll X.K H' kv (kz.take i)
theorem back_inv {s' : Shared} {H' : Hp} (I : Inv X pins σ H s) (os : s'.os = s.os) (br : AllBare s'.gens) (un : Un (frs X.stack) [] H H' s.heap s'.heap) (ok : HOk X.prog X.w H' s'.heap) : Inv X pins σ H' s' := by
  obtain ⟨_, H2, I2, _, rfl⟩ := I.after (Q := fun _ Hz => Hz = H') (u := .none) ⟨.non, H', os, br, un, ok, rfl, rfl⟩
  exact I2
/-- what the key's calls promise -/
def KTurn (X : Cx) (pins : List (Addr × Obj)) (σ : L2.St) (H : Hp) (s : Shared) (f : Addr) (u : Value) (k : PyData) : Prop := ∀ (s' : Shared) (H' : Hp), Inv X pins σ H' s' → Same H H' → Un (frs X.stack) [] H H' s.heap s'.heap →
  codeAny (model X.prog X.w) X.A.in1.in1 (.call (.ref f) ⟨[u], []⟩) (CR CX0 X.stack X.prog X.w H' s' (fun kv H2 => Same H' H2 ∧ Dp X.K H2 kv k) E0) s'
theorem sort_rest {β : Type} {key : β → PyData} {R : Value → β → Prop} {f a kS : Addr} {e1 : Nat} {vs : List Value} {bs : List β} {Q : PySem.Fin → Shared → Prop} {E : Value → Shared → Prop} {s1 : Shared} (I : Inv X pins σ H s) (ea : PySem.W.EachIs R vs bs) (ha : s.heap.objs.size ≤ a) (hk : s.heap.objs.size ≤ kS) (hka : kS ≠ a)
    (hZ : vs.length ≤ sizeLine) (hal : PySem.W.AllAlike (bs.map key)) (hso : PySem.W.Sortable (bs.map key)) (hu : ∀ b ∈ bs, X.A.units + 2 + (key b).depth < cLine) (turn : ∀ u b, R u b → b ∈ bs → KTurn X pins σ H s f u (key b)) (st : Kst X H s a kS e1 (bs.map key) 0 s1)
    (fin : ∀ (s2 : Shared) (H2 : Hp) (out : List Value) (c : Nat), s2.os = s.os → AllBare s2.gens → Un (frs X.stack) [] H H2 s.heap s2.heap → HOk X.prog X.w H2 s2.heap → Same H H2 → H2 a = none → s2.heap.get? a = some (seqObj "list" out.toArray c) → PySem.W.EachIs R out (bs.mergeSort (PySem.W.dataLe false key)) → Q (.done (.ret .none)) s2) :
    wpAny (model X.prog X.w) X.A.in1.in1 (ksk_rest a (.ref f) false vs.toArray e1 (.ref kS)) Q E s1 := by
  have el : vs.length = bs.length := ea.length
  unfold ksk_rest
  refine wpAny_bind (wpAny_rule ?_)
  rw [List.forIn_toArray]
  refine wpAny_bind (ksk_fold (Kst X H s a kS e1 (bs.map key)) vs 0 s1 st ?step ?done)
  case step =>
    rintro j x s2 hx ⟨H2, kA, e, kv, os, br, un, ok, sm, n1, n2, g1, g2, rv, dk⟩
    simp only [Nat.zero_add] at dk ⊢
    have hj : j < vs.length := (List.getElem?_eq_some_iff.mp hx).1
    obtain ⟨b, hb⟩ : ∃ b, bs[j]? = some b := ⟨_, List.getElem?_eq_getElem (by omega)⟩
    have rxb : R x b := ea.zip (x, b) (List.mem_of_getElem? (i := j) (by rw [List.getElem?_zip_eq_some]; exact ⟨hx, hb⟩))
    have I2 := back_inv I os br un ok
    have tw : wpAny (model X.prog X.w) X.A.in1.in1 (call (.ref f) [x]) (fun v s3 => CE X.stack X.prog X.w H2 s2 (fun kv H3 => Same H2 H3 ∧ Dp X.K H3 kv (key b)) v s3) (fun _ _ => False) s2 := by
      refine wpAny_call (codeAny_mono (turn x b rxb (List.mem_of_getElem? hb) s2 H2 I2 sm un) fun r s3 hq => ?_)
      cases r with
      | error e => exact (show False from hq).elim
      | ok fl =>
        cases fl with
        | ret u => exact hq
        | next => exact (show False from hq).elim
        | brk => exact (show False from hq).elim
        | cont => exact (show False from hq).elim
    refine wpAny_bind (wpAny_attempt (wpAny_mono tw (fun v s3 he => ?_) fun _ _ hF => hF.elim))
    obtain ⟨kx, H3, os3, br3, un3, ok3, rk, sm3, dk3⟩ := he
    have g1' := un3.keep kS _ g1 n2 (nofr I hk) (by simp)
    have g2' := un3.keep a _ g2 n1 (nofr I ha) (by simp)
    have n1' := un3.free a _ g2 n1 (by simp)
    have n2' := un3.free kS _ g1 n2 (by simp)
    have lk : kA.size ≤ vs.length := by
      have h1 : kv.length = kA.size := by rw [rv.length, Array.length_toList]
      have h2 : kv.length = min j bs.length := by rw [dpl dk, List.length_take, List.length_map]
      omega
    have g1u := get?_update_seq g1' (·.push v)
    have sb : ∀ b', b' ≠ kS → (s3.heap.update kS (Obj.mapSeq (·.push v))).get? b' = s3.heap.get? b' := fun b' h' => Heap.get?_update_ne _ _ _ _ h'
    try dsimp only
    refine wpAny_bind (listUpdate_at g1' rfl ?_ (Nat.le_trans lk hZ) (by rw [Array.size_push]; omega))
    have ek : (bs.map key).take (j + 1) = (bs.map key).take j ++ [key b] := by
      rw [List.take_add_one, List.getElem?_map, hb]
      rfl
    refine wpAny_pure ⟨rfl, H3, kA.push v, _, kv ++ [kx], os3.trans os, br3, un_new (un.trans un3) hk sb, hok_new ok3 n2' sb, sm.trans sm3, n1', n2', g1u, ?_, ?_, ?_⟩
    · show (s3.heap.update kS (Obj.mapSeq (·.push v))).get? a = _
      rw [sb a hka.symm]
      exact g2'
    · rw [Array.toList_push]
      exact rv.append (.cons rk .nil)
    · rw [ek]
      exact dpas (dpa_mono sm3 _ _ dk) dk3
  case done =>
    rintro s2 ⟨H2, kA, e, kv, os, br, un, ok, sm, n1, n2, g1, g2, rv, dk⟩
    rw [Nat.zero_add, List.take_of_length_le (by rw [List.length_map]; omega)] at dk
    have I2 := back_inv I os br un ok
    have er : PySem.W.EachIs (fun u d => ∃ as, Reads s2.heap u d as) kA.toList (bs.map key) := (dpa_each (enc := id) rv (by rw [List.map_id]; exact dk)).mono fun u d ⟨v, r, h⟩ => Dp.reads I2 _ _ _ h r
    have sz : kA.size = vs.length := by
      have h1 : kv.length = kA.size := by rw [rv.length, Array.length_toList]
      have h2 : kv.length = bs.length := by rw [dpl dk, List.length_map]
      omega
    have nef : ∀ b, b ≠ kS → (s2.heap.update kS fun o => { o with data := .freed }).get? b = s2.heap.get? b := fun b h' => Heap.get?_update_ne _ _ _ _ h'
    try dsimp only
    refine wpAny_bind (listItems_at g1 rfl ?_)
    refine PySem.W.keyH_end (κ := PySem.W.dataKind s2.heap (bs.map key)) (h₁ := s2.heap.update kS fun o => { o with data := .freed }) (fun b o hb q => ?_) (freed_none _ _) g1 g2 hka (PySem.W.SortsAt.data (A := X.A.in1.in1) er hal hso (PySem.W.bound_map (A := X.A.in1.in1) (enc := key) fun b hb => hu b hb)) sz hZ fun h3 tk3 c k3 n3 => ?_
    · by_cases z : b = kS
      · rw [z, freed_none] at q
        cases q
      · rw [nef b z] at q
        exact q
    · have kb : ∀ b o, b ≠ a → b ≠ kS → s2.heap.get? b = some o → h3.get? b = some o := fun b o h1 h2 q => k3 b o h1 (by rw [nef b h2]; exact q)
      have kd : ∀ {b : Addr} {o : Obj}, s.heap.get? b = some o → b ≠ a ∧ b ≠ kS := fun {b o} q => ⟨old_ne q ha, old_ne q hk⟩
      have un' : Un (frs X.stack) [] H H2 s.heap h3 := by
        refine ⟨fun b o q n c d => kb b o (kd q).1 (kd q).2 (un.keep b o q n c d), fun b o q n c d => ?_, un.free, fun b o q d => ?_, un.tups, un.frzs, un.tbls⟩
        · obtain ⟨sl, z⟩ := un.slot b o q n c d
          exact ⟨sl, kb b _ (kd q).1 (kd q).2 z⟩
        · obtain ⟨o', z⟩ := un.there b o q d
          exact ⟨o', kb b _ (kd q).1 (kd q).2 z⟩
      have ok' : HOk X.prog X.w H2 h3 := fun b u e => (ok b u e).stay (fun c v hc q => by
        refine kb c v ?_ ?_ q
        · rintro rfl
          rcases hc with z | z
          · rw [z, e] at n1
            cases n1
          · rw [z] at n1
            cases n1
        · rintro rfl
          rcases hc with z | z
          · rw [z, e] at n2
            cases n2
          · rw [z] at n2
            cases n2) (fun _ q => q) fun _ _ q => q
      exact fin _ H2 _ c os br un' ok' sm n1 n3 (PySem.W.keyedOut_each key ⟨s2.heap, kA.toList, hal, rfl, er⟩ ea)
theorem un_upd {fs : List Addr} {H H' : Hp} {h h1 : Heap} {a : Addr} {o : HO} (u : Un fs [] H H' h h1) (hk : h.objs.size ≤ a) (hn : H a = none) : Un fs [] H (upd H' a o) h h1 := by
  refine ⟨u.keep, u.slot, fun b x q n d => ?_, u.there, fun b x q => ?_, fun b x y q => ?_, fun b x q => ?_⟩
  · rw [upd_ne (old_ne q hk)]
    exact u.free b x q n d
  · rw [upd_ne (ne_of_none q hn)]
    exact u.tups b x q
  · rw [upd_ne (ne_of_none q hn)]
    exact u.frzs b x y q
  · rw [upd_ne (ne_of_none q hn)]
    exact u.tbls b x q
theorem hok_upd {P : Program} {w : World} {H : Hp} {h : Heap} {a : Addr} {o : HO} (x : HOk P w H h) (hn : H a = none) (new : ObjOk P w (upd H a o) h a o) : HOk P w (upd H a o) h := fun b u e => by
  by_cases z : b = a
  · subst z
    rw [upd_same] at e
    cases e
    exact new
  · rw [upd_ne z] at e
    exact (x b u e).stay (fun _ _ _ q => q) (fun c q => by rw [upd_ne (ne_of_none q hn)]; exact q) fun c ys q => by rw [upd_ne (ne_of_none q hn)]; exact q
theorem each_vals {β : Type} {Pv : V → β → Prop} : ∀ {xs : List V} {us : List Value} {bs : List β}, Vals xs us → PySem.W.EachIs Pv xs bs → PySem.W.EachIs (fun u b => ∃ v, RelV v u ∧ Pv v b) us bs
  | _, _, _, .nil, .nil => .nil
  | _, _, _, .cons r rs, .cons h hs => .cons ⟨_, r, h⟩ (each_vals rs hs)
theorem vals_each {β : Type} {Pv : V → β → Prop} : ∀ {us : List Value} {bs : List β}, PySem.W.EachIs (fun u b => ∃ v, RelV v u ∧ Pv v b) us bs → ∃ xs, Vals xs us ∧ PySem.W.EachIs Pv xs bs
  | _, _, .nil => ⟨[], .nil, .nil⟩
  | _, _, .cons ⟨v, r, h⟩ hs => by
    obtain ⟨xs, r2, h2⟩ := vals_each hs
    exact ⟨v :: xs, .cons r r2, .cons h h2⟩
theorem sort_call {β : Type} {key : β → PyData} {Pv : V → β → Prop} {f l : Addr} {xs : List V} {bs : List β} {Q : VK} (I : Inv X pins σ H s) (hs : SqL X.K H l xs) (hx : PySem.W.EachIs Pv xs bs) (hal : PySem.W.AllAlike (bs.map key)) (hso : PySem.W.Sortable (bs.map key)) (hu : ∀ b ∈ bs, X.A.units + 2 + (key b).depth < cLine)
    (turn : ∀ v b u, Pv v b → b ∈ bs → RelV v u → KTurn X pins σ H s f u (key b)) (q : ∀ H' p ys, Same H H' → H' p = none → PySem.W.EachIs Pv ys (bs.mergeSort (PySem.W.dataLe false key)) → Q (.ref p) (upd H' p (.lst ys))) :
    wpAny (model X.prog X.w) X.A (call (.builtin "sorted") [.ref l] [(Str.ofString "key", .ref f)]) (EP X pins σ Q) X.xe s := by
  obtain ⟨its, rv, hl, hz⟩ := I.list hs
  have ea := each_vals rv hx
  have lz : its.length ≤ sizeLine := by
    rw [← rv.length]
    exact hz
  refine PySem.W.sorted_of_sort hl.isList lz (ksk_s1 _ _) (fun _ => ksk_l1 _ _) fun E' => ?_
  rw [ksk_t1]
  have ga := PySem.W.copyHeap_at s.heap its
  have ha0 : s.heap.objs.size ≤ s.heap.objs.size + 1 := Nat.le_succ _
  have lta := Heap.lt_size ga
  have old : ∀ b o, s.heap.get? b = some o → (PySem.W.copyHeap s.heap its).get? b = some o := fun b o e => PySem.W.copyHeap_old e
  generalize PySem.W.copyHeap s.heap its = h0 at ga lta old ⊢
  generalize s.heap.objs.size + 1 = a at ga lta ha0 ⊢
  have gu := get?_update_seq ga (fun _ => #[])
  have old1 : ∀ b o, s.heap.get? b = some o → (h0.update a (Obj.mapSeq fun _ => #[])).get? b = some o := fun b o e => by
    rw [Heap.get?_update_ne _ _ _ _ (old_ne e ha0)]
    exact old b o e
  have sz1 : a < (h0.update a (Obj.mapSeq fun _ => #[])).objs.size := by
    rw [Heap.size_update]
    exact lta
  unfold ksk_tree
  refine wpAny_bind (listItems_at ga rfl ?_)
  refine wpAny_bind (listUpdate_at ga rfl ?_ (by rw [List.size_toArray]; exact lz) (Nat.zero_le _))
  refine wpAny_bind (seqEpoch_at gu rfl ?_)
  dsimp only
  generalize h0.update a (Obj.mapSeq fun _ => #[]) = h1 at gu old1 sz1 ⊢
  refine wpAny_bind (wpAny_newTuple ?_ lz)
  refine wpAny_bind (wpAny_newList ?_ (Nat.zero_le _))
  refine wpAny_holding ?_
  have lt2 : a < (h1.push (seqObj "tuple" its.toArray 0)).objs.size := Nat.lt_trans sz1 (by rw [Heap.size_push]; exact Nat.lt_succ_self _)
  have gk : ((h1.push (seqObj "tuple" its.toArray 0)).push (seqObj "list" #[] 0)).get? (h1.push (seqObj "tuple" its.toArray 0)).objs.size = some (seqObj "list" #[] 0) := Heap.get?_push_size _ rfl
  have gx := Heap.get?_push_of_some (seqObj "list" #[] 0) (Heap.get?_push_of_some (seqObj "tuple" its.toArray 0) gu)
  have old3 : ∀ b o, s.heap.get? b = some o → ((h1.push (seqObj "tuple" its.toArray 0)).push (seqObj "list" #[] 0)).get? b = some o := fun b o e => Heap.get?_push_of_some _ (Heap.get?_push_of_some _ (old1 b o e))
  have hk0 : s.heap.objs.size ≤ (h1.push (seqObj "tuple" its.toArray 0)).objs.size := Nat.le_trans ha0 (Nat.le_of_lt lt2)
  refine sort_rest (s1 := { s with heap := (h1.push (seqObj "tuple" its.toArray 0)).push (seqObj "list" #[] 0) }) I ea ha0 hk0 (Nat.ne_of_gt lt2) lz hal hso hu (fun u b ⟨v, r, p⟩ hb => turn v b u p hb r) ⟨H, #[], 0, [], rfl, I.bare, Un.kept old3, I.hok.kept old3, Same.refl _, I.hok.fresh ha0, I.hok.fresh hk0, gk, gx, .nil, by rw [List.take_zero]; exact .nil⟩ ?_
  intro s2 H2 out c os br un ok sm n1 g eo
  obtain ⟨ys, ry, ey⟩ := vals_each eo
  refine ⟨rfl, .ref a, upd H2 a (.lst ys), back_inv I os br (un_upd un ha0 (I.hok.fresh ha0)) (hok_upd ok n1 ⟨?_, out, c, ry, g⟩), rfl, q H2 a ys sm n1 ey⟩
  have l1 : ys.length = out.length := ry.length
  have l2 : out.length = (bs.mergeSort (PySem.W.dataLe false key)).length := eo.length
  rw [List.length_mergeSort] at l2
  have l3 := ea.length
  omega
end
/-- sorted(e, key=lambda y: body) -/
def tSortLam (β : Type) (K : PySem.W.Frag) (T : List (Addr × Str)) (N : List Str) (js : List Nat) (tb te : TE) : TE := fun σ H Q => te σ H fun x H1 => Tabs T H1 ∧ ∀ H2, ExtN H1 H2 → Tabs T H2 → ∃ (l : Addr) (xs : List V) (bs : List β) (Pv : V → β → Prop) (key : β → PyData), x = .ref l ∧ SqL K H2 l xs ∧ PySem.W.EachIs Pv xs bs ∧ PySem.W.AllAlike (bs.map key) ∧ PySem.W.Sortable (bs.map key) ∧ (∀ b ∈ bs, (key b).depth ≤ 60) ∧
  (∀ v b, Pv v b → b ∈ bs → ∀ H', Same H2 H' → tb (startF N [v] (js.map (slotAt σ))) H' (fun kv H3 => Same H' H3 ∧ Dp K H3 kv (key b))) ∧ ∀ H' p ys, Same H2 H' → H' p = none → PySem.W.EachIs Pv ys (bs.mergeSort (PySem.W.dataLe false key)) → Q (.ref p) (upd H' p (.lst ys))
section
variable {X : Cx}
abbrev mkF (X : Cx) (params : Arguments) (scope : Scope) (c' : Addr) : NF := ⟨"<lambda>", X.env.qual ++ "<lambda>", params, [], scope, cloFrom X.env.cells scope.names [], c'⟩
theorem pe_sortLam {β : Type} {T : List (Addr × Str)} {c P0 : Addr} {N fr : List Str} {y : Str} {js : List Nat} {e body : Expr} {params : Arguments} {scope : Scope} {te tb : TE} {k : Nat} {p lpos kpos pos : Pos} (TB : TabB X.base X.mg c P0) (hcode : X.env.code = .ref c)
    (hm : (P0, X.env.qual ++ "<lambda>") ∈ T) (hu : ∀ p ∈ T, p.1 = P0 → p.2 = X.env.qual ++ "<lambda>") (hdef : defaultsOf params X.env = ([], [])) (S : NScope N [y] fr scope) (hfree : ∀ y ∈ scope.names, y.2 = .free → X.env.scope.names.lookup y.1 = some .cell ∨ X.env.scope.names.lookup y.1 = some .free)
    (hfr : ∀ y ∈ fr, (y, NameKind.free) ∈ scope.names) (hjs : js.map (fun j => X.N[j]?) = fr.map some) (hbind : ∀ (q : Str) (cl : List (Str × Addr)) (pm cv ctv u : Value), bindArgs (PySem.W.kla_fn "<lambda>" q params body scope cl pm cv ctv) ⟨[u], []⟩ = pure ([y].zip [u]))
    (hr : Room (k + 2) X.A) (hg : Gl X "sorted") (hmg : X.mg "sorted" = none) (hv : bootBuiltins "sorted" = some (.builtin "sorted")) (he : PA X [e] (tCons te tNil))
    (hbody : ∀ (f c' : Addr) (A : Around) (outer : List Env) (s : Shared) (H : Hp) (E : XK), Room k (A.deeper (envF (mkF X params scope c') f s.heap.objs.size)) → PE (ncx CX0 X.prog X.w X.K X.mg X.base N (mkF X params scope c') f A outer s H E) body tb)
    (he1 : backTo pos (starEach [e] X.env) = (false, eval e X.env) :: backTo pos (starEach [] X.env) := by rfl) (hpl : (backTo pos (starEach [e] X.env)).any (·.1) = false := by rfl) (hn : ("sorted" : Str) ≠ "__name__" := by decide) (hdb : (("sorted" : Str) == ("__debug__" : Str)) = false := by decide) :
    PE X (.Call (.Name "sorted" p) [e] [⟨some "key", .Lambda params body scope lpos, kpos⟩] pos) (tSortLam β X.K T N js tb te) := by
  refine ⟨fun pins s σ H Q I h => ?_⟩
  have hrm : Room (k + 1) X.A.in1.in1 := ⟨hr.hd, by have := hr.dp; show X.A.depth + 3 * (k + 1) + 5 < _; omega, by have := hr.un; show X.A.units + 1 + 1 + 16 * (k + 1) + 200 < _; omega⟩
  have hfr' : ∀ y ∈ scope.names, y.2 = .free → ∃ c, X.env.cells.lookup y.1 = some c := fun y hy z => (hfree y hy z).elim (fun k => I.ok.has _ (.inl k)) fun k => I.ok.has _ (.inr k)
  refine wpAny_Call_Name_kw (ld_blt I hg hmg hv ?_ hn hdb)
  refine PyProof.Rows.callWith_kw (thn (he.run pos pins s σ H (fun vs H1 => match vs with | [x] => (Tabs T H1 ∧ ∀ H2, ExtN H1 H2 → Tabs T H2 → ∃ (l : Addr) (xs : List V) (bs : List β) (Pv : V → β → Prop) (key : β → PyData), x = .ref l ∧ SqL X.K H2 l xs ∧ PySem.W.EachIs Pv xs bs ∧ PySem.W.AllAlike (bs.map key) ∧ PySem.W.Sortable (bs.map key) ∧ (∀ b ∈ bs, (key b).depth ≤ 60) ∧
      (∀ v b, Pv v b → b ∈ bs → ∀ H', Same H2 H' → tb (startF N [v] (js.map (slotAt σ))) H' (fun kv H3 => Same H' H3 ∧ Dp X.K H3 kv (key b))) ∧ ∀ H' p ys, Same H2 H' → H' p = none → PySem.W.EachIs Pv ys (bs.mergeSort (PySem.W.dataLe false key)) → Q (.ref p) (upd H' p (.lst ys))) | _ => False) I h) fun us s1 ⟨vs, H1, I1, r1, q1⟩ => ?_) he1 hpl rfl rfl
  cases r1 with
  | nil => exact (show False from q1).elim
  | cons rx rr =>
    cases rr with
    | cons _ _ => exact (show False from q1).elim
    | nil =>
      obtain ⟨hT, q1⟩ := q1
      show wpAny _ _ (evalAll ((do let v ← eval (.Lambda params body scope lpos) X.env; standAt pos; pure v) :: [])) _ _ s1
      refine wpAny_evalAll_cons (wpAny_bind (lam_make2 I1 TB hcode hm hu hT hdef hfr' fun f c' pm ctv H2 s2 I2 eN T2 hf hfn hfs hco => wpAny_bind (wpAny_standAt (wpAny_pure (wpAny_evalAll_nil ?_)))))
      obtain ⟨l, xs, bs, Pv, key, rfl, hs, hx, hal, hso, hd, ht, hq⟩ := q1 H2 eN T2
      obtain rfl := (show _ = Value.ref l from rx)
      show wpAny _ _ (call (.builtin "sorted") [.ref l] [(Str.ofString "key", .ref f)]) _ _ _
      refine sort_call I2 hs hx hal hso (fun b hb => ?_) (fun v b u pv hb rv s' H' I' sm un => ?_) hq
      · have h1 := hd b hb
        have h2 := hr.un
        omega
      · exact lam_run (F := mkF X params scope c') (tb := tb) S (un.keep f _ hf hfn hfs (by simp)) (hbind _ _ _ _ _ _) hrm (env0_in I'.env0) (sm _ _ hco) (cells_of I' (Caps.made I'.ok hfree hfr hjs)) (.cons rv .nil) rfl (fun hr2 => hbody f c' _ _ s' H' _ hr2) (ht v b pv hb H' sm)
end
end R
namespace R
open PySem PySem.Spec PyProof.Rows L2
def topS (i : Nat) : Stmt := PySem.Challenge.pw_reels_k13_whole_one_again.main.body.getD i (.Pass ⟨0, 0, 0, 0⟩)
abbrev s_common_divisor : Stmt := topS 2
theorem sc_common_divisor : FnScope ["one", "two"] ["one", "two"] (defScope s_common_divisor) := ⟨rfl, rfl, rfl, by decide +kernel, rfl, by decide +kernel, by decide +kernel⟩
abbrev s_made : Stmt := topS 3
theorem sc_made : FnScope ["top", "bottom", "divisor"] ["top", "bottom"] (defScope s_made) := ⟨rfl, rfl, rfl, by decide +kernel, rfl, by decide +kernel, by decide +kernel⟩
abbrev s_added : Stmt := topS 4
theorem sc_added : FnScope ["one", "two", "shared", "top", "divisor"] ["one", "two"] (defScope s_added) := ⟨rfl, rfl, rfl, by decide +kernel, rfl, by decide +kernel, by decide +kernel⟩
abbrev s_less : Stmt := topS 5
theorem sc_less : FnScope ["one", "two"] ["one", "two"] (defScope s_less) := ⟨rfl, rfl, rfl, by decide +kernel, rfl, by decide +kernel, by decide +kernel⟩
abbrev s_timed : Stmt := topS 6
theorem sc_timed : FnScope ["one", "two"] ["one", "two"] (defScope s_timed) := ⟨rfl, rfl, rfl, by decide +kernel, rfl, by decide +kernel, by decide +kernel⟩
abbrev s_over : Stmt := topS 7
theorem sc_over : FnScope ["one", "two"] ["one", "two"] (defScope s_over) := ⟨rfl, rfl, rfl, by decide +kernel, rfl, by decide +kernel, by decide +kernel⟩
abbrev s_is_below : Stmt := topS 8
theorem sc_is_below : FnScope ["one", "two"] ["one", "two"] (defScope s_is_below) := ⟨rfl, rfl, rfl, by decide +kernel, rfl, by decide +kernel, by decide +kernel⟩
abbrev s_smaller : Stmt := topS 9
theorem sc_smaller : FnScope ["one", "two"] ["one", "two"] (defScope s_smaller) := ⟨rfl, rfl, rfl, by decide +kernel, rfl, by decide +kernel, by decide +kernel⟩
abbrev s_larger : Stmt := topS 10
theorem sc_larger : FnScope ["one", "two"] ["one", "two"] (defScope s_larger) := ⟨rfl, rfl, rfl, by decide +kernel, rfl, by decide +kernel, by decide +kernel⟩
abbrev s_common_bottom : Stmt := topS 11
theorem sc_common_bottom : FnScope ["fractions", "bottom", "fraction"] ["fractions"] (defScope s_common_bottom) := ⟨rfl, rfl, rfl, by decide +kernel, rfl, by decide +kernel, by decide +kernel⟩
abbrev s_scaled : Stmt := topS 12
theorem sc_scaled : FnScope ["fraction", "bottom"] ["fraction", "bottom"] (defScope s_scaled) := ⟨rfl, rfl, rfl, by decide +kernel, rfl, by decide +kernel, by decide +kernel⟩
abbrev s_lasting : Stmt := topS 18
theorem sc_lasting : FnScope ["stretch", "begin", "end", "pace"] ["stretch"] (defScope s_lasting) := ⟨rfl, rfl, rfl, by decide +kernel, rfl, by decide +kernel, by decide +kernel⟩
abbrev s_timetable : Stmt := topS 19
theorem sc_timetable : FnScope ["show", "rows", "start", "stretch", "stop"] ["show"] (defScope s_timetable) := ⟨rfl, rfl, rfl, by decide +kernel, rfl, by decide +kernel, by decide +kernel⟩
abbrev s_length : Stmt := topS 20
theorem sc_length : FnScope ["show", "total", "stretch"] ["show"] (defScope s_length) := ⟨rfl, rfl, rfl, by decide +kernel, rfl, by decide +kernel, by decide +kernel⟩
abbrev s_normal : Stmt := topS 21
theorem sc_normal : FnScope ["show", "joined", "begin", "end", "pace", "first"] ["show"] (defScope s_normal) := ⟨rfl, rfl, rfl, by decide +kernel, rfl, by decide +kernel, by decide +kernel⟩
abbrev s_place_in : Stmt := topS 22
theorem sc_place_in : FnScope ["stretch", "since", "begin", "end", "pace"] ["stretch", "since"] (defScope s_place_in) := ⟨rfl, rfl, rfl, by decide +kernel, rfl, by decide +kernel, by decide +kernel⟩
abbrev s_taken : Stmt := topS 23
theorem sc_taken : FnScope ["show", "begin", "end", "pieces", "start", "stop", "stretch", "first", "last"] ["show", "begin", "end"] (defScope s_taken) := ⟨rfl, rfl, rfl, by decide +kernel, rfl, by decide +kernel, by decide +kernel⟩
abbrev s_piece : Stmt := topS 24
theorem sc_piece : FnScope ["stretch", "since", "until"] ["stretch", "since", "until"] (defScope s_piece) := ⟨rfl, rfl, rfl, by decide +kernel, rfl, by decide +kernel, by decide +kernel⟩
abbrev s_parts_in : Stmt := topS 26
theorem sc_parts_in : FnScope ["table", "cue", "told", "first", "last", "begin", "end"] ["table", "cue"] (defScope s_parts_in) := ⟨rfl, rfl, rfl, by decide +kernel, rfl, by decide +kernel, by decide +kernel⟩
abbrev s_runs : Stmt := topS 27
theorem sc_runs : FnScope ["table", "cue", "joined", "start", "stop", "stretch", "first", "last", "run", "ahead"] ["table", "cue"] (defScope s_runs) := ⟨rfl, rfl, rfl, by decide +kernel, rfl, by decide +kernel, by decide +kernel⟩
abbrev s_time_of : Stmt := topS 28
theorem sc_time_of : FnScope ["place", "start", "stretch", "begin", "end", "pace"] ["place", "start", "stretch"] (defScope s_time_of) := ⟨rfl, rfl, rfl, by decide +kernel, rfl, by decide +kernel, by decide +kernel⟩
abbrev s_goes_on : Stmt := topS 29
theorem sc_goes_on : FnScope ["one", "two"] ["one", "two"] (defScope s_goes_on) := ⟨rfl, rfl, rfl, by decide +kernel, rfl, by decide +kernel, by decide +kernel⟩
abbrev s_words_between : Stmt := topS 30
theorem sc_words_between : FnScope ["words", "first", "last", "place", "word"] ["words", "first", "last"] (defScope s_words_between) := ⟨rfl, rfl, rfl, by decide +kernel, rfl, by decide +kernel, by decide +kernel⟩
abbrev s_listing : Stmt := topS 31
theorem sc_listing : FnScope ["show", "cues", "table", "rows", "cue", "begin", "end", "words"] ["show", "cues"] (defScope s_listing) := ⟨rfl, rfl, rfl, by decide +kernel, rfl, by decide +kernel, by decide +kernel⟩
abbrev s_in_order : Stmt := topS 32
theorem sc_in_order : FnScope ["rows", "bottom", "row"] ["rows"] (defScope s_in_order) := ⟨rfl, rfl, rfl, by decide +kernel, rfl, by decide +kernel, by decide +kernel⟩
abbrev s_Lbegun : Stmt := topS 36
theorem sc_Lbegun : FnScope ["_law_script", "_law_stirred", "_law_cell"] ["_law_script"] (defScope s_Lbegun) := ⟨rfl, rfl, rfl, by decide +kernel, rfl, by decide +kernel, by decide +kernel⟩
abbrev s_Ltake : Stmt := topS 37
theorem sc_Ltake : FnScope ["_law_box", "_law_many", "_law_number"] ["_law_box", "_law_many"] (defScope s_Ltake) := ⟨rfl, rfl, rfl, by decide +kernel, rfl, by decide +kernel, by decide +kernel⟩
abbrev s_Lalike : Stmt := topS 38
theorem sc_Lalike : FnScope ["_law_found", "_law_due", "_law_k"] ["_law_found", "_law_due"] (defScope s_Lalike) := ⟨rfl, rfl, rfl, by decide +kernel, rfl, by decide +kernel, by decide +kernel⟩
abbrev s_Lfr : Stmt := topS 39
theorem sc_Lfr : FnScope ["_law_top", "_law_bottom", "_law_one_here", "_law_two", "_law_rest"] ["_law_top", "_law_bottom"] (defScope s_Lfr) := ⟨rfl, rfl, rfl, by decide +kernel, rfl, by decide +kernel, by decide +kernel⟩
abbrev s_Lsum : Stmt := topS 40
theorem sc_Lsum : FnScope ["_law_one_here", "_law_two"] ["_law_one_here", "_law_two"] (defScope s_Lsum) := ⟨rfl, rfl, rfl, by decide +kernel, rfl, by decide +kernel, by decide +kernel⟩
abbrev s_Lminus : Stmt := topS 41
theorem sc_Lminus : FnScope ["_law_one_here", "_law_two"] ["_law_one_here", "_law_two"] (defScope s_Lminus) := ⟨rfl, rfl, rfl, by decide +kernel, rfl, by decide +kernel, by decide +kernel⟩
abbrev s_Ltimes : Stmt := topS 42
theorem sc_Ltimes : FnScope ["_law_one_here", "_law_two"] ["_law_one_here", "_law_two"] (defScope s_Ltimes) := ⟨rfl, rfl, rfl, by decide +kernel, rfl, by decide +kernel, by decide +kernel⟩
abbrev s_Lby : Stmt := topS 43
theorem sc_Lby : FnScope ["_law_one_here", "_law_two"] ["_law_one_here", "_law_two"] (defScope s_Lby) := ⟨rfl, rfl, rfl, by decide +kernel, rfl, by decide +kernel, by decide +kernel⟩
abbrev s_Llow : Stmt := topS 44
theorem sc_Llow : FnScope ["_law_one_here", "_law_two"] ["_law_one_here", "_law_two"] (defScope s_Llow) := ⟨rfl, rfl, rfl, by decide +kernel, rfl, by decide +kernel, by decide +kernel⟩
abbrev s_Ltime : Stmt := topS 45
theorem sc_Ltime : FnScope ["_law_box", "_law_most", "_law_top", "_law_bottom"] ["_law_box", "_law_most"] (defScope s_Ltime) := ⟨rfl, rfl, rfl, by decide +kernel, rfl, by decide +kernel, by decide +kernel⟩
abbrev s_Lpace : Stmt := topS 46
theorem sc_Lpace : FnScope ["_law_box"] ["_law_box"] (defScope s_Lpace) := ⟨rfl, rfl, rfl, by decide +kernel, rfl, by decide +kernel, by decide +kernel⟩
abbrev s_Lshow : Stmt := topS 47
theorem sc_Lshow : FnScope ["_law_box", "_law_show_here", "_law_k", "_law_begin", "_law_pace_here"] ["_law_box"] (defScope s_Lshow) := ⟨rfl, rfl, rfl, by decide +kernel, rfl, by decide +kernel, by decide +kernel⟩
abbrev s_Llast : Stmt := topS 48
theorem sc_Llast : FnScope ["_law_stretch"] ["_law_stretch"] (defScope s_Llast) := ⟨rfl, rfl, rfl, by decide +kernel, rfl, by decide +kernel, by decide +kernel⟩
abbrev s_Llong : Stmt := topS 49
theorem sc_Llong : FnScope ["_law_show_here", "_law_whole", "_law_stretch"] ["_law_show_here"] (defScope s_Llong) := ⟨rfl, rfl, rfl, by decide +kernel, rfl, by decide +kernel, by decide +kernel⟩
abbrev s_Lone : Stmt := topS 50
theorem sc_Lone : FnScope ["_law_show_here", "_law_found", "_law_stretch", "_law_elder"] ["_law_show_here"] (defScope s_Lone) := ⟨rfl, rfl, rfl, by decide +kernel, rfl, by decide +kernel, by decide +kernel⟩
abbrev s_Lcut : Stmt := topS 52
theorem sc_Lcut : FnScope ["_law_show_here", "_law_begin", "_law_end", "_law_found", "_law_stretch", "_law_last_here", "_law_first", "_law_behind", "_law_one_here", "_law_two"] ["_law_show_here", "_law_begin", "_law_end"] (defScope s_Lcut) := ⟨rfl, rfl, rfl, by decide +kernel, rfl, by decide +kernel, by decide +kernel⟩
abbrev s_Lwithin : Stmt := topS 53
theorem sc_Lwithin : FnScope ["_law_box", "_law_most", "_law_part"] ["_law_box", "_law_most"] (defScope s_Lwithin) := ⟨rfl, rfl, rfl, by decide +kernel, rfl, by decide +kernel, by decide +kernel⟩
abbrev s_Lcue : Stmt := topS 54
theorem sc_Lcue : FnScope ["_law_box", "_law_number", "_law_some", "_law_signs", "_law_k", "_law_begin", "_law_end", "_law_many", "_law_word", "_law_far", "_law_words", "_law_at", "_law_j"] ["_law_box", "_law_number"] (defScope s_Lcue) := ⟨rfl, rfl, rfl, by decide +kernel, rfl, by decide +kernel, by decide +kernel⟩
abbrev s_Lcues : Stmt := topS 55
theorem sc_Lcues : FnScope ["_law_box", "_law_cues_here", "_law_number", "_law_k"] ["_law_box"] (defScope s_Lcues) := ⟨rfl, rfl, rfl, by decide +kernel, rfl, by decide +kernel, by decide +kernel⟩
abbrev s_Lparts : Stmt := topS 56
theorem sc_Lparts : FnScope ["_law_show_here", "_law_cue_here", "_law_found", "_law_at", "_law_stretch", "_law_first", "_law_last_here", "_law_begin", "_law_end", "_law_words", "_law_elder", "_law_part", "_law_time_here", "_law_word"] ["_law_show_here", "_law_cue_here"] (defScope s_Lparts) := ⟨rfl, rfl, rfl, by decide +kernel, rfl, by decide +kernel, by decide +kernel⟩
abbrev s_Lsooner : Stmt := topS 57
theorem sc_Lsooner : FnScope ["_law_one_here", "_law_two"] ["_law_one_here", "_law_two"] (defScope s_Lsooner) := ⟨rfl, rfl, rfl, by decide +kernel, rfl, by decide +kernel, by decide +kernel⟩
abbrev s_Llisting : Stmt := topS 58
theorem sc_Llisting : FnScope ["_law_show_here", "_law_cues_here", "_law_rows", "_law_cue_here", "_law_begin", "_law_end", "_law_words", "_law_row", "_law_ahead", "_law_other"] ["_law_show_here", "_law_cues_here"] (defScope s_Llisting) := ⟨rfl, rfl, rfl, by decide +kernel, rfl, by decide +kernel, by decide +kernel⟩
abbrev s_Ldeed : Stmt := topS 59
theorem sc_Ldeed : FnScope ["_law_box", "_law_reel", "_law_show_here", "_law_whole", "_law_pair", "_law_head", "_law_middle", "_law_tail", "_law_way", "_law_found", "_law_other", "_law_handed", "_law_factor", "_law_part"] ["_law_box", "_law_reel", "_law_show_here"] (defScope s_Ldeed) := ⟨rfl, rfl, rfl, by decide +kernel, rfl, by decide +kernel, by decide +kernel⟩
abbrev s_law : Stmt := topS 60
theorem sc_law : FnScope ["_law_script", "_law_box", "_law_row", "_law_cues_here", "_law_reel", "_law_first", "_law_turn", "_law_show_here"] ["_law_script"] (defScope s_law) := ⟨rfl, rfl, rfl, by decide +kernel, rfl, by decide +kernel, by decide +kernel⟩
abbrev s_Reel___init__ : Stmt := inClass (topS 34) 0
theorem sc_Reel___init__ : FnScope ["self", "show"] ["self", "show"] (defScope s_Reel___init__) := ⟨rfl, rfl, rfl, by decide +kernel, rfl, by decide +kernel, by decide +kernel⟩
abbrev s_Reel_show : Stmt := inClass (topS 34) 1
theorem sc_Reel_show : FnScope ["self"] ["self"] (defScope s_Reel_show) := ⟨rfl, rfl, rfl, by decide +kernel, rfl, by decide +kernel, by decide +kernel⟩
abbrev s_Reel_out : Stmt := inClass (topS 34) 2
theorem sc_Reel_out : FnScope ["self", "begin", "end", "told"] ["self", "begin", "end"] (defScope s_Reel_out) := ⟨rfl, rfl, rfl, by decide +kernel, rfl, by decide +kernel, by decide +kernel⟩
abbrev s_Reel_into : Stmt := inClass (topS 34) 3
theorem sc_Reel_into : FnScope ["self", "time", "other"] ["self", "time", "other"] (defScope s_Reel_into) := ⟨rfl, rfl, rfl, by decide +kernel, rfl, by decide +kernel, by decide +kernel⟩
abbrev s_Reel_faster : Stmt := inClass (topS 34) 4
theorem sc_Reel_faster : FnScope ["self", "begin", "end", "factor", "slower", "first", "last", "pace"] ["self", "begin", "end", "factor"] (defScope s_Reel_faster) := ⟨rfl, rfl, rfl, by decide +kernel, rfl, by decide +kernel, by decide +kernel⟩
abbrev s_Reel_fill : Stmt := inClass (topS 34) 5
theorem sc_Reel_fill : FnScope ["self", "begin", "end", "stretches", "ahead", "behind"] ["self", "begin", "end", "stretches"] (defScope s_Reel_fill) := ⟨rfl, rfl, rfl, by decide +kernel, rfl, by decide +kernel, by decide +kernel⟩
abbrev s_Reel_back : Stmt := inClass (topS 34) 6
theorem sc_Reel_back : FnScope ["self"] ["self"] (defScope s_Reel_back) := ⟨rfl, rfl, rfl, by decide +kernel, rfl, by decide +kernel, by decide +kernel⟩
structure C_Reel (K : PySem.W.Frag) (mg : Str → Option Value) (C : Addr) : Prop where
  oc : OwnC K mg "Reel" C
  n_current : NoAttr K C "current"
  n_earlier : NoAttr K C "earlier"
  n_undone : NoAttr K C "undone"
  d___init__ : Dm K C "__init__" "Reel.__init__" s_Reel___init__ ["self", "show"]
  d_show : Dm K C "show" "Reel.show" s_Reel_show ["self"]
  d_out : Dm K C "out" "Reel.out" s_Reel_out ["self", "begin", "end"]
  d_into : Dm K C "into" "Reel.into" s_Reel_into ["self", "time", "other"]
  d_faster : Dm K C "faster" "Reel.faster" s_Reel_faster ["self", "begin", "end", "factor"]
  d_fill : Dm K C "fill" "Reel.fill" s_Reel_fill ["self", "begin", "end", "stretches"]
  d_back : Dm K C "back" "Reel.back" s_Reel_back ["self"]
structure Txt (K : PySem.W.Frag) (mg : Str → Option Value) : Prop where
  d_common_divisor : Df K mg "common_divisor" s_common_divisor ["one", "two"]
  d_made : Df K mg "made" s_made ["top", "bottom"]
  d_added : Df K mg "added" s_added ["one", "two"]
  d_less : Df K mg "less" s_less ["one", "two"]
  d_timed : Df K mg "timed" s_timed ["one", "two"]
  d_over : Df K mg "over" s_over ["one", "two"]
  d_is_below : Df K mg "is_below" s_is_below ["one", "two"]
  d_smaller : Df K mg "smaller" s_smaller ["one", "two"]
  d_larger : Df K mg "larger" s_larger ["one", "two"]
  d_common_bottom : Df K mg "common_bottom" s_common_bottom ["fractions"]
  d_scaled : Df K mg "scaled" s_scaled ["fraction", "bottom"]
  d_lasting : Df K mg "lasting" s_lasting ["stretch"]
  d_timetable : Df K mg "timetable" s_timetable ["show"]
  d_length : Df K mg "length" s_length ["show"]
  d_normal : Df K mg "normal" s_normal ["show"]
  d_place_in : Df K mg "place_in" s_place_in ["stretch", "since"]
  d_taken : Df K mg "taken" s_taken ["show", "begin", "end"]
  d_piece : Df K mg "piece" s_piece ["stretch", "since", "until"]
  d_parts_in : Df K mg "parts_in" s_parts_in ["table", "cue"]
  d_runs : Df K mg "runs" s_runs ["table", "cue"]
  d_time_of : Df K mg "time_of" s_time_of ["place", "start", "stretch"]
  d_goes_on : Df K mg "goes_on" s_goes_on ["one", "two"]
  d_words_between : Df K mg "words_between" s_words_between ["words", "first", "last"]
  d_listing : Df K mg "listing" s_listing ["show", "cues"]
  d_in_order : Df K mg "in_order" s_in_order ["rows"]
  d_Lbegun : Df K mg "_law_begun" s_Lbegun ["_law_script"]
  d_Ltake : Df K mg "_law_take" s_Ltake ["_law_box", "_law_many"]
  d_Lalike : Df K mg "_law_alike" s_Lalike ["_law_found", "_law_due"]
  d_Lfr : Df K mg "_law_fr" s_Lfr ["_law_top", "_law_bottom"]
  d_Lsum : Df K mg "_law_sum" s_Lsum ["_law_one_here", "_law_two"]
  d_Lminus : Df K mg "_law_minus" s_Lminus ["_law_one_here", "_law_two"]
  d_Ltimes : Df K mg "_law_times" s_Ltimes ["_law_one_here", "_law_two"]
  d_Lby : Df K mg "_law_by" s_Lby ["_law_one_here", "_law_two"]
  d_Llow : Df K mg "_law_low" s_Llow ["_law_one_here", "_law_two"]
  d_Ltime : Df K mg "_law_time" s_Ltime ["_law_box", "_law_most"]
  d_Lpace : Df K mg "_law_pace" s_Lpace ["_law_box"]
  d_Lshow : Df K mg "_law_show" s_Lshow ["_law_box"]
  d_Llast : Df K mg "_law_last" s_Llast ["_law_stretch"]
  d_Llong : Df K mg "_law_long" s_Llong ["_law_show_here"]
  d_Lone : Df K mg "_law_one" s_Lone ["_law_show_here"]
  d_Lcut : Df K mg "_law_cut" s_Lcut ["_law_show_here", "_law_begin", "_law_end"]
  d_Lwithin : Df K mg "_law_within" s_Lwithin ["_law_box", "_law_most"]
  d_Lcue : Df K mg "_law_cue" s_Lcue ["_law_box", "_law_number"]
  d_Lcues : Df K mg "_law_cues" s_Lcues ["_law_box"]
  d_Lparts : Df K mg "_law_parts" s_Lparts ["_law_show_here", "_law_cue_here"]
  d_Lsooner : Df K mg "_law_sooner" s_Lsooner ["_law_one_here", "_law_two"]
  d_Llisting : Df K mg "_law_listing" s_Llisting ["_law_show_here", "_law_cues_here"]
  d_Ldeed : Df K mg "_law_deed" s_Ldeed ["_law_box", "_law_reel", "_law_show_here"]
  d_law : Df K mg "law" s_law ["_law_script"]
  m_abs : mg "abs" = none
  m_sorted : mg "sorted" = none
  m_list : mg "list" = none
  m_int : mg "int" = none
  m_len : mg "len" = none
  m_isinstance : mg "isinstance" = none
  m_bool : mg "bool" = none
  m_str : mg "str" = none
  m_tuple : mg "tuple" = none
  m_range : mg "range" = none
  e_OffReel : ∃ C, ExcT K mg "OffReel" C
  e_NoDeed : ∃ C, ExcT K mg "NoDeed" C
  o_Reel : ∃ C, C_Reel K mg C
  c_NOUGHT : ∃ a : Addr, (∃ u, mg "NOUGHT" = some u ∧ RelV (.ref a) u) ∧ ∀ H : Hp, SqT K H a [.int 0, .int 1]
/-! ### fractions on the heap -/
def dF (q : Rat) : PyData := .tuple [.int q.num, .int (q.den : Int)]
theorem dF_at {K : PySem.W.Frag} {H : Hp} {v : V} {q : Rat} (h : Dp K H v (dF q)) : ∃ a, v = .ref a ∧ SqT K H a [.int q.num, .int (q.den : Int)] := by
  unfold dF at h
  cases h with
  | tup hs ha =>
    cases ha with
    | cons h1 h2 =>
      cases h1
      cases h2 with
      | cons h3 h4 =>
        cases h3
        cases h4
        exact ⟨_, rfl, hs⟩
theorem dF_mk {K : PySem.W.Frag} {H : Hp} {p : Addr} {q : Rat} (h : SqT K H p [.int q.num, .int (q.den : Int)]) : Dp K H (.ref p) (dF q) := .tup h (.cons (.int _) (.cons (.int _) .nil))
def spGcd : Sp := fun vs H Q _ => ∃ i j : Int, vs = [.int i, .int j] ∧ Q (.int (Nat.gcd i.natAbs j.natAbs : Nat)) H
def spMade (K : PySem.W.Frag) : Sp := fun vs H Q _ => ∃ t b : Int, vs = [.int t, .int b] ∧ b ≠ 0 ∧ b.natAbs < 2 ^ 9000 ∧ ∀ H' v, Same H H' → Dp K H' v (dF (Rat.divInt t b)) → Q v H'
def spF2 (K : PySem.W.Frag) (f : Rat → Rat → Rat) (C : Rat → Rat → Prop) : Sp := fun vs H Q _ => ∃ (u v : V) (x y : Rat) (n m : Nat), vs = [u, v] ∧ Dp K H u (dF x) ∧ Dp K H v (dF y) ∧ Sz n x ∧ Sz m y ∧ n + m ≤ 9000 ∧ C x y ∧
  ∀ H' z, Same H H' → Dp K H' z (dF (f x y)) → Q z H'
def spLow (K : PySem.W.Frag) : Sp := fun vs H Q _ => ∃ (u v : V) (x y : Rat) (n m : Nat), vs = [u, v] ∧ Dp K H u (dF x) ∧ Dp K H v (dF y) ∧ Sz n x ∧ Sz m y ∧ n + m ≤ 9000 ∧ Q (.bl (decide (x < y))) H
theorem Sz.pos {n : Nat} {x : Rat} (h : Sz n x) : 0 < n := by
  have h1 := h.den
  have h2 := x.den_nz
  cases n with
  | zero =>
    have : x.den < 1 := h1
    omega
  | succ n => exact Nat.succ_pos n
theorem mnd {n m : Nat} {x y : Rat} (hx : Sz n x) (hy : Sz m y) (h : n + m ≤ 9000) : CMulW x.num (y.den : Int) := wide_mul hx.num hy.den' hx.pos hy.pos (by omega)
theorem mnd' {n m : Nat} {x y : Rat} (hx : Sz n x) (hy : Sz m y) (h : n + m ≤ 9000) : CMulW y.num (x.den : Int) := wide_mul hy.num hx.den' hy.pos hx.pos (by omega)
theorem mdd {n m : Nat} {x y : Rat} (hx : Sz n x) (hy : Sz m y) (h : n + m ≤ 9000) : CMulW (x.den : Int) (y.den : Int) := wide_mul hx.den' hy.den' hx.pos hy.pos (by omega)
theorem mnn {n m : Nat} {x y : Rat} (hx : Sz n x) (hy : Sz m y) (h : n + m ≤ 9000) : CMulW x.num y.num := wide_mul hx.num hy.num hx.pos hy.pos (by omega)
theorem mdn {n m : Nat} {x y : Rat} (hx : Sz n x) (hy : Sz m y) (h : n + m ≤ 9000) : CMulW (x.den : Int) y.num := wide_mul hx.den' hy.num hx.pos hy.pos (by omega)
theorem up9 {i : Int} {n : Nat} (h : i.natAbs < 2 ^ n) (k : n ≤ 9000) : i.natAbs < 2 ^ 9000 := Nat.lt_of_lt_of_le h (Nat.pow_le_pow_right (by decide) k)
theorem num_zero {y : Rat} (h : y.num ≠ 0) : y ≠ 0 := fun e => h (by rw [e]; rfl)
theorem p20 {i : Int} (h : i.natAbs < 2 ^ 20) : i.natAbs < 2 ^ 9000 := Nat.lt_of_lt_of_le h (Nat.pow_le_pow_right (by decide) (by decide))
/-! ### the box of draws: a list of ints and a number, at b and l -/
def hid (b l : Addr) (H : Hp) : Hp := fun a => if a = b ∨ a = l then none else H a
structure Bx (H : Hp) (b l : Addr) : Prop where
  ne : b ≠ l
  ex : ∃ (xs : List Int) (st : Int), H b = some (.lst [.ref l, .int st]) ∧ H l = some (.lst (xs.map V.int))
theorem hid_b {b l : Addr} {H : Hp} {o : HO} : hid b l (upd H b o) = hid b l H := by
  funext a
  unfold hid upd
  split
  · rfl
  · rename_i h
    rw [if_neg (fun e => h (.inl e))]
theorem hid_l {b l : Addr} {H : Hp} {o : HO} : hid b l (upd H l o) = hid b l H := by
  funext a
  unfold hid upd
  split
  · rfl
  · rename_i h
    rw [if_neg (fun e => h (.inr e))]
theorem Same.hid {b l : Addr} {H H' : Hp} (s : Same H H') : Same (hid b l H) (hid b l H') := fun a o h => by
  unfold R.hid at h ⊢
  split at h
  · cases h
  · rename_i k
    rw [if_neg k]
    exact s _ _ h
theorem hid_same {b l : Addr} {H : Hp} : Same (hid b l H) H := fun a o h => by
  unfold hid at h
  split at h
  · cases h
  · exact h
theorem Bx.mono {b l : Addr} {H H' : Hp} (B : Bx H b l) (s : Same H H') : Bx H' b l := by
  obtain ⟨xs, st, h1, h2⟩ := B.ex
  exact ⟨B.ne, xs, st, s _ _ h1, s _ _ h2⟩
theorem dpa_ints {K : PySem.W.Frag} {H : Hp} : ∀ xs : List Int, DpAll K H (xs.map V.int) (xs.map PyData.int)
  | [] => .nil
  | _ :: r => .cons (.int _) (dpa_ints r)
theorem lay_ints : ∀ xs : List Int, PyData.canLayAll0 (xs.map PyData.int) = true
  | [] => rfl
  | _ :: r => by
    show (PyData.canLay0 _ && PyData.canLayAll0 (r.map PyData.int)) = true
    rw [lay_ints r]
    rfl
theorem depth_ints : ∀ xs : List Int, PyData.depthAll (xs.map PyData.int) = 0
  | [] => rfl
  | _ :: r => by
    show max (PyData.depth _) (PyData.depthAll (r.map PyData.int)) = 0
    rw [depth_ints r]
    rfl
theorem shaped_ints (xs : List Int) : SeqAt.shaped (.list (xs.map PyData.int)) = true := by
  unfold SeqAt.shaped
  rw [show PyData.canLay0 (.list (xs.map PyData.int)) = true from lay_ints xs, show PyData.depth (.list (xs.map PyData.int)) = 1 by
    show PyData.depthAll (xs.map PyData.int) + 1 = 1
    rw [depth_ints]]
  rfl
theorem fmod_rg {x m : Int} (h : 0 < m) : 0 ≤ x.fmod m ∧ x.fmod m < m := by
  rw [Int.fmod_eq_emod_of_nonneg _ (by omega)]
  exact ⟨Int.emod_nonneg _ (by omega), Int.emod_lt_of_pos _ h⟩
def spBegun (K : PySem.W.Frag) : Sp := fun vs H Q _ => ∃ (a : Addr) (ns : List Int), vs = [.ref a] ∧ SqL K H a (ns.map V.int) ∧ ∀ H' b l, Same H H' → H b = none → H l = none → Bx H' b l → Q (.ref b) H'
def spTake (K : PySem.W.Frag) : Sp := fun vs H Q _ => ∃ (b l : Addr) (m : Int), vs = [.ref b, .int m] ∧ Bx H b l ∧ 0 < m ∧ m < 1073741824 ∧ ∀ H' (r : Int), Same (hid b l H) (hid b l H') → Bx H' b l → 0 ≤ r → r < m → Q (.int r) H'
theorem ixN0 {n : Nat} : ixN (n + 1) 0 = some 0 := by
  unfold ixN
  rw [if_pos (by decide), if_pos (by omega)]
  rfl
theorem hid_at {b l p : Addr} {H : Hp} {o : HO} (B : Bx H b l) (hp : H p = none) : hid b l (upd H p o) p = some o := by
  obtain ⟨xs, st, h1, h2⟩ := B.ex
  unfold hid
  rw [if_neg, upd_same]
  rintro (e | e)
  · rw [e, h1] at hp
    cases hp
  · rw [e, h2] at hp
    cases hp
theorem hid_tup {K : PySem.W.Frag} {b l a : Addr} {H : Hp} {xs : List V} (B : Bx H b l) (h : SqT K H a xs) : SqT K (hid b l H) a xs := by
  obtain ⟨ys, st, h1, h2⟩ := B.ex
  have key : ∀ u : HO, H a = some u → (∀ zs, u ≠ .lst zs) → hid b l H a = some u := by
    intro u hu hn
    unfold hid
    rw [if_neg, hu]
    rintro (e | e)
    · rw [e, h1] at hu
      exact hn _ (Option.some.inj hu).symm
    · rw [e, h2] at hu
      exact hn _ (Option.some.inj hu).symm
  rcases h with (h | ⟨o, h⟩) | h
  · exact .inl (.inl (key _ h (fun _ z => nomatch z)))
  · exact .inl (.inr ⟨o, key _ h (fun _ z => nomatch z)⟩)
  · exact .inr h
theorem frac_hid {K : PySem.W.Frag} {b l : Addr} {H : Hp} {v : V} {q : Rat} (B : Bx H b l) (h : Dp K H v (dF q)) : Dp K (hid b l H) v (dF q) := by
  obtain ⟨a, rfl, h2⟩ := dF_at h
  exact dF_mk (hid_tup B h2)
theorem frac_keep {K : PySem.W.Frag} {b l : Addr} {H H' : Hp} {v : V} {q : Rat} (h : Dp K H v (dF q)) (B : Bx H b l) (s : Same (hid b l H) (hid b l H')) : Dp K H' v (dF q) := dp_mono hid_same _ _ (dp_mono s _ _ (frac_hid B h))
/-! ### alike: the same data -/
theorem iteY {c : Bool} {A B : Prop} (h : c = true) (a : A) : if c = true then A else B := by
  rw [if_pos h]
  exact a
theorem iteN {c : Bool} {A B : Prop} (h : c = false) (b : B) : if c = true then A else B := by
  rw [if_neg (by rw [h]; exact Bool.false_ne_true)]
  exact b
theorem tyL {K : PySem.W.Frag} {H : Hp} {a : Addr} {xs : List V} (h : SqL K H a xs) : TyX K H (.ref a) (.type "list") := by
  rcases h with (h | ⟨o, h⟩) | ⟨o, its, n, h1, h2, _⟩
  · exact .base (.lst h)
  · exact .base (.frz h)
  · exact .kList h1 h2
theorem tyT {K : PySem.W.Frag} {H : Hp} {a : Addr} {xs : List V} (h : SqT K H a xs) : TyX K H (.ref a) (.type "tuple") := by
  rcases h with (h | ⟨o, h⟩) | ⟨o, its, n, h1, h2, _⟩
  · exact .base (.tup h)
  · exact .fTuple h
  · exact .kTuple h1 h2
theorem rIx_of {K : PySem.W.Frag} {H : Hp} {a : Addr} {xs : List V} {j : Nat} {v : V} {Q : VK} (h : SqL K H a xs ∨ SqT K H a xs) (hv : xs[j]? = some v) (q : Q v H) : rIx K (.ref a) (.int (j : Int)) H Q := by
  rcases h with h | h
  · exact .inl ⟨_, _, _, _, rfl, rfl, h, atI_nat hv, q⟩
  · exact .inr (.inl ⟨_, _, _, _, rfl, rfl, h, atI_nat hv, q⟩)
mutual
def szOk : PyData → Bool
  | .list xs | .tuple xs => decide (xs.length < 2 ^ 62) && szAll xs
  | _ => true
def szAll : List PyData → Bool
  | [] => true
  | x :: xs => szOk x && szAll xs
end
theorem szAll_at : ∀ {ds : List PyData} {i : Nat} {d : PyData}, szAll ds = true → ds[i]? = some d → szOk d = true
  | [], _, _, _, h => by simp at h
  | x :: r, 0, d, a, h => by
    have e : x = d := Option.some.inj h
    have := Bool.and_eq_true_iff.mp (show (szOk x && szAll r) = true from a)
    rw [← e]
    exact this.1
  | x :: r, i + 1, d, a, h => szAll_at (ds := r) (i := i) (Bool.and_eq_true_iff.mp (show (szOk x && szAll r) = true from a)).2 h
theorem depth_at : ∀ {ds : List PyData} {i : Nat} {d : PyData}, ds[i]? = some d → d.depth ≤ PyData.depthAll ds
  | [], _, _, h => by simp at h
  | x :: r, 0, d, h => by
    have e : x = d := Option.some.inj h
    rw [← e]
    exact Nat.le_max_left _ _
  | x :: r, i + 1, d, h => Nat.le_trans (depth_at (ds := r) (i := i) h) (Nat.le_max_right _ _)
theorem dpa_at {K : PySem.W.Frag} {H : Hp} : ∀ {vs : List V} {ds : List PyData} {i : Nat} {v : V}, DpAll K H vs ds → vs[i]? = some v → ∃ d, ds[i]? = some d ∧ Dp K H v d
  | [], _, _, _, _, h => by simp at h
  | x :: r, _, 0, v, .cons h1 h2, h => by
    have e : x = v := Option.some.inj h
    rw [← e]
    exact ⟨_, rfl, h1⟩
  | x :: r, _, i + 1, v, .cons h1 h2, h => dpa_at (vs := r) (i := i) h2 h
theorem dpa_len {K : PySem.W.Frag} {H : Hp} : ∀ {vs : List V} {ds : List PyData}, DpAll K H vs ds → vs.length = ds.length
  | _, _, .nil => rfl
  | _, _, .cons _ h => by rw [List.length_cons, List.length_cons, dpa_len h]
def spAlike (K : PySem.W.Frag) (n : Nat) : Sp := fun vs H Q _ => ∃ (u v : V) (d : PyData), vs = [u, v] ∧ Dp K H u d ∧ Dp K H v d ∧ d.depth < n ∧ szOk d = true ∧ Q (.bl true) H
/-! ### shows on the heap -/
def dS (s : St3) : PyData := .tuple [dF s.1, dF s.2.1, dF s.2.2]
def dSh (xs : List St3) : PyData := .list (xs.map dS)
def dRow (x : Rat × Rat × St3) : PyData := .tuple [dF x.1, dF x.2.1, dS x.2.2]
mutual
def tupD : PyData → Bool
  | .list _ | .dict _ => false
  | .tuple xs => tupA xs
  | _ => true
def tupA : List PyData → Bool
  | [] => true
  | x :: xs => tupD x && tupA xs
end
def IsL (H : Hp) (a : Addr) : Prop := ∃ xs, H a = some (.lst xs)
theorem hid_tupL {K : PySem.W.Frag} {b l a : Addr} {H : Hp} {xs : List V} (Lb : IsL H b) (Ll : IsL H l) (h : SqT K H a xs) : SqT K (hid b l H) a xs := by
  obtain ⟨x1, h1⟩ := Lb
  obtain ⟨x2, h2⟩ := Ll
  have key : ∀ u : HO, H a = some u → (∀ zs, u ≠ .lst zs) → hid b l H a = some u := by
    intro u hu hn
    unfold hid
    rw [if_neg, hu]
    rintro (e | e)
    · rw [e, h1] at hu
      exact hn _ (Option.some.inj hu).symm
    · rw [e, h2] at hu
      exact hn _ (Option.some.inj hu).symm
  rcases h with (h | ⟨o, h⟩) | h
  · exact .inl (.inl (key _ h (fun _ z => nomatch z)))
  · exact .inl (.inr ⟨o, key _ h (fun _ z => nomatch z)⟩)
  · exact .inr h
mutual
theorem dp_hid {K : PySem.W.Frag} {b l : Addr} {H : Hp} (Lb : IsL H b) (Ll : IsL H l) : ∀ (d : PyData) (v : V), tupD d = true → Dp K H v d → Dp K (hid b l H) v d
  | .none, _, _, h => by cases h; exact .non
  | .bool _, _, _, h => by cases h; exact .bl _
  | .int _, _, _, h => by cases h; exact .int _
  | .str _, _, _, h => by cases h; exact .str _
  | .list ds, _, z, _ => by cases z
  | .tuple ds, _, z, h => by
    cases h with
    | tup hs ha => exact .tup (hid_tupL Lb Ll hs) (dpa_hid Lb Ll ds _ z ha)
  | .dict _, _, z, _ => by cases z
theorem dpa_hid {K : PySem.W.Frag} {b l : Addr} {H : Hp} (Lb : IsL H b) (Ll : IsL H l) : ∀ (ds : List PyData) (vs : List V), tupA ds = true → DpAll K H vs ds → DpAll K (hid b l H) vs ds
  | [], _, _, h => by cases h; exact .nil
  | d :: ds, _, z, h => by
    have z2 := Bool.and_eq_true_iff.mp (show (tupD d && tupA ds) = true from z)
    cases h with
    | cons h1 h2 => exact .cons (dp_hid Lb Ll d _ z2.1 h1) (dpa_hid Lb Ll ds _ z2.2 h2)
end
theorem tupD_dF (q : Rat) : tupD (dF q) = true := rfl
theorem tupD_dS (s : St3) : tupD (dS s) = true := rfl
theorem tupA_dS : ∀ xs : List St3, tupA (xs.map dS) = true
  | [] => rfl
  | s :: r => by
    show (tupD (dS s) && tupA (r.map dS)) = true
    rw [tupA_dS r]
    rfl
theorem dS_at {K : PySem.W.Frag} {H : Hp} {v : V} {s : St3} (h : Dp K H v (dS s)) : ∃ a v1 v2 v3, v = .ref a ∧ SqT K H a [v1, v2, v3] ∧ Dp K H v1 (dF s.1) ∧ Dp K H v2 (dF s.2.1) ∧ Dp K H v3 (dF s.2.2) := by
  unfold dS at h
  cases h with
  | tup hs ha =>
    cases ha with
    | cons h1 h2 =>
      cases h2 with
      | cons h3 h4 =>
        cases h4 with
        | cons h5 h6 =>
          cases h6
          exact ⟨_, _, _, _, rfl, hs, h1, h3, h5⟩
theorem dS_mk {K : PySem.W.Frag} {H : Hp} {p : Addr} {v1 v2 v3 : V} {s : St3} (h : SqT K H p [v1, v2, v3]) (h1 : Dp K H v1 (dF s.1)) (h2 : Dp K H v2 (dF s.2.1)) (h3 : Dp K H v3 (dF s.2.2)) : Dp K H (.ref p) (dS s) := .tup h (.cons h1 (.cons h2 (.cons h3 .nil)))
theorem dRow_at {K : PySem.W.Frag} {H : Hp} {v : V} {x : Rat × Rat × St3} (h : Dp K H v (dRow x)) : ∃ a v1 v2 v3, v = .ref a ∧ SqT K H a [v1, v2, v3] ∧ Dp K H v1 (dF x.1) ∧ Dp K H v2 (dF x.2.1) ∧ Dp K H v3 (dS x.2.2) := by
  unfold dRow at h
  cases h with
  | tup hs ha =>
    cases ha with
    | cons h1 h2 =>
      cases h2 with
      | cons h3 h4 =>
        cases h4 with
        | cons h5 h6 =>
          cases h6
          exact ⟨_, _, _, _, rfl, hs, h1, h3, h5⟩
theorem dRow_mk {K : PySem.W.Frag} {H : Hp} {p : Addr} {v1 v2 v3 : V} {x : Rat × Rat × St3} (h : SqT K H p [v1, v2, v3]) (h1 : Dp K H v1 (dF x.1)) (h2 : Dp K H v2 (dF x.2.1)) (h3 : Dp K H v3 (dS x.2.2)) : Dp K H (.ref p) (dRow x) := .tup h (.cons h1 (.cons h2 (.cons h3 .nil)))
theorem dSh_at {K : PySem.W.Frag} {H : Hp} {v : V} {xs : List St3} (h : Dp K H v (dSh xs)) : ∃ a vs, v = .ref a ∧ SqL K H a vs ∧ DpAll K H vs (xs.map dS) := by
  unfold dSh at h
  cases h with
  | lst hs ha => exact ⟨_, _, rfl, hs, ha⟩
theorem dpa_map {α : Type} {K : PySem.W.Frag} {H : Hp} {f : α → PyData} {vs : List V} {xs : List α} {i : Nat} {v : V} (h : DpAll K H vs (xs.map f)) (hv : vs[i]? = some v) : ∃ s, xs[i]? = some s ∧ Dp K H v (f s) := by
  obtain ⟨d, h1, h2⟩ := dpa_at h hv
  rw [List.getElem?_map] at h1
  cases e : xs[i]? with
  | none =>
    rw [e] at h1
    cases h1
  | some s =>
    rw [e] at h1
    exact ⟨s, rfl, by rw [show d = f s from (Option.some.inj h1).symm] at h2; exact h2⟩
theorem dpa_snoc {K : PySem.W.Frag} {H : Hp} : ∀ {vs : List V} {ds : List PyData} {v : V} {d : PyData}, DpAll K H vs ds → Dp K H v d → DpAll K H (vs ++ [v]) (ds ++ [d])
  | _, _, _, _, .nil, h => .cons h .nil
  | _, _, _, _, .cons h1 h2, h => .cons h1 (dpa_snoc h2 h)
/-- what stood at the entry stands beside a list r that was made since -/
theorem hid_old {H H' : Hp} {r : Addr} (s : Same H H') (hr : H r = none) : Same H (hid r r H') := fun a o h => by
  unfold hid
  rw [if_neg, s _ _ h]
  rintro (e | e)
  · rw [e, hr] at h
    cases h
  · rw [e, hr] at h
    cases h
def spSt (K : PySem.W.Frag) (g : St3 → Rat) : Sp := fun vs H Q _ => ∃ (v : V) (s : St3) (N : Nat), vs = [v] ∧ Dp K H v (dS s) ∧ StOk N s ∧ N ≤ 2240 ∧ ∀ H' z, Same H H' → Dp K H' z (dF (g s)) → Q z H'
def spLen (K : PySem.W.Frag) : Sp := fun vs H Q _ => ∃ (v : V) (xs : List St3) (N : Nat), vs = [v] ∧ Dp K H v (dSh xs) ∧ ShOk N xs ∧ N ≤ 2240 ∧ ∀ H' z, Same H H' → Dp K H' z (dF (lenS xs)) → Q z H'
def spTab (K : PySem.W.Frag) : Sp := fun vs H Q _ => ∃ (v : V) (xs : List St3) (N : Nat), vs = [v] ∧ Dp K H v (dSh xs) ∧ ShOk N xs ∧ N ≤ 2240 ∧ xs.length ≤ 1000 ∧ ∀ H' p ys, Same H H' → H p = none → H' p = some (.lst ys) → DpAll K H' ys ((tabF 0 xs).map dRow) → Q (.ref p) H'
def spNorm (K : PySem.W.Frag) : Sp := fun vs H Q _ => ∃ (v : V) (xs : List St3), vs = [v] ∧ Dp K H v (dSh xs) ∧ xs.length ≤ 1000 ∧ ∀ H' p ys, Same H H' → H p = none → H' p = some (.lst ys) → DpAll K H' ys ((normM xs).map dS) → Q (.ref p) H'
def spPlace (K : PySem.W.Frag) : Sp := fun vs H Q _ => ∃ (v u : V) (s : St3) (t : Rat) (N : Nat), vs = [v, u] ∧ Dp K H v (dS s) ∧ Dp K H u (dF t) ∧ StOk N s ∧ Sz (2 * N + 1) t ∧ N ≤ 2240 ∧ ∀ H' z, Same H H' → Dp K H' z (dF (s.1 + t * s.2.2)) → Q z H'
/-! ### data of tuples alone stays, whatever is done to lists -/
theorem keepT {K : PySem.W.Frag} {b l : Addr} {H H' : Hp} {v : V} {d : PyData} (h : Dp K H v d) (hd : tupD d = true) (Lb : IsL H b) (Ll : IsL H l) (s : Same (hid b l H) (hid b l H')) : Dp K H' v d := dp_mono hid_same _ _ (dp_mono s _ _ (dp_hid Lb Ll _ _ hd h))
theorem keepA {K : PySem.W.Frag} {b l : Addr} {H H' : Hp} {vs : List V} {ds : List PyData} (h : DpAll K H vs ds) (hd : tupA ds = true) (Lb : IsL H b) (Ll : IsL H l) (s : Same (hid b l H) (hid b l H')) : DpAll K H' vs ds := dpa_mono hid_same _ _ (dpa_mono s _ _ (dpa_hid Lb Ll _ _ hd h))
theorem keepU {K : PySem.W.Frag} {r : Addr} {H : Hp} {o : HO} {v : V} {d : PyData} (h : Dp K H v d) (hd : tupD d = true) (Lr : IsL H r) : Dp K (upd H r o) v d := keepT h hd Lr Lr (by rw [hid_b]; exact Same.refl _)
theorem keepAU {K : PySem.W.Frag} {r : Addr} {H : Hp} {o : HO} {vs : List V} {ds : List PyData} (h : DpAll K H vs ds) (hd : tupA ds = true) (Lr : IsL H r) : DpAll K (upd H r o) vs ds := keepA h hd Lr Lr (by rw [hid_b]; exact Same.refl _)
theorem Bx.lb {H : Hp} {b l : Addr} (B : Bx H b l) : IsL H b := let ⟨_, _, h, _⟩ := B.ex; ⟨_, h⟩
theorem Bx.ll {H : Hp} {b l : Addr} (B : Bx H b l) : IsL H l := let ⟨_, _, _, h⟩ := B.ex; ⟨_, h⟩
theorem dpa_split {K : PySem.W.Frag} {H : Hp} : ∀ {ds : List PyData} {vs : List V} {d : PyData}, DpAll K H vs (ds ++ [d]) → ∃ vs' v, vs = vs' ++ [v] ∧ DpAll K H vs' ds ∧ Dp K H v d
  | [], _, _, .cons h .nil => ⟨[], _, rfl, .nil, h⟩
  | _ :: ds, _, _, .cons h1 h2 => by
    obtain ⟨vs', v, rfl, h3, h4⟩ := dpa_split (ds := ds) h2
    exact ⟨_ :: vs', v, rfl, .cons h1 h3, h4⟩
theorem rat_eq {x y : Rat} (h1 : x.num = y.num) (h2 : (x.den : Int) = (y.den : Int)) : x = y := Rat.ext h1 (by omega)
theorem eqv_dF (x y : Rat) : PyData.eqv (dF x) (dF y) = decide (x = y) := by
  show ((x.num == y.num) && (((x.den : Int) == (y.den : Int)) && true)) = _
  by_cases h : x = y
  · rw [h, decide_eq_true rfl, beq_self_eq_true, beq_self_eq_true]
    rfl
  · rw [decide_eq_false h]
    cases c1 : (x.num == y.num) with
    | false => rfl
    | true =>
      cases c2 : ((x.den : Int) == (y.den : Int)) with
      | false => rfl
      | true => exact absurd (rat_eq (eq_of_beq c1) (eq_of_beq c2)) h
theorem shaped_dF (x : Rat) : SeqAt.shaped (dF x) = true := rfl
theorem lay_dS : ∀ xs : List St3, PyData.canLayAll0 (xs.map dS) = true
  | [] => rfl
  | s :: r => by
    show (PyData.canLay0 (dS s) && PyData.canLayAll0 (r.map dS)) = true
    rw [lay_dS r]
    rfl
theorem depth_dS : ∀ xs : List St3, PyData.depthAll (xs.map dS) ≤ 2
  | [] => Nat.zero_le _
  | s :: r => Nat.max_le.mpr ⟨Nat.le_refl 2, depth_dS r⟩
theorem shaped_dSh (xs : List St3) : SeqAt.shaped (dSh xs) = true := by
  unfold SeqAt.shaped
  rw [show PyData.canLay0 (dSh xs) = true from lay_dS xs]
  have : PyData.depth (dSh xs) ≤ 64 := by
    show PyData.depthAll (xs.map dS) + 1 ≤ 64
    have := depth_dS xs
    omega
  rw [decide_eq_true this]
  rfl
theorem sz_dS : ∀ xs : List St3, szAll (xs.map dS) = true
  | [] => rfl
  | s :: r => by
    show (szOk (dS s) && szAll (r.map dS)) = true
    rw [sz_dS r]
    rfl
theorem sz_dSh (xs : List St3) (h : xs.length < 2 ^ 62) : szOk (dSh xs) = true := by
  show (decide ((xs.map dS).length < 2 ^ 62) && szAll (xs.map dS)) = true
  rw [sz_dS, List.length_map, decide_eq_true h]
  rfl
theorem dep_dSh (xs : List St3) : (dSh xs).depth < 4 := by
  show PyData.depthAll (xs.map dS) + 1 < 4
  have := depth_dS xs
  omega
def spPick (K : PySem.W.Frag) (g : Rat → Rat → Bool) : Sp := fun vs H Q _ => ∃ (u v : V) (x y : Rat) (n m : Nat), vs = [u, v] ∧ Dp K H u (dF x) ∧ Dp K H v (dF y) ∧ Sz n x ∧ Sz m y ∧ n + m ≤ 9000 ∧ Q (if g x y = true then v else u) H
def spPiece (K : PySem.W.Frag) : Sp := fun vs H Q _ => ∃ (v u1 u2 : V) (s : St3) (t1 t2 : Rat) (N : Nat), vs = [v, u1, u2] ∧ Dp K H v (dS s) ∧ Dp K H u1 (dF t1) ∧ Dp K H u2 (dF t2) ∧ StOk N s ∧ Sz (2 * N + 1) t1 ∧ Sz (2 * N + 1) t2 ∧ N ≤ 2240 ∧
  ∀ H' z, Same H H' → Dp K H' z (dS (s.1 + t1 * s.2.2, s.1 + t2 * s.2.2, s.2.2)) → Q z H'
def refused (xs : List St3) (b e : Rat) : Prop := e < b ∨ lenS xs < e
def spTaken (K : PySem.W.Frag) (C : Addr) : Sp := fun vs H Q E => ∃ (v u1 u2 : V) (xs : List St3) (b e : Rat) (N : Nat), vs = [v, u1, u2] ∧ Dp K H v (dSh xs) ∧ Dp K H u1 (dF b) ∧ Dp K H u2 (dF e) ∧ ShOk N xs ∧ Sz N b ∧ Sz N e ∧ N ≤ 2240 ∧ xs.length ≤ 900 ∧
  (refused xs b e → ∀ H', Same H H' → E (.ref C) none H') ∧
  (¬ refused xs b e → ∀ H' p ys, Same H H' → H p = none → H' p = some (.lst ys) → DpAll K H' ys ((normM (cutM xs b e)).map dS) → Q (.ref p) H')
section
variable {P : Program} {w : World} {K : PySem.W.Frag} {mg : Str → Option Value} {base : Heap}
theorem cl_common_divisor (T : Txt K mg) : Cl P w K mg base CX0 1 "common_divisor" spGcd := by
  refine T.d_common_divisor.cl sc_common_divisor (fun vs H Q E h => ?_) (fun f cdv A outer s H vs Q E hr h => ?_)
  · obtain ⟨i, j, rfl, _⟩ := h
    rfl
  · obtain ⟨i, j, rfl, q⟩ := h
    refine ⟨_, (pss_cons (ps_set (i := 0) sc_common_divisor.nd rfl (.inl rfl) (pe_callB call_abs (by rfl) T.m_abs (by decide +kernel) (pa_cons (pv 0) pa_nil)))
      (pss_cons (ps_set (i := 1) sc_common_divisor.nd rfl (.inl rfl) (pe_callB call_abs (by rfl) T.m_abs (by decide +kernel) (pa_cons (pv 1) pa_nil)))
      (pss_cons (ps_while PassesOwn.never (pt_cmpR op_gt (pv 1) pe_int (nomark _))
        (pss_one (ps_par (i := 0) (j := 1) (by rfl) sc_common_divisor.nd rfl rfl (by decide) rfl rfl (pa_cons (pv 1) (pa_cons (pe_op op_modN (pv 0) (pv 1)) pa_nil)) (by rfl))))
      (pss_one (ps_ret (pv 0)))))), ?_⟩
    refine ⟨_, rfl, _, rfl, _, rfl, _, rfl, ?_⟩
    refine while_by (fun σ H' => ∃ a b : Nat, σ = [some (.int (a : Int)), some (.int (b : Int))] ∧ H' = H ∧ Nat.gcd a b = Nat.gcd i.natAbs j.natAbs) (fun σ _ => match σ with | [_, some (.int b)] => b.natAbs | _ => 0) ?_ ?_ ?_
    · refine ⟨i.natAbs, j.natAbs, ?_, rfl, rfl⟩
      show [some (V.int (if i < 0 then -i else i)), some (V.int (if j < 0 then -j else j))] = _
      rw [abs_nat, abs_nat]
    · intro σ H' h
      obtain ⟨a, b, rfl, rfl, e⟩ := h
      refine ⟨_, rfl, _, _, rfl, rfl, _, rfl, ite2 (fun z => ?_) (fun z => ?_)⟩
      · have hb : 0 < b := by
          have := of_decide_eq_true z
          omega
        refine ⟨_, rfl, _, rfl, _, rfl, _, _, rfl, rfl, (by omega), _, _, rfl, ⟨b, a % b, ?_, rfl, ?_⟩, ?_⟩
        · show [some (V.int (b : Int)), some (V.int ((a : Int).fmod (b : Int)))] = _
          rw [fmod_nat]
        · rw [gcd_turn]
          exact e
        · show Int.natAbs (Int.fmod (a : Int) (b : Int)) < Int.natAbs (b : Int)
          rw [fmod_nat]
          have := Nat.mod_lt a hb
          omega
      · have hb : b = 0 := by
          have z2 : ¬ ((0 : Int) < (b : Int)) := fun y => z (decide_eq_true y)
          omega
        subst hb
        refine ⟨_, rfl, ?_⟩
        rw [Nat.gcd_zero_right] at e
        rw [← e] at q
        exact q
    · intro σ H' Q1 Q2 h12 h
      obtain ⟨v, e, i, j, e1, e2, k, e3, h⟩ := h
      exact ⟨v, e, i, j, e1, e2, k, e3, h12 _ _ h⟩
theorem cl_made (T : Txt K mg) : Cl P w K mg base CX0 2 "made" (spMade K) := by
  have c_common_divisor := cl_common_divisor (P := P) (w := w) (base := base) T
  refine T.d_made.cl sc_made (fun vs H Q E h => ?_) (fun f cdv A outer s H vs Q E hr h => ?_)
  · obtain ⟨i, j, rfl, _⟩ := h
    rfl
  · obtain ⟨t, b, rfl, hb, hs, q⟩ := h
    refine ⟨_, (pss_cons (ps_set (i := 2) sc_made.nd rfl (.inl rfl) (pe_cl c_common_divisor hr (by decide) (by rfl) (pa_cons (pv 0) (pa_cons (pv 1) pa_nil))))
      (pss_cons (ps_if (pt_cmpR op_lt (pv 1) pe_int (nomark _))
        (pss_one (ps_set (i := 2) sc_made.nd rfl (.inl rfl) (pe_un un_neg (pv 2))))
        pss_nil)
      (pss_one (ps_ret (pe_tup (pa_cons (pe_op op_fdivX (pv 0) (pv 2)) (pa_cons (pe_op op_fdivX (pv 1) (pv 2)) pa_nil))))))), ?_⟩
    have last : ∀ d : Int, d = frI t b → ∀ p, H p = none → Q (.ref p) (upd H p (.tup [.int (t.fdiv d), .int (b.fdiv d)])) := by
      intro d e p hp
      subst e
      refine q _ _ (Same.new hp) (dF_mk ?_)
      rw [fr_num hb, fr_den hb]
      exact .inl (.inl upd_same)
    have hd : ∀ d : Int, d = frI t b → CDivX t d ∧ CDivX b d := by
      intro d e
      subst e
      have h1 := Nat.lt_of_le_of_lt (frI_natAbs (t := t) hb) hs
      exact ⟨cdiv (frI_ne hb) h1 (by decide) (by decide), cdiv (frI_ne hb) h1 (by decide) (by decide)⟩
    refine ⟨_, rfl, _, rfl, _, _, rfl, _, rfl, _, _, rfl, rfl, _, rfl, ite2 (fun z => ?_) (fun z => ?_)⟩
    · have z1 : b < 0 := of_decide_eq_true z
      have e : -((Nat.gcd t.natAbs b.natAbs : Nat) : Int) = frI t b := by
        unfold frI
        rw [if_pos z1]
      refine ⟨_, rfl, _, rfl, _, rfl, _, rfl, _, _, rfl, rfl, (hd _ e).1, _, rfl, _, rfl, _, _, rfl, rfl, (hd _ e).2, (show 2 ≤ sizeLine by decide), fun p hp => last _ e p hp⟩
    · have z1 : ¬ b < 0 := fun y => z (decide_eq_true y)
      have e : ((Nat.gcd t.natAbs b.natAbs : Nat) : Int) = frI t b := by
        unfold frI
        rw [if_neg z1]
      refine ⟨_, rfl, _, rfl, _, _, rfl, rfl, (hd _ e).1, _, rfl, _, rfl, _, _, rfl, rfl, (hd _ e).2, (show 2 ≤ sizeLine by decide), fun p hp => last _ e p hp⟩
theorem cl_added (T : Txt K mg) : Cl P w K mg base CX0 2 "added" (spF2 K (fun x y => x + y) (fun x y => True)) := by
  have c_common_divisor := cl_common_divisor (P := P) (w := w) (base := base) T
  refine T.d_added.cl sc_added (fun vs H Q E h => ?_) (fun f cdv A outer s H vs Q E hr h => ?_)
  · obtain ⟨u, v, x, y, n, m, rfl, _⟩ := h
    rfl
  · obtain ⟨u, v, x, y, n, m, rfl, hu, hv, sx, sy, hnm, hc, q⟩ := h
    obtain ⟨a, rfl, h0⟩ := dF_at hu
    obtain ⟨b, rfl, h1⟩ := dF_at hv
    refine ⟨_, (pss_cons (ps_set (i := 2) sc_added.nd rfl (.inl rfl) (pe_cl c_common_divisor hr (by decide) (by rfl) (pa_cons (pe_ix ix_tup (pv 0) pe_int (fun _ _ => rfl)) (pa_cons (pe_ix ix_tup (pv 1) pe_int (fun _ _ => rfl)) pa_nil))))
      (pss_cons (ps_set (i := 3) sc_added.nd rfl (.inl rfl) (pe_op op_add (pe_op op_mulW (pe_ix ix_tup (pv 0) pe_int (fun _ _ => rfl)) (pe_op op_fdivX (pe_ix ix_tup (pv 1) pe_int (fun _ _ => rfl)) (pv 2))) (pe_op op_mulW (pe_ix ix_tup (pv 1) pe_int (fun _ _ => rfl)) (pe_op op_fdivX (pe_ix ix_tup (pv 0) pe_int (fun _ _ => rfl)) (pv 2)))))
      (pss_cons (ps_set (i := 4) sc_added.nd rfl (.inl rfl) (pe_cl c_common_divisor hr (by decide) (by rfl) (pa_cons (pv 3) (pa_cons (pv 2) pa_nil))))
      (pss_one (ps_ret (pe_tup (pa_cons (pe_op op_fdivX (pv 3) (pv 4)) (pa_cons (pe_op op_mulW (pe_op op_fdivX (pe_ix ix_tup (pv 0) pe_int (fun _ _ => rfl)) (pv 2)) (pe_op op_fdivX (pe_ix ix_tup (pv 1) pe_int (fun _ _ => rfl)) (pv 4))) pa_nil)))))))), ?_⟩
    have g0 := sG_pos x y
    have d0 := sD_pos x y
    have gn : ((sG x y : Nat) : Int).natAbs < 2 ^ n := Nat.lt_of_le_of_lt (sG_le x y) sx.den
    have dn : ((sD x y : Nat) : Int).natAbs < 2 ^ n := Nat.lt_of_le_of_lt (sD_le x y) sx.den
    have cg : ∀ i : Int, CDivX i ((sG x y : Nat) : Int) := fun i => cdiv (by omega) gn sx.pos (by omega)
    have cd : ∀ i : Int, CDivX i ((sD x y : Nat) : Int) := fun i => cdiv (by omega) dn sx.pos (by omega)
    have m1 : CMulW x.num (((y.den : Nat) : Int).fdiv ((sG x y : Nat) : Int)) := by
      rw [fdiv_nat]
      exact wide_mul sx.num (Nat.lt_of_le_of_lt (Nat.div_le_self _ _) sy.den) sx.pos sy.pos (by omega)
    have m2 : CMulW y.num (((x.den : Nat) : Int).fdiv ((sG x y : Nat) : Int)) := by
      rw [fdiv_nat]
      exact wide_mul sy.num (Nat.lt_of_le_of_lt (Nat.div_le_self _ _) sx.den) sy.pos sx.pos (by omega)
    have m3 : CMulW (((x.den : Nat) : Int).fdiv ((sG x y : Nat) : Int)) (((y.den : Nat) : Int).fdiv ((sD x y : Nat) : Int)) := by
      rw [fdiv_nat, fdiv_nat]
      exact wide_mul (Nat.lt_of_le_of_lt (Nat.div_le_self _ _) sx.den) (Nat.lt_of_le_of_lt (Nat.div_le_self _ _) sy.den) sx.pos sy.pos (by omega)
    refine ⟨_, rfl, _, _, _, _, rfl, rfl, h0, atI_nat (j := 1) rfl, _, rfl, _, _, _, _, rfl, rfl, h1, atI_nat (j := 1) rfl, _, _, rfl, ?_⟩
    refine ⟨_, rfl, _, _, _, _, rfl, rfl, h0, atI_nat (j := 0) rfl, _, rfl, _, _, _, _, rfl, rfl, h1, atI_nat (j := 1) rfl, _, rfl, _, _, rfl, rfl, cg _, _, _, rfl, rfl, m1, _, rfl, _, _, _, _, rfl, rfl, h1, atI_nat (j := 0) rfl, _, rfl, _, _, _, _, rfl, rfl, h0, atI_nat (j := 1) rfl, _, rfl, _, _, rfl, rfl, cg _, _, _, rfl, rfl, m2, _, _, rfl, rfl, ?_⟩
    have e : x.num * ((y.den : Int).fdiv ((sG x y : Nat) : Int)) + y.num * ((x.den : Int).fdiv ((sG x y : Nat) : Int)) = sT x y := by
      rw [fdiv_nat, fdiv_nat]
      rfl
    refine ⟨.int (sT x y), ?_, .int ((sG x y : Nat) : Int), rfl, _, _, rfl, ?_⟩
    · exact congrArg (fun z => some (some (V.int z))) e
    refine ⟨.int (sT x y), congrArg (fun z => some (some (V.int z))) e, .int ((sD x y : Nat) : Int), rfl, _, _, rfl, rfl, cd _, _, rfl, _, _, _, _, rfl, rfl, h0, atI_nat (j := 1) rfl, .int ((sG x y : Nat) : Int), rfl, _, _, rfl, rfl, cg _, _, rfl, _, _, _, _, rfl, rfl, h1, atI_nat (j := 1) rfl, .int ((sD x y : Nat) : Int), rfl, _, _, rfl, rfl, cd _, _, _, rfl, rfl, m3, (show 2 ≤ sizeLine by decide), fun p hp => ?_⟩
    refine q _ _ (Same.new hp) (dF_mk ?_)
    rw [← sum_num, ← sum_den, ← fdiv_nat, ← fdiv_nat]
    exact .inl (.inl upd_same)
theorem cl_less (T : Txt K mg) : Cl P w K mg base CX0 3 "less" (spF2 K (fun x y => x - y) (fun x y => True)) := by
  have c_added := cl_added (P := P) (w := w) (base := base) T
  refine T.d_less.cl sc_less (fun vs H Q E h => ?_) (fun f cdv A outer s H vs Q E hr h => ?_)
  · obtain ⟨u, v, x, y, n, m, rfl, _⟩ := h
    rfl
  · obtain ⟨u, v, x, y, n, m, rfl, hu, hv, sx, sy, hnm, hc, q⟩ := h
    obtain ⟨b, rfl, h1⟩ := dF_at hv
    refine ⟨_, (pss_one (ps_ret (pe_cl c_added hr (by decide) (by rfl) (pa_cons (pv 0) (pa_cons (pe_tup (pa_cons (pe_un un_neg (pe_ix ix_tup (pv 1) pe_int (fun _ _ => rfl))) (pa_cons (pe_ix ix_tup (pv 1) pe_int (fun _ _ => rfl)) pa_nil))) pa_nil))))), ?_⟩
    refine ⟨_, rfl, _, rfl, _, _, _, _, rfl, rfl, h1, atI_nat (j := 0) rfl, _, rfl, _, rfl, _, _, _, _, rfl, rfl, h1, atI_nat (j := 1) rfl, (show 2 ≤ sizeLine by decide), fun p hp => ?_⟩
    have s1 := Same.new (o := .tup [.int (-y.num), .int (y.den : Int)]) hp
    refine ⟨_, _, x, -y, n, m, rfl, dp_mono s1 _ _ hu, dF_mk (.inl (.inl upd_same)), sx, ⟨by show (-y.num).natAbs < 2 ^ m; rw [Int.natAbs_neg]; exact sy.num, sy.den⟩, hnm, trivial, fun H2 z s2 r2 => ?_⟩
    refine q _ _ (s1.trans s2) ?_
    show Dp K H2 z (dF (x - y))
    rw [Rat.sub_eq_add_neg]
    exact r2
theorem cl_timed (T : Txt K mg) : Cl P w K mg base CX0 3 "timed" (spF2 K (fun x y => x * y) (fun x y => True)) := by
  have c_made := cl_made (P := P) (w := w) (base := base) T
  refine T.d_timed.cl sc_timed (fun vs H Q E h => ?_) (fun f cdv A outer s H vs Q E hr h => ?_)
  · obtain ⟨u, v, x, y, n, m, rfl, _⟩ := h
    rfl
  · obtain ⟨u, v, x, y, n, m, rfl, hu, hv, sx, sy, hnm, hc, q⟩ := h
    obtain ⟨a, rfl, h0⟩ := dF_at hu
    obtain ⟨b, rfl, h1⟩ := dF_at hv
    refine ⟨_, (pss_one (ps_ret (pe_cl c_made hr (by decide) (by rfl) (pa_cons (pe_op op_mulW (pe_ix ix_tup (pv 0) pe_int (fun _ _ => rfl)) (pe_ix ix_tup (pv 1) pe_int (fun _ _ => rfl))) (pa_cons (pe_op op_mulW (pe_ix ix_tup (pv 0) pe_int (fun _ _ => rfl)) (pe_ix ix_tup (pv 1) pe_int (fun _ _ => rfl))) pa_nil))))), ?_⟩
    refine ⟨_, rfl, _, _, _, _, rfl, rfl, h0, atI_nat (j := 0) rfl, _, rfl, _, _, _, _, rfl, rfl, h1, atI_nat (j := 0) rfl, _, _, rfl, rfl, mnn sx sy hnm, _, rfl, _, _, _, _, rfl, rfl, h0, atI_nat (j := 1) rfl, _, rfl, _, _, _, _, rfl, rfl, h1, atI_nat (j := 1) rfl, _, _, rfl, rfl, mdd sx sy hnm, _, _, rfl, ?_, ?_, fun H2 z s2 r2 => ?_⟩
    · exact den_mul_ne x y
    · exact up9 (mul_bits sx.den' sy.den') hnm
    · change Dp K H2 z (dF (Rat.divInt (x.num * y.num) ((x.den : Int) * (y.den : Int)))) at r2
      rw [mul_parts] at r2
      exact q _ _ s2 r2
theorem cl_over (T : Txt K mg) : Cl P w K mg base CX0 3 "over" (spF2 K (fun x y => x / y) (fun x y => y ≠ 0)) := by
  have c_made := cl_made (P := P) (w := w) (base := base) T
  refine T.d_over.cl sc_over (fun vs H Q E h => ?_) (fun f cdv A outer s H vs Q E hr h => ?_)
  · obtain ⟨u, v, x, y, n, m, rfl, _⟩ := h
    rfl
  · obtain ⟨u, v, x, y, n, m, rfl, hu, hv, sx, sy, hnm, hc, q⟩ := h
    obtain ⟨a, rfl, h0⟩ := dF_at hu
    obtain ⟨b, rfl, h1⟩ := dF_at hv
    refine ⟨_, (pss_one (ps_ret (pe_cl c_made hr (by decide) (by rfl) (pa_cons (pe_op op_mulW (pe_ix ix_tup (pv 0) pe_int (fun _ _ => rfl)) (pe_ix ix_tup (pv 1) pe_int (fun _ _ => rfl))) (pa_cons (pe_op op_mulW (pe_ix ix_tup (pv 0) pe_int (fun _ _ => rfl)) (pe_ix ix_tup (pv 1) pe_int (fun _ _ => rfl))) pa_nil))))), ?_⟩
    refine ⟨_, rfl, _, _, _, _, rfl, rfl, h0, atI_nat (j := 0) rfl, _, rfl, _, _, _, _, rfl, rfl, h1, atI_nat (j := 1) rfl, _, _, rfl, rfl, mnd sx sy hnm, _, rfl, _, _, _, _, rfl, rfl, h0, atI_nat (j := 1) rfl, _, rfl, _, _, _, _, rfl, rfl, h1, atI_nat (j := 0) rfl, _, _, rfl, rfl, mdn sx sy hnm, _, _, rfl, ?_, ?_, fun H2 z s2 r2 => ?_⟩
    · exact Int.mul_ne_zero (den_ne x) (num_ne hc)
    · exact up9 (mul_bits sx.den' sy.num) hnm
    · change Dp K H2 z (dF (Rat.divInt (x.num * (y.den : Int)) ((x.den : Int) * y.num))) at r2
      rw [div_parts] at r2
      exact q _ _ s2 r2
theorem cl_Lbegun (T : Txt K mg) : Cl P w K mg base CX0 1 "_law_begun" (spBegun K) := by
  refine T.d_Lbegun.cl sc_Lbegun (fun vs H Q E h => ?_) (fun f cdv A outer s H vs Q E hr h => ?_)
  · obtain ⟨i, j, rfl, _⟩ := h
    rfl
  · obtain ⟨a, ns, rfl, hS, q⟩ := h
    refine ⟨_, (pss_cons (ps_set (i := 1) sc_Lbegun.nd rfl (.inl rfl) pe_int)
      (pss_cons (ps_for PassesOwn.never rfl (pi_list (pv 0)) (pg_name (i := 2) sc_Lbegun.nd rfl (.inl rfl))
        (pss_one (ps_set (i := 1) sc_Lbegun.nd rfl (.inl rfl) (pe_op op_mod (pe_op op_add (pe_op op_add (pe_op op_mul (pv 1) pe_int) (pe_op op_mul (pv 2) pe_int)) pe_int) pe_int))))
      (pss_one (ps_ret (pe_lst (pa_cons (pe_callTy call_list_of (by rfl) T.m_list (by decide +kernel) (pa_cons (pv 0) pa_nil)) (pa_cons (pe_op op_mul (pv 1) (pe_callTy call_int1 (by rfl) T.m_int (by decide +kernel) (pa_cons (pe_cmpR op_gt (pe_callB call_len_seq (by rfl) T.m_len (by decide +kernel) (pa_cons (pv 0) pa_nil)) pe_int (nomark _)) pa_nil))) pa_nil))))))), ?_⟩
    refine ⟨_, rfl, a, rfl, ⟨_, hS⟩, for_list (K := K) (a := a) (xs := ns.map V.int) (fun i σ H' => ∃ (x : Int) (c : Option V), σ = [some (.ref a), some (.int x), c] ∧ H' = H) ⟨0, none, rfl, rfl⟩ (fun i σ H' _ h => ?_) (fun i x σ H' hx h => ?_) (fun σ H' h => ?_)⟩
    · obtain ⟨x, c, rfl, rfl⟩ := h
      exact hS
    · obtain ⟨y, c, rfl, rfl⟩ := h
      obtain ⟨z, hz, rfl⟩ : ∃ z : Int, z ∈ ns ∧ V.int z = x := by
        have := List.mem_of_getElem? hx
        exact List.mem_map.mp this
      refine ⟨_, rfl, _, _, rfl, rfl, .inr ⟨by decide, by decide⟩, _, rfl, _, _, rfl, rfl, .inr ⟨by decide, by decide⟩, _, _, rfl, rfl, _, _, rfl, rfl, _, _, rfl, rfl, (show (0 : Int) < 2147483647 by decide), _, _, rfl, rfl⟩
    · obtain ⟨y, c, rfl, rfl⟩ := h
      refine ⟨_, rfl, a, _, rfl, .inl hS, fun l hl => ?_⟩
      have hS2 : SqL K (upd H' l (.lst (ns.map V.int))) a (ns.map V.int) := (Same.new hl).seq hS
      refine ⟨_, rfl, _, rfl, a, _, rfl, .inl hS2, _, _, rfl, rfl, .inr ⟨_, rfl, _, _, rfl, rfl, .inr ?_, (show 2 ≤ sizeLine by decide), fun b hb => ?_⟩⟩
      · split <;> exact ⟨by decide, by decide⟩
      · refine q _ b l ((Same.new hl).trans (Same.new hb)) ((Same.new hl).free hb) hl ⟨fun e => ?_, ns, _, upd_same, ?_⟩
        · rw [e, upd_same] at hb
          cases hb
        · rw [upd_ne (fun e => ?_), upd_same]
          rw [← e, upd_same] at hb
          cases hb
theorem cl_Ltake (T : Txt K mg) : Cl P w K mg base CX0 1 "_law_take" (spTake K) := by
  refine T.d_Ltake.cl sc_Ltake (fun vs H Q E h => ?_) (fun f cdv A outer s H vs Q E hr h => ?_)
  · obtain ⟨b, l, m, rfl, _⟩ := h
    rfl
  · obtain ⟨b, l, m, rfl, B, m0, m1, q⟩ := h
    obtain ⟨xs, st, hb, hl⟩ := B.ex
    have ne := B.ne
    refine ⟨_, (pss_cons (ps_if (pt_cmpR (op_eqD hr.units) (pe_ix ix_list (pv 0) pe_int (fun _ _ => rfl)) (pe_lst pa_nil) (nomark _))
        (pss_cons (ps_asg (pe_op op_mod (pe_op op_mul (pe_ix ix_list (pv 0) pe_int (fun _ _ => rfl)) pe_int) pe_int) (pg_sub (pv 0) pe_int set_list))
      (pss_one (ps_ret (pe_op op_modN (pe_op op_fdiv (pe_ix ix_list (pv 0) pe_int (fun _ _ => rfl)) pe_int) (pv 1)))))
        pss_nil)
      (pss_cons (ps_set (i := 2) sc_Ltake.nd rfl (.inl rfl) (pe_ix ix_list (pe_ix ix_list (pv 0) pe_int (fun _ _ => rfl)) pe_int (fun _ _ => rfl)))
      (pss_cons (ps_asg (pe_op op_fdivX (pv 2) (pv 1)) (pg_sub (pe_ix ix_list (pv 0) pe_int (fun _ _ => rfl)) pe_int set_list))
      (pss_cons (ps_if (PW.pt (pw_or (pt_cmpR op_eq (pe_ix ix_list (pe_ix ix_list (pv 0) pe_int (fun _ _ => rfl)) pe_int (fun _ _ => rfl)) pe_int (nomark _)) (pw_or1 (pt_cmpR op_eq (pe_ix ix_list (pe_ix ix_list (pv 0) pe_int (fun _ _ => rfl)) pe_int (fun _ _ => rfl)) (pe_un un_neg pe_int) (nomark _)))))
        (pss_one (ps_expr (pe_bm PySem.F.plainAttrs_list PySem.F.slot_list_pop PySem.F.type_list_pop mt_popAt (pe_ix ix_list (pv 0) pe_int (fun _ _ => rfl)) (pa_cons pe_int pa_nil))))
        pss_nil)
      (pss_one (ps_ret (pe_op op_modN (pv 2) (pv 1)))))))), ?_⟩
    refine ⟨_, rfl, _, _, _, _, rfl, rfl, .inl (.inl hb), atI_nat (j := 0) rfl, Nat.zero_le _, fun o no => ?_⟩
    have sH : Same H (upd H o (.lst [])) := Same.new no
    have hb1 := sH _ _ hb
    have hl1 := sH _ _ hl
    have s0 : Same (hid b l H) (hid b l (upd H o (.lst []))) := Same.hid sH
    have he : SqL K (upd H o (.lst [])) o [] := .inl (.inl upd_same)
    generalize upd H o (.lst []) = H1 at hb1 hl1 s0 he ⊢
    refine ⟨.list (xs.map PyData.int), .list [], .lst (.inl (.inl hl1)) (dpa_ints xs), .lst he .nil, shaped_ints xs, rfl, _, rfl, ite2 (fun z => ?_) (fun z => ?_)⟩
    · refine ⟨_, rfl, _, _, _, _, rfl, rfl, .inl (.inl hb1), atI_nat (j := 1) rfl, _, _, rfl, rfl, .inr ⟨by decide, by decide⟩, _, _, rfl, rfl, (show (0 : Int) < 2147483647 by decide), _, rfl, _, _, _, 1, rfl, rfl, hb1, rfl, ?_⟩
      refine ⟨_, rfl, _, _, _, _, rfl, rfl, .inl (.inl upd_same), atI_nat (j := 1) rfl, _, _, rfl, rfl, ⟨by decide, by decide⟩, _, rfl, _, _, rfl, rfl, (by omega), ?_⟩
      refine q _ _ ?_ ⟨ne, xs, _, upd_same, ?_⟩ (fmod_rg m0).1 (fmod_rg m0).2
      · rw [hid_b]
        exact s0
      · rw [upd_ne ne.symm]
        exact hl1
    · cases xs with
      | nil => exact absurd rfl z
      | cons x r =>
        have fin : ∀ H', Same (hid b l H) (hid b l H') → Bx H' b l → Q (.int (x.fmod m)) H' := fun H' s1 B1 => q _ _ s1 B1 (fmod_rg m0).1 (fmod_rg m0).2
        refine ⟨_, rfl, _, _, _, _, rfl, rfl, .inl (.inl hb1), atI_nat (j := 0) rfl, _, _, _, _, rfl, rfl, .inl (.inl hl1), atI_nat (j := 0) rfl, ?_⟩
        refine ⟨_, rfl, _, rfl, _, _, rfl, rfl, cdiv (b := 30) (by omega) (by omega) (by decide) (by decide), _, rfl, _, _, _, _, rfl, rfl, .inl (.inl hb1), atI_nat (j := 0) rfl, _, _, _, 0, rfl, rfl, hl1, ixN0, ?_⟩
        have hb2 : (upd H1 l (.lst ((V.int (x.fdiv m)) :: r.map V.int))) b = some (.lst [.ref l, .int st]) := by
          rw [upd_ne ne]
          exact hb1
        have hl2 : (upd H1 l (.lst ((V.int (x.fdiv m)) :: r.map V.int))) l = some (.lst ((V.int (x.fdiv m)) :: r.map V.int)) := upd_same
        have s2 : Same (hid b l H) (hid b l (upd H1 l (.lst ((V.int (x.fdiv m)) :: r.map V.int)))) := by
          rw [hid_l]
          exact s0
        change tSeq _ _ _ _ (upd H1 l (.lst ((V.int (x.fdiv m)) :: r.map V.int)))
        generalize upd H1 l (.lst ((V.int (x.fdiv m)) :: r.map V.int)) = H2 at hb2 hl2 s2 ⊢
        have pop : ∀ D : Ends, D.nx [some (.ref b), some (.int m), some (.int x)] (upd H2 l (.lst (r.map V.int))) → tDrop (tBM K "list" rPopAt (tOp (rIxL K) (tVar 0) (tC (.int 0))) (tCons (tC (.int 0)) tNil)) D [some (.ref b), some (.int m), some (.int x)] H2 := by
          intro D hD
          exact ⟨_, rfl, _, _, _, _, rfl, rfl, .inl (.inl hb2), atI_nat (j := 0) rfl, .inl ⟨rfl, _, .inl (.inl hl2)⟩, l, _, 0, 0, _, rfl, rfl, hl2, by decide, by decide, (ixN_seq ixN0).1, rfl, hD⟩
        have fin2 : Q (.int (x.fmod m)) (upd H2 l (.lst (r.map V.int))) := by
          refine fin _ ?_ ⟨ne, r, st, ?_, upd_same⟩
          · rw [hid_l]
            exact s2
          · rw [upd_ne ne]
            exact hb2
        refine ⟨_, rfl, _, _, _, _, rfl, rfl, .inl (.inl hb2), atI_nat (j := 0) rfl, _, _, _, _, rfl, rfl, .inl (.inl hl2), atI_nat (j := 0) rfl, rfl, _, rfl, ite2 (fun z => ?_) (fun z => ?_)⟩
        · refine iteT (pop _ ?_)
          exact ⟨_, rfl, _, rfl, _, _, rfl, rfl, (by omega), fin2⟩
        · refine ⟨_, rfl, _, _, _, _, rfl, rfl, .inl (.inl hb2), atI_nat (j := 0) rfl, _, _, _, _, rfl, rfl, .inl (.inl hl2), atI_nat (j := 0) rfl, _, rfl, rfl, _, rfl, ite2 (fun z => ?_) (fun z => ?_)⟩
          · refine pop _ ?_
            exact ⟨_, rfl, _, rfl, _, _, rfl, rfl, (by omega), fin2⟩
          · exact ⟨_, rfl, _, rfl, _, _, rfl, rfl, (by omega), fin _ s2 ⟨ne, x.fdiv m :: r, st, hb2, hl2⟩⟩
theorem cl_Lalike (T : Txt K mg) : ∀ n : Nat, Cl P w K mg base CX0 (n + 1) "_law_alike" (spAlike K n)
  | 0 => by
    refine T.d_Lalike.cl sc_Lalike (fun vs H Q E h => ?_) (fun f cdv A outer s H vs Q E hr h => ?_)
    · obtain ⟨u, v, d, rfl, _⟩ := h
      rfl
    · obtain ⟨u, v, d, rfl, _, _, h, _⟩ := h
      exact absurd h (Nat.not_lt_zero _)
  | n + 1 => by
    have c_Lalike := cl_Lalike T n
    refine T.d_Lalike.cl sc_Lalike (fun vs H Q E h => ?_) (fun f cdv A outer s H vs Q E hr h => ?_)
    · obtain ⟨u, v, d, rfl, _⟩ := h
      rfl
    · obtain ⟨u, v, d, rfl, hu, hv, hd, hz, q⟩ := h
      refine ⟨_, (pss_cons (ps_if (pt_cmpR op_isN (pv 1) pe_non (nomark _))
        (pss_one (ps_ret (pe_cmpR op_isN (pv 0) pe_non (nomark _))))
        pss_nil)
      (pss_cons (ps_if (pt_val (pe_callB call_isi (by rfl) T.m_isinstance (by decide +kernel) (pa_cons (pv 1) (pa_cons (pe_bltn (v := .ty "bool") (by rfl) T.m_bool (by decide +kernel) rfl) pa_nil))))
        (pss_one (ps_ret (pe_and (pe_callB call_isi (by rfl) T.m_isinstance (by decide +kernel) (pa_cons (pv 0) (pa_cons (pe_bltn (v := .ty "bool") (by rfl) T.m_bool (by decide +kernel) rfl) pa_nil))) (pe_one (pe_cmpR op_eq (pv 0) (pv 1) (nomark _))))))
        pss_nil)
      (pss_cons (ps_if (pt_val (pe_callB call_isi (by rfl) T.m_isinstance (by decide +kernel) (pa_cons (pv 1) (pa_cons (pe_bltn (v := .ty "int") (by rfl) T.m_int (by decide +kernel) rfl) pa_nil))))
        (pss_one (ps_ret (pe_and (pe_callB call_isi (by rfl) T.m_isinstance (by decide +kernel) (pa_cons (pv 0) (pa_cons (pe_bltn (v := .ty "int") (by rfl) T.m_int (by decide +kernel) rfl) pa_nil))) (pe_and (pe_not (pe_callB call_isi (by rfl) T.m_isinstance (by decide +kernel) (pa_cons (pv 0) (pa_cons (pe_bltn (v := .ty "bool") (by rfl) T.m_bool (by decide +kernel) rfl) pa_nil)))) (pe_one (pe_cmpR op_eq (pv 0) (pv 1) (nomark _)))))))
        pss_nil)
      (pss_cons (ps_if (pt_val (pe_callB call_isi (by rfl) T.m_isinstance (by decide +kernel) (pa_cons (pv 1) (pa_cons (pe_bltn (v := .ty "str") (by rfl) T.m_str (by decide +kernel) rfl) pa_nil))))
        (pss_one (ps_ret (pe_and (pe_callB call_isi (by rfl) T.m_isinstance (by decide +kernel) (pa_cons (pv 0) (pa_cons (pe_bltn (v := .ty "str") (by rfl) T.m_str (by decide +kernel) rfl) pa_nil))) (pe_one (pe_cmpR op_eq (pv 0) (pv 1) (nomark _))))))
        pss_nil)
      (pss_cons (ps_if (PW.pt (pw_or (pt_cmpR op_ne (pe_callB call_isi (by rfl) T.m_isinstance (by decide +kernel) (pa_cons (pv 1) (pa_cons (pe_bltn (v := .ty "tuple") (by rfl) T.m_tuple (by decide +kernel) rfl) pa_nil))) (pe_callB call_isi (by rfl) T.m_isinstance (by decide +kernel) (pa_cons (pv 0) (pa_cons (pe_bltn (v := .ty "tuple") (by rfl) T.m_tuple (by decide +kernel) rfl) pa_nil))) (nomark _)) (pw_or1 (pt_cmpR op_ne (pe_callB call_isi (by rfl) T.m_isinstance (by decide +kernel) (pa_cons (pv 1) (pa_cons (pe_bltn (v := .ty "list") (by rfl) T.m_list (by decide +kernel) rfl) pa_nil))) (pe_callB call_isi (by rfl) T.m_isinstance (by decide +kernel) (pa_cons (pv 0) (pa_cons (pe_bltn (v := .ty "list") (by rfl) T.m_list (by decide +kernel) rfl) pa_nil))) (nomark _)))))
        (pss_one (ps_ret pe_bl))
        pss_nil)
      (pss_cons (ps_if (pt_cmpR op_ne (pe_callB call_len_seq (by rfl) T.m_len (by decide +kernel) (pa_cons (pv 0) pa_nil)) (pe_callB call_len_seq (by rfl) T.m_len (by decide +kernel) (pa_cons (pv 1) pa_nil)) (nomark _))
        (pss_one (ps_ret pe_bl))
        pss_nil)
      (pss_cons (ps_for PassesOwn.never rfl (pi_range1 (by rfl) T.m_range (pa_cons (pe_callB call_len_seq (by rfl) T.m_len (by decide +kernel) (pa_cons (pv 1) pa_nil)) pa_nil)) (pg_name (i := 2) sc_Lalike.nd rfl (.inl rfl))
        (pss_one (ps_if (pt_not (pt_val (pe_cl c_Lalike hr (Nat.le_refl _) (by rfl) (pa_cons (pe_ix ix_seq (pv 0) (pv 2) (fun _ _ => rfl)) (pa_cons (pe_ix ix_seq (pv 1) (pv 2) (fun _ _ => rfl)) pa_nil)))))
        (pss_one (ps_ret pe_bl))
        pss_nil)))
      (pss_one (ps_ret pe_bl))))))))), ?_⟩
      cases d with
      | none =>
        cases hu
        cases hv
        exact ⟨_, rfl, rfl, _, rfl, iteY rfl ⟨_, rfl, rfl, q⟩⟩
      | bool b =>
        cases hu
        cases hv
        refine ⟨_, rfl, rfl, _, rfl, iteN rfl ?_⟩
        refine ⟨_, rfl, _, _, _, _, _, rfl, .ty _, .base (.bl b), kit_ty (r := true) (by decide +kernel), _, rfl, iteY rfl ?_⟩
        exact ⟨_, rfl, _, _, _, _, _, rfl, .ty _, .base (.bl b), kit_ty (r := true) (by decide +kernel), _, rfl, iteY rfl ⟨_, rfl, _, rfl, rfl, by rw [decide_eq_true rfl]; exact q⟩⟩
      | int i =>
        cases hu
        cases hv
        refine ⟨_, rfl, rfl, _, rfl, iteN rfl ?_⟩
        refine ⟨_, rfl, _, _, _, _, _, rfl, .ty _, .base (.int i), kit_ty (r := false) (by decide +kernel), _, rfl, iteN rfl ?_⟩
        refine ⟨_, rfl, _, _, _, _, _, rfl, .ty _, .base (.int i), kit_ty (r := true) (by decide +kernel), _, rfl, iteY rfl ?_⟩
        refine ⟨_, rfl, _, _, _, _, _, rfl, .ty _, .base (.int i), kit_ty (r := true) (by decide +kernel), _, rfl, iteY rfl ?_⟩
        exact ⟨_, rfl, _, _, _, _, _, rfl, .ty _, .base (.int i), kit_ty (r := false) (by decide +kernel), _, rfl, _, rfl, iteY rfl ⟨_, rfl, _, rfl, rfl, by rw [decide_eq_true rfl]; exact q⟩⟩
      | str x =>
        cases hu
        cases hv
        refine ⟨_, rfl, rfl, _, rfl, iteN rfl ?_⟩
        refine ⟨_, rfl, _, _, _, _, _, rfl, .ty _, .base (.str x), kit_ty (r := false) (by decide +kernel), _, rfl, iteN rfl ?_⟩
        refine ⟨_, rfl, _, _, _, _, _, rfl, .ty _, .base (.str x), kit_ty (r := false) (by decide +kernel), _, rfl, iteN rfl ?_⟩
        refine ⟨_, rfl, _, _, _, _, _, rfl, .ty _, .base (.str x), kit_ty (r := true) (by decide +kernel), _, rfl, iteY rfl ?_⟩
        exact ⟨_, rfl, _, _, _, _, _, rfl, .ty _, .base (.str x), kit_ty (r := true) (by decide +kernel), _, rfl, iteY rfl ⟨_, rfl, _, rfl, rfl, by rw [decide_eq_true rfl]; exact q⟩⟩
      | list ds =>
        cases hu with
        | lst s1 a1 =>
          rename_i a xs
          cases hv with
          | lst s2 a2 =>
            rename_i b ys
            have t1 := tyL s1
            have t2 := tyL s2
            have w1 : SqL K H a xs ∨ SqT K H a xs := .inl s1
            have w2 : SqL K H b ys ∨ SqT K H b ys := .inl s2
            have e1 := dpa_len a1
            have e2 := dpa_len a2
            have hl : ds.length < 2 ^ 62 := of_decide_eq_true (Bool.and_eq_true_iff.mp (show (decide (ds.length < 2 ^ 62) && szAll ds) = true from hz)).1
            have hz2 : szAll ds = true := (Bool.and_eq_true_iff.mp (show (decide (ds.length < 2 ^ 62) && szAll ds) = true from hz)).2
            have hd2 : PyData.depthAll ds < n := Nat.lt_of_succ_lt_succ (show PyData.depthAll ds + 1 < n + 1 from hd)
            refine ⟨_, rfl, rfl, _, rfl, iteN rfl ?_⟩
            refine ⟨_, rfl, _, _, _, _, _, rfl, .ty _, t2, kit_ty (r := false) (by decide +kernel), _, rfl, iteN rfl ?_⟩
            refine ⟨_, rfl, _, _, _, _, _, rfl, .ty _, t2, kit_ty (r := false) (by decide +kernel), _, rfl, iteN rfl ?_⟩
            refine ⟨_, rfl, _, _, _, _, _, rfl, .ty _, t2, kit_ty (r := false) (by decide +kernel), _, rfl, iteN rfl ?_⟩
            refine ⟨_, rfl, _, _, _, _, _, rfl, .ty _, t2, kit_ty (r := false) (by decide +kernel), _, rfl, _, _, _, _, _, rfl, .ty _, t1, kit_ty (r := false) (by decide +kernel), rfl, _, rfl, iteN rfl ?_⟩
            refine ⟨_, rfl, _, _, _, _, _, rfl, .ty _, t2, kit_ty (r := true) (by decide +kernel), _, rfl, _, _, _, _, _, rfl, .ty _, t1, kit_ty (r := true) (by decide +kernel), rfl, _, rfl, iteN rfl ?_⟩
            refine ⟨_, rfl, _, _, rfl, w1, _, rfl, _, _, rfl, w2, rfl, _, rfl, iteN (by rw [e1, e2, decide_eq_true rfl]; rfl) ?_⟩
            refine ⟨_, rfl, _, _, rfl, w2, (ys.length : Int), rfl, (by omega), (by omega), for_range (lo := 0) (n := ys.length) (fun i σ H' => H' = H ∧ ∃ o, σ = [some (.ref a), some (.ref b), o]) ⟨rfl, none, rfl⟩ (fun i σ H' hi h => ?_) (fun σ H' h => ?_)⟩
            · obtain ⟨rfl, o, rfl⟩ := h
              obtain ⟨v1, g1⟩ : ∃ v1, xs[i]? = some v1 := ⟨_, List.getElem?_eq_getElem (show i < xs.length by omega)⟩
              obtain ⟨v2, g2⟩ : ∃ v2, ys[i]? = some v2 := ⟨_, List.getElem?_eq_getElem hi⟩
              obtain ⟨d1, k1, p1⟩ := dpa_at a1 g1
              obtain ⟨d2, k2, p2⟩ := dpa_at a2 g2
              have ed : d1 = d2 := Option.some.inj (k1.symm.trans k2)
              subst ed
              have ei : (0 : Int) + (i : Int) = (i : Int) := Int.zero_add _
              rw [ei]
              refine ⟨_, rfl, _, rfl, rIx_of w1 g1 ?_⟩
              refine ⟨_, rfl, _, rfl, rIx_of w2 g2 ?_⟩
              refine ⟨_, _, d1, rfl, p1, p2, Nat.lt_of_le_of_lt (depth_at k1) hd2, szAll_at hz2 k1, _, rfl, iteN rfl ⟨rfl, _, rfl⟩⟩
            · obtain ⟨rfl, o, rfl⟩ := h
              exact q
      | tuple ds =>
        cases hu with
        | tup s1 a1 =>
          rename_i a xs
          cases hv with
          | tup s2 a2 =>
            rename_i b ys
            have t1 := tyT s1
            have t2 := tyT s2
            have w1 : SqL K H a xs ∨ SqT K H a xs := .inr s1
            have w2 : SqL K H b ys ∨ SqT K H b ys := .inr s2
            have e1 := dpa_len a1
            have e2 := dpa_len a2
            have hl : ds.length < 2 ^ 62 := of_decide_eq_true (Bool.and_eq_true_iff.mp (show (decide (ds.length < 2 ^ 62) && szAll ds) = true from hz)).1
            have hz2 : szAll ds = true := (Bool.and_eq_true_iff.mp (show (decide (ds.length < 2 ^ 62) && szAll ds) = true from hz)).2
            have hd2 : PyData.depthAll ds < n := Nat.lt_of_succ_lt_succ (show PyData.depthAll ds + 1 < n + 1 from hd)
            refine ⟨_, rfl, rfl, _, rfl, iteN rfl ?_⟩
            refine ⟨_, rfl, _, _, _, _, _, rfl, .ty _, t2, kit_ty (r := false) (by decide +kernel), _, rfl, iteN rfl ?_⟩
            refine ⟨_, rfl, _, _, _, _, _, rfl, .ty _, t2, kit_ty (r := false) (by decide +kernel), _, rfl, iteN rfl ?_⟩
            refine ⟨_, rfl, _, _, _, _, _, rfl, .ty _, t2, kit_ty (r := false) (by decide +kernel), _, rfl, iteN rfl ?_⟩
            refine ⟨_, rfl, _, _, _, _, _, rfl, .ty _, t2, kit_ty (r := true) (by decide +kernel), _, rfl, _, _, _, _, _, rfl, .ty _, t1, kit_ty (r := true) (by decide +kernel), rfl, _, rfl, iteN rfl ?_⟩
            refine ⟨_, rfl, _, _, _, _, _, rfl, .ty _, t2, kit_ty (r := false) (by decide +kernel), _, rfl, _, _, _, _, _, rfl, .ty _, t1, kit_ty (r := false) (by decide +kernel), rfl, _, rfl, iteN rfl ?_⟩
            refine ⟨_, rfl, _, _, rfl, w1, _, rfl, _, _, rfl, w2, rfl, _, rfl, iteN (by rw [e1, e2, decide_eq_true rfl]; rfl) ?_⟩
            refine ⟨_, rfl, _, _, rfl, w2, (ys.length : Int), rfl, (by omega), (by omega), for_range (lo := 0) (n := ys.length) (fun i σ H' => H' = H ∧ ∃ o, σ = [some (.ref a), some (.ref b), o]) ⟨rfl, none, rfl⟩ (fun i σ H' hi h => ?_) (fun σ H' h => ?_)⟩
            · obtain ⟨rfl, o, rfl⟩ := h
              obtain ⟨v1, g1⟩ : ∃ v1, xs[i]? = some v1 := ⟨_, List.getElem?_eq_getElem (show i < xs.length by omega)⟩
              obtain ⟨v2, g2⟩ : ∃ v2, ys[i]? = some v2 := ⟨_, List.getElem?_eq_getElem hi⟩
              obtain ⟨d1, k1, p1⟩ := dpa_at a1 g1
              obtain ⟨d2, k2, p2⟩ := dpa_at a2 g2
              have ed : d1 = d2 := Option.some.inj (k1.symm.trans k2)
              subst ed
              have ei : (0 : Int) + (i : Int) = (i : Int) := Int.zero_add _
              rw [ei]
              refine ⟨_, rfl, _, rfl, rIx_of w1 g1 ?_⟩
              refine ⟨_, rfl, _, rfl, rIx_of w2 g2 ?_⟩
              refine ⟨_, _, d1, rfl, p1, p2, Nat.lt_of_le_of_lt (depth_at k1) hd2, szAll_at hz2 k1, _, rfl, iteN rfl ⟨rfl, _, rfl⟩⟩
            · obtain ⟨rfl, o, rfl⟩ := h
              exact q
      | dict _ => cases hu
theorem cl_Lfr (T : Txt K mg) : Cl P w K mg base CX0 1 "_law_fr" (spMade K) := by
  refine T.d_Lfr.cl sc_Lfr (fun vs H Q E h => ?_) (fun f cdv A outer s H vs Q E hr h => ?_)
  · obtain ⟨i, j, rfl, _⟩ := h
    rfl
  · obtain ⟨t, b, rfl, hb, hs, q⟩ := h
    refine ⟨_, (pss_cons (ps_set (i := 2) sc_Lfr.nd rfl (.inl rfl) (pe_callB call_abs (by rfl) T.m_abs (by decide +kernel) (pa_cons (pv 0) pa_nil)))
      (pss_cons (ps_set (i := 3) sc_Lfr.nd rfl (.inl rfl) (pe_callB call_abs (by rfl) T.m_abs (by decide +kernel) (pa_cons (pv 1) pa_nil)))
      (pss_cons (ps_while PassesOwn.never (pt_cmpR op_gt (pv 3) pe_int (nomark _))
        (pss_cons (ps_set (i := 4) sc_Lfr.nd rfl (.inl rfl) (pe_op op_modN (pv 2) (pv 3)))
      (pss_cons (ps_set (i := 2) sc_Lfr.nd rfl (.inl rfl) (pv 3))
      (pss_one (ps_set (i := 3) sc_Lfr.nd rfl (.inl rfl) (pv 4))))))
      (pss_cons (ps_if (pt_cmpR op_lt (pv 1) pe_int (nomark _))
        (pss_one (ps_set (i := 2) sc_Lfr.nd rfl (.inl rfl) (pe_op op_sub pe_int (pv 2))))
        pss_nil)
      (pss_one (ps_ret (pe_tup (pa_cons (pe_op op_fdivX (pv 0) (pv 2)) (pa_cons (pe_op op_fdivX (pv 1) (pv 2)) pa_nil))))))))), ?_⟩
    have last : ∀ d : Int, d = frI t b → ∀ p, H p = none → Q (.ref p) (upd H p (.tup [.int (t.fdiv d), .int (b.fdiv d)])) := by
      intro d e p hp
      subst e
      refine q _ _ (Same.new hp) (dF_mk ?_)
      rw [fr_num hb, fr_den hb]
      exact .inl (.inl upd_same)
    have hd : ∀ d : Int, d = frI t b → CDivX t d ∧ CDivX b d := by
      intro d e
      subst e
      have h1 := Nat.lt_of_le_of_lt (frI_natAbs (t := t) hb) hs
      exact ⟨cdiv (frI_ne hb) h1 (by decide) (by decide), cdiv (frI_ne hb) h1 (by decide) (by decide)⟩
    refine ⟨_, rfl, _, rfl, _, rfl, _, rfl, ?_⟩
    refine while_by (fun σ H' => ∃ (a c : Nat) (o : Option V), σ = [some (.int t), some (.int b), some (.int (a : Int)), some (.int (c : Int)), o] ∧ H' = H ∧ Nat.gcd a c = Nat.gcd t.natAbs b.natAbs) (fun σ _ => match σ with | [_, _, _, some (.int b), _] => b.natAbs | _ => 0) ?_ ?_ ?_
    · refine ⟨t.natAbs, b.natAbs, none, ?_, rfl, rfl⟩
      show [some (V.int t), some (V.int b), some (V.int (if t < 0 then -t else t)), some (V.int (if b < 0 then -b else b)), none] = _
      rw [abs_nat, abs_nat]
    · intro σ H' h
      obtain ⟨a, c, o, rfl, rfl, e⟩ := h
      refine ⟨_, rfl, _, _, rfl, rfl, _, rfl, ite2 (fun z => ?_) (fun z => ?_)⟩
      · have hc : 0 < c := by
          have := of_decide_eq_true z
          omega
        refine ⟨_, rfl, _, rfl, _, _, rfl, rfl, (by omega), _, rfl, _, rfl, ⟨c, a % c, some (V.int ((a : Int).fmod (c : Int))), ?_, rfl, ?_⟩, ?_⟩
        · show [some (V.int t), some (V.int b), some (V.int (c : Int)), some (V.int ((a : Int).fmod (c : Int))), some (V.int ((a : Int).fmod (c : Int)))] = _
          rw [fmod_nat]
        · rw [gcd_turn]
          exact e
        · show Int.natAbs (Int.fmod (a : Int) (c : Int)) < Int.natAbs (c : Int)
          rw [fmod_nat]
          have := Nat.mod_lt a hc
          omega
      · have hc : c = 0 := by
          have z2 : ¬ ((0 : Int) < (c : Int)) := fun y => z (decide_eq_true y)
          omega
        subst hc
        rw [Nat.gcd_zero_right] at e
        refine ⟨_, rfl, _, _, rfl, rfl, _, rfl, ite2 (fun z => ?_) (fun z => ?_)⟩
        · have z1 : b < 0 := of_decide_eq_true z
          have e : 0 - (a : Int) = frI t b := by
            unfold frI
            rw [if_pos z1, ← e]
            omega
          refine ⟨_, rfl, _, _, rfl, rfl, _, rfl, _, rfl, _, _, rfl, rfl, (hd _ e).1, _, rfl, _, rfl, _, _, rfl, rfl, (hd _ e).2, (show 2 ≤ sizeLine by decide), fun p hp => last _ e p hp⟩
        · have z1 : ¬ b < 0 := fun y => z (decide_eq_true y)
          have e : (a : Int) = frI t b := by
            unfold frI
            rw [if_neg z1, ← e]
          refine ⟨_, rfl, _, rfl, _, _, rfl, rfl, (hd _ e).1, _, rfl, _, rfl, _, _, rfl, rfl, (hd _ e).2, (show 2 ≤ sizeLine by decide), fun p hp => last _ e p hp⟩
    · intro σ H' Q1 Q2 h12 h
      obtain ⟨v, e, i, j, e1, e2, k, e3, h⟩ := h
      exact ⟨v, e, i, j, e1, e2, k, e3, h12 _ _ h⟩
theorem cl_Lsum (T : Txt K mg) : Cl P w K mg base CX0 2 "_law_sum" (spF2 K (fun x y => x + y) (fun x y => True)) := by
  have c_Lfr := cl_Lfr (P := P) (w := w) (base := base) T
  refine T.d_Lsum.cl sc_Lsum (fun vs H Q E h => ?_) (fun f cdv A outer s H vs Q E hr h => ?_)
  · obtain ⟨u, v, x, y, n, m, rfl, _⟩ := h
    rfl
  · obtain ⟨u, v, x, y, n, m, rfl, hu, hv, sx, sy, hnm, hc, q⟩ := h
    obtain ⟨a, rfl, h0⟩ := dF_at hu
    obtain ⟨b, rfl, h1⟩ := dF_at hv
    refine ⟨_, (pss_one (ps_ret (pe_cl c_Lfr hr (by decide) (by rfl) (pa_cons (pe_op op_add (pe_op op_mulW (pe_ix ix_tup (pv 0) pe_int (fun _ _ => rfl)) (pe_ix ix_tup (pv 1) pe_int (fun _ _ => rfl))) (pe_op op_mulW (pe_ix ix_tup (pv 1) pe_int (fun _ _ => rfl)) (pe_ix ix_tup (pv 0) pe_int (fun _ _ => rfl)))) (pa_cons (pe_op op_mulW (pe_ix ix_tup (pv 0) pe_int (fun _ _ => rfl)) (pe_ix ix_tup (pv 1) pe_int (fun _ _ => rfl))) pa_nil))))), ?_⟩
    refine ⟨_, rfl, _, _, _, _, rfl, rfl, h0, atI_nat (j := 0) rfl, _, rfl, _, _, _, _, rfl, rfl, h1, atI_nat (j := 1) rfl, _, _, rfl, rfl, mnd sx sy hnm, _, rfl, _, _, _, _, rfl, rfl, h1, atI_nat (j := 0) rfl, _, rfl, _, _, _, _, rfl, rfl, h0, atI_nat (j := 1) rfl, _, _, rfl, rfl, mnd' sx sy hnm, _, _, rfl, rfl, _, rfl, _, _, _, _, rfl, rfl, h0, atI_nat (j := 1) rfl, _, rfl, _, _, _, _, rfl, rfl, h1, atI_nat (j := 1) rfl, _, _, rfl, rfl, mdd sx sy hnm, _, _, rfl, ?_, ?_, fun H2 z s2 r2 => ?_⟩
    · exact den_mul_ne x y
    · exact up9 (mul_bits sx.den' sy.den') hnm
    · change Dp K H2 z (dF (Rat.divInt (x.num * (y.den : Int) + y.num * (x.den : Int)) ((x.den : Int) * (y.den : Int)))) at r2
      rw [add_parts] at r2
      exact q _ _ s2 r2
theorem cl_Lminus (T : Txt K mg) : Cl P w K mg base CX0 2 "_law_minus" (spF2 K (fun x y => x - y) (fun x y => True)) := by
  have c_Lfr := cl_Lfr (P := P) (w := w) (base := base) T
  refine T.d_Lminus.cl sc_Lminus (fun vs H Q E h => ?_) (fun f cdv A outer s H vs Q E hr h => ?_)
  · obtain ⟨u, v, x, y, n, m, rfl, _⟩ := h
    rfl
  · obtain ⟨u, v, x, y, n, m, rfl, hu, hv, sx, sy, hnm, hc, q⟩ := h
    obtain ⟨a, rfl, h0⟩ := dF_at hu
    obtain ⟨b, rfl, h1⟩ := dF_at hv
    refine ⟨_, (pss_one (ps_ret (pe_cl c_Lfr hr (by decide) (by rfl) (pa_cons (pe_op op_sub (pe_op op_mulW (pe_ix ix_tup (pv 0) pe_int (fun _ _ => rfl)) (pe_ix ix_tup (pv 1) pe_int (fun _ _ => rfl))) (pe_op op_mulW (pe_ix ix_tup (pv 1) pe_int (fun _ _ => rfl)) (pe_ix ix_tup (pv 0) pe_int (fun _ _ => rfl)))) (pa_cons (pe_op op_mulW (pe_ix ix_tup (pv 0) pe_int (fun _ _ => rfl)) (pe_ix ix_tup (pv 1) pe_int (fun _ _ => rfl))) pa_nil))))), ?_⟩
    refine ⟨_, rfl, _, _, _, _, rfl, rfl, h0, atI_nat (j := 0) rfl, _, rfl, _, _, _, _, rfl, rfl, h1, atI_nat (j := 1) rfl, _, _, rfl, rfl, mnd sx sy hnm, _, rfl, _, _, _, _, rfl, rfl, h1, atI_nat (j := 0) rfl, _, rfl, _, _, _, _, rfl, rfl, h0, atI_nat (j := 1) rfl, _, _, rfl, rfl, mnd' sx sy hnm, _, _, rfl, rfl, _, rfl, _, _, _, _, rfl, rfl, h0, atI_nat (j := 1) rfl, _, rfl, _, _, _, _, rfl, rfl, h1, atI_nat (j := 1) rfl, _, _, rfl, rfl, mdd sx sy hnm, _, _, rfl, ?_, ?_, fun H2 z s2 r2 => ?_⟩
    · exact den_mul_ne x y
    · exact up9 (mul_bits sx.den' sy.den') hnm
    · change Dp K H2 z (dF (Rat.divInt (x.num * (y.den : Int) - y.num * (x.den : Int)) ((x.den : Int) * (y.den : Int)))) at r2
      rw [sub_parts] at r2
      exact q _ _ s2 r2
theorem cl_Ltimes (T : Txt K mg) : Cl P w K mg base CX0 2 "_law_times" (spF2 K (fun x y => x * y) (fun x y => True)) := by
  have c_Lfr := cl_Lfr (P := P) (w := w) (base := base) T
  refine T.d_Ltimes.cl sc_Ltimes (fun vs H Q E h => ?_) (fun f cdv A outer s H vs Q E hr h => ?_)
  · obtain ⟨u, v, x, y, n, m, rfl, _⟩ := h
    rfl
  · obtain ⟨u, v, x, y, n, m, rfl, hu, hv, sx, sy, hnm, hc, q⟩ := h
    obtain ⟨a, rfl, h0⟩ := dF_at hu
    obtain ⟨b, rfl, h1⟩ := dF_at hv
    refine ⟨_, (pss_one (ps_ret (pe_cl c_Lfr hr (by decide) (by rfl) (pa_cons (pe_op op_mulW (pe_ix ix_tup (pv 0) pe_int (fun _ _ => rfl)) (pe_ix ix_tup (pv 1) pe_int (fun _ _ => rfl))) (pa_cons (pe_op op_mulW (pe_ix ix_tup (pv 0) pe_int (fun _ _ => rfl)) (pe_ix ix_tup (pv 1) pe_int (fun _ _ => rfl))) pa_nil))))), ?_⟩
    refine ⟨_, rfl, _, _, _, _, rfl, rfl, h0, atI_nat (j := 0) rfl, _, rfl, _, _, _, _, rfl, rfl, h1, atI_nat (j := 0) rfl, _, _, rfl, rfl, mnn sx sy hnm, _, rfl, _, _, _, _, rfl, rfl, h0, atI_nat (j := 1) rfl, _, rfl, _, _, _, _, rfl, rfl, h1, atI_nat (j := 1) rfl, _, _, rfl, rfl, mdd sx sy hnm, _, _, rfl, ?_, ?_, fun H2 z s2 r2 => ?_⟩
    · exact den_mul_ne x y
    · exact up9 (mul_bits sx.den' sy.den') hnm
    · change Dp K H2 z (dF (Rat.divInt (x.num * y.num) ((x.den : Int) * (y.den : Int)))) at r2
      rw [mul_parts] at r2
      exact q _ _ s2 r2
theorem cl_Lby (T : Txt K mg) : Cl P w K mg base CX0 2 "_law_by" (spF2 K (fun x y => x / y) (fun x y => y ≠ 0)) := by
  have c_Lfr := cl_Lfr (P := P) (w := w) (base := base) T
  refine T.d_Lby.cl sc_Lby (fun vs H Q E h => ?_) (fun f cdv A outer s H vs Q E hr h => ?_)
  · obtain ⟨u, v, x, y, n, m, rfl, _⟩ := h
    rfl
  · obtain ⟨u, v, x, y, n, m, rfl, hu, hv, sx, sy, hnm, hc, q⟩ := h
    obtain ⟨a, rfl, h0⟩ := dF_at hu
    obtain ⟨b, rfl, h1⟩ := dF_at hv
    refine ⟨_, (pss_one (ps_ret (pe_cl c_Lfr hr (by decide) (by rfl) (pa_cons (pe_op op_mulW (pe_ix ix_tup (pv 0) pe_int (fun _ _ => rfl)) (pe_ix ix_tup (pv 1) pe_int (fun _ _ => rfl))) (pa_cons (pe_op op_mulW (pe_ix ix_tup (pv 0) pe_int (fun _ _ => rfl)) (pe_ix ix_tup (pv 1) pe_int (fun _ _ => rfl))) pa_nil))))), ?_⟩
    refine ⟨_, rfl, _, _, _, _, rfl, rfl, h0, atI_nat (j := 0) rfl, _, rfl, _, _, _, _, rfl, rfl, h1, atI_nat (j := 1) rfl, _, _, rfl, rfl, mnd sx sy hnm, _, rfl, _, _, _, _, rfl, rfl, h0, atI_nat (j := 1) rfl, _, rfl, _, _, _, _, rfl, rfl, h1, atI_nat (j := 0) rfl, _, _, rfl, rfl, mdn sx sy hnm, _, _, rfl, ?_, ?_, fun H2 z s2 r2 => ?_⟩
    · exact Int.mul_ne_zero (den_ne x) (num_ne hc)
    · exact up9 (mul_bits sx.den' sy.num) hnm
    · change Dp K H2 z (dF (Rat.divInt (x.num * (y.den : Int)) ((x.den : Int) * y.num))) at r2
      rw [div_parts] at r2
      exact q _ _ s2 r2
theorem cl_is_below (T : Txt K mg) : Cl P w K mg base CX0 1 "is_below" (spLow K) := by
  refine T.d_is_below.cl sc_is_below (fun vs H Q E h => ?_) (fun f cdv A outer s H vs Q E hr h => ?_)
  · obtain ⟨u, v, x, y, n, m, rfl, _⟩ := h
    rfl
  · obtain ⟨u, v, x, y, n, m, rfl, hu, hv, sx, sy, hnm, q⟩ := h
    obtain ⟨a, rfl, h0⟩ := dF_at hu
    obtain ⟨b, rfl, h1⟩ := dF_at hv
    refine ⟨_, (pss_one (ps_ret (pe_cmpR op_lt (pe_op op_mulW (pe_ix ix_tup (pv 0) pe_int (fun _ _ => rfl)) (pe_ix ix_tup (pv 1) pe_int (fun _ _ => rfl))) (pe_op op_mulW (pe_ix ix_tup (pv 1) pe_int (fun _ _ => rfl)) (pe_ix ix_tup (pv 0) pe_int (fun _ _ => rfl))) (nomark _)))), ?_⟩
    refine ⟨_, rfl, _, _, _, _, rfl, rfl, h0, atI_nat (j := 0) rfl, _, rfl, _, _, _, _, rfl, rfl, h1, atI_nat (j := 1) rfl, _, _, rfl, rfl, mnd sx sy hnm, _, rfl, _, _, _, _, rfl, rfl, h1, atI_nat (j := 0) rfl, _, rfl, _, _, _, _, rfl, rfl, h0, atI_nat (j := 1) rfl, _, _, rfl, rfl, mnd' sx sy hnm, _, _, rfl, rfl, ?_⟩
    show Q (.bl (decide (x.num * (y.den : Int) < y.num * (x.den : Int)))) H
    rw [lt_parts]
    exact q
theorem cl_Llow (T : Txt K mg) : Cl P w K mg base CX0 1 "_law_low" (spLow K) := by
  refine T.d_Llow.cl sc_Llow (fun vs H Q E h => ?_) (fun f cdv A outer s H vs Q E hr h => ?_)
  · obtain ⟨u, v, x, y, n, m, rfl, _⟩ := h
    rfl
  · obtain ⟨u, v, x, y, n, m, rfl, hu, hv, sx, sy, hnm, q⟩ := h
    obtain ⟨a, rfl, h0⟩ := dF_at hu
    obtain ⟨b, rfl, h1⟩ := dF_at hv
    refine ⟨_, (pss_one (ps_ret (pe_cmpR op_lt (pe_op op_mulW (pe_ix ix_tup (pv 0) pe_int (fun _ _ => rfl)) (pe_ix ix_tup (pv 1) pe_int (fun _ _ => rfl))) (pe_op op_mulW (pe_ix ix_tup (pv 1) pe_int (fun _ _ => rfl)) (pe_ix ix_tup (pv 0) pe_int (fun _ _ => rfl))) (nomark _)))), ?_⟩
    refine ⟨_, rfl, _, _, _, _, rfl, rfl, h0, atI_nat (j := 0) rfl, _, rfl, _, _, _, _, rfl, rfl, h1, atI_nat (j := 1) rfl, _, _, rfl, rfl, mnd sx sy hnm, _, rfl, _, _, _, _, rfl, rfl, h1, atI_nat (j := 0) rfl, _, rfl, _, _, _, _, rfl, rfl, h0, atI_nat (j := 1) rfl, _, _, rfl, rfl, mnd' sx sy hnm, _, _, rfl, rfl, ?_⟩
    show Q (.bl (decide (x.num * (y.den : Int) < y.num * (x.den : Int)))) H
    rw [lt_parts]
    exact q
theorem cl_lasting (T : Txt K mg) : Cl P w K mg base CX0 4 "lasting" (spSt K lst3) := by
  have c_over := cl_over (P := P) (w := w) (base := base) T
  have c_less := cl_less (P := P) (w := w) (base := base) T
  refine T.d_lasting.cl sc_lasting (fun vs H Q E h => ?_) (fun f cdv A outer s H vs Q E hr h => ?_)
  · obtain ⟨v, x, N, rfl, _⟩ := h
    rfl
  · obtain ⟨v, x, N, rfl, hv, ok, hN, q⟩ := h
    obtain ⟨a, v1, v2, v3, rfl, h0, d1, d2, d3⟩ := dS_at hv
    refine ⟨_, (pss_cons (ps_asg (pv 0) (pg_tup rfl (pgs_cons (pg_name (i := 1) sc_lasting.nd rfl (.inl rfl)) (pgs_cons (pg_name (i := 2) sc_lasting.nd rfl (.inl rfl)) (pgs_cons (pg_name (i := 3) sc_lasting.nd rfl (.inl rfl)) pgs_nil)))))
      (pss_one (ps_ret (pe_cl c_over hr (by decide) (by rfl) (pa_cons (pe_cl c_less hr (by decide) (by rfl) (pa_cons (pv 2) (pa_cons (pv 1) pa_nil))) (pa_cons (pv 3) pa_nil)))))), ?_⟩
    refine ⟨_, rfl, a, _, rfl, h0, rfl, _, _, rfl, _, _, rfl, _, _, rfl, rfl, ?_⟩
    refine ⟨_, rfl, _, rfl, _, _, _, _, N, N, rfl, d2, d1, ok.e, ok.b, by omega, trivial, fun H1 z1 s1 r1 => ?_⟩
    refine ⟨_, rfl, _, _, _, _, N + N + 1, N, rfl, r1, dp_mono s1 _ _ d3, sz_sub ok.e ok.b, ok.p, by omega, ne_of_pos ok.pos, fun H2 z2 s2 r2 => q _ _ (s1.trans s2) r2⟩
theorem cl_Llast (T : Txt K mg) : Cl P w K mg base CX0 3 "_law_last" (spSt K lst3) := by
  have c_Lby := cl_Lby (P := P) (w := w) (base := base) T
  have c_Lminus := cl_Lminus (P := P) (w := w) (base := base) T
  refine T.d_Llast.cl sc_Llast (fun vs H Q E h => ?_) (fun f cdv A outer s H vs Q E hr h => ?_)
  · obtain ⟨v, x, N, rfl, _⟩ := h
    rfl
  · obtain ⟨v, x, N, rfl, hv, ok, hN, q⟩ := h
    obtain ⟨a, v1, v2, v3, rfl, h0, d1, d2, d3⟩ := dS_at hv
    refine ⟨_, (pss_one (ps_ret (pe_cl c_Lby hr (by decide) (by rfl) (pa_cons (pe_cl c_Lminus hr (by decide) (by rfl) (pa_cons (pe_ix ix_tup (pv 0) pe_int (fun _ _ => rfl)) (pa_cons (pe_ix ix_tup (pv 0) pe_int (fun _ _ => rfl)) pa_nil))) (pa_cons (pe_ix ix_tup (pv 0) pe_int (fun _ _ => rfl)) pa_nil))))), ?_⟩
    refine ⟨_, rfl, _, _, _, _, rfl, rfl, h0, atI_nat (j := 1) rfl, _, rfl, _, _, _, _, rfl, rfl, h0, atI_nat (j := 0) rfl, _, _, _, _, N, N, rfl, d2, d1, ok.e, ok.b, by omega, trivial, fun H1 z1 s1 r1 => ?_⟩
    have h1 := Same.tup s1 h0
    refine ⟨_, rfl, _, _, _, _, rfl, rfl, h1, atI_nat (j := 2) rfl, _, _, _, _, N + N + 1, N, rfl, r1, dp_mono s1 _ _ d3, sz_sub ok.e ok.b, ok.p, by omega, ne_of_pos ok.pos, fun H2 z2 s2 r2 => q _ _ (s1.trans s2) r2⟩
theorem cl_length (T : Txt K mg) : Cl P w K mg base CX0 5 "length" (spLen K) := by
  have c_added := cl_added (P := P) (w := w) (base := base) T
  have c_lasting := cl_lasting (P := P) (w := w) (base := base) T
  obtain ⟨aN, g_NOUGHT, hN⟩ := T.c_NOUGHT
  refine T.d_length.cl sc_length (fun vs H Q E h => ?_) (fun f cdv A outer s H vs Q E hr h => ?_)
  · obtain ⟨v, x, N, rfl, _⟩ := h
    rfl
  · obtain ⟨v, xs, N, rfl, hv, ok, hN2, q⟩ := h
    obtain ⟨a, vs, rfl, h0, ha⟩ := dSh_at hv
    have el : vs.length = xs.length := by rw [dpa_len ha, List.length_map]
    refine ⟨_, (pss_cons (ps_set (i := 1) sc_length.nd rfl (.inl rfl) (pe_gl (by rfl) g_NOUGHT))
      (pss_cons (ps_for PassesOwn.never rfl (pi_list (pv 0)) (pg_name (i := 2) sc_length.nd rfl (.inl rfl))
        (pss_one (ps_set (i := 1) sc_length.nd rfl (.inl rfl) (pe_cl c_added hr (by decide) (by rfl) (pa_cons (pv 1) (pa_cons (pe_cl c_lasting hr (by decide) (by rfl) (pa_cons (pv 2) pa_nil)) pa_nil))))))
      (pss_one (ps_ret (pv 1))))), ?_⟩
    refine ⟨_, rfl, a, rfl, ⟨_, h0⟩, for_list (K := K) (a := a) (xs := vs) (fun i σ H' => ∃ (z : V) (c : Option V), σ = [some (.ref a), some z, c] ∧ Same H H' ∧ Dp K H' z (dF (lenS (xs.take i)))) ⟨_, none, rfl, Same.refl _, dF_mk (hN H)⟩ (fun i σ H' _ h => ?_) (fun i y σ H' hy h => ?_) (fun σ H' h => ?_)⟩
    · obtain ⟨z, c, rfl, s1, d1⟩ := h
      exact s1.seq h0
    · obtain ⟨z, c, rfl, s1, d1⟩ := h
      obtain ⟨x, hx, dx⟩ := dpa_map ha hy
      have okx := ok.each x (List.mem_of_getElem? hx)
      refine ⟨_, rfl, _, rfl, _, x, N, rfl, dp_mono s1 _ _ dx, okx, hN2, fun H2 z2 s2 r2 => ?_⟩
      refine ⟨_, _, _, _, N, 3 * N + 1, rfl, dp_mono s2 _ _ d1, r2, ok.sums i, sz_lst okx, by omega, trivial, fun H3 z3 s3 r3 => ?_⟩
      refine ⟨z3, some y, rfl, (s1.trans s2).trans s3, ?_⟩
      rw [lenS_more hx]
      exact r3
    · obtain ⟨z, c, rfl, s1, d1⟩ := h
      rw [el, List.take_length] at d1
      exact ⟨_, rfl, q _ _ s1 d1⟩
theorem cl_Llong (T : Txt K mg) : Cl P w K mg base CX0 4 "_law_long" (spLen K) := by
  have c_Lsum := cl_Lsum (P := P) (w := w) (base := base) T
  have c_Llast := cl_Llast (P := P) (w := w) (base := base) T
  refine T.d_Llong.cl sc_Llong (fun vs H Q E h => ?_) (fun f cdv A outer s H vs Q E hr h => ?_)
  · obtain ⟨v, x, N, rfl, _⟩ := h
    rfl
  · obtain ⟨v, xs, N, rfl, hv, ok, hN2, q⟩ := h
    obtain ⟨a, vs, rfl, h0, ha⟩ := dSh_at hv
    have el : vs.length = xs.length := by rw [dpa_len ha, List.length_map]
    refine ⟨_, (pss_cons (ps_set (i := 1) sc_Llong.nd rfl (.inl rfl) (pe_tup (pa_cons pe_int (pa_cons pe_int pa_nil))))
      (pss_cons (ps_for PassesOwn.never rfl (pi_list (pv 0)) (pg_name (i := 2) sc_Llong.nd rfl (.inl rfl))
        (pss_one (ps_set (i := 1) sc_Llong.nd rfl (.inl rfl) (pe_cl c_Lsum hr (by decide) (by rfl) (pa_cons (pv 1) (pa_cons (pe_cl c_Llast hr (by decide) (by rfl) (pa_cons (pv 2) pa_nil)) pa_nil))))))
      (pss_one (ps_ret (pv 1))))), ?_⟩
    refine ⟨(show 2 ≤ sizeLine by decide), fun p hp => ?_⟩
    have s0 := Same.new (o := .tup [.int 0, .int 1]) hp
    have z0 : Dp K (upd H p (.tup [.int 0, .int 1])) (.ref p) (dF (lenS (xs.take 0))) := dF_mk (.inl (.inl upd_same))
    refine ⟨_, rfl, a, rfl, ⟨_, s0.seq h0⟩, for_list (K := K) (a := a) (xs := vs) (fun i σ H' => ∃ (z : V) (c : Option V), σ = [some (.ref a), some z, c] ∧ Same H H' ∧ Dp K H' z (dF (lenS (xs.take i)))) ⟨_, none, rfl, s0, z0⟩ (fun i σ H' _ h => ?_) (fun i y σ H' hy h => ?_) (fun σ H' h => ?_)⟩
    · obtain ⟨z, c, rfl, s1, d1⟩ := h
      exact s1.seq h0
    · obtain ⟨z, c, rfl, s1, d1⟩ := h
      obtain ⟨x, hx, dx⟩ := dpa_map ha hy
      have okx := ok.each x (List.mem_of_getElem? hx)
      refine ⟨_, rfl, _, rfl, _, x, N, rfl, dp_mono s1 _ _ dx, okx, hN2, fun H2 z2 s2 r2 => ?_⟩
      refine ⟨_, _, _, _, N, 3 * N + 1, rfl, dp_mono s2 _ _ d1, r2, ok.sums i, sz_lst okx, by omega, trivial, fun H3 z3 s3 r3 => ?_⟩
      refine ⟨z3, some y, rfl, (s1.trans s2).trans s3, ?_⟩
      rw [lenS_more hx]
      exact r3
    · obtain ⟨z, c, rfl, s1, d1⟩ := h
      rw [el, List.take_length] at d1
      exact ⟨_, rfl, q _ _ s1 d1⟩
theorem cl_timetable (T : Txt K mg) : Cl P w K mg base CX0 5 "timetable" (spTab K) := by
  have c_added := cl_added (P := P) (w := w) (base := base) T
  have c_lasting := cl_lasting (P := P) (w := w) (base := base) T
  obtain ⟨aN, g_NOUGHT, hN⟩ := T.c_NOUGHT
  refine T.d_timetable.cl sc_timetable (fun vs H Q E h => ?_) (fun f cdv A outer s H vs Q E hr h => ?_)
  · obtain ⟨v, x, N, rfl, _⟩ := h
    rfl
  · obtain ⟨v, xs, N, rfl, hv, ok, hN2, hn, q⟩ := h
    obtain ⟨a, vs, rfl, h0, ha⟩ := dSh_at hv
    have el : vs.length = xs.length := by rw [dpa_len ha, List.length_map]
    refine ⟨_, (pss_cons (ps_set (i := 1) sc_timetable.nd rfl (.inl rfl) (pe_lst pa_nil))
      (pss_cons (ps_set (i := 2) sc_timetable.nd rfl (.inl rfl) (pe_gl (by rfl) g_NOUGHT))
      (pss_cons (ps_for PassesOwn.never rfl (pi_list (pv 0)) (pg_name (i := 3) sc_timetable.nd rfl (.inl rfl))
        (pss_cons (ps_set (i := 4) sc_timetable.nd rfl (.inl rfl) (pe_cl c_added hr (by decide) (by rfl) (pa_cons (pv 2) (pa_cons (pe_cl c_lasting hr (by decide) (by rfl) (pa_cons (pv 3) pa_nil)) pa_nil))))
      (pss_cons (ps_expr (pe_bm PySem.F.plainAttrs_list PySem.F.slot_list_append PySem.F.type_list_append mt_append (pv 1) (pa_cons (pe_tup (pa_cons (pv 2) (pa_cons (pv 4) (pa_cons (pv 3) pa_nil)))) pa_nil)))
      (pss_one (ps_set (i := 2) sc_timetable.nd rfl (.inl rfl) (pv 4))))))
      (pss_one (ps_ret (pv 1)))))), ?_⟩
    refine ⟨Nat.zero_le _, fun r hr0 => ?_⟩
    have s0 := Same.new (o := .lst []) hr0
    refine ⟨_, rfl, a, rfl, ⟨_, s0.seq h0⟩, for_list (K := K) (a := a) (xs := vs) (fun i σ H' => ∃ (z : V) (c d : Option V) (ys : List V), σ = [some (.ref a), some (.ref r), some z, c, d] ∧ Same H H' ∧ H' r = some (.lst ys) ∧ Dp K H' z (dF (lenS (xs.take i))) ∧ DpAll K (hid r r H') ys (((tabF 0 xs).take i).map dRow)) ⟨_, none, none, [], rfl, s0, upd_same, dF_mk (hN _), .nil⟩ (fun i σ H' _ h => ?_) (fun i y σ H' hy h => ?_) (fun σ H' h => ?_)⟩
    · obtain ⟨z, c, d, ys, rfl, s1, hr1, d1, da⟩ := h
      exact s1.seq h0
    · obtain ⟨z, c, d, ys, rfl, s1, hr1, d1, da⟩ := h
      obtain ⟨x, hx, dx⟩ := dpa_map ha hy
      have okx := ok.each x (List.mem_of_getElem? hx)
      refine ⟨_, rfl, _, rfl, _, x, N, rfl, dp_mono s1 _ _ dx, okx, hN2, fun H2 z2 s2 r2 => ?_⟩
      refine ⟨_, _, _, _, N, 3 * N + 1, rfl, dp_mono s2 _ _ d1, r2, ok.sums i, sz_lst okx, by omega, trivial, fun H3 z3 s3 r3 => ?_⟩
      have hr3 := s3 _ _ (s2 _ _ hr1)
      refine ⟨_, rfl, .inl ⟨rfl, _, .inl (.inl hr3)⟩, _, rfl, _, rfl, _, rfl, (show 3 ≤ sizeLine by decide), fun p hp => ?_⟩
      have s4 := Same.new (o := .tup [z, z3, y]) hp
      have hr4 := s4 _ _ hr3
      have s14 := ((s1.trans s2).trans s3).trans s4
      have il : IsL (upd H3 p (.tup [z, z3, y])) r := ⟨_, hr4⟩
      have hlen : ys.length = i := by
        have := dpa_len da
        rw [List.length_map, List.length_take, tabF_len] at this
        have hi : i < xs.length := by
          obtain ⟨hh, _⟩ := List.getElem?_eq_some_iff.mp hx
          exact hh
        omega
      have hi : i < xs.length := by
        obtain ⟨hh, _⟩ := List.getElem?_eq_some_iff.mp hx
        exact hh
      have row : Dp K (hid r r (upd H3 p (.tup [z, z3, y]))) (.ref p) (dRow (0 + lenS (xs.take i), 0 + lenS (xs.take (i + 1)), x)) := by
        refine dRow_mk (hid_tupL il il (.inl (.inl upd_same))) (dp_hid il il _ _ rfl ?_) (dp_hid il il _ _ rfl ?_) (dp_mono (hid_old s14 hr0) _ _ dx)
        · show Dp K _ z (dF (0 + lenS (xs.take i)))
          rw [Rat.zero_add]
          exact dp_mono ((s2.trans s3).trans s4) _ _ d1
        · show Dp K _ z3 (dF (0 + lenS (xs.take (i + 1))))
          rw [Rat.zero_add, lenS_more hx]
          exact dp_mono s4 _ _ r3
      refine ⟨r, ys, _, rfl, rfl, hr4, small1000 (by omega), ?_⟩
      refine ⟨_, rfl, z3, some y, some z3, ys ++ [.ref p], rfl, ?_, upd_same, ?_, ?_⟩
      · intro b o hb
        rw [upd_ne (ne_of_none hb hr0)]
        exact s14 _ _ hb
      · rw [lenS_more hx]
        obtain ⟨az, rfl, hz⟩ := dF_at r3
        have h5 := hid_tupL (b := r) (l := r) il il (Same.tup s4 hz)
        rw [← hid_b (o := .lst (ys ++ [.ref p]))] at h5
        exact dF_mk (Same.tup hid_same h5)
      · rw [hid_b, take_more (show (tabF 0 xs)[i]? = some (0 + lenS (xs.take i), 0 + lenS (xs.take (i + 1)), x) by rw [tabF_get, hx]; rfl), List.map_append]
        refine dpa_snoc (dpa_mono ?_ _ _ da) row
        exact Same.hid ((s2.trans s3).trans s4)
    · obtain ⟨z, c, d, ys, rfl, s1, hr1, d1, da⟩ := h
      rw [el, List.take_of_length_le (by rw [tabF_len]; exact Nat.le_refl _)] at da
      exact ⟨_, rfl, q _ r ys s1 hr0 hr1 (dpa_mono hid_same _ _ da)⟩
theorem cl_place_in (T : Txt K mg) : Cl P w K mg base CX0 4 "place_in" (spPlace K) := by
  have c_added := cl_added (P := P) (w := w) (base := base) T
  have c_timed := cl_timed (P := P) (w := w) (base := base) T
  refine T.d_place_in.cl sc_place_in (fun vs H Q E h => ?_) (fun f cdv A outer s H vs Q E hr h => ?_)
  · obtain ⟨v, u, x, t, N, rfl, _⟩ := h
    rfl
  · obtain ⟨v, u, x, t, N, rfl, hv, hu, ok, st, hN, q⟩ := h
    obtain ⟨a, v1, v2, v3, rfl, h0, d1, d2, d3⟩ := dS_at hv
    refine ⟨_, (pss_cons (ps_asg (pv 0) (pg_tup rfl (pgs_cons (pg_name (i := 2) sc_place_in.nd rfl (.inl rfl)) (pgs_cons (pg_name (i := 3) sc_place_in.nd rfl (.inl rfl)) (pgs_cons (pg_name (i := 4) sc_place_in.nd rfl (.inl rfl)) pgs_nil)))))
      (pss_one (ps_ret (pe_cl c_added hr (by decide) (by rfl) (pa_cons (pv 2) (pa_cons (pe_cl c_timed hr (by decide) (by rfl) (pa_cons (pv 1) (pa_cons (pv 4) pa_nil))) pa_nil)))))), ?_⟩
    refine ⟨_, rfl, a, _, rfl, h0, rfl, _, _, rfl, _, _, rfl, _, _, rfl, rfl, ?_⟩
    refine ⟨_, rfl, _, rfl, _, rfl, _, _, _, _, 2 * N + 1, N, rfl, hu, d3, st, ok.p, by omega, trivial, fun H1 z1 s1 r1 => ?_⟩
    refine ⟨_, _, _, _, N, 2 * N + 1 + N, rfl, dp_mono s1 _ _ d1, r1, ok.b, sz_mul st ok.p, by omega, trivial, fun H2 z2 s2 r2 => q _ _ (s1.trans s2) r2⟩
theorem cl_smaller (T : Txt K mg) : Cl P w K mg base CX0 2 "smaller" (spPick K (fun x y => decide (y < x))) := by
  have c_is_below := cl_is_below (P := P) (w := w) (base := base) T
  refine T.d_smaller.cl sc_smaller (fun vs H Q E h => ?_) (fun f cdv A outer s H vs Q E hr h => ?_)
  · obtain ⟨u, v, x, y, n, m, rfl, _⟩ := h
    rfl
  · obtain ⟨u, v, x, y, n, m, rfl, hu, hv, sx, sy, hnm, q⟩ := h
    refine ⟨_, (pss_one (ps_ret (pe_ifExp (pt_val (pe_cl c_is_below hr (by decide) (by rfl) (pa_cons (pv 1) (pa_cons (pv 0) pa_nil)))) (pv 1) (pv 0)))), ?_⟩
    refine ⟨_, rfl, _, rfl, _, _, y, x, m, n, rfl, hv, hu, sy, sx, by omega, _, rfl, ite2 (fun z => ?_) (fun z => ?_)⟩
    · rw [if_pos z] at q
      exact ⟨_, rfl, q⟩
    · rw [if_neg z] at q
      exact ⟨_, rfl, q⟩
theorem cl_larger (T : Txt K mg) : Cl P w K mg base CX0 2 "larger" (spPick K (fun x y => decide (x < y))) := by
  have c_is_below := cl_is_below (P := P) (w := w) (base := base) T
  refine T.d_larger.cl sc_larger (fun vs H Q E h => ?_) (fun f cdv A outer s H vs Q E hr h => ?_)
  · obtain ⟨u, v, x, y, n, m, rfl, _⟩ := h
    rfl
  · obtain ⟨u, v, x, y, n, m, rfl, hu, hv, sx, sy, hnm, q⟩ := h
    refine ⟨_, (pss_one (ps_ret (pe_ifExp (pt_val (pe_cl c_is_below hr (by decide) (by rfl) (pa_cons (pv 0) (pa_cons (pv 1) pa_nil)))) (pv 1) (pv 0)))), ?_⟩
    refine ⟨_, rfl, _, rfl, _, _, x, y, n, m, rfl, hu, hv, sx, sy, by omega, _, rfl, ite2 (fun z => ?_) (fun z => ?_)⟩
    · rw [if_pos z] at q
      exact ⟨_, rfl, q⟩
    · rw [if_neg z] at q
      exact ⟨_, rfl, q⟩
theorem cl_piece (T : Txt K mg) : Cl P w K mg base CX0 5 "piece" (spPiece K) := by
  have c_place_in := cl_place_in (P := P) (w := w) (base := base) T
  refine T.d_piece.cl sc_piece (fun vs H Q E h => ?_) (fun f cdv A outer s H vs Q E hr h => ?_)
  · obtain ⟨v, u1, u2, x, t1, t2, N, rfl, _⟩ := h
    rfl
  · obtain ⟨v, u1, u2, x, t1, t2, N, rfl, hv, h1, h2, ok, st1, st2, hN, q⟩ := h
    refine ⟨_, (pss_one (ps_ret (pe_tup (pa_cons (pe_cl c_place_in hr (by decide) (by rfl) (pa_cons (pv 0) (pa_cons (pv 1) pa_nil))) (pa_cons (pe_cl c_place_in hr (by decide) (by rfl) (pa_cons (pv 0) (pa_cons (pv 2) pa_nil))) (pa_cons (pe_ix ix_tup (pv 0) pe_int (fun _ _ => rfl)) pa_nil)))))), ?_⟩
    refine ⟨_, rfl, _, rfl, _, _, x, t1, N, rfl, hv, h1, ok, st1, hN, fun H1 z1 s1 r1 => ?_⟩
    refine ⟨_, rfl, _, rfl, _, _, x, t2, N, rfl, dp_mono s1 _ _ hv, dp_mono s1 _ _ h2, ok, st2, hN, fun H2 z2 s2 r2 => ?_⟩
    have hv2 := dp_mono (s1.trans s2) _ _ hv
    obtain ⟨a, v1, v2, v3, rfl, h0, d1, d2, d3⟩ := dS_at hv2
    refine ⟨_, rfl, _, _, _, _, rfl, rfl, h0, atI_nat (j := 2) rfl, (show 3 ≤ sizeLine by decide), fun p hp => ?_⟩
    have s3 := Same.new (o := .tup [z1, z2, v3]) hp
    exact q _ _ ((s1.trans s2).trans s3) (dS_mk (.inl (.inl upd_same)) (dp_mono (s2.trans s3) _ _ r1) (dp_mono s3 _ _ r2) (dp_mono s3 _ _ d3))
theorem cl_normal (T : Txt K mg) : Cl P w K mg base CX0 1 "normal" (spNorm K) := by
  refine T.d_normal.cl sc_normal (fun vs H Q E h => ?_) (fun f cdv A outer s H vs Q E hr h => ?_)
  · obtain ⟨v, xs, rfl, _⟩ := h
    rfl
  · obtain ⟨v, xs, rfl, hv, hn, q⟩ := h
    obtain ⟨a, vs, rfl, h0, ha⟩ := dSh_at hv
    have el : vs.length = xs.length := by rw [dpa_len ha, List.length_map]
    refine ⟨_, (pss_cons (ps_set (i := 1) sc_normal.nd rfl (.inl rfl) (pe_lst pa_nil))
      (pss_cons (ps_for PassesOwn.never rfl (pi_list (pv 0)) (pg_tup rfl (pgs_cons (pg_name (i := 2) sc_normal.nd rfl (.inl rfl)) (pgs_cons (pg_name (i := 3) sc_normal.nd rfl (.inl rfl)) (pgs_cons (pg_name (i := 4) sc_normal.nd rfl (.inl rfl)) pgs_nil))))
        (pss_cons (ps_set (i := 5) sc_normal.nd rfl (.inl rfl) (pv 2))
      (Evl.pss_cut (ps_if (PW.pt (pw_and (pt_truth (pv 1) (by intro _; rfl)) (pw_and (pt_cmpR (op_eqD hr.units) (pe_ix ix_tup (pe_ix ix_list (pv 1) (pe_un un_neg pe_int) (fun _ _ => rfl)) pe_int (fun _ _ => rfl)) (pv 2) (nomark _)) (pw_and1 (pt_cmpR (op_eqD hr.units) (pe_ix ix_tup (pe_ix ix_list (pv 1) (pe_un un_neg pe_int) (fun _ _ => rfl)) pe_int (fun _ _ => rfl)) (pv 4) (nomark _))))))
        (pss_one (ps_set (i := 5) sc_normal.nd rfl (.inl rfl) (pe_ix ix_tup (pe_bm0 PySem.F.plainAttrs_list PySem.F.slot_list_pop PySem.F.type_list_pop mt_pop (pv 1)) pe_int (fun _ _ => rfl))))
        pss_nil)
      (pss_one (ps_expr (pe_bm PySem.F.plainAttrs_list PySem.F.slot_list_append PySem.F.type_list_append mt_append (pv 1) (pa_cons (pe_tup (pa_cons (pv 5) (pa_cons (pv 3) (pa_cons (pv 4) pa_nil)))) pa_nil)))))))
      (pss_one (ps_ret (pv 1))))), ?_⟩
    refine ⟨Nat.zero_le _, fun r hr0 => ?_⟩
    have s0 := Same.new (o := .lst []) hr0
    refine ⟨_, rfl, a, rfl, ⟨_, s0.seq h0⟩, for_list (K := K) (a := a) (xs := vs) (fun i σ H' => ∃ (c1 c2 c3 c4 : Option V) (ys : List V), σ = [some (.ref a), some (.ref r), c1, c2, c3, c4] ∧ Same H H' ∧ H' r = some (.lst ys) ∧ ys.length ≤ i ∧ DpAll K H' ys ((normM (xs.take i)).map dS)) ⟨none, none, none, none, [], rfl, s0, upd_same, Nat.le_refl _, .nil⟩ (fun i σ H' _ h => ?_) (fun i y σ H' hy h => ?_) (fun σ H' h => ?_)⟩
    · obtain ⟨c1, c2, c3, c4, ys, rfl, s1, hr1, hl, da⟩ := h
      exact s1.seq h0
    · obtain ⟨c1, c2, c3, c4, ys, rfl, s1, hr1, hl, da⟩ := h
      obtain ⟨x, hx, dx⟩ := dpa_map ha hy
      have hi : i < xs.length := (List.getElem?_eq_some_iff.mp hx).1
      obtain ⟨p, v1, v2, v3, rfl, hp, d1, d2, d3⟩ := dS_at (dp_mono s1 _ _ dx)
      refine ⟨p, _, rfl, hp, rfl, _, _, rfl, _, _, rfl, _, _, rfl, rfl, ?_⟩
      refine ⟨_, rfl, ?_⟩
      rw [normM_more hx]
      refine ⟨fun σ' H'' => ∃ (fv : V) (fb : Rat) (pre : List St3) (ys2 : List V), σ' = [some (.ref a), some (.ref r), some v1, some v2, some v3, some fv] ∧ Same H H'' ∧ H'' r = some (.lst ys2) ∧ ys2.length ≤ i ∧ DpAll K H'' ys2 (pre.map dS) ∧ Dp K H'' fv (dF fb) ∧ Dp K H'' v2 (dF x.2.1) ∧ Dp K H'' v3 (dF x.2.2) ∧ nstep (normM (xs.take i)) x = pre ++ [(fb, x.2.1, x.2.2)], ?_, fun σ' H'' hM => ?_⟩
      · rcases nstep_cases (normM (xs.take i)) x with ⟨e0, e1⟩ | ⟨pre, l, e0, e1⟩
        · rw [e0] at da
          cases da
          refine ⟨_, rfl, false, .inl ⟨[], .inl (.inl hr1), rfl⟩, iteN rfl ?_⟩
          refine iteN rfl ⟨v1, x.1, [], [], rfl, s1, hr1, Nat.zero_le _, .nil, d1, d2, d3, e1⟩
        · have da0 := da
          rw [e0, List.map_append] at da
          obtain ⟨ys', lv, rfl, da', dl⟩ := dpa_split da
          obtain ⟨pl, l1, l2, l3, rfl, hpl, dl1, dl2, dl3⟩ := dS_at dl
          have sq : SqL K H' r (ys' ++ [.ref pl]) := .inl (.inl hr1)
          refine ⟨_, rfl, true, .inl ⟨_, sq, ?_⟩, iteY rfl ?_⟩
          · cases ys' <;> rfl
          refine ⟨_, rfl, _, rfl, _, _, _, _, rfl, rfl, sq, atI_last _ _, _, _, _, _, rfl, rfl, hpl, atI_nat (j := 1) rfl, _, rfl, ?_⟩
          refine ⟨_, _, dl2, d1, shaped_dF _, shaped_dF _, _, rfl, ?_⟩
          rw [eqv_dF]
          by_cases c1 : l.2.1 = x.1
          · rw [decide_eq_true c1]
            refine iteY rfl ?_
            refine ⟨_, rfl, _, rfl, _, _, _, _, rfl, rfl, sq, atI_last _ _, _, _, _, _, rfl, rfl, hpl, atI_nat (j := 2) rfl, _, rfl, ?_⟩
            refine ⟨_, _, dl3, d3, shaped_dF _, shaped_dF _, _, rfl, ?_⟩
            rw [eqv_dF]
            by_cases c2 : l.2.2 = x.2.2
            · rw [decide_eq_true c2]
              refine iteY rfl ?_
              have Lr : IsL H' r := ⟨_, hr1⟩
              have hpl2 : SqT K (upd H' r (.lst (ys' ++ [V.ref pl]).dropLast)) pl [l1, l2, l3] := Same.tup hid_same (by rw [hid_b]; exact hid_tupL Lr Lr hpl)
              refine ⟨_, rfl, .inl ⟨rfl, _, sq⟩, r, _, .ref pl, rfl, rfl, hr1, ?_, ?_⟩
              · rw [List.length_append]
                show (ys' ++ [V.ref pl])[ys'.length + 1 - 1]? = _
                rw [Nat.add_sub_cancel]
                simp
              refine ⟨_, _, _, _, rfl, rfl, hpl2, atI_nat (j := 0) rfl, l1, l.1, pre, ys', rfl, ?_, ?_, ?_, ?_, ?_, ?_, ?_, ?_⟩
              · intro b o hb
                rw [upd_ne (ne_of_none hb hr0)]
                exact s1 _ _ hb
              · rw [upd_same, List.dropLast_concat]
              · rw [List.length_append] at hl
                simp at hl
                omega
              · exact keepAU da' (tupA_dS _) Lr
              · exact keepU dl1 rfl Lr
              · exact keepU d2 rfl Lr
              · exact keepU d3 rfl Lr
              · rcases e1 with ⟨_, _, e1⟩ | ⟨z, _⟩
                · exact e1
                · exact absurd ⟨c1, c2⟩ z
            · rw [decide_eq_false c2]
              refine iteN rfl ⟨v1, x.1, normM (xs.take i), ys' ++ [.ref pl], rfl, s1, hr1, hl, da0, d1, d2, d3, ?_⟩
              rcases e1 with ⟨_, z, _⟩ | ⟨_, e1⟩
              · exact absurd z c2
              · exact e1
          · rw [decide_eq_false c1]
            refine iteN rfl (iteN rfl ⟨v1, x.1, normM (xs.take i), ys' ++ [.ref pl], rfl, s1, hr1, hl, da0, d1, d2, d3, ?_⟩)
            rcases e1 with ⟨z, _, _⟩ | ⟨_, e1⟩
            · exact absurd z c1
            · exact e1
      · obtain ⟨fv, fb, pre, ys2, rfl, s2, hr2, hl2, da2, d0, d2, d3, e1⟩ := hM
        refine ⟨_, rfl, .inl ⟨rfl, _, .inl (.inl hr2)⟩, _, rfl, _, rfl, _, rfl, (show 3 ≤ sizeLine by decide), fun t ht => ?_⟩
        have s3 := Same.new (o := .tup [fv, v2, v3]) ht
        have hr3 := s3 _ _ hr2
        have Lr : IsL (upd H'' t (.tup [fv, v2, v3])) r := ⟨_, hr3⟩
        refine ⟨r, ys2, _, rfl, rfl, hr3, small1000 (by omega), ?_⟩
        refine ⟨some v1, some v2, some v3, some fv, ys2 ++ [.ref t], rfl, ?_, upd_same, ?_, ?_⟩
        · intro b o hb
          rw [upd_ne (ne_of_none hb hr0)]
          exact s3 _ _ (s2 _ _ hb)
        · rw [List.length_append]
          show ys2.length + 1 ≤ i + 1
          omega
        · rw [e1, List.map_append]
          refine dpa_snoc (keepAU (dpa_mono s3 _ _ da2) (tupA_dS _) Lr) (keepU (d := dS (fb, x.2.1, x.2.2)) ?_ rfl Lr)
          exact dS_mk (.inl (.inl upd_same)) (dp_mono s3 _ _ d0) (dp_mono s3 _ _ d2) (dp_mono s3 _ _ d3)
    · obtain ⟨c1, c2, c3, c4, ys, rfl, s1, hr1, hl, da⟩ := h
      rw [el, List.take_length] at da
      exact ⟨_, rfl, q _ r ys s1 hr0 hr1 da⟩
theorem cl_Lone (T : Txt K mg) : Cl P w K mg base CX0 1 "_law_one" (spNorm K) := by
  refine T.d_Lone.cl sc_Lone (fun vs H Q E h => ?_) (fun f cdv A outer s H vs Q E hr h => ?_)
  · obtain ⟨v, xs, rfl, _⟩ := h
    rfl
  · obtain ⟨v, xs, rfl, hv, hn, q⟩ := h
    obtain ⟨a, vs, rfl, h0, ha⟩ := dSh_at hv
    have el : vs.length = xs.length := by rw [dpa_len ha, List.length_map]
    refine ⟨_, (pss_cons (ps_set (i := 1) sc_Lone.nd rfl (.inl rfl) (pe_lst pa_nil))
      (pss_cons (ps_for PassesOwn.never rfl (pi_list (pv 0)) (pg_name (i := 2) sc_Lone.nd rfl (.inl rfl))
        (Evl.pss_cut (ps_if (PW.pt (pw_and (pt_cmpR (op_neD hr.units) (pv 1) (pe_lst pa_nil) (nomark _)) (pw_and (pt_cmpR (op_eqD hr.units) (pe_ix ix_tup (pe_ix ix_list (pv 1) (pe_un un_neg pe_int) (fun _ _ => rfl)) pe_int (fun _ _ => rfl)) (pe_ix ix_tup (pv 2) pe_int (fun _ _ => rfl)) (nomark _)) (pw_and1 (pt_cmpR (op_eqD hr.units) (pe_ix ix_tup (pe_ix ix_list (pv 1) (pe_un un_neg pe_int) (fun _ _ => rfl)) pe_int (fun _ _ => rfl)) (pe_ix ix_tup (pv 2) pe_int (fun _ _ => rfl)) (nomark _))))))
        (pss_cons (ps_set (i := 3) sc_Lone.nd rfl (.inl rfl) (pe_bm0 PySem.F.plainAttrs_list PySem.F.slot_list_pop PySem.F.type_list_pop mt_pop (pv 1)))
      (pss_one (ps_set (i := 2) sc_Lone.nd rfl (.inl rfl) (pe_tup (pa_cons (pe_ix ix_tup (pv 3) pe_int (fun _ _ => rfl)) (pa_cons (pe_ix ix_tup (pv 2) pe_int (fun _ _ => rfl)) (pa_cons (pe_ix ix_tup (pv 2) pe_int (fun _ _ => rfl)) pa_nil)))))))
        pss_nil)
      (pss_one (ps_expr (pe_bm PySem.F.plainAttrs_list PySem.F.slot_list_append PySem.F.type_list_append mt_append (pv 1) (pa_cons (pv 2) pa_nil))))))
      (pss_one (ps_ret (pv 1))))), ?_⟩
    refine ⟨Nat.zero_le _, fun r hr0 => ?_⟩
    have s0 := Same.new (o := .lst []) hr0
    refine ⟨_, rfl, a, rfl, ⟨_, s0.seq h0⟩, for_list (K := K) (a := a) (xs := vs) (fun i σ H' => ∃ (c1 c2' : Option V) (ys : List V), σ = [some (.ref a), some (.ref r), c1, c2'] ∧ Same H H' ∧ H' r = some (.lst ys) ∧ ys.length ≤ i ∧ DpAll K H' ys ((normM (xs.take i)).map dS)) ⟨none, none, [], rfl, s0, upd_same, Nat.le_refl _, .nil⟩ (fun i σ H' _ h => ?_) (fun i y σ H' hy h => ?_) (fun σ H' h => ?_)⟩
    · obtain ⟨c1, c2', ys, rfl, s1, hr1, hl, da⟩ := h
      exact s1.seq h0
    · obtain ⟨c1, c2', ys, rfl, s1, hr1, hl, da⟩ := h
      obtain ⟨x, hx, dx⟩ := dpa_map ha hy
      have hi : i < xs.length := (List.getElem?_eq_some_iff.mp hx).1
      have dx1 := dp_mono s1 _ _ dx
      refine ⟨fun σ' H'' => ∃ (sv : V) (c : Option V) (x' : St3) (pre : List St3) (ys2 : List V), σ' = [some (.ref a), some (.ref r), some sv, c] ∧ Same H H'' ∧ H'' r = some (.lst ys2) ∧ ys2.length ≤ i ∧ DpAll K H'' ys2 (pre.map dS) ∧ Dp K H'' sv (dS x') ∧ nstep (normM (xs.take i)) x = pre ++ [x'], ?_, fun σ' H'' hM => ?_⟩
      · refine ⟨_, rfl, Nat.zero_le _, fun o no => ?_⟩
        have sN := Same.new (o := .lst []) no
        have hrN := sN _ _ hr1
        have sqN : SqL K (upd H' o (.lst [])) r ys := .inl (.inl hrN)
        have daN := dpa_mono sN _ _ da
        have dxN := dp_mono sN _ _ dx1
        have sA := s1.trans sN
        have he : SqL K (upd H' o (.lst [])) o [] := .inl (.inl upd_same)
        generalize upd H' o (.lst []) = H2 at hrN sqN daN dxN sA he ⊢
        refine ⟨dSh (normM (xs.take i)), dSh [], .lst sqN daN, .lst he .nil, shaped_dSh _, rfl, _, rfl, ?_⟩
        rcases nstep_cases (normM (xs.take i)) x with ⟨e0, e1⟩ | ⟨pre, l, e0, e1⟩
        · rw [e0]
          refine iteN rfl (iteN rfl ⟨y, c2', x, [], ys, rfl, sA, hrN, hl, ?_, dxN, by rw [e0] at e1; exact e1⟩)
          rw [e0] at daN
          exact daN
        · have ne : (!PyData.eqv (dSh (normM (xs.take i))) (dSh [])) = true := by
            rw [e0]
            cases pre <;> rfl
          rw [ne]
          refine iteY rfl ?_
          obtain ⟨p, v1, v2, v3, rfl, hp, d1, d2, d3⟩ := dS_at dxN
          have da := daN
          rw [e0, List.map_append] at da
          obtain ⟨ys', lv, rfl, da', dl⟩ := dpa_split da
          obtain ⟨pl, l1, l2, l3, rfl, hpl, dl1, dl2, dl3⟩ := dS_at dl
          refine ⟨_, rfl, _, rfl, _, _, _, _, rfl, rfl, sqN, atI_last _ _, _, _, _, _, rfl, rfl, hpl, atI_nat (j := 1) rfl, _, rfl, _, _, _, _, rfl, rfl, hp, atI_nat (j := 0) rfl, ?_⟩
          refine ⟨_, _, dl2, d1, shaped_dF _, shaped_dF _, _, rfl, ?_⟩
          rw [eqv_dF]
          by_cases c1 : l.2.1 = x.1
          · rw [decide_eq_true c1]
            refine iteY rfl ?_
            refine ⟨_, rfl, _, rfl, _, _, _, _, rfl, rfl, sqN, atI_last _ _, _, _, _, _, rfl, rfl, hpl, atI_nat (j := 2) rfl, _, rfl, _, _, _, _, rfl, rfl, hp, atI_nat (j := 2) rfl, ?_⟩
            refine ⟨_, _, dl3, d3, shaped_dF _, shaped_dF _, _, rfl, ?_⟩
            rw [eqv_dF]
            by_cases c2 : l.2.2 = x.2.2
            · rw [decide_eq_true c2]
              refine iteY rfl ?_
              have Lr : IsL H2 r := ⟨_, hrN⟩
              refine ⟨_, rfl, .inl ⟨rfl, _, sqN⟩, r, _, .ref pl, rfl, rfl, hrN, ?_, ?_⟩
              · rw [List.length_append]
                show (ys' ++ [V.ref pl])[ys'.length + 1 - 1]? = _
                rw [Nat.add_sub_cancel]
                simp
              have hU : (upd H2 r (.lst (ys' ++ [V.ref pl]).dropLast)) r = some (.lst ys') := by rw [upd_same, List.dropLast_concat]
              have hpl2 : SqT K (upd H2 r (.lst (ys' ++ [V.ref pl]).dropLast)) pl [l1, l2, l3] := Same.tup hid_same (by rw [hid_b]; exact hid_tupL Lr Lr hpl)
              have hp2 : SqT K (upd H2 r (.lst (ys' ++ [V.ref pl]).dropLast)) p [v1, v2, v3] := Same.tup hid_same (by rw [hid_b]; exact hid_tupL Lr Lr hp)
              have sU : Same H (upd H2 r (.lst (ys' ++ [V.ref pl]).dropLast)) := by
                intro b o hb
                rw [upd_ne (ne_of_none hb hr0)]
                exact sA _ _ hb
              have daU : DpAll K (upd H2 r (.lst (ys' ++ [V.ref pl]).dropLast)) ys' (pre.map dS) := keepAU da' (tupA_dS _) Lr
              have k1 : Dp K (upd H2 r (.lst (ys' ++ [V.ref pl]).dropLast)) l1 (dF l.1) := keepU dl1 rfl Lr
              have k2 : Dp K (upd H2 r (.lst (ys' ++ [V.ref pl]).dropLast)) v2 (dF x.2.1) := keepU d2 rfl Lr
              have k3 : Dp K (upd H2 r (.lst (ys' ++ [V.ref pl]).dropLast)) v3 (dF x.2.2) := keepU d3 rfl Lr
              generalize upd H2 r (.lst (ys' ++ [V.ref pl]).dropLast) = H3 at hU hpl2 hp2 sU daU k1 k2 k3 ⊢
              refine ⟨_, rfl, _, _, _, _, rfl, rfl, hpl2, atI_nat (j := 0) rfl, _, rfl, _, _, _, _, rfl, rfl, hp2, atI_nat (j := 1) rfl, _, rfl, _, _, _, _, rfl, rfl, hp2, atI_nat (j := 2) rfl, (show 3 ≤ sizeLine by decide), fun t ht => ?_⟩
              have sT := Same.new (o := .tup [l1, v2, v3]) ht
              refine ⟨.ref t, some (.ref pl), (l.1, x.2.1, x.2.2), pre, ys', rfl, sU.trans sT, sT _ _ hU, ?_, dpa_mono sT _ _ daU, dS_mk (.inl (.inl upd_same)) (dp_mono sT _ _ k1) (dp_mono sT _ _ k2) (dp_mono sT _ _ k3), ?_⟩
              · rw [List.length_append] at hl
                simp at hl
                omega
              · rcases e1 with ⟨_, _, e1⟩ | ⟨z, _⟩
                · exact e1
                · exact absurd ⟨c1, c2⟩ z
            · rw [decide_eq_false c2]
              refine iteN rfl ⟨.ref p, c2', x, normM (xs.take i), ys' ++ [.ref pl], rfl, sA, hrN, hl, daN, dxN, ?_⟩
              rcases e1 with ⟨_, z, _⟩ | ⟨_, e1⟩
              · exact absurd z c2
              · exact e1
          · rw [decide_eq_false c1]
            refine iteN rfl (iteN rfl ⟨.ref p, c2', x, normM (xs.take i), ys' ++ [.ref pl], rfl, sA, hrN, hl, daN, dxN, ?_⟩)
            rcases e1 with ⟨z, _, _⟩ | ⟨_, e1⟩
            · exact absurd z c1
            · exact e1
      · obtain ⟨sv, c, x', pre, ys2, rfl, s2, hr2, hl2, da2, dsv, e1⟩ := hM
        have Lr : IsL H'' r := ⟨_, hr2⟩
        refine ⟨_, rfl, .inl ⟨rfl, _, .inl (.inl hr2)⟩, _, rfl, r, ys2, _, rfl, rfl, hr2, small1000 (by omega), ?_⟩
        refine ⟨some sv, c, ys2 ++ [sv], rfl, ?_, upd_same, ?_, ?_⟩
        · intro b o hb
          rw [upd_ne (ne_of_none hb hr0)]
          exact s2 _ _ hb
        · rw [List.length_append]
          show ys2.length + 1 ≤ i + 1
          omega
        · rw [normM_more hx, e1, List.map_append]
          exact dpa_snoc (keepAU da2 (tupA_dS _) Lr) (keepU dsv rfl Lr)
    · obtain ⟨c1, c2', ys, rfl, s1, hr1, hl, da⟩ := h
      rw [el, List.take_length] at da
      exact ⟨_, rfl, q _ r ys s1 hr0 hr1 da⟩
def spTime (K : PySem.W.Frag) : Sp := fun vs H Q _ => ∃ (b l : Addr) (m : Int), vs = [.ref b, .int m] ∧ Bx H b l ∧ 0 < m ∧ m ≤ 100000 ∧ ∀ H' v (x : Rat), Same (hid b l H) (hid b l H') → Bx H' b l → Dp K H' v (dF x) → Tm m x → Q v H'
theorem cl_Ltime (T : Txt K mg) : Cl P w K mg base CX0 2 "_law_time" (spTime K) := by
  have c_Ltake := cl_Ltake (P := P) (w := w) (base := base) T
  have c_Lfr := cl_Lfr (P := P) (w := w) (base := base) T
  refine T.d_Ltime.cl sc_Ltime (fun vs H Q E h => ?_) (fun f cdv A outer s H vs Q E hr h => ?_)
  · obtain ⟨b, l, m, rfl, _⟩ := h
    rfl
  · obtain ⟨b, l, m, rfl, B, m0, m1, q⟩ := h
    refine ⟨_, (pss_cons (ps_set (i := 2) sc_Ltime.nd rfl (.inl rfl) (pe_cl c_Ltake hr (by decide) (by rfl) (pa_cons (pv 0) (pa_cons (pv 1) pa_nil))))
      (pss_cons (ps_if (pt_cmpR op_eq (pe_cl c_Ltake hr (by decide) (by rfl) (pa_cons (pv 0) (pa_cons pe_int pa_nil))) pe_int (nomark _))
        (pss_one (ps_ret (pe_tup (pa_cons (pv 2) (pa_cons pe_int pa_nil)))))
        pss_nil)
      (pss_cons (ps_set (i := 3) sc_Ltime.nd rfl (.inl rfl) (pe_op op_add pe_int (pe_cl c_Ltake hr (by decide) (by rfl) (pa_cons (pv 0) (pa_cons (pe_ix ix_list (pe_lst (pa_cons pe_int (pa_cons pe_int pa_nil))) (pe_callTy call_int1 (by rfl) T.m_int (by decide +kernel) (pa_cons (pe_cmpR op_eq (pe_cl c_Ltake hr (by decide) (by rfl) (pa_cons (pv 0) (pa_cons pe_int pa_nil))) pe_int (nomark _)) pa_nil)) (fun _ _ => rfl)) pa_nil)))))
      (pss_one (ps_ret (pe_cl c_Lfr hr (by decide) (by rfl) (pa_cons (pv 2) (pa_cons (pv 3) pa_nil)))))))), ?_⟩
    refine ⟨_, rfl, _, rfl, _, l, _, rfl, B, m0, by omega, fun H1 r1 s1 B1 a1 b1 => ?_⟩
    refine ⟨_, rfl, _, l, _, rfl, B1, by decide, by decide, fun H2 r2 s2 B2 a2 b2 => ?_⟩
    refine ⟨rfl, _, rfl, ite2 (fun z => ?_) (fun z => ?_)⟩
    · refine ⟨_, rfl, (show 2 ≤ sizeLine by decide), fun p hp => ?_⟩
      have s3 := Same.new (o := .tup [.int r1, .int 1]) hp
      exact q _ _ (r1 : Rat) ((s1.trans s2).trans (Same.hid s3)) (B2.mono s3) (dF_mk (.inl (.inl upd_same))) (tm_int a1 b1 m1)
    · refine ⟨_, rfl, (show 2 ≤ sizeLine by decide), fun p hp => ?_⟩
      have s3 := Same.new (o := .lst [.int 6, .int 30]) hp
      have B3 := B2.mono s3
      have hP : hid b l (upd H2 p (.lst [.int 6, .int 30])) p = some (.lst [.int 6, .int 30]) := hid_at B2 hp
      refine ⟨_, rfl, _, l, _, rfl, B3, by decide, by decide, fun H4 r4 s4 B4 a4 b4 => ?_⟩
      have hP4 : SqL K H4 p [.int 6, .int 30] := .inl (.inl (hid_same _ _ (s4 _ _ hP)))
      refine ⟨rfl, .inr ⟨_, rfl, p, _, _, .int (if decide (V.int r4 = V.int 1) = true then 30 else 6), rfl, rfl, hP4, ?_, ?_⟩⟩
      · by_cases c : decide (V.int r4 = V.int 1) = true
        · rw [if_pos c, if_pos c]
          exact atI_nat (j := 1) rfl
        · rw [if_neg c, if_neg c]
          exact atI_nat (j := 0) rfl
      have hk : (if decide (V.int r4 = V.int 1) = true then (30 : Int) else 6) = 30 ∨ (if decide (V.int r4 = V.int 1) = true then (30 : Int) else 6) = 6 := by
        by_cases c : decide (V.int r4 = V.int 1) = true
        · rw [if_pos c]
          exact .inl rfl
        · rw [if_neg c]
          exact .inr rfl
      generalize (if decide (V.int r4 = V.int 1) = true then (30 : Int) else 6) = k at hk ⊢
      refine ⟨_, l, _, rfl, B4, by omega, by omega, fun H5 r5 s5 B5 a5 b5 => ?_⟩
      refine ⟨_, _, rfl, rfl, _, rfl, _, rfl, _, _, rfl, (by omega), p20 (by omega), fun H6 z6 s6 d6 => ?_⟩
      exact q _ _ _ ((((s1.trans s2).trans (Same.hid s3)).trans s4).trans (s5.trans (Same.hid s6))) (B5.mono s6) d6 (tm_frac a1 b1 m1 (by omega) (by omega))
def spPace (K : PySem.W.Frag) : Sp := fun vs H Q _ => ∃ (b l : Addr), vs = [.ref b] ∧ Bx H b l ∧ ∀ H' v (x : Rat), Same (hid b l H) (hid b l H') → Bx H' b l → Dp K H' v (dF x) → Sz 4 x → Pc x → Q v H'
theorem cl_Lpace (T : Txt K mg) : Cl P w K mg base CX0 2 "_law_pace" (spPace K) := by
  have c_Ltake := cl_Ltake (P := P) (w := w) (base := base) T
  have c_Lfr := cl_Lfr (P := P) (w := w) (base := base) T
  refine T.d_Lpace.cl sc_Lpace (fun vs H Q E h => ?_) (fun f cdv A outer s H vs Q E hr h => ?_)
  · obtain ⟨b, l, rfl, _⟩ := h
    rfl
  · obtain ⟨b, l, rfl, B, q⟩ := h
    refine ⟨_, (pss_one (ps_ret (pe_ix ix_list (pe_lst (pa_cons (pe_tup (pa_cons pe_int (pa_cons pe_int pa_nil))) (pa_cons (pe_tup (pa_cons pe_int (pa_cons pe_int pa_nil))) (pa_cons (pe_tup (pa_cons pe_int (pa_cons pe_int pa_nil))) (pa_cons (pe_cl c_Lfr hr (by decide) (by rfl) (pa_cons (pe_op op_add pe_int (pe_cl c_Ltake hr (by decide) (by rfl) (pa_cons (pv 0) (pa_cons pe_int pa_nil)))) (pa_cons (pe_op op_add pe_int (pe_cl c_Ltake hr (by decide) (by rfl) (pa_cons (pv 0) (pa_cons pe_int pa_nil)))) pa_nil))) pa_nil))))) (pe_cl c_Ltake hr (by decide) (by rfl) (pa_cons (pv 0) (pa_cons pe_int pa_nil))) (fun _ _ => rfl)))), ?_⟩
    refine ⟨(show 2 ≤ sizeLine by decide), fun p1 hp1 => ⟨(show 2 ≤ sizeLine by decide), fun p2 hp2 => ⟨(show 2 ≤ sizeLine by decide), fun p3 hp3 => ?_⟩⟩⟩
    have t1 := Same.new (o := .tup [.int 1, .int 1]) hp1
    have t2 := Same.new (o := .tup [.int 2, .int 1]) hp2
    have t3 := Same.new (o := .tup [.int 1, .int 2]) hp3
    have d1 : Dp K (upd H p1 (.tup [.int 1, .int 1])) (.ref p1) (dF 1) := dF_mk (.inl (.inl upd_same))
    have d2 : Dp K (upd (upd H p1 (.tup [.int 1, .int 1])) p2 (.tup [.int 2, .int 1])) (.ref p2) (dF 2) := dF_mk (.inl (.inl upd_same))
    have d3 : Dp K (upd (upd (upd H p1 (.tup [.int 1, .int 1])) p2 (.tup [.int 2, .int 1])) p3 (.tup [.int 1, .int 2])) (.ref p3) (dF (Rat.divInt 1 2)) := dF_mk (.inl (.inl upd_same))
    have d1 := dp_mono (t2.trans t3) _ _ d1
    have d2 := dp_mono t3 _ _ d2
    have tA := (t1.trans t2).trans t3
    generalize upd (upd (upd H p1 (.tup [.int 1, .int 1])) p2 (.tup [.int 2, .int 1])) p3 (.tup [.int 1, .int 2]) = H1 at d1 d2 d3 tA ⊢
    have B1 := B.mono tA
    refine ⟨_, rfl, _, l, _, rfl, B1, by decide, by decide, fun H2 r2 s2 B2 a2 b2 => ?_⟩
    refine ⟨_, _, rfl, rfl, _, rfl, _, l, _, rfl, B2, by decide, by decide, fun H3 r3 s3 B3 a3 b3 => ?_⟩
    refine ⟨_, _, rfl, rfl, _, _, rfl, (by omega), p20 (by omega), fun H4 z4 s4 d4 => ?_⟩
    have B4 := B3.mono s4
    have k1 := dp_mono s4 _ _ (frac_keep d1 B1 (s2.trans s3))
    have k2 := dp_mono s4 _ _ (frac_keep d2 B1 (s2.trans s3))
    have k3 := dp_mono s4 _ _ (frac_keep d3 B1 (s2.trans s3))
    refine ⟨(show 4 ≤ sizeLine by decide), fun p hp => ?_⟩
    have s5 := Same.new (o := .lst [.ref p1, .ref p2, .ref p3, z4]) hp
    have B5 := B4.mono s5
    have hP : hid b l (upd H4 p (.lst [.ref p1, .ref p2, .ref p3, z4])) p = some (.lst [.ref p1, .ref p2, .ref p3, z4]) := hid_at B4 hp
    refine ⟨_, rfl, _, l, _, rfl, B5, by decide, by decide, fun H6 r6 s6 B6 a6 b6 => ?_⟩
    have hP6 : SqL K H6 p [.ref p1, .ref p2, .ref p3, z4] := .inl (.inl (hid_same _ _ (s6 _ _ hP)))
    have sZ := ((Same.hid (b := b) (l := l) tA).trans (s2.trans s3)).trans ((Same.hid (s4.trans s5)).trans s6)
    have m1 := frac_keep (dp_mono s5 _ _ k1) B5 s6
    have m2 := frac_keep (dp_mono s5 _ _ k2) B5 s6
    have m3 := frac_keep (dp_mono s5 _ _ k3) B5 s6
    have m4 := frac_keep (dp_mono s5 _ _ d4) B5 s6
    obtain e | e | e | e : r6 = 0 ∨ r6 = 1 ∨ r6 = 2 ∨ r6 = 3 := by omega
    · subst e
      exact ⟨_, _, _, _, rfl, rfl, hP6, atI_nat (j := 0) rfl, q _ _ _ sZ B6 m1 ⟨by decide, by decide⟩ ⟨by decide, by decide, by decide⟩⟩
    · subst e
      exact ⟨_, _, _, _, rfl, rfl, hP6, atI_nat (j := 1) rfl, q _ _ _ sZ B6 m2 ⟨by decide, by decide⟩ ⟨by decide, by decide, by decide⟩⟩
    · subst e
      exact ⟨_, _, _, _, rfl, rfl, hP6, atI_nat (j := 2) rfl, q _ _ _ sZ B6 m3 (sz_divInt (by decide) (by decide) (by decide)) (pc_frac (by decide) (by decide) (by decide) (by decide))⟩
    · subst e
      exact ⟨_, _, _, _, rfl, rfl, hP6, atI_nat (j := 3) rfl, q _ _ _ sZ B6 m4 (sz_divInt (by omega) (by omega) (by omega)) (pc_frac (by omega) (by omega) (by omega) (by omega))⟩
def spWithin (K : PySem.W.Frag) : Sp := fun vs H Q _ => ∃ (b l : Addr) (u : V) (w : Rat) (N : Nat), vs = [.ref b, u] ∧ Bx H b l ∧ Dp K H u (dF w) ∧ Sz N w ∧ N ≤ 4000 ∧ ∀ H' v (q : Rat), Same (hid b l H) (hid b l H') → Bx H' b l → Dp K H' v (dF (w * q)) → Wq q → Q v H'
theorem cl_Lwithin (T : Txt K mg) : Cl P w K mg base CX0 3 "_law_within" (spWithin K) := by
  have c_Ltake := cl_Ltake (P := P) (w := w) (base := base) T
  have c_Lfr := cl_Lfr (P := P) (w := w) (base := base) T
  have c_Ltimes := cl_Ltimes (P := P) (w := w) (base := base) T
  refine T.d_Lwithin.cl sc_Lwithin (fun vs H Q E h => ?_) (fun f cdv A outer s H vs Q E hr h => ?_)
  · obtain ⟨b, l, u, x, N, rfl, _⟩ := h
    rfl
  · obtain ⟨b, l, u, x, N, rfl, B, du, sx, hN, q⟩ := h
    refine ⟨_, (pss_cons (ps_set (i := 2) sc_Lwithin.nd rfl (.inl rfl) (pe_cl c_Ltake hr (by decide) (by rfl) (pa_cons (pv 0) (pa_cons pe_int pa_nil))))
      (pss_cons (ps_if (pt_cmpR op_eq (pv 2) pe_int (nomark _))
        (pss_one (ps_ret (pe_cl c_Ltimes hr (by decide) (by rfl) (pa_cons (pv 1) (pa_cons (pe_cl c_Lfr hr (by decide) (by rfl) (pa_cons (pe_cl c_Ltake hr (by decide) (by rfl) (pa_cons (pv 0) (pa_cons pe_int pa_nil))) (pa_cons pe_int pa_nil))) pa_nil)))))
        pss_nil)
      (pss_one (ps_ret (pe_cl c_Ltimes hr (by decide) (by rfl) (pa_cons (pv 1) (pa_cons (pe_cl c_Lfr hr (by decide) (by rfl) (pa_cons (pe_op op_mod (pv 2) pe_int) (pa_cons pe_int pa_nil))) pa_nil))))))), ?_⟩
    refine ⟨_, rfl, _, l, _, rfl, B, by decide, by decide, fun H1 r1 s1 B1 a1 b1 => ?_⟩
    have du1 := frac_keep du B s1
    refine ⟨_, rfl, rfl, _, rfl, ite2 (fun z => ?_) (fun z => ?_)⟩
    · refine ⟨_, rfl, _, rfl, _, l, _, rfl, B1, by decide, by decide, fun H2 r2 s2 B2 a2 b2 => ?_⟩
      have du2 := frac_keep du1 B1 s2
      refine ⟨_, _, rfl, (by decide), p20 (by decide), fun H3 z3 s3 d3 => ?_⟩
      refine ⟨_, _, _, _, N, 7, rfl, dp_mono s3 _ _ du2, d3, sx, sz_divInt (by omega) (by decide) (by decide), by omega, trivial, fun H4 z4 s4 d4 => ?_⟩
      exact q _ _ _ ((s1.trans s2).trans (Same.hid (s3.trans s4))) (B2.mono (s3.trans s4)) d4 (wq_frac (by omega) (by omega) (by decide) (by decide) (by decide))
    · refine ⟨_, rfl, _, rfl, _, _, rfl, rfl, (show (0 : Int) < 12 by decide), _, _, rfl, (by decide), p20 (by decide), fun H3 z3 s3 d3 => ?_⟩
      have hb : (r1 % 12).natAbs < 2 ^ 7 := by omega
      refine ⟨_, _, _, _, N, 7, rfl, dp_mono s3 _ _ du1, d3, sx, sz_divInt hb (by decide) (by decide), by omega, trivial, fun H4 z4 s4 d4 => ?_⟩
      exact q _ _ _ (s1.trans (Same.hid (s3.trans s4))) (B1.mono (s3.trans s4)) d4 (wq_frac (by omega) (by omega) (by decide) (by decide) (by decide))
def spShow (K : PySem.W.Frag) : Sp := fun vs H Q _ => ∃ (b l : Addr), vs = [.ref b] ∧ Bx H b l ∧ ∀ H' p ys (xs : List St3), Same (hid b l H) (hid b l H') → Bx H' b l → H p = none → hid b l H' p = some (.lst ys) → DpAll K H' ys (xs.map dS) → xs.length ≤ 6 → (∀ s ∈ xs, StOk 80 s) → (∀ s ∈ xs, Fs L30 [] s) → Q (.ref p) H'
theorem mem_snoc {α : Type} {P : α → Prop} {xs : List α} {x : α} (h : ∀ s ∈ xs, P s) (hx : P x) : ∀ s ∈ xs ++ [x], P s := by
  intro s hs
  rcases List.mem_append.mp hs with h1 | h1
  · exact h s h1
  · rw [List.mem_singleton.mp h1]
    exact hx
theorem hid_upd {b l r : Addr} {H : Hp} {o : HO} {ys : List V} (h : hid b l H r = some (.lst ys)) : hid b l (upd H r o) r = some o ∧ ∀ G, (∀ a x, a ≠ r → hid b l G a = some x → hid b l H a = some x) → G r = none → Same (hid b l G) (hid b l (upd H r o)) := by
  have hr : ¬ (r = b ∨ r = l) := fun z => by
    unfold hid at h
    rw [if_pos z] at h
    cases h
  refine ⟨by unfold hid; rw [if_neg hr, upd_same], fun G k hG a x ha => ?_⟩
  have har : a ≠ r := fun e => by
    unfold hid at ha
    rw [e, if_neg hr, hG] at ha
    cases ha
  have := k a x har ha
  unfold hid at this ⊢
  split
  · rename_i z
    rw [if_pos z] at this
    cases this
  · rename_i z
    rw [if_neg z] at this
    rw [upd_ne har]
    exact this
theorem bx_upd {b l r : Addr} {H : Hp} {o : HO} {ys : List V} (B : Bx H b l) (h : hid b l H r = some (.lst ys)) : Bx (upd H r o) b l := by
  have hr : ¬ (r = b ∨ r = l) := fun z => by
    unfold hid at h
    rw [if_pos z] at h
    cases h
  obtain ⟨xs, st, h1, h2⟩ := B.ex
  exact ⟨B.ne, xs, st, by rw [upd_ne (fun e => hr (.inl e.symm))]; exact h1, by rw [upd_ne (fun e => hr (.inr e.symm))]; exact h2⟩
theorem pc_of {D : Nat} {s : St3} (a : Fs D [] s) : Pc s.2.2 := by
  obtain ⟨p, x, e, h1, h2⟩ := a.pc
  cases h2
  rw [e, show p * 1 = p by grind]
  exact h1
theorem cl_Lshow (T : Txt K mg) : Cl P w K mg base CX0 3 "_law_show" (spShow K) := by
  have c_Ltake := cl_Ltake (P := P) (w := w) (base := base) T
  have c_Ltime := cl_Ltime (P := P) (w := w) (base := base) T
  have c_Lpace := cl_Lpace (P := P) (w := w) (base := base) T
  have c_Lsum := cl_Lsum (P := P) (w := w) (base := base) T
  refine T.d_Lshow.cl sc_Lshow (fun vs H Q E h => ?_) (fun f cdv A outer s H vs Q E hr h => ?_)
  · obtain ⟨b, l, rfl, _⟩ := h
    rfl
  · obtain ⟨b, l, rfl, B, q⟩ := h
    refine ⟨_, (pss_cons (ps_set (i := 1) sc_Lshow.nd rfl (.inl rfl) (pe_lst pa_nil))
      (pss_cons (ps_for PassesOwn.never rfl (pi_range1 (by rfl) T.m_range (pa_cons (pe_ix ix_list (pe_lst (pa_cons (pe_cl c_Ltake hr (by decide) (by rfl) (pa_cons (pv 0) (pa_cons pe_int pa_nil))) (pa_cons (pe_cl c_Ltake hr (by decide) (by rfl) (pa_cons (pv 0) (pa_cons pe_int pa_nil))) pa_nil))) (pe_callTy call_int1 (by rfl) T.m_int (by decide +kernel) (pa_cons (pe_cmpR op_eq (pe_cl c_Ltake hr (by decide) (by rfl) (pa_cons (pv 0) (pa_cons pe_int pa_nil))) pe_int (nomark _)) pa_nil)) (fun _ _ => rfl)) pa_nil)) (pg_name (i := 2) sc_Lshow.nd rfl (.inl rfl))
        (pss_cons (ps_set (i := 3) sc_Lshow.nd rfl (.inl rfl) (pe_cl c_Ltime hr (by decide) (by rfl) (pa_cons (pv 0) (pa_cons pe_int pa_nil))))
      (pss_cons (ps_set (i := 4) sc_Lshow.nd rfl (.inl rfl) (pe_cl c_Lpace hr (by decide) (by rfl) (pa_cons (pv 0) pa_nil)))
      (Evl.pss_cut (ps_if (PW.pt (pw_and (pt_cmpR (op_neD hr.units) (pv 1) (pe_lst pa_nil) (nomark _)) (pw_and1 (pt_cmpR op_eq (pe_cl c_Ltake hr (by decide) (by rfl) (pa_cons (pv 0) (pa_cons pe_int pa_nil))) pe_int (nomark _)))))
        (pss_cons (ps_set (i := 3) sc_Lshow.nd rfl (.inl rfl) (pe_ix ix_tup (pe_ix ix_list (pv 1) (pe_un un_neg pe_int) (fun _ _ => rfl)) pe_int (fun _ _ => rfl)))
      (pss_one (ps_set (i := 4) sc_Lshow.nd rfl (.inl rfl) (pe_ix ix_list (pe_lst (pa_cons (pe_ix ix_tup (pe_ix ix_list (pv 1) (pe_un un_neg pe_int) (fun _ _ => rfl)) pe_int (fun _ _ => rfl)) (pa_cons (pv 4) pa_nil))) (pe_callTy call_int1 (by rfl) T.m_int (by decide +kernel) (pa_cons (pe_cmpR op_eq (pe_cl c_Ltake hr (by decide) (by rfl) (pa_cons (pv 0) (pa_cons pe_int pa_nil))) pe_int (nomark _)) pa_nil)) (fun _ _ => rfl)))))
        pss_nil)
      (pss_one (ps_expr (pe_bm PySem.F.plainAttrs_list PySem.F.slot_list_append PySem.F.type_list_append mt_append (pv 1) (pa_cons (pe_tup (pa_cons (pv 3) (pa_cons (pe_cl c_Lsum hr (by decide) (by rfl) (pa_cons (pv 3) (pa_cons (pe_cl c_Lsum hr (by decide) (by rfl) (pa_cons (pe_tup (pa_cons pe_int (pa_cons pe_int pa_nil))) (pa_cons (pe_cl c_Ltime hr (by decide) (by rfl) (pa_cons (pv 0) (pa_cons pe_int pa_nil))) pa_nil))) pa_nil))) (pa_cons (pv 4) pa_nil)))) pa_nil))))))))
      (pss_one (ps_ret (pv 1))))), ?_⟩
    refine ⟨Nat.zero_le _, fun r hr0 => ?_⟩
    have s0 := Same.new (o := .lst []) hr0
    have B0 := B.mono s0
    have hr1 : hid b l (upd H r (.lst [])) r = some (.lst []) := hid_at B hr0
    have s0 : Same (hid b l H) (hid b l (upd H r (.lst []))) := Same.hid s0
    generalize upd H r (.lst []) = H0 at s0 B0 hr1 ⊢
    -- how many
    refine ⟨_, rfl, _, l, _, rfl, B0, by decide, by decide, fun H1 r1 s1 B1 a1 b1 => ?_⟩
    refine ⟨_, rfl, _, l, _, rfl, B1, by decide, by decide, fun H2 r2 s2 B2 a2 b2 => ?_⟩
    refine ⟨(show 2 ≤ sizeLine by decide), fun p hp => ?_⟩
    have s3 := Same.new (o := .lst [.int r1, .int r2]) hp
    have B3 := B2.mono s3
    have hP : hid b l (upd H2 p (.lst [.int r1, .int r2])) p = some (.lst [.int r1, .int r2]) := hid_at B2 hp
    refine ⟨_, rfl, _, l, _, rfl, B3, by decide, by decide, fun H4 r4 s4 B4 a4 b4 => ?_⟩
    have hP4 : SqL K H4 p [.int r1, .int r2] := .inl (.inl (hid_same _ _ (s4 _ _ hP)))
    have sT := (((s0.trans s1).trans s2).trans (Same.hid s3)).trans s4
    have hr4 : hid b l H4 r = some (.lst []) := s4 _ _ (Same.hid s3 _ _ (s2 _ _ (s1 _ _ hr1)))
    refine ⟨rfl, .inr ⟨_, rfl, p, _, _, .int (if decide (V.int r4 = V.int 1) = true then r2 else r1), rfl, rfl, hP4, ?_, ?_⟩⟩
    · by_cases c : decide (V.int r4 = V.int 1) = true
      · rw [if_pos c, if_pos c]
        exact atI_nat (j := 1) rfl
      · rw [if_neg c, if_neg c]
        exact atI_nat (j := 0) rfl
    have hk : 0 ≤ (if decide (V.int r4 = V.int 1) = true then r2 else r1) ∧ (if decide (V.int r4 = V.int 1) = true then r2 else r1) ≤ 6 := by
      split <;> omega
    generalize (if decide (V.int r4 = V.int 1) = true then r2 else r1) = n at hk ⊢
    refine ⟨n, rfl, by omega, by omega, for_range (lo := 0) (n := n.toNat) (fun i σ H' => ∃ (c1 c2 c3 : Option V) (ys : List V) (xs : List St3), σ = [some (.ref b), some (.ref r), c1, c2, c3] ∧ Same (hid b l H) (hid b l H') ∧ Bx H' b l ∧ hid b l H' r = some (.lst ys) ∧ DpAll K H' ys (xs.map dS) ∧ xs.length = i ∧ ∀ s ∈ xs, StOk (10 * i + 10) s ∧ Fs L30 [] s ∧ s.2.1 ≤ bnd i) ⟨none, none, none, [], [], rfl, sT, B4, hr4, .nil, rfl, fun s hs => by cases hs⟩ (fun i σ H' hi h => ?_) (fun σ H' h => ?_)⟩
    · obtain ⟨c1, c2, c3, ys, xs, rfl, s5, B5, hr5, da, hl, ok⟩ := h
      have ly : ys.length = i := by rw [dpa_len da, List.length_map, hl]
      have hi6 : i ≤ 5 := by omega
      refine ⟨_, rfl, _, l, _, rfl, B5, by decide, by decide, fun H6 vb xb s6 B6 db tb => ?_⟩
      have zb := tb.s6 (by decide)
      have da6 := keepA da (tupA_dS _) B5.lb B5.ll s6
      have hr6 := s6 _ _ hr5
      refine ⟨_, rfl, _, l, rfl, B6, fun H7 vp xp s7 B7 dp zp cp => ?_⟩
      have pp := cp.pos
      have tb0 := tb.lo
      have tb1 : xb ≤ bnd i := Rat.le_trans tb.hi (bnd_le i)
      have tb2 := tb.iz
      have da7 := keepA da6 (tupA_dS _) B6.lb B6.ll s7
      have db7 := frac_keep db B6 s7
      have hr7 := s7 _ _ hr6
      have sA := (s5.trans s6).trans s7
      refine ⟨fun σ' H'' => ∃ (vb vp : V) (xb xp : Rat), σ' = [some (.ref b), some (.ref r), some (.int (0 + i)), some vb, some vp] ∧ Same (hid b l H) (hid b l H'') ∧ Bx H'' b l ∧ hid b l H'' r = some (.lst ys) ∧ DpAll K H'' ys (xs.map dS) ∧ Dp K H'' vb (dF xb) ∧ Dp K H'' vp (dF xp) ∧ Sz (10 * i + 10) xb ∧ Sz (10 * i + 10) xp ∧ Pc xp ∧ Iz L30 xb ∧ 0 ≤ xb ∧ xb ≤ bnd i, ?_, fun σ' H'' hM => ?_⟩
      · refine ⟨_, rfl, Nat.zero_le _, fun o no => ?_⟩
        have sN := Same.new (o := .lst []) no
        have B8 := B7.mono sN
        have hr8 := Same.hid (b := b) (l := l) sN _ _ hr7
        have da8 := dpa_mono sN _ _ da7
        have db8 := dp_mono sN _ _ db7
        have dp8 := dp_mono sN _ _ dp
        have sB := sA.trans (Same.hid sN)
        have he : SqL K (upd H7 o (.lst [])) o [] := .inl (.inl upd_same)
        generalize upd H7 o (.lst []) = H8 at B8 hr8 da8 db8 dp8 sB he ⊢
        have sq8 : SqL K H8 r ys := .inl (.inl (hid_same _ _ hr8))
        refine ⟨dSh xs, dSh [], .lst sq8 da8, .lst he .nil, shaped_dSh _, rfl, _, rfl, ?_⟩
        rcases List.eq_nil_or_concat xs with e0 | ⟨pre, ls, e0⟩
        · rw [e0] at da8 ⊢
          exact iteN rfl (iteN rfl ⟨vb, vp, xb, xp, rfl, sB, B8, hr8, da8, db8, dp8, zb.mono (by omega), zp.mono (by omega), cp, tb2, tb0, tb1⟩)
        · have e0 : xs = pre ++ [ls] := by rw [e0]; simp
          rw [show (!PyData.eqv (dSh xs) (dSh [])) = true by rw [e0]; cases pre <;> rfl]
          refine iteY rfl ?_
          refine ⟨_, rfl, _, l, _, rfl, B8, by decide, by decide, fun H9 r9 s9 B9 a9 b9 => ?_⟩
          have da9 := keepA da8 (tupA_dS _) B8.lb B8.ll s9
          have db9 := frac_keep db8 B8 s9
          have dp9 := frac_keep dp8 B8 s9
          have hr9 := s9 _ _ hr8
          have sC := sB.trans s9
          refine ⟨rfl, _, rfl, ite2 (fun z => ?_) (fun z => ?_)⟩
          · obtain ⟨okl, fl, bl⟩ := ok ls (by rw [e0]; exact List.mem_append_right _ (List.mem_singleton.mpr rfl))
            have sq9 : SqL K H9 r ys := .inl (.inl (hid_same _ _ hr9))
            have da := da9
            rw [e0, List.map_append] at da
            obtain ⟨ys', lv, ey, da', dl⟩ := dpa_split da
            obtain ⟨pl, l1, l2, l3, rfl, hpl, dl1, dl2, dl3⟩ := dS_at dl
            subst ey
            refine ⟨_, rfl, _, rfl, _, _, _, _, rfl, rfl, sq9, atI_last _ _, _, _, _, _, rfl, rfl, hpl, atI_nat (j := 1) rfl, ?_⟩
            refine ⟨_, rfl, _, rfl, _, _, _, _, rfl, rfl, sq9, atI_last _ _, _, _, _, _, rfl, rfl, hpl, atI_nat (j := 2) rfl, _, rfl, (show 2 ≤ sizeLine by decide), fun p2 hp2 => ?_⟩
            have t2 := Same.new (o := .lst [l3, vp]) hp2
            have Ba := B9.mono t2
            have hP2 : hid b l (upd H9 p2 (.lst [l3, vp])) p2 = some (.lst [l3, vp]) := hid_at B9 hp2
            refine ⟨_, rfl, _, l, _, rfl, Ba, by decide, by decide, fun Hb rb sb Bb ab bb => ?_⟩
            have hPb : SqL K Hb p2 [l3, vp] := .inl (.inl (hid_same _ _ (sb _ _ hP2)))
            have sD := sC.trans ((Same.hid t2).trans sb)
            have hrb := sb _ _ (Same.hid (b := b) (l := l) t2 _ _ hr9)
            have dab := keepA (dpa_mono t2 _ _ da9) (tupA_dS _) Ba.lb Ba.ll sb
            have k2 := frac_keep (dp_mono t2 _ _ dl2) Ba sb
            have k3 := frac_keep (dp_mono t2 _ _ dl3) Ba sb
            have kp := frac_keep (dp_mono t2 _ _ dp9) Ba sb
            refine ⟨rfl, .inr ⟨_, rfl, ?_⟩⟩
            by_cases c : decide (V.int rb = V.int 1) = true
            · rw [if_pos c]
              exact ⟨_, _, _, _, rfl, rfl, hPb, atI_nat (j := 1) rfl, l2, vp, ls.2.1, xp, rfl, sD, Bb, hrb, dab, k2, kp, okl.e, zp.mono (by omega), cp, fl.ze, (by have h1 := fl.b0; have h2 := fl.lt; grind), bl⟩
            · rw [if_neg c]
              exact ⟨_, _, _, _, rfl, rfl, hPb, atI_nat (j := 0) rfl, l2, l3, ls.2.1, ls.2.2, rfl, sD, Bb, hrb, dab, k2, k3, okl.e, okl.p, pc_of fl, fl.ze, (by have h1 := fl.b0; have h2 := fl.lt; grind), bl⟩
          · exact ⟨vb, vp, xb, xp, rfl, sC, B9, hr9, da9, db9, dp9, zb.mono (by omega), zp.mono (by omega), cp, tb2, tb0, tb1⟩
      · clear db zb dp zp pp db7 sA tb cp tb0 tb1 tb2
        obtain ⟨vb, vp, xb, xp, rfl, s8, B8, hr8, da8, db, dp, zb, zp, cp, tb2, tb0, tb1⟩ := hM
        have pp := cp.pos
        refine ⟨_, rfl, .inl ⟨rfl, _, .inl (.inl (hid_same _ _ hr8))⟩, _, rfl, _, rfl, (show 2 ≤ sizeLine by decide), fun p1 hp1 => ?_⟩
        have t1 := Same.new (o := .tup [.int 1, .int 2]) hp1
        have dh : Dp K (upd H'' p1 (.tup [.int 1, .int 2])) (.ref p1) (dF (Rat.divInt 1 2)) := dF_mk (.inl (.inl upd_same))
        have B9 := B8.mono t1
        have hr9 := Same.hid (b := b) (l := l) t1 _ _ hr8
        have s9 := s8.trans (Same.hid t1)
        have da9 := dpa_mono t1 _ _ da8
        have db9 := dp_mono t1 _ _ db
        have dp9 := dp_mono t1 _ _ dp
        generalize upd H'' p1 (.tup [.int 1, .int 2]) = H9 at dh B9 hr9 s9 da9 db9 dp9 ⊢
        refine ⟨_, rfl, _, l, _, rfl, B9, by decide, by decide, fun Ha vt xt sa Ba dt tt0 => ?_⟩
        have zt := tt0.s6 (by decide)
        obtain ⟨fn, bn⟩ := fs_drawn hi6 tb2 tb0 tb1 tt0 cp
        have dh := frac_keep dh B9 sa
        have da := keepA da9 (tupA_dS _) B9.lb B9.ll sa
        have db := frac_keep db9 B9 sa
        have dp := frac_keep dp9 B9 sa
        have hra := sa _ _ hr9
        have zh : Sz 2 (Rat.divInt 1 2) := sz_divInt (by decide) (by decide) (by decide)
        refine ⟨_, _, _, _, 2, 6, rfl, dh, dt, zh, zt, by decide, trivial, fun Hb vs' sb ds' => ?_⟩
        refine ⟨_, _, _, _, 10 * i + 10, 9, rfl, dp_mono sb _ _ db, ds', zb, sz_add zh zt, by omega, trivial, fun Hc ve sc de => ?_⟩
        refine ⟨_, rfl, (show 3 ≤ sizeLine by decide), fun p2 hp2 => ?_⟩
        have t2 := Same.new (o := .tup [vb, ve, vp]) hp2
        have tt := (sb.trans sc).trans t2
        have Bd := Ba.mono tt
        have hrd := Same.hid (b := b) (l := l) tt _ _ hra
        have dad := dpa_mono tt _ _ da
        have dn : Dp K (upd Hc p2 (.tup [vb, ve, vp])) (.ref p2) (dS (xb, xb + (Rat.divInt 1 2 + xt), xp)) := dS_mk (.inl (.inl upd_same)) (dp_mono tt _ _ db) (dp_mono t2 _ _ de) (dp_mono tt _ _ dp)
        have sd := (s9.trans sa).trans (Same.hid tt)
        generalize upd Hc p2 (.tup [vb, ve, vp]) = Hd at tt Bd hrd dad dn sd ⊢
        have Lr : IsL Hd r := ⟨_, hid_same _ _ hrd⟩
        have okn : StOk (10 * (i + 1) + 10) (xb, xb + (Rat.divInt 1 2 + xt), xp) := ⟨zb.mono (by omega), (sz_add zb (sz_add zh zt)).mono (by omega), zp.mono (by omega), pp⟩
        refine ⟨r, ys, _, rfl, rfl, hid_same _ _ hrd, small1000 (by omega), ?_⟩
        refine ⟨_, _, _, ys ++ [.ref p2], xs ++ [(xb, xb + (Rat.divInt 1 2 + xt), xp)], rfl, (hid_upd hrd).2 H (fun a x _ ha => sd _ _ ha) hr0, bx_upd Bd hrd, (hid_upd hrd).1, ?_, ?_, ?_⟩
        · rw [List.map_append]
          exact dpa_snoc (keepAU dad (tupA_dS _) Lr) (keepU dn rfl Lr)
        · rw [List.length_append, hl]
          rfl
        · refine mem_snoc (fun s hs => ?_) ⟨okn, fn, bn⟩
          obtain ⟨o1, o2, o3⟩ := ok s hs
          exact ⟨⟨o1.b.mono (by omega), o1.e.mono (by omega), o1.p.mono (by omega), o1.pos⟩, o2, Rat.le_trans o3 (bnd_step i)⟩
    · obtain ⟨c1, c2, c3, ys, xs, rfl, s5, B5, hr5, da, hl, ok⟩ := h
      refine ⟨_, rfl, q _ r ys xs s5 B5 hr0 hr5 da (by omega) (fun s hs => ?_) (fun s hs => (ok s hs).2.1)⟩
      have o1 := (ok s hs).1
      exact ⟨o1.b.mono (by omega), o1.e.mono (by omega), o1.p.mono (by omega), o1.pos⟩
theorem cutM_len : ∀ (xs : List St3) (b e : Rat), (cutM xs b e).length ≤ xs.length
  | [], _, _ => Nat.le_refl _
  | s :: r, b, e => by
    have h1 := piece_len s b e
    have h2 := cutM_len r (b - lst3 s) (e - lst3 s)
    show (piece s b e ++ cutM r (b - lst3 s) (e - lst3 s)).length ≤ r.length + 1
    rw [List.length_append]
    omega
theorem sz_if {n : Nat} {x y : Rat} {c : Prop} [Decidable c] (hx : Sz n x) (hy : Sz n y) : Sz n (if c then x else y) := by
  split
  · exact hx
  · exact hy
theorem dp_if {K : PySem.W.Frag} {H : Hp} {u v : V} {x y : Rat} {c : Prop} [Decidable c] (hx : Dp K H u (dF x)) (hy : Dp K H v (dF y)) : Dp K H (if c then u else v) (dF (if c then x else y)) := by
  by_cases h : c
  · rw [if_pos h, if_pos h]
    exact hx
  · rw [if_neg h, if_neg h]
    exact hy
theorem sub0 (x : Rat) : x - lenS [] = x := by
  show x - 0 = x
  grind
def spCut (K : PySem.W.Frag) : Sp := fun vs H Q _ => ∃ (v u1 u2 : V) (xs : List St3) (b e : Rat) (N : Nat), vs = [v, u1, u2] ∧ Dp K H v (dSh xs) ∧ Dp K H u1 (dF b) ∧ Dp K H u2 (dF e) ∧ ShOk N xs ∧ Sz N b ∧ Sz N e ∧ N ≤ 2240 ∧ xs.length ≤ 900 ∧
  ∀ H' p ys, Same H H' → H p = none → H' p = some (.lst ys) → DpAll K H' ys ((cutM xs b e).map dS) → (cutM xs b e).length ≤ xs.length → Q (.ref p) H'
theorem cl_Lcut (T : Txt K mg) : Cl P w K mg base CX0 4 "_law_cut" (spCut K) := by
  have c_Llast := cl_Llast (P := P) (w := w) (base := base) T
  have c_Llow := cl_Llow (P := P) (w := w) (base := base) T
  have c_Lsum := cl_Lsum (P := P) (w := w) (base := base) T
  have c_Ltimes := cl_Ltimes (P := P) (w := w) (base := base) T
  have c_Lminus := cl_Lminus (P := P) (w := w) (base := base) T
  refine T.d_Lcut.cl sc_Lcut (fun vs H Q E h => ?_) (fun f cdv A outer s H vs Q E hr h => ?_)
  · obtain ⟨v, u1, u2, xs, b, e, N, rfl, _⟩ := h
    rfl
  · obtain ⟨v, u1, u2, xs, b, e, N, rfl, hv, hu1, hu2, ok, zb, ze, hN, hn, q⟩ := h
    obtain ⟨a, vs, rfl, h0, ha⟩ := dSh_at hv
    have el : vs.length = xs.length := by rw [dpa_len ha, List.length_map]
    refine ⟨_, (pss_cons (ps_set (i := 3) sc_Lcut.nd rfl (.inl rfl) (pe_lst pa_nil))
      (pss_cons (ps_for PassesOwn.never rfl (pi_list (pv 0)) (pg_name (i := 4) sc_Lcut.nd rfl (.inl rfl))
        (pss_cons (ps_set (i := 5) sc_Lcut.nd rfl (.inl rfl) (pe_cl c_Llast hr (by decide) (by rfl) (pa_cons (pv 4) pa_nil)))
      (Evl.pss_cut (ps_set (i := 6) sc_Lcut.nd rfl (.inl rfl) (pe_ifExp (pt_val (pe_cl c_Llow hr (by decide) (by rfl) (pa_cons (pe_tup (pa_cons pe_int (pa_cons pe_int pa_nil))) (pa_cons (pv 1) pa_nil)))) (pv 1) (pe_tup (pa_cons pe_int (pa_cons pe_int pa_nil)))))
      (Evl.pss_cut (ps_set (i := 7) sc_Lcut.nd rfl (.inl rfl) (pe_ifExp (pt_val (pe_cl c_Llow hr (by decide) (by rfl) (pa_cons (pv 2) (pa_cons (pv 5) pa_nil)))) (pv 2) (pv 5)))
      (Evl.pss_cut (ps_if (pt_val (pe_cl c_Llow hr (by decide) (by rfl) (pa_cons (pv 6) (pa_cons (pv 7) pa_nil))))
        (pss_cons (ps_set (i := 8) sc_Lcut.nd rfl (.inl rfl) (pe_cl c_Lsum hr (by decide) (by rfl) (pa_cons (pe_ix ix_tup (pv 4) pe_int (fun _ _ => rfl)) (pa_cons (pe_cl c_Ltimes hr (by decide) (by rfl) (pa_cons (pv 6) (pa_cons (pe_ix ix_tup (pv 4) pe_int (fun _ _ => rfl)) pa_nil))) pa_nil))))
      (pss_cons (ps_set (i := 9) sc_Lcut.nd rfl (.inl rfl) (pe_cl c_Lsum hr (by decide) (by rfl) (pa_cons (pe_ix ix_tup (pv 4) pe_int (fun _ _ => rfl)) (pa_cons (pe_cl c_Ltimes hr (by decide) (by rfl) (pa_cons (pv 7) (pa_cons (pe_ix ix_tup (pv 4) pe_int (fun _ _ => rfl)) pa_nil))) pa_nil))))
      (pss_one (ps_expr (pe_bm PySem.F.plainAttrs_list PySem.F.slot_list_append PySem.F.type_list_append mt_append (pv 3) (pa_cons (pe_tup (pa_cons (pv 8) (pa_cons (pv 9) (pa_cons (pe_ix ix_tup (pv 4) pe_int (fun _ _ => rfl)) pa_nil)))) pa_nil))))))
        pss_nil)
      (pss_cons (ps_set (i := 1) sc_Lcut.nd rfl (.inl rfl) (pe_cl c_Lminus hr (by decide) (by rfl) (pa_cons (pv 1) (pa_cons (pv 5) pa_nil))))
      (pss_one (ps_set (i := 2) sc_Lcut.nd rfl (.inl rfl) (pe_cl c_Lminus hr (by decide) (by rfl) (pa_cons (pv 2) (pa_cons (pv 5) pa_nil)))))))))))
      (pss_one (ps_ret (pv 3))))), ?_⟩
    refine ⟨Nat.zero_le _, fun r hr0 => ?_⟩
    have s0 := Same.new (o := .lst []) hr0
    refine ⟨_, rfl, a, rfl, ⟨_, s0.seq h0⟩, for_list (K := K) (a := a) (xs := vs) (fun i σ H' => ∃ (w1 w2 : V) (c4 c5 c6 c7 c8 c9 : Option V) (ys : List V) (done : List St3), σ = [some (.ref a), some w1, some w2, some (.ref r), c4, c5, c6, c7, c8, c9] ∧ Same H H' ∧ H' r = some (.lst ys) ∧ ys.length ≤ i ∧ DpAll K H' ys (done.map dS) ∧ Dp K H' w1 (dF (b - lenS (xs.take i))) ∧ Dp K H' w2 (dF (e - lenS (xs.take i))) ∧ cutM xs b e = done ++ cutM (xs.drop i) (b - lenS (xs.take i)) (e - lenS (xs.take i))) ⟨u1, u2, none, none, none, none, none, none, [], [], rfl, s0, upd_same, Nat.le_refl _, .nil, by rw [List.take_zero, sub0]; exact dp_mono s0 _ _ hu1, by rw [List.take_zero, sub0]; exact dp_mono s0 _ _ hu2, by rw [List.take_zero, sub0, sub0]; rfl⟩ (fun i σ H' _ h => ?_) (fun i y σ H' hy h => ?_) (fun σ H' h => ?_)⟩
    · obtain ⟨w1, w2, c4, c5, c6, c7, c8, c9, ys, done, rfl, s1, hr1, hl, da, d1, d2, ec⟩ := h
      exact s1.seq h0
    · obtain ⟨w1, w2, c4, c5, c6, c7, c8, c9, ys, done, rfl, s1, hr1, hl, da, d1, d2, ec⟩ := h
      obtain ⟨x, hx, dx⟩ := dpa_map ha hy
      have hi : i < xs.length := (List.getElem?_eq_some_iff.mp hx).1
      have okx := ok.each x (List.mem_of_getElem? hx)
      have zB : Sz (2 * N + 1) (b - lenS (xs.take i)) := (sz_sub zb (ok.sums i)).mono (by omega)
      have zE : Sz (2 * N + 1) (e - lenS (xs.take i)) := (sz_sub ze (ok.sums i)).mono (by omega)
      have zB2 : Sz (2 * N + 1) (b - lenS (xs.take (i + 1))) := (sz_sub zb (ok.sums (i + 1))).mono (by omega)
      have zL : Sz (2 * N + 1) (lst3 x) := (ok.lasts x (List.mem_of_getElem? hx)).mono (by omega)
      have z0 : Sz 1 (0 : Rat) := ⟨by decide, by decide⟩
      rw [cutM_turn hx] at ec
      -- last_here
      refine ⟨_, rfl, _, x, N, rfl, dp_mono s1 _ _ dx, okx, hN, fun H2 vl s2 dl => ?_⟩
      have dx2 := dp_mono (s1.trans s2) _ _ dx
      have d1 := dp_mono s2 _ _ d1
      have d2 := dp_mono s2 _ _ d2
      have hr2 := s2 _ _ hr1
      have da := dpa_mono s2 _ _ da
      have s12 := s1.trans s2
      -- first
      refine ⟨fun σ' H'' => ∃ vf, σ' = [some (.ref a), some w1, some w2, some (.ref r), some y, some vl, some vf, c7, c8, c9] ∧ Same H2 H'' ∧ Dp K H'' vf (dF (if 0 < b - lenS (xs.take i) then b - lenS (xs.take i) else 0)), ?_, fun σ' H3 hM => ?_⟩
      · refine ⟨(show 2 ≤ sizeLine by decide), fun p hp => ?_⟩
        have t := Same.new (o := .tup [.int 0, .int 1]) hp
        have dz : Dp K (upd H2 p (.tup [.int 0, .int 1])) (.ref p) (dF 0) := dF_mk (.inl (.inl upd_same))
        refine ⟨_, rfl, _, _, _, _, 1, 2 * N + 1, rfl, dz, dp_mono t _ _ d1, z0, zB, by omega, _, rfl, ite2 (fun z => ?_) (fun z => ?_)⟩
        · have z := of_decide_eq_true z
          exact ⟨_, rfl, w1, rfl, t, by rw [if_pos z]; exact dp_mono t _ _ d1⟩
        · have z : ¬ (0 < b - lenS (xs.take i)) := fun c => z (decide_eq_true c)
          refine ⟨(show 2 ≤ sizeLine by decide), fun p2 hp2 => ?_⟩
          have t2 := Same.new (o := .tup [.int 0, .int 1]) hp2
          exact ⟨.ref p2, rfl, t.trans t2, by rw [if_neg z]; exact dF_mk (.inl (.inl upd_same))⟩
      obtain ⟨vf, rfl, s3, df⟩ := hM
      -- behind
      refine ⟨fun σ' H'' => ∃ vg, σ' = [some (.ref a), some w1, some w2, some (.ref r), some y, some vl, some vf, some vg, c8, c9] ∧ H'' = H3 ∧ Dp K H'' vg (dF (if e - lenS (xs.take i) < lst3 x then e - lenS (xs.take i) else lst3 x)), ?_, fun σ' H4 hM => ?_⟩
      · refine ⟨_, rfl, _, rfl, _, _, _, _, 2 * N + 1, 2 * N + 1, rfl, dp_mono s3 _ _ d2, dp_mono s3 _ _ dl, zE, zL, by omega, _, rfl, ite2 (fun z => ?_) (fun z => ?_)⟩
        · have z := of_decide_eq_true z
          exact ⟨_, rfl, w2, rfl, rfl, by rw [if_pos z]; exact dp_mono s3 _ _ d2⟩
        · have z : ¬ (e - lenS (xs.take i) < lst3 x) := fun c => z (decide_eq_true c)
          exact ⟨_, rfl, vl, rfl, rfl, by rw [if_neg z]; exact dp_mono s3 _ _ dl⟩
      obtain ⟨vg, rfl, rfl, dg⟩ := hM
      have zF : Sz (2 * N + 1) (if 0 < b - lenS (xs.take i) then b - lenS (xs.take i) else 0) := sz_if zB (z0.mono (by omega))
      have zG : Sz (2 * N + 1) (if e - lenS (xs.take i) < lst3 x then e - lenS (xs.take i) else lst3 x) := sz_if (zE.mono (by omega)) zL
      have dx3 := dp_mono s3 _ _ dx2
      have d1 := dp_mono s3 _ _ d1
      have d2 := dp_mono s3 _ _ d2
      have dl := dp_mono s3 _ _ dl
      have hr3 := s3 _ _ hr2
      have da := dpa_mono s3 _ _ da
      have s13 := s12.trans s3
      refine ⟨fun σ' H'' => ∃ (c8 c9 : Option V) (ys2 : List V), σ' = [some (.ref a), some w1, some w2, some (.ref r), some y, some vl, some vf, some vg, c8, c9] ∧ Same H H'' ∧ H'' r = some (.lst ys2) ∧ ys2.length ≤ i + 1 ∧ DpAll K H'' ys2 ((done ++ piece x (b - lenS (xs.take i)) (e - lenS (xs.take i))).map dS) ∧ Dp K H'' w1 (dF (b - lenS (xs.take i))) ∧ Dp K H'' w2 (dF (e - lenS (xs.take i))) ∧ Dp K H'' vl (dF (lst3 x)), ?_, fun σ' H5 hM => ?_⟩
      · refine ⟨_, rfl, _, rfl, _, _, _, _, 2 * N + 1, 2 * N + 1, rfl, df, dg, zF, zG, by omega, _, rfl, ?_⟩
        unfold piece
        generalize (if 0 < b - lenS (xs.take i) then b - lenS (xs.take i) else 0) = F0 at df zF ⊢
        generalize (if e - lenS (xs.take i) < lst3 x then e - lenS (xs.take i) else lst3 x) = G0 at dg zG ⊢
        refine ite2 (fun z => ?_) (fun z => ?_)
        · have z := of_decide_eq_true z
          rw [if_pos z]
          obtain ⟨px, x1, x2, x3, rfl, hpx, e1, e2, e3⟩ := dS_at dx3
          refine ⟨_, rfl, _, _, _, _, rfl, rfl, hpx, atI_nat (j := 0) rfl, _, rfl, _, rfl, _, _, _, _, rfl, rfl, hpx, atI_nat (j := 2) rfl, _, _, _, _, 2 * N + 1, N, rfl, df, e3, zF, okx.p, by omega, trivial, fun H5 v5 s5 r5 => ?_⟩
          refine ⟨_, _, _, _, N, 3 * N + 1, rfl, dp_mono s5 _ _ e1, r5, okx.b, (sz_mul zF okx.p).mono (by omega), by omega, trivial, fun H6 v6 s6 r6 => ?_⟩
          have s56 := s5.trans s6
          have hpx6 := Same.tup s56 hpx
          refine ⟨_, rfl, _, _, _, _, rfl, rfl, hpx6, atI_nat (j := 0) rfl, _, rfl, _, rfl, _, _, _, _, rfl, rfl, hpx6, atI_nat (j := 2) rfl, _, _, _, _, 2 * N + 1, N, rfl, dp_mono s56 _ _ dg, dp_mono s56 _ _ e3, zG, okx.p, by omega, trivial, fun H7 v7 s7 r7 => ?_⟩
          have s57 := s56.trans s7
          refine ⟨_, _, _, _, N, 3 * N + 1, rfl, dp_mono s57 _ _ e1, r7, okx.b, (sz_mul zG okx.p).mono (by omega), by omega, trivial, fun H8 v8 s8 r8 => ?_⟩
          have s58 := s57.trans s8
          have hr8 := s58 _ _ hr3
          have hpx8 := Same.tup s58 hpx
          refine ⟨_, rfl, .inl ⟨rfl, _, .inl (.inl hr8)⟩, _, rfl, _, rfl, _, rfl, _, _, _, _, rfl, rfl, hpx8, atI_nat (j := 2) rfl, (show 3 ≤ sizeLine by decide), fun p hp => ?_⟩
          have s9 := Same.new (o := .tup [v6, v8, x3]) hp
          have s59 := s58.trans s9
          have hr9 := s9 _ _ hr8
          have Lr : IsL (upd H8 p (.tup [v6, v8, x3])) r := ⟨_, hr9⟩
          refine ⟨r, ys, _, rfl, rfl, hr9, small1000 (by omega), ?_⟩
          refine ⟨_, _, ys ++ [.ref p], rfl, ?_, upd_same, ?_, ?_, keepU (dp_mono s59 _ _ d1) rfl Lr, keepU (dp_mono s59 _ _ d2) rfl Lr, keepU (dp_mono s59 _ _ dl) rfl Lr⟩
          · intro a' o ha'
            rw [upd_ne (ne_of_none ha' hr0)]
            exact s59 _ _ (s13 _ _ ha')
          · rw [List.length_append]
            show ys.length + 1 ≤ i + 1
            omega
          · rw [List.map_append]
            refine dpa_snoc (keepAU (dpa_mono s59 _ _ da) (tupA_dS _) Lr) (keepU (d := dS _) ?_ rfl Lr)
            exact dS_mk (.inl (.inl upd_same)) (dp_mono (s7.trans (s8.trans s9)) _ _ r6) (dp_mono s9 _ _ r8) (dp_mono s59 _ _ e3)
        · have z : ¬ (F0 < G0) := fun c => z (decide_eq_true c)
          rw [if_neg z, List.append_nil]
          exact ⟨c8, c9, ys, rfl, s13, hr3, by omega, da, d1, d2, dl⟩
      · clear da hr3 d1 d2 dl
        obtain ⟨c8, c9, ys2, rfl, s5, hr5, hl5, da, d1, d2, dl⟩ := hM
        refine ⟨_, rfl, _, rfl, _, _, _, _, 2 * N + 1, 2 * N + 1, rfl, d1, dl, zB, zL, by omega, trivial, fun H6 v6 s6 r6 => ?_⟩
        refine ⟨_, rfl, _, rfl, _, _, _, _, 2 * N + 1, 2 * N + 1, rfl, dp_mono s6 _ _ d2, dp_mono s6 _ _ dl, zE, zL, by omega, trivial, fun H7 v7 s7 r7 => ?_⟩
        have s67 := s6.trans s7
        have eb : b - lenS (xs.take (i + 1)) = b - lenS (xs.take i) - lst3 x := by rw [lenS_more hx]; grind
        have ee : e - lenS (xs.take (i + 1)) = e - lenS (xs.take i) - lst3 x := by rw [lenS_more hx]; grind
        refine ⟨v6, v7, some y, some vl, some vf, some vg, c8, c9, ys2, done ++ piece x (b - lenS (xs.take i)) (e - lenS (xs.take i)), rfl, s5.trans s67, s67 _ _ hr5, hl5, dpa_mono s67 _ _ da, ?_, ?_, ?_⟩
        · rw [eb]
          exact dp_mono s7 _ _ r6
        · rw [ee]
          exact r7
        · rw [ec, List.append_assoc]
    · obtain ⟨w1, w2, c4, c5, c6, c7, c8, c9, ys, done, rfl, s1, hr1, hl, da, d1, d2, ec⟩ := h
      rw [el, List.drop_length] at ec
      have ec : cutM xs b e = done := by rw [ec]; exact List.append_nil _
      rw [← ec] at da
      exact ⟨_, rfl, q _ r ys s1 hr0 hr1 da (cutM_len xs b e)⟩
theorem cl_taken (T : Txt K mg) {C : Addr} (e_OffReel : ExcT K mg "OffReel" C) : Cl P w K mg base (L2.CX P w) 6 "taken" (spTaken K C) := by
  have c_is_below := cl_is_below (P := P) (w := w) (base := base) T
  have c_length := cl_length (P := P) (w := w) (base := base) T
  have c_timetable := cl_timetable (P := P) (w := w) (base := base) T
  have c_larger := cl_larger (P := P) (w := w) (base := base) T
  have c_smaller := cl_smaller (P := P) (w := w) (base := base) T
  have c_piece := cl_piece (P := P) (w := w) (base := base) T
  have c_less := cl_less (P := P) (w := w) (base := base) T
  have c_normal := cl_normal (P := P) (w := w) (base := base) T
  refine T.d_taken.clX sc_taken (fun vs H Q E h => ?_) (fun f cdv A outer s H vs Q E hr h => ?_)
  · obtain ⟨v, u1, u2, xs, b, e, N, rfl, _⟩ := h
    rfl
  · obtain ⟨v, u1, u2, xs, b, e, N, rfl, hv, hu1, hu2, ok, zb, ze, hN, hn, qE, q⟩ := h
    refine ⟨_, (pss_cons (ps_if (pt_val (pe_cl c_is_below hr (by decide) (by rfl) (pa_cons (pv 2) (pa_cons (pv 1) pa_nil))))
        (pss_one (ps_raise rfl (takes_of rfl rfl rfl rfl) (pmk_own PySem.F.excBase_ValueError e_OffReel.x e_OffReel.g e_OffReel.k (raises_own e_OffReel.b e_OffReel.t) rfl)))
        pss_nil)
      (pss_cons (ps_if (pt_val (pe_cl c_is_below hr (by decide) (by rfl) (pa_cons (pe_cl c_length hr (by decide) (by rfl) (pa_cons (pv 0) pa_nil)) (pa_cons (pv 2) pa_nil))))
        (pss_one (ps_raise rfl (takes_of rfl rfl rfl rfl) (pmk_own PySem.F.excBase_ValueError e_OffReel.x e_OffReel.g e_OffReel.k (raises_own e_OffReel.b e_OffReel.t) rfl)))
        pss_nil)
      (pss_cons (ps_set (i := 3) sc_taken.nd rfl (.inl rfl) (pe_lst pa_nil))
      (pss_cons (ps_for (passes_of rfl) rfl (pi_list (pe_cl c_timetable hr (by decide) (by rfl) (pa_cons (pv 0) pa_nil))) (pg_tup rfl (pgs_cons (pg_name (i := 4) sc_taken.nd rfl (.inl rfl)) (pgs_cons (pg_name (i := 5) sc_taken.nd rfl (.inl rfl)) (pgs_cons (pg_name (i := 6) sc_taken.nd rfl (.inl rfl)) pgs_nil))))
        (pss_cons (ps_set (i := 7) sc_taken.nd rfl (.inl rfl) (pe_cl c_larger hr (by decide) (by rfl) (pa_cons (pv 1) (pa_cons (pv 4) pa_nil))))
      (pss_cons (ps_set (i := 8) sc_taken.nd rfl (.inl rfl) (pe_cl c_smaller hr (by decide) (by rfl) (pa_cons (pv 2) (pa_cons (pv 5) pa_nil))))
      (pss_one (ps_if (pt_val (pe_cl c_is_below hr (by decide) (by rfl) (pa_cons (pv 7) (pa_cons (pv 8) pa_nil))))
        (pss_one (ps_expr (pe_bm PySem.F.plainAttrs_list PySem.F.slot_list_append PySem.F.type_list_append mt_append (pv 3) (pa_cons (pe_cl c_piece hr (by decide) (by rfl) (pa_cons (pv 6) (pa_cons (pe_cl c_less hr (by decide) (by rfl) (pa_cons (pv 7) (pa_cons (pv 4) pa_nil))) (pa_cons (pe_cl c_less hr (by decide) (by rfl) (pa_cons (pv 8) (pa_cons (pv 4) pa_nil))) pa_nil)))) pa_nil))))
        pss_nil)))))
      (pss_one (ps_ret (pe_cl c_normal hr (by decide) (by rfl) (pa_cons (pv 3) pa_nil)))))))), ?_⟩
    refine ⟨_, rfl, _, rfl, _, _, e, b, N, N, rfl, hu2, hu1, ze, zb, by omega, _, rfl, ite2 (fun z => ?_) (fun z => ?_)⟩
    · exact qE (.inl (of_decide_eq_true z)) _ (Same.refl _)
    have n1 : ¬ e < b := fun c => z (decide_eq_true c)
    refine ⟨_, rfl, _, xs, N, rfl, hv, ok, hN, fun H1 z1 s1 d1 => ?_⟩
    have zl : Sz N (lenS xs) := by have := ok.sums xs.length; rw [List.take_length] at this; exact this
    refine ⟨_, rfl, _, _, lenS xs, e, N, N, rfl, d1, dp_mono s1 _ _ hu2, zl, ze, by omega, _, rfl, ite2 (fun z => ?_) (fun z => ?_)⟩
    · exact qE (.inr (of_decide_eq_true z)) _ s1
    have n2 : ¬ lenS xs < e := fun c => z (decide_eq_true c)
    have q := q (fun c => c.elim n1 n2)
    refine ⟨Nat.zero_le _, fun r hr1 => ?_⟩
    have hr0 : H r = none := s1.free hr1
    have s2 := s1.trans (Same.new (o := .lst []) hr1)
    have hr2 : (upd H1 r (.lst [])) r = some (.lst []) := upd_same
    generalize upd H1 r (.lst []) = H2 at s2 hr2 ⊢
    refine ⟨_, rfl, _, xs, N, rfl, dp_mono s2 _ _ hv, ok, hN, by omega, fun H3 p rows s3 np hp dr => ?_⟩
    have s03 := s2.trans s3
    have hr3 := s3 _ _ hr2
    have npr : p ≠ r := fun z => by rw [z, hr2] at np; cases np
    have hpq : SqL K H3 p rows := .inl (.inl hp)
    have erow : rows.length = xs.length := by rw [dpa_len dr, List.length_map, tabF_len]
    have tr : ∀ x : Rat × Rat × St3, tupD (dRow x) = true := fun x => rfl
    have hu1 := dp_mono s03 _ _ hu1
    have hu2 := dp_mono s03 _ _ hu2
    refine ⟨p, rfl, ⟨_, hpq⟩, for_list (K := K) (a := p) (xs := rows) (fun i σ H' => ∃ (c4 c5 c6 c7 c8 : Option V) (ys : List V) (done : List St3), σ = [some v, some u1, some u2, some (.ref r), c4, c5, c6, c7, c8] ∧ Same (hid r r H3) (hid r r H') ∧ H' r = some (.lst ys) ∧ ys.length ≤ i ∧ DpAll K H' ys (done.map dS) ∧ cutM xs b e = done ++ cutM (xs.drop i) (b - lenS (xs.take i)) (e - lenS (xs.take i))) ⟨none, none, none, none, none, [], [], rfl, Same.refl _, hr3, Nat.le_refl _, .nil, by rw [List.take_zero, sub0, sub0]; rfl⟩ (fun i σ H' _ h => ?_) (fun i y σ H' hy h => ?_) (fun σ H' h => ?_)⟩
    · obtain ⟨c4, c5, c6, c7, c8, ys, done, rfl, s4, hr4, hl, da, ec⟩ := h
      have : hid r r H3 p = some (.lst rows) := by
        unfold hid
        rw [if_neg (by rintro (c | c) <;> exact npr c), hp]
      exact .inl (.inl (hid_same _ _ (s4 _ _ this)))
    · obtain ⟨c4, c5, c6, c7, c8, ys, done, rfl, s4, hr4, hl, da, ec⟩ := h
      obtain ⟨row, hrow, drow⟩ := dpa_map dr hy
      rw [tabF_get] at hrow
      have hi : i < xs.length := by
        have := (List.getElem?_eq_some_iff.mp hy).1
        omega
      obtain ⟨x, hx⟩ : ∃ x, xs[i]? = some x := ⟨_, List.getElem?_eq_getElem hi⟩
      rw [hx] at hrow
      have erw : row = (0 + lenS (xs.take i), 0 + lenS (xs.take (i + 1)), x) := (Option.some.inj hrow).symm
      rw [Rat.zero_add, Rat.zero_add] at erw
      subst erw
      have okx := ok.each x (List.mem_of_getElem? hx)
      have zS := ok.sums i
      have zT := ok.sums (i + 1)
      have L3 : IsL H3 r := ⟨_, hr3⟩
      have drow := keepT drow (tr _) L3 L3 s4
      have hu1 := keepT hu1 rfl L3 L3 s4
      have hu2 := keepT hu2 rfl L3 L3 s4
      obtain ⟨pr, v1, v2, v3, rfl, hpr, e1, e2, e3⟩ := dRow_at drow
      rw [cutM_turn hx, piece_eq, ← lenS_more hx] at ec
      refine ⟨pr, _, rfl, hpr, rfl, _, _, rfl, _, _, rfl, _, _, rfl, rfl, ?_⟩
      refine ⟨_, rfl, _, rfl, _, _, b, lenS (xs.take i), N, N, rfl, hu1, e1, zb, zS, by omega, ?_⟩
      refine ⟨_, rfl, _, rfl, _, _, e, lenS (xs.take (i + 1)), N, N, rfl, hu2, e2, ze, zT, by omega, ?_⟩
      have df : Dp K H' (if decide (b < lenS (xs.take i)) = true then v1 else u1) (dF (if b < lenS (xs.take i) then lenS (xs.take i) else b)) := by
        by_cases c : b < lenS (xs.take i)
        · rw [if_pos (decide_eq_true c), if_pos c]
          exact e1
        · rw [if_neg (fun z => c (of_decide_eq_true z)), if_neg c]
          exact hu1
      have dg : Dp K H' (if decide (lenS (xs.take (i + 1)) < e) = true then v2 else u2) (dF (if lenS (xs.take (i + 1)) < e then lenS (xs.take (i + 1)) else e)) := by
        by_cases c : lenS (xs.take (i + 1)) < e
        · rw [if_pos (decide_eq_true c), if_pos c]
          exact e2
        · rw [if_neg (fun z => c (of_decide_eq_true z)), if_neg c]
          exact hu2
      have zF : Sz N (if b < lenS (xs.take i) then lenS (xs.take i) else b) := sz_if zS zb
      have zG : Sz N (if lenS (xs.take (i + 1)) < e then lenS (xs.take (i + 1)) else e) := sz_if zT ze
      generalize (if decide (b < lenS (xs.take i)) = true then v1 else u1) = vf at df ⊢
      generalize (if decide (lenS (xs.take (i + 1)) < e) = true then v2 else u2) = vg at dg ⊢
      generalize (if b < lenS (xs.take i) then lenS (xs.take i) else b) = F0 at df zF ec ⊢
      generalize (if lenS (xs.take (i + 1)) < e then lenS (xs.take (i + 1)) else e) = G0 at dg zG ec ⊢
      refine ⟨_, rfl, _, rfl, _, _, F0, G0, N, N, rfl, df, dg, zF, zG, by omega, _, rfl, ite2 (fun z => ?_) (fun z => ?_)⟩
      · rw [if_pos (of_decide_eq_true z)] at ec
        refine ⟨_, rfl, .inl ⟨rfl, _, .inl (.inl hr4)⟩, _, rfl, _, rfl, _, rfl, _, _, F0, lenS (xs.take i), N, N, rfl, df, e1, zF, zS, by omega, trivial, fun H5 z5 s5 d5 => ?_⟩
        refine ⟨_, rfl, _, rfl, _, _, G0, lenS (xs.take i), N, N, rfl, dp_mono s5 _ _ dg, dp_mono s5 _ _ e1, zG, zS, by omega, trivial, fun H6 z6 s6 d6 => ?_⟩
        have s56 := s5.trans s6
        refine ⟨_, _, _, x, _, _, N, rfl, dp_mono s56 _ _ e3, dp_mono s6 _ _ d5, d6, okx, (sz_sub zF zS).mono (by omega), (sz_sub zG zS).mono (by omega), hN, fun H7 z7 s7 d7 => ?_⟩
        have s57 := s56.trans s7
        have hr7 := s57 _ _ hr4
        have Lr : IsL H7 r := ⟨_, hr7⟩
        refine ⟨r, ys, _, rfl, rfl, hr7, small1000 (by omega), ?_⟩
        refine ⟨_, _, _, _, _, ys ++ [z7], done ++ [(x.1 + (F0 - lenS (xs.take i)) * x.2.2, x.1 + (G0 - lenS (xs.take i)) * x.2.2, x.2.2)], rfl, ?_, upd_same, ?_, ?_, ?_⟩
        · rw [hid_b]
          exact s4.trans (Same.hid s57)
        · rw [List.length_append]
          show ys.length + 1 ≤ i + 1
          omega
        · rw [List.map_append]
          exact dpa_snoc (keepAU (dpa_mono s57 _ _ da) (tupA_dS _) Lr) (keepU d7 rfl Lr)
        · rw [ec, List.append_assoc]
      · rw [if_neg (fun c => z (decide_eq_true c))] at ec
        exact ⟨_, _, _, _, _, ys, done, rfl, s4, hr4, by omega, da, ec⟩
    · obtain ⟨c4, c5, c6, c7, c8, ys, done, rfl, s4, hr4, hl, da, ec⟩ := h
      rw [erow, List.drop_length] at ec
      have ec : cutM xs b e = done := by rw [ec]; exact List.append_nil _
      rw [ec] at q
      have ld : done.length ≤ 1000 := by
        have := dpa_len da
        rw [List.length_map] at this
        omega
      refine ⟨_, rfl, _, done, rfl, .lst (.inl (.inl hr4)) da, ld, fun H5 p5 ys5 s5 n5 h5 da5 => ?_⟩
      have sF : Same H H' := (hid_old s03 hr0).trans (s4.trans hid_same)
      exact q _ p5 ys5 (sF.trans s5) (sF.free n5) h5 da5
/-! ### heaps with some addresses left out -/
def hidL (S : List Addr) (H : Hp) : Hp := fun a => if a ∈ S then none else H a
theorem hidL_same {S : List Addr} {H : Hp} : Same (hidL S H) H := fun a o h => by
  unfold hidL at h
  split at h
  · cases h
  · exact h
theorem hidL_at {S : List Addr} {H : Hp} {a : Addr} {o : HO} (h : a ∉ S) (e : H a = some o) : hidL S H a = some o := by
  unfold hidL
  rw [if_neg h]
  exact e
theorem hidL_ne {S : List Addr} {H : Hp} {a : Addr} {o : HO} (e : hidL S H a = some o) : a ∉ S ∧ H a = some o := by
  unfold hidL at e
  split at e
  · cases e
  · rename_i h
    exact ⟨h, e⟩
theorem Same.hidL {S : List Addr} {H H' : Hp} (s : Same H H') : Same (hidL S H) (hidL S H') := fun a o h => by
  obtain ⟨h1, h2⟩ := hidL_ne h
  exact hidL_at h1 (s _ _ h2)
theorem hidL_upd {S : List Addr} {H : Hp} {a : Addr} {o : HO} (h : a ∈ S) : R.hidL S (upd H a o) = R.hidL S H := by
  funext c
  unfold R.hidL
  by_cases e : c ∈ S
  · rw [if_pos e, if_pos e]
  · rw [if_neg e, if_neg e, upd_ne (fun z => e (by rw [z]; exact h))]
theorem hidL_more {S S' : List Addr} {H : Hp} (h : ∀ a ∈ S, a ∈ S') : Same (R.hidL S' H) (R.hidL S H) := fun a o e => by
  obtain ⟨h1, h2⟩ := hidL_ne e
  exact hidL_at (fun z => h1 (h _ z)) h2
theorem sub_hidL {S S' : List Addr} {H H' : Hp} (h : ∀ a ∈ S, a ∈ S') (s : Same (R.hidL S H) (R.hidL S H')) : Same (R.hidL S' H) (R.hidL S' H') := fun a o e => by
  obtain ⟨h1, h2⟩ := hidL_ne e
  exact hidL_at h1 (hidL_same _ _ (s _ _ (hidL_at (fun z => h1 (h _ z)) h2)))
theorem hid_hidL {S : List Addr} {b l : Addr} {H H' : Hp} (hb : b ∈ S) (hl : l ∈ S) (s : Same (hid b l H) (hid b l H')) : Same (R.hidL S H) (R.hidL S H') := fun a o e => by
  obtain ⟨h1, h2⟩ := hidL_ne e
  refine hidL_at h1 (hid_same _ _ (s a o ?_))
  unfold hid
  rw [if_neg, h2]
  rintro (z | z)
  · exact h1 (by rw [z]; exact hb)
  · exact h1 (by rw [z]; exact hl)
/-- what stands at an address is no tuple -/
def NoT (H : Hp) (a : Addr) : Prop := ∃ u, H a = some u ∧ (∀ zs, u ≠ .tup zs) ∧ ∀ o zs, u ≠ .frz o (.tup zs)
theorem NoT.lst {H : Hp} {a : Addr} {xs : List V} (h : H a = some (.lst xs)) : NoT H a := ⟨_, h, fun _ z => (nomatch z), fun _ _ z => (nomatch z)⟩
theorem NoT.ins {H : Hp} {a C dx : Addr} {fs : List (Str × V)} (h : H a = some (.ins C dx fs)) : NoT H a := ⟨_, h, fun _ z => (nomatch z), fun _ _ z => (nomatch z)⟩
theorem NoT.mono {H H' : Hp} {a : Addr} (h : NoT H a) (s : Same H H') : NoT H' a := let ⟨u, h1, h2, h3⟩ := h; ⟨u, s _ _ h1, h2, h3⟩
theorem hidL_tup {K : PySem.W.Frag} {S : List Addr} {a : Addr} {H : Hp} {xs : List V} (n : ∀ b ∈ S, NoT H b) (h : SqT K H a xs) : SqT K (R.hidL S H) a xs := by
  have key : ∀ o : HO, H a = some o → (∀ b, b ∈ S → a = b → False) → R.hidL S H a = some o := fun o ho hn => hidL_at (fun z => hn a z rfl) ho
  rcases h with (h | ⟨o, h⟩) | h
  · refine .inl (.inl (key _ h fun b hb e => ?_))
    obtain ⟨u, h1, h2, h3⟩ := n b hb
    rw [← e, h] at h1
    exact h2 xs (Option.some.inj h1).symm
  · refine .inl (.inr ⟨o, key _ h fun b hb e => ?_⟩)
    obtain ⟨u, h1, h2, h3⟩ := n b hb
    rw [← e, h] at h1
    exact h3 o xs (Option.some.inj h1).symm
  · exact .inr h
mutual
theorem dp_hidL {K : PySem.W.Frag} {S : List Addr} {H : Hp} (n : ∀ b ∈ S, NoT H b) : ∀ (d : PyData) (v : V), tupD d = true → Dp K H v d → Dp K (R.hidL S H) v d
  | .none, _, _, h => by cases h; exact .non
  | .bool _, _, _, h => by cases h; exact .bl _
  | .int _, _, _, h => by cases h; exact .int _
  | .str _, _, _, h => by cases h; exact .str _
  | .list ds, _, z, _ => by cases z
  | .tuple ds, _, z, h => by
    cases h with
    | tup hs ha => exact .tup (hidL_tup n hs) (dpa_hidL n ds _ z ha)
  | .dict _, _, z, _ => by cases z
theorem dpa_hidL {K : PySem.W.Frag} {S : List Addr} {H : Hp} (n : ∀ b ∈ S, NoT H b) : ∀ (ds : List PyData) (vs : List V), tupA ds = true → DpAll K H vs ds → DpAll K (R.hidL S H) vs ds
  | [], _, _, h => by cases h; exact .nil
  | d :: ds, _, z, h => by
    have z2 := Bool.and_eq_true_iff.mp (show (tupD d && tupA ds) = true from z)
    cases h with
    | cons h1 h2 => exact .cons (dp_hidL n d _ z2.1 h1) (dpa_hidL n ds _ z2.2 h2)
end
/-- a list of stretches beside what is left out -/
theorem show_hidL {K : PySem.W.Frag} {S : List Addr} {H : Hp} {p : Addr} {ys : List V} {xs : List St3} (n : ∀ b ∈ S, NoT H b) (np : p ∉ S) (hp : H p = some (.lst ys)) (da : DpAll K H ys (xs.map dS)) : Dp K (R.hidL S H) (.ref p) (dSh xs) :=
  .lst (.inl (.inl (hidL_at np hp))) (dpa_hidL n _ _ (tupA_dS _) da)
/-! ### a reel -/
def rF (c e u : V) : List (Str × V) := [("current", c), ("earlier", e), ("undone", u)]
theorem rF_cur (c e u : V) : (rF c e u).lookup ("current" : Str) = some c := rfl
theorem rF_ear (c e u : V) : (rF c e u).lookup ("earlier" : Str) = some e := by
  show (match ("earlier" : Str) == ("current" : Str) with | true => some c | false => _) = _
  rw [show (("earlier" : Str) == ("current" : Str)) = false by decide +kernel]
  rfl
theorem rF_und (c e u : V) : (rF c e u).lookup ("undone" : Str) = some u := by
  show (match ("undone" : Str) == ("current" : Str) with | true => some c | false => (match ("undone" : Str) == ("earlier" : Str) with | true => some e | false => _)) = _
  rw [show (("undone" : Str) == ("current" : Str)) = false by decide +kernel, show (("undone" : Str) == ("earlier" : Str)) = false by decide +kernel]
  rfl
theorem rF_no (c e u : V) {m : Str} (h1 : (m == ("current" : Str)) = false) (h2 : (m == ("earlier" : Str)) = false) (h3 : (m == ("undone" : Str)) = false) : (rF c e u).lookup m = none := by
  show (match m == ("current" : Str) with | true => some c | false => (match m == ("earlier" : Str) with | true => some e | false => (match m == ("undone" : Str) with | true => some u | false => none))) = _
  rw [h1, h2, h3]
theorem ne_ce : ¬ (("current" : Str) = "earlier") := by decide +kernel
theorem ne_cu : ¬ (("current" : Str) = "undone") := by decide +kernel
theorem ne_eu : ¬ (("earlier" : Str) = "undone") := by decide +kernel
theorem rF_put1 (c : V) : putF "current" c [] = ([("current", c)] : List (Str × V)) := rfl
theorem rF_put2 (c e : V) : putF "earlier" e ([("current", c)] : List (Str × V)) = ([("current", c), ("earlier", e)] : List (Str × V)) := by
  show (if ("current" : Str) = "earlier" then [(("current" : Str), e)] else (("current" : Str), c) :: putF "earlier" e []) = _
  rw [if_neg ne_ce]
  rfl
theorem rF_put3 (c e u : V) : putF "undone" u ([("current", c), ("earlier", e)] : List (Str × V)) = rF c e u := by
  show (if ("current" : Str) = "undone" then (("current" : Str), u) :: [(("earlier" : Str), e)] else (("current" : Str), c) :: (if ("earlier" : Str) = "undone" then [(("earlier" : Str), u)] else (("earlier" : Str), e) :: putF "undone" u [])) = _
  rw [if_neg ne_cu, if_neg ne_eu]
  rfl
theorem rF_putc (c c' e u : V) : putF "current" c' (rF c e u) = rF c' e u := by
  show (if ("current" : Str) = "current" then (("current" : Str), c') :: [(("earlier" : Str), e), (("undone" : Str), u)] else (("current" : Str), c) :: putF "current" c' [(("earlier" : Str), e), (("undone" : Str), u)]) = _
  rw [if_pos rfl]
  rfl
/-- a reel stands at p: its show, the shows that back goes to, those that again goes to; S: all that changes -/
structure RAt (K : PySem.W.Frag) (C : Addr) (H : Hp) (S : List Addr) (p pe pu : Addr) (cur : List St3) (ear und : List (List St3)) : Prop where
  ip : p ∈ S
  ie : pe ∈ S
  iu : pu ∈ S
  neu : pe ≠ pu
  nt : ∀ a ∈ S, NoT H a
  ob : ∃ dx vc, H p = some (.ins C dx (rF vc (.ref pe) (.ref pu))) ∧ Dp K (R.hidL S H) vc (dSh cur)
  he : ∃ es, H pe = some (.lst es) ∧ DpAll K (R.hidL S H) es (ear.map dSh)
  hu : ∃ us, H pu = some (.lst us) ∧ DpAll K (R.hidL S H) us (und.map dSh)
section
variable {K : PySem.W.Frag} {C : Addr} {H H' : Hp} {S : List Addr} {p pe pu : Addr} {cur : List St3} {ear und : List (List St3)}
theorem RAt.mono (r : RAt K C H S p pe pu cur ear und) (s : Same H H') : RAt K C H' S p pe pu cur ear und := by
  obtain ⟨dx, vc, h1, h2⟩ := r.ob
  obtain ⟨es, h3, h4⟩ := r.he
  obtain ⟨us, h5, h6⟩ := r.hu
  exact ⟨r.ip, r.ie, r.iu, r.neu, fun a ha => (r.nt a ha).mono s, ⟨dx, vc, s _ _ h1, dp_mono (Same.hidL s) _ _ h2⟩, ⟨es, s _ _ h3, dpa_mono (Same.hidL s) _ _ h4⟩, ⟨us, s _ _ h5, dpa_mono (Same.hidL s) _ _ h6⟩⟩
/-- fewer addresses -/
theorem RAt.less {S' : List Addr} (r : RAt K C H S' p pe pu cur ear und) (h : ∀ a ∈ S, a ∈ S') (ip : p ∈ S) (ie : pe ∈ S) (iu : pu ∈ S) : RAt K C H S p pe pu cur ear und := by
  obtain ⟨dx, vc, h1, h2⟩ := r.ob
  obtain ⟨es, h3, h4⟩ := r.he
  obtain ⟨us, h5, h6⟩ := r.hu
  exact ⟨ip, ie, iu, r.neu, fun a ha => r.nt a (h a ha), ⟨dx, vc, h1, dp_mono (hidL_more h) _ _ h2⟩, ⟨es, h3, dpa_mono (hidL_more h) _ _ h4⟩, ⟨us, h5, dpa_mono (hidL_more h) _ _ h6⟩⟩
/-- a draw: only the box is changed -/
theorem RAt.draw {b l : Addr} (r : RAt K C H S p pe pu cur ear und) (hb : b ∈ S) (hl : l ∈ S) (n : ∀ a ∈ [p, pe, pu], a ≠ b ∧ a ≠ l) (n2 : ∀ a ∈ S, a ≠ b → a ≠ l → ∀ o, H a = some o → H' a = some o) (s : Same (hid b l H) (hid b l H')) (B : Bx H' b l) : RAt K C H' S p pe pu cur ear und := by
  obtain ⟨dx, vc, h1, h2⟩ := r.ob
  obtain ⟨es, h3, h4⟩ := r.he
  obtain ⟨us, h5, h6⟩ := r.hu
  have t := hid_hidL hb hl s
  have np := n p (by simp)
  have ne := n pe (by simp)
  have nu := n pu (by simp)
  refine ⟨r.ip, r.ie, r.iu, r.neu, fun a ha => ?_, ⟨dx, vc, n2 p r.ip np.1 np.2 _ h1, dp_mono t _ _ h2⟩, ⟨es, n2 pe r.ie ne.1 ne.2 _ h3, dpa_mono t _ _ h4⟩, ⟨us, n2 pu r.iu nu.1 nu.2 _ h5, dpa_mono t _ _ h6⟩⟩
  by_cases e1 : a = b
  · obtain ⟨x, y, q1, q2⟩ := B.ex
    rw [e1]
    exact NoT.lst q1
  · by_cases e2 : a = l
    · obtain ⟨x, y, q1, q2⟩ := B.ex
      rw [e2]
      exact NoT.lst q2
    · obtain ⟨u, q1, q2, q3⟩ := r.nt a ha
      exact ⟨u, n2 a ha e1 e2 _ q1, q2, q3⟩
theorem hid_keep {b l a : Addr} {o : HO} (s : Same (hid b l H) (hid b l H')) (e1 : a ≠ b) (e2 : a ≠ l) (h : H a = some o) : H' a = some o := by
  refine hid_same _ _ (s a o ?_)
  unfold hid
  rw [if_neg, h]
  rintro (z | z)
  · exact e1 z
  · exact e2 z
theorem RAt.draw' {b l : Addr} (r : RAt K C H S p pe pu cur ear und) (hb : b ∈ S) (hl : l ∈ S) (n : ∀ a ∈ [p, pe, pu], a ≠ b ∧ a ≠ l) (s : Same (hid b l H) (hid b l H')) (B : Bx H' b l) : RAt K C H' S p pe pu cur ear und :=
  r.draw hb hl n (fun _ _ e1 e2 _ h => hid_keep s e1 e2 h) s B
/-- one more address, new since -/
theorem RAt.new {r : Addr} (q : RAt K C H S p pe pu cur ear und) (s : Same H H') (hr : H r = none) (n : NoT H' r) : RAt K C H' (r :: S) p pe pu cur ear und := by
  obtain ⟨dx, vc, h1, h2⟩ := q.ob
  obtain ⟨es, h3, h4⟩ := q.he
  obtain ⟨us, h5, h6⟩ := q.hu
  have t : Same (R.hidL S H) (R.hidL (r :: S) H') := fun a o ha => by
    obtain ⟨e1, e2⟩ := hidL_ne ha
    refine hidL_at (fun z => ?_) (s _ _ e2)
    rcases List.mem_cons.mp z with z | z
    · rw [z, hr] at e2
      cases e2
    · exact e1 z
  refine ⟨List.mem_cons_of_mem _ q.ip, List.mem_cons_of_mem _ q.ie, List.mem_cons_of_mem _ q.iu, q.neu, fun a ha => ?_, ⟨dx, vc, s _ _ h1, dp_mono t _ _ h2⟩, ⟨es, s _ _ h3, dpa_mono t _ _ h4⟩, ⟨us, s _ _ h5, dpa_mono t _ _ h6⟩⟩
  rcases List.mem_cons.mp ha with z | z
  · rw [z]
    exact n
  · exact (q.nt a z).mono s
theorem RAt.notin {a : Addr} (q : RAt K C H S p pe pu cur ear und) (h : H a = none) : a ∉ S := fun z => by
  obtain ⟨u, hu, _⟩ := q.nt a z
  rw [h] at hu
  cases hu
end
def spRInit (K : PySem.W.Frag) (C : Addr) : Sp := fun vs H Q _ => ∃ (p dx : Addr) (v : V) (xs : List St3), vs = [.ref p, v] ∧ H p = some (.ins C dx []) ∧ Dp K H v (dSh xs) ∧ xs.length ≤ 1000 ∧
  ∀ H' pc pe pu ys, (∀ b o, H b = some o → b ≠ p → H' b = some o) → H pc = none → H pe = none → H pu = none → pe ≠ pu → pc ≠ pe → pc ≠ pu → H' p = some (.ins C dx (rF (.ref pc) (.ref pe) (.ref pu))) → H' pc = some (.lst ys) → H' pe = some (.lst []) → H' pu = some (.lst []) → DpAll K H' ys ((normM xs).map dS) → Q .non H'
theorem cl_Reel___init__ (T : Txt K mg) {C : Addr} (k_Reel : C_Reel K mg C) : ClM P w K mg base CX0 2 C "__init__" (spRInit K C) := by
  have c_normal := cl_normal (P := P) (w := w) (base := base) T
  refine k_Reel.d___init__.cl sc_Reel___init__ (fun vs H Q E h => ?_) (fun f cdv A outer s H vs Q E hr h => ?_)
  · obtain ⟨p, dx, v, xs, rfl, _⟩ := h
    rfl
  · obtain ⟨p, dx, v, xs, rfl, hp, dv, hn, q⟩ := h
    refine ⟨_, (pss_cons (ps_fld (pv 0) (pe_cl c_normal hr (by decide) (by rfl) (pa_cons (pv 1) pa_nil)) rfl)
      (pss_cons (ps_fld (pv 0) (pe_lst pa_nil) rfl)
      (pss_one (ps_fld (pv 0) (pe_lst pa_nil) rfl)))), ?_⟩
    refine ⟨_, rfl, v, xs, rfl, dv, hn, fun H1 pc ys s1 nc hc da => ?_⟩
    have hp1 := s1 _ _ hp
    have npc : pc ≠ p := fun z => by rw [z, hp] at nc; cases nc
    refine ⟨_, rfl, p, C, dx, [], rfl, hp1, k_Reel.oc.cl, k_Reel.n_current, (by show 0 < 1000; decide), ?_⟩
    refine ⟨Nat.zero_le _, fun pe ne => ?_⟩
    have ne1 : pe ≠ p := fun z => by rw [z, upd_same] at ne; cases ne
    rw [upd_ne ne1] at ne
    have nce : pc ≠ pe := fun z => by rw [← z, hc] at ne; cases ne
    refine ⟨_, rfl, p, C, dx, _, rfl, (by rw [upd_ne ne1.symm]; exact upd_same), k_Reel.oc.cl, k_Reel.n_earlier, (by show 1 < 1000; decide), ?_⟩
    refine ⟨Nat.zero_le _, fun pu nu => ?_⟩
    have nu1 : pu ≠ p := fun z => by rw [z, upd_same] at nu; cases nu
    rw [upd_ne nu1] at nu
    have neu : pu ≠ pe := fun z => by rw [z, upd_same] at nu; cases nu
    rw [upd_ne neu, upd_ne nu1] at nu
    have ncu : pc ≠ pu := fun z => by rw [← z, hc] at nu; cases nu
    refine ⟨_, rfl, p, C, dx, _, rfl, (by rw [upd_ne nu1.symm]; exact upd_same), k_Reel.oc.cl, k_Reel.n_undone, (by rw [rF_put1, rF_put2]; show 2 < 1000; decide), ?_⟩
    have hpe : ∀ o1 o2 o3 o4 o5 : HO, upd (upd (upd (upd (upd H1 p o1) pe o2) p o3) pu o4) p o5 pe = some o2 := fun o1 o2 o3 o4 o5 => by
      rw [upd_ne ne1, upd_ne neu.symm, upd_ne ne1, upd_same]
    have hpu : ∀ o1 o2 o3 o4 o5 : HO, upd (upd (upd (upd (upd H1 p o1) pe o2) p o3) pu o4) p o5 pu = some o4 := fun o1 o2 o3 o4 o5 => by
      rw [upd_ne nu1, upd_same]
    have old : ∀ o1 o2 o3 o4 o5 : HO, ∀ b o, H1 b = some o → b ≠ p → upd (upd (upd (upd (upd H1 p o1) pe o2) p o3) pu o4) p o5 b = some o := fun o1 o2 o3 o4 o5 b o hb hn => by
      rw [upd_ne hn, upd_ne (ne_of_none hb nu), upd_ne hn, upd_ne (ne_of_none hb ne), upd_ne hn]
      exact hb
    refine q _ pc pe pu ys (fun b o hb hn => old _ _ _ _ _ b o (s1 _ _ hb) hn) nc (s1.free ne) (s1.free nu) neu.symm nce ncu ?_ (old _ _ _ _ _ pc _ hc npc) (hpe _ _ _ _ _) (hpu _ _ _ _ _) ?_
    · rw [upd_same, rF_put1, rF_put2, rF_put3]
    · have nt : ∀ b ∈ [p], NoT H1 b := fun b hb => by
        rw [List.mem_singleton.mp hb]
        exact NoT.ins hp1
      refine dpa_mono (H := R.hidL [p] H1) (fun b o hb => ?_) _ _ (dpa_hidL nt _ _ (tupA_dS _) da)
      obtain ⟨h1, h2⟩ := hidL_ne hb
      exact old _ _ _ _ _ b o h2 (fun z => h1 (List.mem_singleton.mpr z))
def spRShow (K : PySem.W.Frag) (C : Addr) : Sp := fun vs H Q _ => ∃ (S : List Addr) (p pe pu : Addr) (cur : List St3) (ear und : List (List St3)), vs = [.ref p] ∧ RAt K C H S p pe pu cur ear und ∧
  ∀ H' r ys, Same H H' → H r = none → H' r = some (.lst ys) → DpAll K H' ys (cur.map dS) → Q (.ref r) H'
theorem cl_Reel_show (T : Txt K mg) {C : Addr} (k_Reel : C_Reel K mg C) : ClM P w K mg base CX0 1 C "show" (spRShow K C) := by
  refine k_Reel.d_show.cl sc_Reel_show (fun vs H Q E h => ?_) (fun f cdv A outer s H vs Q E hr h => ?_)
  · obtain ⟨S, p, pe, pu, cur, ear, und, rfl, _⟩ := h
    rfl
  · obtain ⟨S, p, pe, pu, cur, ear, und, rfl, r, q⟩ := h
    obtain ⟨dx, vc, h1, h2⟩ := r.ob
    obtain ⟨a, vs, rfl, h3, h4⟩ := dSh_at (dp_mono hidL_same _ _ h2)
    refine ⟨_, (pss_one (ps_ret (pe_callTy call_list_of (by rfl) T.m_list (by decide +kernel) (pa_cons (pe_fld (pv 0) rfl) pa_nil)))), ?_⟩
    refine ⟨_, rfl, p, C, dx, _, _, rfl, h1, k_Reel.oc.cl, k_Reel.n_current, rF_cur _ _ _, a, vs, rfl, .inl h3, fun l hl => ?_⟩
    have s1 := Same.new (o := .lst vs) hl
    exact q _ l vs s1 hl upd_same (dpa_mono s1 _ _ h4)
def offFill (cur : List St3) (b e : Rat) : Prop := refused cur 0 b ∨ refused cur e (lenS cur)
def fillM (cur st : List St3) (b e : Rat) : List St3 := normM (normM (cutM cur 0 b) ++ st ++ normM (cutM cur e (lenS cur)))
def Kp3 (p pe pu : Addr) (H H' : Hp) : Prop := Same (R.hidL [p, pe, pu] H) (R.hidL [p, pe, pu] H')
theorem Same.kp3 {p pe pu : Addr} {H H' : Hp} (s : Same H H') : Kp3 p pe pu H H' := Same.hidL s
theorem Kp3.trans {p pe pu : Addr} {H H1 H2 : Hp} (a : Kp3 p pe pu H H1) (b : Kp3 p pe pu H1 H2) : Kp3 p pe pu H H2 := Same.trans a b
def spFill (K : PySem.W.Frag) (C C0 : Addr) : Sp := fun vs H Q E => ∃ (S : List Addr) (p pe pu : Addr) (cur st : List St3) (ear und : List (List St3)) (u1 u2 : V) (a3 : Addr) (y3 : List V) (b e : Rat) (N : Nat), vs = [.ref p, u1, u2, .ref a3] ∧ RAt K C H S p pe pu cur ear und ∧ Dp K H u1 (dF b) ∧ Dp K H u2 (dF e) ∧ R.hidL S H a3 = some (.lst y3) ∧ DpAll K (R.hidL S H) y3 (st.map dS) ∧
  ShOk N cur ∧ Sz N b ∧ Sz N e ∧ N ≤ 2240 ∧ cur.length ≤ 300 ∧ st.length ≤ 300 ∧ ear.length ≤ 1000 ∧ (offFill cur b e → ∀ H', Same H H' → E (.ref C0) none H') ∧
  (¬ offFill cur b e → ∀ H', RAt K C H' S p pe pu (fillM cur st b e) (ear ++ [cur]) [] → Kp3 p pe pu H H' → Q .non H')
theorem dpa_app {K : PySem.W.Frag} {H : Hp} : ∀ {vs ws : List V} {ds es : List PyData}, DpAll K H vs ds → DpAll K H ws es → DpAll K H (vs ++ ws) (ds ++ es)
  | _, _, _, _, .nil, h => h
  | _, _, _, _, .cons h1 h2, h => .cons h1 (dpa_app h2 h)
theorem norm_le2 (xs : List St3) (b e : Rat) : (normM (cutM xs b e)).length ≤ xs.length := Nat.le_trans (norm_le _) (cut_len1 _ _ _)
theorem cl_Reel_fill (T : Txt K mg) {C C0 : Addr} (k_Reel : C_Reel K mg C) (e_OffReel : ExcT K mg "OffReel" C0) : ClM P w K mg base (L2.CX P w) 7 C "fill" (spFill K C C0) := by
  have c_normal := cl_normal (P := P) (w := w) (base := base) T
  have c_length := cl_length (P := P) (w := w) (base := base) T
  have c_taken := cl_taken (P := P) (w := w) (base := base) T e_OffReel
  obtain ⟨aN, g_NOUGHT, hN0⟩ := T.c_NOUGHT
  refine k_Reel.d_fill.clX sc_Reel_fill (fun vs H Q E h => ?_) (fun f cdv A outer s H vs Q E hr h => ?_)
  · obtain ⟨S, p, pe, pu, cur, st, ear, und, u1, u2, a3, y3, b, e, N, rfl, _⟩ := h
    rfl
  · obtain ⟨S, p, pe, pu, cur, st, ear, und, u1, u2, a3, y3, b, e, N, rfl, r, d1, d2, h3, d3, ok, zb, ze, hN, lc, ls, le, qE, q⟩ := h
    obtain ⟨dx, vc, h1, h2⟩ := r.ob
    have zl : Sz N (lenS cur) := by have := ok.sums cur.length; rw [List.take_length] at this; exact this
    have z0 : Sz N (0 : Rat) := Sz.mono (n := 1) ⟨by decide, by decide⟩ zb.pos
    refine ⟨_, (pss_cons (ps_set (i := 4) sc_Reel_fill.nd rfl (.inl rfl) (pe_clS c_taken hr (by decide) (by rfl) (takes_of rfl rfl rfl rfl) (pa_cons (pe_fld (pv 0) rfl) (pa_cons (pe_gl (by rfl) g_NOUGHT) (pa_cons (pv 1) pa_nil)))))
      (pss_cons (ps_set (i := 5) sc_Reel_fill.nd rfl (.inl rfl) (pe_clS c_taken hr (by decide) (by rfl) (takes_of rfl rfl rfl rfl) (pa_cons (pe_fld (pv 0) rfl) (pa_cons (pv 2) (pa_cons (pe_cl c_length hr (by decide) (by rfl) (pa_cons (pe_fld (pv 0) rfl) pa_nil)) pa_nil)))))
      (pss_cons (ps_expr (pe_bm PySem.F.plainAttrs_list PySem.F.slot_list_append PySem.F.type_list_append mt_append (pe_fld (pv 0) rfl) (pa_cons (pe_fld (pv 0) rfl) pa_nil)))
      (pss_cons (ps_expr (pe_bm0 PySem.F.plainAttrs_list PySem.F.slot_list_clear PySem.F.type_list_clear mt_clear (pe_fld (pv 0) rfl)))
      (pss_one (ps_fld (pv 0) (pe_cl c_normal hr (by decide) (by rfl) (pa_cons (pe_op op_cat (pe_op op_cat (pv 4) (pv 3)) (pv 5)) pa_nil)) rfl)))))), ?_⟩
    refine ⟨_, rfl, p, C, dx, _, _, rfl, h1, k_Reel.oc.cl, k_Reel.n_current, rF_cur _ _ _, _, rfl, _, _, _, cur, 0, b, N, rfl, dp_mono hidL_same _ _ h2, dF_mk (hN0 _), d1, ok, z0, zb, hN, by omega, fun c H1 s1 => qE (.inl c) _ s1, fun c1 H1 pa ya s1 na ha da => ?_⟩
    have r1 := r.mono s1
    obtain ⟨dx, vc, h1, h2⟩ := r1.ob
    refine ⟨_, rfl, p, C, dx, _, _, rfl, h1, k_Reel.oc.cl, k_Reel.n_current, rF_cur _ _ _, _, rfl, _, rfl, p, C, dx, _, _, rfl, h1, k_Reel.oc.cl, k_Reel.n_current, rF_cur _ _ _, _, cur, N, rfl, dp_mono hidL_same _ _ h2, ok, hN, fun H2 zL s2 dL => ?_⟩
    refine ⟨_, _, _, cur, e, lenS cur, N, rfl, dp_mono s2 _ _ (dp_mono hidL_same _ _ h2), dp_mono (s1.trans s2) _ _ d2, dL, ok, ze, zl, hN, by omega, fun c H3 s3 => qE (.inr c) _ ((s1.trans s2).trans s3), fun c2 H3 pb yb s3 nb hb db => ?_⟩
    have q := q (fun c => c.elim c1 c2)
    have s03 := (s1.trans s2).trans s3
    have r3 := r.mono s03
    have ha3 := (s2.trans s3) _ _ ha
    have da3 := dpa_mono (s2.trans s3) _ _ da
    have q3 := Same.hidL (S := S) s03 _ _ h3
    have dy3 := dpa_mono (Same.hidL (S := S) s03) _ _ d3
    have nS : ∀ a, H a = none → a ∉ S := fun a hn z => by
      obtain ⟨u, hu, _⟩ := r.nt a z
      rw [hn] at hu
      cases hu
    have naS := nS pa na
    have nbS := nS pb ((s1.trans s2).free nb)
    obtain ⟨dx, vc, h1, h2⟩ := r3.ob
    obtain ⟨es, he1, he2⟩ := r3.he
    obtain ⟨us, hu1, hu2⟩ := r3.hu
    have lne : es.length = ear.length := by rw [dpa_len he2, List.length_map]
    have npe : p ≠ pe := ne_of h1 he1 (by intro z; cases z)
    have npu : p ≠ pu := ne_of h1 hu1 (by intro z; cases z)
    -- self.earlier.append(self.current)
    refine ⟨_, rfl, p, C, dx, _, _, rfl, h1, k_Reel.oc.cl, k_Reel.n_earlier, rF_ear _ _ _, .inl ⟨rfl, _, .inl (.inl he1)⟩, _, rfl, p, C, dx, _, _, rfl, h1, k_Reel.oc.cl, k_Reel.n_current, rF_cur _ _ _, pe, es, vc, rfl, rfl, he1, small1000 (by omega), ?_⟩
    -- self.undone.clear()
    refine ⟨_, rfl, p, C, dx, rF vc (.ref pe) (.ref pu), .ref pu, rfl, (by rw [upd_ne npe]; exact h1), k_Reel.oc.cl, k_Reel.n_undone, rF_und _ _ _, .inl ⟨rfl, us, .inl (.inl (by rw [upd_ne r.neu.symm]; exact hu1))⟩, pu, us, rfl, rfl, (by rw [upd_ne r.neu.symm]; exact hu1), ?_⟩
    have e4 : R.hidL S (upd (upd H3 pe (.lst (es ++ [vc]))) pu (.lst [])) = R.hidL S H3 := by rw [hidL_upd r.iu, hidL_upd r.ie]
    have h14 : (upd (upd H3 pe (.lst (es ++ [vc]))) pu (.lst [])) p = some (.ins C dx (rF vc (.ref pe) (.ref pu))) := by rw [upd_ne npu, upd_ne npe]; exact h1
    have he4 : (upd (upd H3 pe (.lst (es ++ [vc]))) pu (.lst [])) pe = some (.lst (es ++ [vc])) := by rw [upd_ne r.neu]; exact upd_same
    have hu4 : (upd (upd H3 pe (.lst (es ++ [vc]))) pu (.lst [])) pu = some (.lst []) := upd_same
    have nt4 : ∀ a ∈ S, NoT (upd (upd H3 pe (.lst (es ++ [vc]))) pu (.lst [])) a := fun a ha => by
      by_cases z1 : a = pu
      · rw [z1]
        exact NoT.lst hu4
      · by_cases z2 : a = pe
        · rw [z2]
          exact NoT.lst he4
        · obtain ⟨u, w1, w2, w3⟩ := r3.nt a ha
          exact ⟨u, by rw [upd_ne z1, upd_ne z2]; exact w1, w2, w3⟩
    have k4 : Kp3 p pe pu H3 (upd (upd H3 pe (.lst (es ++ [vc]))) pu (.lst [])) := by
      show Same (R.hidL [p, pe, pu] H3) (R.hidL [p, pe, pu] (upd (upd H3 pe (.lst (es ++ [vc]))) pu (.lst [])))
      rw [hidL_upd (by simp), hidL_upd (by simp)]
      exact Same.refl _
    generalize upd (upd H3 pe (.lst (es ++ [vc]))) pu (.lst []) = H4 at e4 h14 he4 hu4 nt4 k4 ⊢
    have hid3 : ∀ a o, R.hidL S H3 a = some o → H4 a = some o := fun a o ha => hidL_same _ _ (by rw [e4]; exact ha)
    have qa : H4 pa = some (.lst ya) := hid3 _ _ (hidL_at naS ha3)
    have qb : H4 pb = some (.lst yb) := hid3 _ _ (hidL_at nbS hb)
    have qc : H4 a3 = some (.lst y3) := hid3 _ _ q3
    have sH4 : Same (R.hidL S H3) H4 := fun a o ha => hid3 a o ha
    have da4 := dpa_mono sH4 _ _ (dpa_hidL r3.nt _ _ (tupA_dS _) da3)
    have db4 := dpa_mono sH4 _ _ (dpa_hidL r3.nt _ _ (tupA_dS _) db)
    have dc4 := dpa_mono sH4 _ _ dy3
    have la : ya.length ≤ cur.length := by rw [dpa_len da, List.length_map]; exact norm_le2 _ _ _
    have lb : yb.length ≤ cur.length := by rw [dpa_len db, List.length_map]; exact norm_le2 _ _ _
    have lcc : y3.length = st.length := by rw [dpa_len dy3, List.length_map]
    refine ⟨_, rfl, _, rfl, pa, a3, ya, y3, rfl, rfl, qa, qc, ?_, fun x1 n1 => ?_⟩
    · exact Nat.le_trans (show ya.length + y3.length ≤ 1000 by omega) (by decide)
    have t1 := Same.new (o := .lst (ya ++ y3)) n1
    refine ⟨_, rfl, x1, pb, ya ++ y3, yb, rfl, rfl, upd_same, t1 _ _ qb, ?_, fun x2 n2 => ?_⟩
    · rw [List.length_append]
      exact Nat.le_trans (show ya.length + y3.length + yb.length ≤ 1000 by omega) (by decide)
    have t2 := Same.new (o := .lst (ya ++ y3 ++ yb)) n2
    have t12 := t1.trans t2
    have dall : DpAll K (upd (upd H4 x1 (.lst (ya ++ y3))) x2 (.lst (ya ++ y3 ++ yb))) (ya ++ y3 ++ yb) ((normM (cutM cur 0 b) ++ st ++ normM (cutM cur e (lenS cur))).map dS) := by
      rw [List.map_append, List.map_append]
      exact dpa_mono t12 _ _ (dpa_app (dpa_app da4 dc4) db4)
    have hx2 : (upd (upd H4 x1 (.lst (ya ++ y3))) x2 (.lst (ya ++ y3 ++ yb))) x2 = some (.lst (ya ++ y3 ++ yb)) := upd_same
    generalize upd (upd H4 x1 (.lst (ya ++ y3))) x2 (.lst (ya ++ y3 ++ yb)) = H5 at t12 dall hx2 ⊢
    refine ⟨_, _, rfl, .lst (.inl (.inl hx2)) dall, ?_, fun H6 pc yc s6 nc hc dc => ?_⟩
    · rw [List.length_append, List.length_append]
      have := norm_le2 cur 0 b
      have := norm_le2 cur e (lenS cur)
      omega
    have s46 := t12.trans s6
    have h16 := s46 _ _ h14
    have ncS : pc ∉ S := fun z => by
      obtain ⟨u, hu, _⟩ := nt4 pc z
      rw [t12 _ _ hu] at nc
      cases nc
    refine ⟨_, rfl, p, C, dx, _, rfl, h16, k_Reel.oc.cl, k_Reel.n_current, (by show 3 < 1000; decide), ?_⟩
    have nt6 : ∀ a ∈ S, NoT H6 a := fun a ha => (nt4 a ha).mono s46
    have e7 : R.hidL S (upd H6 p (.ins C dx (putF "current" (V.ref pc) (rF vc (.ref pe) (.ref pu))))) = R.hidL S H6 := hidL_upd r.ip
    have s36 : Same (R.hidL S H3) (R.hidL S H6) := by
      rw [← e4]
      exact Same.hidL s46
    refine q _ ⟨r.ip, r.ie, r.iu, r.neu, fun a ha => ?_, ⟨dx, .ref pc, by rw [upd_same, rF_putc], ?_⟩, ⟨es ++ [vc], by rw [upd_ne npe.symm]; exact s46 _ _ he4, ?_⟩, ⟨[], by rw [upd_ne npu.symm]; exact s46 _ _ hu4, .nil⟩⟩ ?_
    · by_cases z1 : a = p
      · rw [z1]
        exact NoT.ins upd_same
      · obtain ⟨u, w1, w2, w3⟩ := nt6 a ha
        exact ⟨u, by rw [upd_ne z1]; exact w1, w2, w3⟩
    · rw [e7]
      exact show_hidL nt6 ncS hc dc
    · rw [e7, List.map_append]
      exact dpa_snoc (dpa_mono s36 _ _ he2) (dp_mono s36 _ _ h2)
    · refine ((Same.kp3 s03).trans k4).trans ((Same.kp3 s46).trans ?_)
      show Same (R.hidL [p, pe, pu] H6) (R.hidL [p, pe, pu] (upd H6 p _))
      rw [hidL_upd (by simp)]
      exact Same.refl _
def spOut (K : PySem.W.Frag) (C C0 : Addr) : Sp := fun vs H Q E => ∃ (S : List Addr) (p pe pu : Addr) (cur : List St3) (ear und : List (List St3)) (u1 u2 : V) (b e : Rat) (N : Nat), vs = [.ref p, u1, u2] ∧ RAt K C H S p pe pu cur ear und ∧ Dp K H u1 (dF b) ∧ Dp K H u2 (dF e) ∧
  ShOk N cur ∧ Sz N b ∧ Sz N e ∧ N ≤ 2240 ∧ cur.length ≤ 300 ∧ ear.length ≤ 1000 ∧ 0 ≤ b ∧ (refused cur b e → ∀ H', Same H H' → E (.ref C0) none H') ∧
  (¬ refused cur b e → ∀ H' r ys, RAt K C H' (r :: S) p pe pu (fillM cur [] b e) (ear ++ [cur]) [] → Kp3 p pe pu H H' → H r = none → H' r = some (.lst ys) → DpAll K H' ys ((normM (cutM cur b e)).map dS) → Q (.ref r) H')
theorem off_no {cur : List St3} {b e : Rat} (h0 : 0 ≤ b) (h1 : ¬ refused cur b e) : ¬ offFill cur b e := by
  have n1 : ¬ e < b := fun z => h1 (.inl z)
  have n2 : ¬ lenS cur < e := fun z => h1 (.inr z)
  rintro ((z | z) | (z | z))
  · grind
  · grind
  · grind
  · exact Rat.lt_irrefl z
theorem keep_new {K : PySem.W.Frag} {H H' : Hp} {S : List Addr} {vs : List V} {ds : List PyData} (nt : ∀ a ∈ S, NoT H a) (s : Same (R.hidL S H) (R.hidL S H')) (hd : tupA ds = true) (h : DpAll K H vs ds) : DpAll K H' vs ds := dpa_mono hidL_same _ _ (dpa_mono s _ _ (dpa_hidL nt _ _ hd h))
theorem nt3 {K : PySem.W.Frag} {C : Addr} {H : Hp} {S : List Addr} {p pe pu : Addr} {cur : List St3} {ear und : List (List St3)} (r : RAt K C H S p pe pu cur ear und) : ∀ a ∈ [p, pe, pu], NoT H a := by
  intro a ha
  simp only [List.mem_cons, List.not_mem_nil, or_false] at ha
  rcases ha with z | z | z
  · rw [z]
    exact r.nt p r.ip
  · rw [z]
    exact r.nt pe r.ie
  · rw [z]
    exact r.nt pu r.iu
theorem no3 {K : PySem.W.Frag} {C : Addr} {H : Hp} {S : List Addr} {p pe pu a : Addr} {cur : List St3} {ear und : List (List St3)} (r : RAt K C H S p pe pu cur ear und) (h : a ∉ S) : a ∉ [p, pe, pu] := by
  intro ha
  simp only [List.mem_cons, List.not_mem_nil, or_false] at ha
  rcases ha with z | z | z
  · exact h (by rw [z]; exact r.ip)
  · exact h (by rw [z]; exact r.ie)
  · exact h (by rw [z]; exact r.iu)
theorem cl_Reel_out (T : Txt K mg) {C C0 : Addr} (k_Reel : C_Reel K mg C) (e_OffReel : ExcT K mg "OffReel" C0) : ClM P w K mg base (L2.CX P w) 8 C "out" (spOut K C C0) := by
  have c_taken := cl_taken (P := P) (w := w) (base := base) T e_OffReel
  have c_Reel_fill := cl_Reel_fill (P := P) (w := w) (base := base) T k_Reel e_OffReel
  refine k_Reel.d_out.clX sc_Reel_out (fun vs H Q E h => ?_) (fun f cdv A outer s H vs Q E hr h => ?_)
  · obtain ⟨S, p, pe, pu, cur, ear, und, u1, u2, b, e, N, rfl, _⟩ := h
    rfl
  · obtain ⟨S, p, pe, pu, cur, ear, und, u1, u2, b, e, N, rfl, r, d1, d2, ok, zb, ze, hN, lc, le, b0, qE, q⟩ := h
    obtain ⟨dx, vc, h1, h2⟩ := r.ob
    refine ⟨_, (pss_cons (ps_set (i := 3) sc_Reel_out.nd rfl (.inl rfl) (pe_clS c_taken hr (by decide) (by rfl) (takes_of rfl rfl rfl rfl) (pa_cons (pe_fld (pv 0) rfl) (pa_cons (pv 1) (pa_cons (pv 2) pa_nil)))))
      (pss_cons (ps_expr (pe_mtS c_Reel_fill hr (by decide) k_Reel.oc.cl (takes_of rfl rfl rfl rfl) (pv 0) (pa_cons (pv 1) (pa_cons (pv 2) (pa_cons (pe_lst pa_nil) pa_nil)))))
      (pss_one (ps_ret (pv 3))))), ?_⟩
    refine ⟨_, rfl, p, C, dx, _, _, rfl, h1, k_Reel.oc.cl, k_Reel.n_current, rF_cur _ _ _, _, rfl, _, rfl, _, _, _, cur, b, e, N, rfl, dp_mono hidL_same _ _ h2, d1, d2, ok, zb, ze, hN, by omega, fun c H1 s1 => qE c _ s1, fun c1 H1 ra ya s1 na ha da => ?_⟩
    have r1 := r.new s1 na (NoT.lst ha)
    obtain ⟨dx, vc, h1, h2⟩ := r1.ob
    refine ⟨_, rfl, p, dx, _, rfl, h1, rF_no _ _ _ (by decide +kernel) (by decide +kernel) (by decide +kernel), _, rfl, _, rfl, Nat.zero_le _, fun a3 n3 => ?_⟩
    have t1 := Same.new (o := .lst []) n3
    have r2 := r1.mono t1
    refine ⟨ra :: S, p, pe, pu, cur, [], ear, und, _, _, a3, [], b, e, N, rfl, r2, dp_mono (s1.trans t1) _ _ d1, dp_mono (s1.trans t1) _ _ d2, hidL_at (r1.notin n3) upd_same, .nil, ok, zb, ze, hN, lc, Nat.zero_le _, le, fun c => absurd c (off_no b0 c1), fun _ H2 r3 k3 => ?_⟩
    have nra : ra ∉ [p, pe, pu] := no3 r (r.notin na)
    refine ⟨_, rfl, q c1 _ ra ya r3 ((Same.kp3 (s1.trans t1)).trans k3) na ?_ ?_⟩
    · exact hidL_same _ _ (k3 _ _ (hidL_at nra (t1 _ _ ha)))
    · exact keep_new (nt3 r2) k3 (tupA_dS _) (dpa_mono t1 _ _ da)
def spInto (K : PySem.W.Frag) (C C0 : Addr) : Sp := fun vs H Q E => ∃ (S : List Addr) (p pe pu : Addr) (cur st : List St3) (ear und : List (List St3)) (u1 : V) (a3 : Addr) (y3 : List V) (b : Rat) (N : Nat), vs = [.ref p, u1, .ref a3] ∧ RAt K C H S p pe pu cur ear und ∧ Dp K H u1 (dF b) ∧
  R.hidL S H a3 = some (.lst y3) ∧ DpAll K (R.hidL S H) y3 (st.map dS) ∧ ShOk N cur ∧ Sz N b ∧ N ≤ 2240 ∧ cur.length ≤ 300 ∧ st.length ≤ 300 ∧ ear.length ≤ 1000 ∧ 0 ≤ b ∧ (lenS cur < b → ∀ H', Same H H' → E (.ref C0) none H') ∧
  (¬ lenS cur < b → ∀ H', RAt K C H' S p pe pu (fillM cur st b b) (ear ++ [cur]) [] → Kp3 p pe pu H H' → Q .non H')
theorem cl_Reel_into (T : Txt K mg) {C C0 : Addr} (k_Reel : C_Reel K mg C) (e_OffReel : ExcT K mg "OffReel" C0) : ClM P w K mg base (L2.CX P w) 8 C "into" (spInto K C C0) := by
  have c_Reel_fill := cl_Reel_fill (P := P) (w := w) (base := base) T k_Reel e_OffReel
  refine k_Reel.d_into.clX sc_Reel_into (fun vs H Q E h => ?_) (fun f cdv A outer s H vs Q E hr h => ?_)
  · obtain ⟨S, p, pe, pu, cur, st, ear, und, u1, a3, y3, b, N, rfl, _⟩ := h
    rfl
  · obtain ⟨S, p, pe, pu, cur, st, ear, und, u1, a3, y3, b, N, rfl, r, d1, h3, d3, ok, zb, hN, lc, ls, le, b0, qE, q⟩ := h
    obtain ⟨dx, vc, h1, h2⟩ := r.ob
    refine ⟨_, (pss_one (ps_expr (pe_mtS c_Reel_fill hr (by decide) k_Reel.oc.cl (takes_of rfl rfl rfl rfl) (pv 0) (pa_cons (pv 1) (pa_cons (pv 1) (pa_cons (pv 2) pa_nil)))))), ?_⟩
    refine ⟨_, rfl, p, dx, _, rfl, h1, rF_no _ _ _ (by decide +kernel) (by decide +kernel) (by decide +kernel), _, rfl, _, rfl, _, rfl, S, p, pe, pu, cur, st, ear, und, _, _, a3, y3, b, b, N, rfl, r, d1, d1, h3, d3, ok, zb, zb, hN, lc, ls, le, fun c H' s' => qE ?_ _ s', fun c H' r' k' => q ?_ _ r' k'⟩
    · rcases c with (z | z) | (z | z)
      · grind
      · exact z
      · exact z
      · exact absurd z Rat.lt_irrefl
    · exact fun z => c (.inl (.inr z))
def spFaster (K : PySem.W.Frag) (C C0 : Addr) : Sp := fun vs H Q E => ∃ (S : List Addr) (p pe pu : Addr) (cur : List St3) (ear und : List (List St3)) (u1 u2 u3 : V) (b e f : Rat) (N : Nat), vs = [.ref p, u1, u2, u3] ∧ RAt K C H S p pe pu cur ear und ∧ Dp K H u1 (dF b) ∧ Dp K H u2 (dF e) ∧ Dp K H u3 (dF f) ∧
  ShOk N cur ∧ Sz N b ∧ Sz N e ∧ Sz 10 f ∧ N ≤ 2240 ∧ cur.length ≤ 300 ∧ ear.length ≤ 1000 ∧ 0 ≤ b ∧ (refused cur b e → ∀ H', Same H H' → E (.ref C0) none H') ∧
  (¬ refused cur b e → ∀ H', RAt K C H' S p pe pu (fillM cur (fastM f (normM (cutM cur b e))) b e) (ear ++ [cur]) [] → Kp3 p pe pu H H' → Q .non H')
theorem piece_pace {s t : St3} {b e : Rat} (h : t ∈ piece s b e) : t.2.2 = s.2.2 := by
  rw [piece_pf] at h
  split at h
  · rw [List.mem_singleton.mp h]
  · cases h
theorem cut_pace {P : Rat → Prop} : ∀ (xs : List St3) (b e : Rat), (∀ s ∈ xs, P s.2.2) → ∀ t ∈ cutM xs b e, P t.2.2
  | [], _, _, _, t, ht => by cases ht
  | s :: r, b, e, h, t, ht => by
    rcases List.mem_append.mp (show t ∈ piece s b e ++ cutM r (b - lst3 s) (e - lst3 s) from ht) with h1 | h1
    · rw [piece_pace h1]
      exact h s List.mem_cons_self
    · exact cut_pace r _ _ (fun z hz => h z (List.mem_cons_of_mem _ hz)) t h1
theorem cl_Reel_faster (T : Txt K mg) {C C0 : Addr} (k_Reel : C_Reel K mg C) (e_OffReel : ExcT K mg "OffReel" C0) : ClM P w K mg base (L2.CX P w) 8 C "faster" (spFaster K C C0) := by
  have c_taken := cl_taken (P := P) (w := w) (base := base) T e_OffReel
  have c_timed := cl_timed (P := P) (w := w) (base := base) T
  have c_Reel_fill := cl_Reel_fill (P := P) (w := w) (base := base) T k_Reel e_OffReel
  refine k_Reel.d_faster.clX sc_Reel_faster (fun vs H Q E h => ?_) (fun f cdv A outer s H vs Q E hr h => ?_)
  · obtain ⟨S, p, pe, pu, cur, ear, und, u1, u2, u3, b, e, x, N, rfl, _⟩ := h
    rfl
  · obtain ⟨S, p, pe, pu, cur, ear, und, u1, u2, u3, b, e, x, N, rfl, r, d1, d2, d3, ok, zb, ze, zx, hN, lc, le, b0, qE, q⟩ := h
    obtain ⟨dx, vc, h1, h2⟩ := r.ob
    refine ⟨_, (pss_cons (ps_set (i := 4) sc_Reel_faster.nd rfl (.inl rfl) (pe_clS c_taken hr (by decide) (by rfl) (takes_of rfl rfl rfl rfl) (pa_cons (pe_fld (pv 0) rfl) (pa_cons (pv 1) (pa_cons (pv 2) pa_nil)))))
      (pss_one (ps_expr (pe_mtS c_Reel_fill hr (by decide) k_Reel.oc.cl (takes_of rfl rfl rfl rfl) (pv 0) (pa_cons (pv 1) (pa_cons (pv 2) (pa_cons (pe_lc (own := [("first", 5), ("last", 6), ("pace", 7)]) (g := (gTup K 3 (gCons (gName 5) (gCons (gName 6) (gCons (gName 7) gNil))))) (tt := tYes) (by rfl) sc_Reel_faster.nd (pi_list (pv 4)) (blkOk_by (N := ["self", "begin", "end", "factor", "slower", "first", "last", "pace"]) (sc := defScope s_Reel_faster) (by decide +kernel)) (fun _ _ _ _ _ => (pg_tup rfl (pgs_cons (pg_name (i := 5) sc_Reel_faster.nd rfl (Or.inl rfl)) (pgs_cons (pg_name (i := 6) sc_Reel_faster.nd rfl (Or.inl rfl)) (pgs_cons (pg_name (i := 7) sc_Reel_faster.nd rfl (Or.inl rfl)) pgs_nil))))) (fun _ _ _ _ _ => pts_nil) (fun _ _ _ _ _ => (pe_tup (pa_cons (pv 5) (pa_cons (pv 6) (pa_cons (pe_cl c_timed hr (by decide) (by rfl) (pa_cons (pv 7) (pa_cons (pv 3) pa_nil))) pa_nil)))))) pa_nil))))))), ?_⟩
    refine ⟨_, rfl, p, C, dx, _, _, rfl, h1, k_Reel.oc.cl, k_Reel.n_current, rF_cur _ _ _, _, rfl, _, rfl, _, _, _, cur, b, e, N, rfl, dp_mono hidL_same _ _ h2, d1, d2, ok, zb, ze, hN, by omega, fun c H1 s1 => qE c _ s1, fun c1 H1 ra ya s1 na ha da => ?_⟩
    have r1 := r.mono s1
    obtain ⟨dx, vc, h1, h2⟩ := r1.ob
    have zp : ∀ t ∈ normM (cutM cur b e), Sz N t.2.2 := norm_all (P := fun t => Sz N t.2.2) (fun _ _ _ _ _ h => h) _ (cut_pace cur b e fun s hs => (ok.each s hs).p)
    have lz := norm_le2 cur b e
    generalize normM (cutM cur b e) = zs at da zp lz q ⊢
    have ly : ya.length = zs.length := by rw [dpa_len da, List.length_map]
    refine ⟨_, rfl, p, dx, _, rfl, h1, rF_no _ _ _ (by decide +kernel) (by decide +kernel) (by decide +kernel), _, rfl, _, rfl, _, rfl, ra, rfl, ⟨_, .inl (.inl ha)⟩, fun D hD => ?_⟩
    have sD := Same.new (o := .lst []) hD
    refine lc_list (K := K) (a := ra) (xs := ya) (fun i H' => ∃ acc, H' D = some (.lst acc) ∧ Same H1 (hid D D H') ∧ acc.length = i ∧ DpAll K (hid D D H') acc (((fastM x zs).take i).map dS)) ⟨[], upd_same, hid_old sD hD, rfl, .nil⟩ (fun i H' hi h => ?_) (fun i y H' hy h => ?_) (fun H' h => ?_)
    · obtain ⟨acc, hd, s2, la, dd⟩ := h
      exact .inl (.inl (hid_same _ _ (s2 _ _ ha)))
    · obtain ⟨acc, hd, s2, la, dd⟩ := h
      have s2' : Same H1 H' := s2.trans hid_same
      obtain ⟨t, ht, dt⟩ := dpa_map da hy
      obtain ⟨pt, v1, v2, v3, rfl, hpt, e1, e2, e3⟩ := dS_at (dp_mono s2' _ _ dt)
      have hi : i < zs.length := (List.getElem?_eq_some_iff.mp ht).1
      refine ⟨pt, _, rfl, hpt, rfl, _, _, rfl, _, _, rfl, _, _, rfl, rfl, rfl, ?_⟩
      refine ⟨_, rfl, _, rfl, _, rfl, _, rfl, _, _, t.2.2, x, N, 10, rfl, e3, dp_mono (s1.trans s2') _ _ d3, zp t (List.mem_of_getElem? ht), zx, by omega, trivial, fun H3 z3 s3 r3 => ?_⟩
      refine ⟨(show 3 ≤ sizeLine by decide), fun pn hn => ?_⟩
      have s4 := Same.new (o := .tup [v1, v2, z3]) hn
      have hd4 := s4 _ _ (s3 _ _ hd)
      have dn : Dp K (upd H3 pn (.tup [v1, v2, z3])) (.ref pn) (dS (t.1, t.2.1, t.2.2 * x)) := dS_mk (.inl (.inl upd_same)) (dp_mono (s3.trans s4) _ _ e1) (dp_mono (s3.trans s4) _ _ e2) (dp_mono s4 _ _ r3)
      have s34 := s3.trans s4
      generalize upd H3 pn (.tup [v1, v2, z3]) = H4 at hd4 dn s34 ⊢
      have LD : IsL H4 D := ⟨_, hd4⟩
      refine ⟨acc, hd4, small1000 (by omega), acc ++ [.ref pn], upd_same, ?_, ?_, ?_⟩
      · rw [hid_b]
        exact s2.trans (Same.hid s34)
      · rw [List.length_append, la]
        rfl
      · rw [hid_b, take_more (x := (t.1, t.2.1, t.2.2 * x)) (by unfold fastM; rw [List.getElem?_map, ht]; rfl), List.map_append]
        exact dpa_snoc (dpa_mono (Same.hid s34) _ _ dd) (dp_hid LD LD _ _ rfl dn)
    · obtain ⟨acc, hd, s2, la, dd⟩ := h
      have s2' : Same H1 H' := s2.trans hid_same
      have nD : D ∉ S := r1.notin hD
      have r2 := r1.mono s2'
      have lf : (fastM x zs).length = zs.length := List.length_map ..
      rw [ly, ← lf, List.take_length] at dd
      have ha3 : R.hidL S H' D = some (.lst acc) := hidL_at nD hd
      have dd3 : DpAll K (R.hidL S H') acc ((fastM x zs).map dS) := dpa_hidL r2.nt _ _ (tupA_dS _) (dpa_mono hid_same _ _ dd)
      refine ⟨S, p, pe, pu, cur, fastM x zs, ear, und, _, _, D, acc, b, e, N, rfl, r2, dp_mono (s1.trans s2') _ _ d1, dp_mono (s1.trans s2') _ _ d2, ha3, dd3, ok, zb, ze, hN, lc, by omega, le, fun c => absurd c (off_no b0 c1), fun _ H5 r5 k5 => ?_⟩
      exact q c1 _ r5 ((Same.kp3 (s1.trans s2')).trans k5)
def spBack (K : PySem.W.Frag) (C C1 : Addr) : Sp := fun vs H Q E => ∃ (S : List Addr) (p pe pu : Addr) (cur : List St3) (ear und : List (List St3)), vs = [.ref p] ∧ RAt K C H S p pe pu cur ear und ∧ und.length ≤ 1000 ∧ (ear = [] → ∀ H', Same H H' → E (.ref C1) none H') ∧
  (∀ pre x, ear = pre ++ [x] → ∀ H', RAt K C H' S p pe pu x pre (und ++ [cur]) → Kp3 p pe pu H H' → Q .non H')
theorem map_split {α : Type} {f : α → PyData} {K : PySem.W.Frag} {H : Hp} {es : List V} {pre : List α} {x : α} (h : DpAll K H es ((pre ++ [x]).map f)) : ∃ es' v, es = es' ++ [v] ∧ DpAll K H es' (pre.map f) ∧ Dp K H v (f x) := by
  rw [List.map_append] at h
  exact dpa_split h
theorem cl_Reel_back (T : Txt K mg) {C C1 : Addr} (k_Reel : C_Reel K mg C) (e_NoDeed : ExcT K mg "NoDeed" C1) : ClM P w K mg base (L2.CX P w) 1 C "back" (spBack K C C1) := by
  refine k_Reel.d_back.clX sc_Reel_back (fun vs H Q E h => ?_) (fun f cdv A outer s H vs Q E hr h => ?_)
  · obtain ⟨S, p, pe, pu, cur, ear, und, rfl, _⟩ := h
    rfl
  · obtain ⟨S, p, pe, pu, cur, ear, und, rfl, r, lu, qE, q⟩ := h
    obtain ⟨dx, vc, h1, h2⟩ := r.ob
    obtain ⟨es, he1, he2⟩ := r.he
    obtain ⟨us, hu1, hu2⟩ := r.hu
    have lus : us.length = und.length := by rw [dpa_len hu2, List.length_map]
    have npe : p ≠ pe := ne_of h1 he1 (by intro z; cases z)
    have npu : p ≠ pu := ne_of h1 hu1 (by intro z; cases z)
    refine ⟨_, (pss_cons (ps_if (pt_not (pt_truth (pe_fld (pv 0) rfl) (by intro _; rfl)))
        (pss_one (ps_raise rfl (takes_of rfl rfl rfl rfl) (pmk_own PySem.F.excBase_ValueError e_NoDeed.x e_NoDeed.g e_NoDeed.k (raises_own e_NoDeed.b e_NoDeed.t) rfl)))
        pss_nil)
      (pss_cons (ps_expr (pe_bm PySem.F.plainAttrs_list PySem.F.slot_list_append PySem.F.type_list_append mt_append (pe_fld (pv 0) rfl) (pa_cons (pe_fld (pv 0) rfl) pa_nil)))
      (pss_one (ps_fld (pv 0) (pe_bm0 PySem.F.plainAttrs_list PySem.F.slot_list_pop PySem.F.type_list_pop mt_pop (pe_fld (pv 0) rfl)) rfl)))), ?_⟩
    refine ⟨_, rfl, p, C, dx, _, _, rfl, h1, k_Reel.oc.cl, k_Reel.n_earlier, rF_ear _ _ _, (!es.isEmpty), .inl ⟨es, .inl (.inl he1), rfl⟩, ?_⟩
    rcases List.eq_nil_or_concat ear with e0 | ⟨pre, x, e0⟩
    · subst e0
      cases he2
      exact iteY rfl (qE rfl _ (Same.refl _))
    · have e0 : ear = pre ++ [x] := by rw [e0]; simp
      subst e0
      obtain ⟨es', v, rfl, da, dv⟩ := map_split he2
      refine iteN (by cases es' <;> rfl) ?_
      refine ⟨_, rfl, p, C, dx, _, _, rfl, h1, k_Reel.oc.cl, k_Reel.n_undone, rF_und _ _ _, .inl ⟨rfl, _, .inl (.inl hu1)⟩, _, rfl, p, C, dx, _, _, rfl, h1, k_Reel.oc.cl, k_Reel.n_current, rF_cur _ _ _, pu, us, vc, rfl, rfl, hu1, small1000 (by omega), ?_⟩
      have he3 : (upd H pu (.lst (us ++ [vc]))) pe = some (.lst (es' ++ [v])) := by rw [upd_ne r.neu]; exact he1
      have h13 : (upd H pu (.lst (us ++ [vc]))) p = some (.ins C dx (rF vc (.ref pe) (.ref pu))) := by rw [upd_ne npu]; exact h1
      refine ⟨_, rfl, p, C, dx, rF vc (.ref pe) (.ref pu), .ref pe, rfl, h13, k_Reel.oc.cl, k_Reel.n_earlier, rF_ear _ _ _, .inl ⟨rfl, _, .inl (.inl he3)⟩, pe, es' ++ [v], v, rfl, rfl, he3, ?_, ?_⟩
      · rw [List.length_append]
        show (es' ++ [v])[es'.length + 1 - 1]? = _
        rw [Nat.add_sub_cancel]
        simp
      rw [List.dropLast_concat]
      refine ⟨_, rfl, p, C, dx, rF vc (.ref pe) (.ref pu), rfl, (by rw [upd_ne npe]; exact h13), k_Reel.oc.cl, k_Reel.n_current, (by show 3 < 1000; decide), ?_⟩
      have eS : R.hidL S (upd (upd (upd H pu (.lst (us ++ [vc]))) pe (.lst es')) p (.ins C dx (putF "current" v (rF vc (.ref pe) (.ref pu))))) = R.hidL S H := by rw [hidL_upd r.ip, hidL_upd r.ie, hidL_upd r.iu]
      refine q pre x rfl _ ⟨r.ip, r.ie, r.iu, r.neu, fun a ha => ?_, ⟨dx, v, by rw [upd_same, rF_putc], by rw [eS]; exact dv⟩, ⟨es', by rw [upd_ne npe.symm]; exact upd_same, by rw [eS]; exact da⟩, ⟨us ++ [vc], by rw [upd_ne npu.symm, upd_ne r.neu.symm]; exact upd_same, ?_⟩⟩ ?_
      · by_cases z1 : a = p
        · rw [z1]
          exact NoT.ins upd_same
        · by_cases z2 : a = pe
          · rw [z2]
            exact NoT.lst (by rw [upd_ne npe.symm]; exact upd_same)
          · by_cases z3 : a = pu
            · rw [z3]
              exact NoT.lst (by rw [upd_ne npu.symm, upd_ne r.neu.symm]; exact upd_same)
            · obtain ⟨u, w1, w2, w3⟩ := r.nt a ha
              exact ⟨u, by rw [upd_ne z1, upd_ne z2, upd_ne z3]; exact w1, w2, w3⟩
      · rw [eS, List.map_append]
        exact dpa_snoc hu2 h2
      · show Same (R.hidL [p, pe, pu] H) (R.hidL [p, pe, pu] _)
        rw [hidL_upd (by simp), hidL_upd (by simp), hidL_upd (by simp)]
        exact Same.refl _
/-! ### what the law holds: the box, a show, a copy of it, its length -/
theorem normF_len : ∀ (xs acc : List St3), (xs.foldl nstep acc).length ≤ acc.length + xs.length
  | [], acc => Nat.le_refl _
  | s :: r, acc => by
    have h1 := nstep_len acc s
    have h2 := normF_len r (nstep acc s)
    show (r.foldl nstep (nstep acc s)).length ≤ acc.length + (r.length + 1)
    omega
theorem normM_len (xs : List St3) : (normM xs).length ≤ xs.length := by
  have h : (normM xs).length ≤ ([] : List St3).length + xs.length := normF_len xs []
  rw [List.length_nil, Nat.zero_add] at h
  exact h
theorem sums_sz : ∀ xs : List St3, (∀ s ∈ xs, StOk 80 s) → Sz (1 + 242 * xs.length) (lenS xs)
  | [], _ => ⟨by decide, by decide⟩
  | s :: r, h => by
    have h1 := sz_lst (h s List.mem_cons_self)
    have h2 := sums_sz r (fun z hz => h z (List.mem_cons_of_mem _ hz))
    exact (sz_add h1 h2).mono (by rw [List.length_cons]; omega)
theorem shOk_of {xs : List St3} (h : ∀ s ∈ xs, StOk 80 s) (hl : xs.length ≤ 6) : ShOk 1470 xs := by
  refine ⟨fun s hs => ?_, fun k => ?_, fun s hs => (sz_lst (h s hs)).mono (by decide)⟩
  · have o := h s hs
    exact ⟨o.b.mono (by decide), o.e.mono (by decide), o.p.mono (by decide), o.pos⟩
  · refine (sums_sz (xs.take k) (fun s hs => h s (List.mem_of_mem_take hs))).mono ?_
    rw [List.length_take]
    omega
structure Lw (K : PySem.W.Frag) (H : Hp) (b l p k : Addr) (vw : V) (ys : List V) (xs : List St3) : Prop where
  bx : Bx H b l
  hp : hid b l H p = some (.lst ys)
  hk : hid b l H k = some (.lst ys)
  da : DpAll K H ys (xs.map dS)
  dw : Dp K H vw (dF (lenS xs))
section
variable {K : PySem.W.Frag} {H H' : Hp} {b l p k : Addr} {vw : V} {ys : List V} {xs : List St3}
theorem Lw.mono (h : Lw K H b l p k vw ys xs) (s : Same H H') : Lw K H' b l p k vw ys xs := ⟨h.bx.mono s, Same.hid s _ _ h.hp, Same.hid s _ _ h.hk, dpa_mono s _ _ h.da, dp_mono s _ _ h.dw⟩
theorem Lw.draw (h : Lw K H b l p k vw ys xs) (s : Same (hid b l H) (hid b l H')) (B : Bx H' b l) : Lw K H' b l p k vw ys xs := ⟨B, s _ _ h.hp, s _ _ h.hk, keepA h.da (tupA_dS _) h.bx.lb h.bx.ll s, frac_keep h.dw h.bx s⟩
theorem Lw.show (h : Lw K H b l p k vw ys xs) : Dp K H (.ref p) (dSh xs) := .lst (.inl (.inl (hid_same _ _ h.hp))) h.da
theorem Lw.kept (h : Lw K H b l p k vw ys xs) : Dp K H (.ref k) (dSh xs) := .lst (.inl (.inl (hid_same _ _ h.hk))) h.da
end
theorem eqv_dSh (xs : List St3) : PyData.eqv (dSh xs) (dSh xs) = true := SeqAt.eqv_refl _ (lay_dS xs)
theorem neq_dSh (xs : List St3) : (!PyData.eqv (dSh xs) (dSh xs)) = false := by
  rw [eqv_dSh]
  rfl
/-! ### what a law over a reel holds: the box, the reel, a show of its own -/
structure Lr (K : PySem.W.Frag) (C : Addr) (H : Hp) (S : List Addr) (b l p pe pu : Addr) (cur : List St3) (ear und : List (List St3)) : Prop where
  bx : Bx H b l
  ib : b ∈ S
  il : l ∈ S
  nb : ∀ a ∈ [p, pe, pu], a ≠ b ∧ a ≠ l
  r : RAt K C H S p pe pu cur ear und
section
variable {K : PySem.W.Frag} {C : Addr} {H H' : Hp} {S : List Addr} {b l p pe pu : Addr} {cur cur' : List St3} {ear und ear' und' : List (List St3)}
theorem Lr.mono (h : Lr K C H S b l p pe pu cur ear und) (s : Same H H') : Lr K C H' S b l p pe pu cur ear und := ⟨h.bx.mono s, h.ib, h.il, h.nb, h.r.mono s⟩
theorem Lr.draw (h : Lr K C H S b l p pe pu cur ear und) (s : Same (hid b l H) (hid b l H')) (B : Bx H' b l) : Lr K C H' S b l p pe pu cur ear und ∧ Same (R.hidL S H) (R.hidL S H') := ⟨⟨B, h.ib, h.il, h.nb, h.r.draw' h.ib h.il h.nb s B⟩, hid_hidL h.ib h.il s⟩
theorem Lr.kp (h : Lr K C H S b l p pe pu cur ear und) (r : RAt K C H' S p pe pu cur' ear' und') (k : Kp3 p pe pu H H') : Lr K C H' S b l p pe pu cur' ear' und' ∧ Same (R.hidL S H) (R.hidL S H') := by
  have nb : b ∉ [p, pe, pu] := fun z => (h.nb b z).1 rfl
  have nl : l ∉ [p, pe, pu] := fun z => (h.nb l z).2 rfl
  obtain ⟨xs, st, h1, h2⟩ := h.bx.ex
  refine ⟨⟨⟨h.bx.ne, xs, st, hidL_same _ _ (k _ _ (hidL_at nb h1)), hidL_same _ _ (k _ _ (hidL_at nl h2))⟩, h.ib, h.il, h.nb, r⟩, sub_hidL (fun a ha => ?_) k⟩
  simp only [List.mem_cons, List.not_mem_nil, or_false] at ha
  rcases ha with z | z | z
  · rw [z]
    exact r.ip
  · rw [z]
    exact r.ie
  · rw [z]
    exact r.iu
/-- behind the making of a reel; X: other lists that are changed -/
theorem Lr.makeX {H0 : Hp} {pc dx : Addr} {ys : List V} {xs : List St3} (X : List Addr) (hX : ∀ x ∈ X, ∃ zs, H0 x = some (.lst zs)) (B : Bx H0 b l) (np : H0 p = none) (old : ∀ a o, H0 a = some o → H' a = some o) (nc : H0 pc = none) (ne : H0 pe = none) (nu : H0 pu = none) (npc : pc ≠ p) (neu : pe ≠ pu) (nce : pc ≠ pe) (ncu : pc ≠ pu)
    (hp : H' p = some (.ins C dx (rF (.ref pc) (.ref pe) (.ref pu)))) (hc : H' pc = some (.lst ys)) (he : H' pe = some (.lst [])) (hu : H' pu = some (.lst [])) (da : DpAll K H' ys (xs.map dS)) : Lr K C H' (p :: pe :: pu :: b :: l :: X) b l p pe pu xs [] [] := by
  obtain ⟨ns, st, h1, h2⟩ := B.ex
  have h1' := old _ _ h1
  have h2' := old _ _ h2
  have nt : ∀ a ∈ p :: pe :: pu :: b :: l :: X, NoT H' a := by
    intro a ha
    simp only [List.mem_cons] at ha
    rcases ha with z | z | z | z | z | z
    · rw [z]
      exact NoT.ins hp
    · rw [z]
      exact NoT.lst he
    · rw [z]
      exact NoT.lst hu
    · rw [z]
      exact NoT.lst h1'
    · rw [z]
      exact NoT.lst h2'
    · obtain ⟨zs, hz⟩ := hX a z
      exact NoT.lst (old _ _ hz)
  have nS : pc ∉ p :: pe :: pu :: b :: l :: X := by
    intro ha
    simp only [List.mem_cons] at ha
    rcases ha with z | z | z | z | z | z
    · exact npc z
    · exact nce z
    · exact ncu z
    · rw [z, h1] at nc
      cases nc
    · rw [z, h2] at nc
      cases nc
    · obtain ⟨zs, hz⟩ := hX pc z
      rw [nc] at hz
      cases hz
  refine ⟨⟨B.ne, ns, st, h1', h2'⟩, by simp, by simp, ?_, ⟨by simp, by simp, by simp, neu, nt, ⟨dx, .ref pc, hp, show_hidL nt nS hc da⟩, ⟨[], he, .nil⟩, ⟨[], hu, .nil⟩⟩⟩
  intro a ha
  simp only [List.mem_cons, List.not_mem_nil, or_false] at ha
  rcases ha with z | z | z <;> rw [z]
  · exact ⟨fun y => (by rw [y, h1] at np; cases np), fun y => (by rw [y, h2] at np; cases np)⟩
  · exact ⟨fun y => (by rw [y, h1] at ne; cases ne), fun y => (by rw [y, h2] at ne; cases ne)⟩
  · exact ⟨fun y => (by rw [y, h1] at nu; cases nu), fun y => (by rw [y, h2] at nu; cases nu)⟩
theorem Lr.make {H0 : Hp} {pc dx : Addr} {ys : List V} {xs : List St3} (B : Bx H0 b l) (np : H0 p = none) (old : ∀ a o, H0 a = some o → H' a = some o) (nc : H0 pc = none) (ne : H0 pe = none) (nu : H0 pu = none) (npc : pc ≠ p) (neu : pe ≠ pu) (nce : pc ≠ pe) (ncu : pc ≠ pu)
    (hp : H' p = some (.ins C dx (rF (.ref pc) (.ref pe) (.ref pu)))) (hc : H' pc = some (.lst ys)) (he : H' pe = some (.lst [])) (hu : H' pu = some (.lst [])) (da : DpAll K H' ys (xs.map dS)) : Lr K C H' [p, pe, pu, b, l] b l p pe pu xs [] [] :=
  Lr.makeX [] (fun x hx => nomatch hx) B np old nc ne nu npc neu nce ncu hp hc he hu da
theorem Lr.less {S' : List Addr} (h : Lr K C H S' b l p pe pu cur ear und) (hs : ∀ a ∈ S, a ∈ S') (ip : p ∈ S) (ie : pe ∈ S) (iu : pu ∈ S) (ib : b ∈ S) (il : l ∈ S) : Lr K C H S b l p pe pu cur ear und := ⟨h.bx, ib, il, h.nb, h.r.less hs ip ie iu⟩
theorem RAt.updS {a : Addr} {zs : List V} (r : RAt K C H S p pe pu cur ear und) (ha : a ∈ S) (n : a ∉ [p, pe, pu]) : RAt K C (upd H a (.lst zs)) S p pe pu cur ear und := by
  obtain ⟨dx, vc, h1, h2⟩ := r.ob
  obtain ⟨es, h3, h4⟩ := r.he
  obtain ⟨us, h5, h6⟩ := r.hu
  have n1 : p ≠ a := fun z => n (by rw [← z]; simp)
  have n2 : pe ≠ a := fun z => n (by rw [← z]; simp)
  have n3 : pu ≠ a := fun z => n (by rw [← z]; simp)
  have e : R.hidL S (upd H a (.lst zs)) = R.hidL S H := hidL_upd ha
  refine ⟨r.ip, r.ie, r.iu, r.neu, fun c hc => ?_, ⟨dx, vc, by rw [upd_ne n1]; exact h1, by rw [e]; exact h2⟩, ⟨es, by rw [upd_ne n2]; exact h3, by rw [e]; exact h4⟩, ⟨us, by rw [upd_ne n3]; exact h5, by rw [e]; exact h6⟩⟩
  by_cases z : c = a
  · rw [z]
    exact NoT.lst upd_same
  · obtain ⟨u, w1, w2, w3⟩ := r.nt c hc
    exact ⟨u, by rw [upd_ne z]; exact w1, w2, w3⟩
theorem same_upd_new {a : Addr} {o : HO} {H'' : Hp} (s : Same (R.hidL S H) (R.hidL S H'')) (n : H a = none) : Same (R.hidL S H) (R.hidL S (upd H'' a o)) := fun c x hc => by
  obtain ⟨h1, h2⟩ := hidL_ne hc
  refine hidL_at h1 ?_
  rw [upd_ne (ne_of_none h2 n)]
  exact hidL_same _ _ (s _ _ hc)
/-- what was told is cleared -/
theorem Lr.clear {a : Addr} {zs : List V} {H'' : Hp} (h : Lr K C H S b l p pe pu cur ear und) (r : RAt K C H' (a :: S) p pe pu cur' ear' und') (k : Kp3 p pe pu H H') (n : H a = none) (s : Same H' H'') : Lr K C (upd H'' a (.lst zs)) S b l p pe pu cur' ear' und' ∧ Same (R.hidL S H) (R.hidL S (upd H'' a (.lst zs))) := by
  have nS : a ∉ S := h.r.notin n
  obtain ⟨w, t⟩ := h.kp (r.less (S := S) (fun c hc => List.mem_cons_of_mem _ hc) h.r.ip h.r.ie h.r.iu) k
  have w2 := w.mono s
  have t2 : Same (R.hidL S H) (R.hidL S H'') := t.trans (Same.hidL s)
  have q := ((r.mono s).updS (a := a) (zs := zs) List.mem_cons_self (no3 h.r nS)).less (S := S) (fun c hc => List.mem_cons_of_mem _ hc) h.r.ip h.r.ie h.r.iu
  refine ⟨⟨?_, h.ib, h.il, h.nb, q⟩, same_upd_new t2 n⟩
  obtain ⟨ns, st, h1, h2⟩ := w2.bx.ex
  exact ⟨w2.bx.ne, ns, st, by rw [upd_ne (fun z => nS (by rw [← z]; exact h.ib))]; exact h1, by rw [upd_ne (fun z => nS (by rw [← z]; exact h.il))]; exact h2⟩
theorem Lr.updS {a : Addr} {zs : List V} (h : Lr K C H S b l p pe pu cur ear und) (ha : a ∈ S) (n : a ∉ [p, pe, pu]) (nb : b ≠ a) (nl : l ≠ a) : Lr K C (upd H a (.lst zs)) S b l p pe pu cur ear und := by
  obtain ⟨ns, st, h1, h2⟩ := h.bx.ex
  exact ⟨⟨h.bx.ne, ns, st, by rw [upd_ne nb]; exact h1, by rw [upd_ne nl]; exact h2⟩, h.ib, h.il, h.nb, h.r.updS ha n⟩
end
theorem sIx2 (n : Nat) : HT.sIx n n (some 2) ≤ 2 := by
  unfold HT.sIx
  simp only []
  split <;> omega
theorem dpa_take {K : PySem.W.Frag} {H : Hp} : ∀ {vs : List V} {ds : List PyData} (j : Nat), DpAll K H vs ds → DpAll K H (vs.take j) (ds.take j)
  | _, _, 0, _ => .nil
  | _, _, _ + 1, .nil => .nil
  | _, _, j + 1, .cons h1 h2 => .cons h1 (dpa_take j h2)
theorem cut2 (ys : List V) : ∃ j, j ≤ 2 ∧ cutV ys none (some 2) = ys.take j := by
  refine ⟨HT.sIx ys.length ys.length (some 2), sIx2 _, ?_⟩
  unfold cutV
  show (ys.drop 0).take (HT.sIx ys.length ys.length (some 2) - 0) = _
  rw [List.drop_zero, Nat.sub_zero]
def spDeed (K : PySem.W.Frag) (C : Addr) : Sp := fun vs H Q _ => ∃ (S : List Addr) (b l p pe pu p0 : Addr) (ys : List V) (xs : List St3) (ear und : List (List St3)) (i : Nat), vs = [.ref b, .ref p, .ref p0] ∧ Lr K C H S b l p pe pu (normM xs) ear und ∧ R.hidL S H p0 = some (.lst ys) ∧ DpAll K (R.hidL S H) ys (xs.map dS) ∧ Sd i xs ∧ i ≤ 19 ∧ ear.length ≤ 1000 ∧
  ∀ H' p1 ys' xs', Lr K C H' S b l p pe pu (normM xs') (ear ++ [normM xs]) [] → Same (R.hidL S H) (R.hidL S H') → R.hidL S H' p1 = some (.lst ys') → DpAll K (R.hidL S H') ys' (xs'.map dS) → Sd (i + 1) xs' → Q (.ref p1) H'
theorem cl_Ldeed (T : Txt K mg) {C C0 : Addr} (k_Reel : C_Reel K mg C) (e_OffReel : ExcT K mg "OffReel" C0) : Cl P w K mg base CX0 9 "_law_deed" (spDeed K C) := by
  have c_Llong := cl_Llong (P := P) (w := w) (base := base) T
  have c_Lwithin := cl_Lwithin (P := P) (w := w) (base := base) T
  have c_Llow := cl_Llow (P := P) (w := w) (base := base) T
  have c_Lcut := cl_Lcut (P := P) (w := w) (base := base) T
  have c_Ltake := cl_Ltake (P := P) (w := w) (base := base) T
  have c_Lone := cl_Lone (P := P) (w := w) (base := base) T
  have c_Lshow := cl_Lshow (P := P) (w := w) (base := base) T
  have c_Lpace := cl_Lpace (P := P) (w := w) (base := base) T
  have c_Ltimes := cl_Ltimes (P := P) (w := w) (base := base) T
  have c_Reel_out := cl_Reel_out (P := P) (w := w) (base := base) T k_Reel e_OffReel
  have c_Reel_into := cl_Reel_into (P := P) (w := w) (base := base) T k_Reel e_OffReel
  have c_Reel_faster := cl_Reel_faster (P := P) (w := w) (base := base) T k_Reel e_OffReel
  refine T.d_Ldeed.cl sc_Ldeed (fun vs H Q E h => ?_) (fun f cdv A outer s H vs Q E hr h => ?_)
  · obtain ⟨S, b, l, p, pe, pu, p0, ys, xs, ear, und, i, rfl, _⟩ := h
    rfl
  · obtain ⟨S, b, l, p, pe, pu, p0, ys, xs, ear, und, i, rfl, w0, hs, ds, sd, hi, le, q⟩ := h
    have okx := sd.ok hi
    have okc := sd.norm.ok hi
    have gd := sd.gd
    have lx := sd.len
    have lcur : (normM xs).length ≤ 300 := by
      have := norm_le xs
      omega
    have zL := (sd.time hi (tq_all xs)).1
    refine ⟨_, (pss_cons (ps_set (i := 3) sc_Ldeed.nd rfl (.inl rfl) (pe_cl c_Llong hr (by decide) (by rfl) (pa_cons (pv 2) pa_nil)))
      (pss_cons (ps_set (i := 4) sc_Ldeed.nd rfl (.inl rfl) (pe_lst (pa_cons (pe_cl c_Lwithin hr (by decide) (by rfl) (pa_cons (pv 0) (pa_cons (pv 3) pa_nil))) (pa_cons (pe_cl c_Lwithin hr (by decide) (by rfl) (pa_cons (pv 0) (pa_cons (pv 3) pa_nil))) pa_nil))))
      (Evl.pss_cut (ps_if (pt_val (pe_cl c_Llow hr (by decide) (by rfl) (pa_cons (pe_ix ix_list (pv 4) pe_int (fun _ _ => rfl)) (pa_cons (pe_ix ix_list (pv 4) pe_int (fun _ _ => rfl)) pa_nil))))
        (pss_one (ps_set (i := 4) sc_Ldeed.nd rfl (.inl rfl) (pe_lst (pa_cons (pe_ix ix_list (pv 4) pe_int (fun _ _ => rfl)) (pa_cons (pe_ix ix_list (pv 4) pe_int (fun _ _ => rfl)) pa_nil)))))
        pss_nil)
      (pss_cons (ps_set (i := 5) sc_Ldeed.nd rfl (.inl rfl) (pe_cl c_Lcut hr (by decide) (by rfl) (pa_cons (pv 2) (pa_cons (pe_tup (pa_cons pe_int (pa_cons pe_int pa_nil))) (pa_cons (pe_ix ix_list (pv 4) pe_int (fun _ _ => rfl)) pa_nil)))))
      (pss_cons (ps_set (i := 6) sc_Ldeed.nd rfl (.inl rfl) (pe_cl c_Lcut hr (by decide) (by rfl) (pa_cons (pv 2) (pa_cons (pe_ix ix_list (pv 4) pe_int (fun _ _ => rfl)) (pa_cons (pe_ix ix_list (pv 4) pe_int (fun _ _ => rfl)) pa_nil)))))
      (pss_cons (ps_set (i := 7) sc_Ldeed.nd rfl (.inl rfl) (pe_cl c_Lcut hr (by decide) (by rfl) (pa_cons (pv 2) (pa_cons (pe_ix ix_list (pv 4) pe_int (fun _ _ => rfl)) (pa_cons (pv 3) pa_nil)))))
      (pss_cons (ps_set (i := 8) sc_Ldeed.nd rfl (.inl rfl) (pe_cl c_Ltake hr (by decide) (by rfl) (pa_cons (pv 0) (pa_cons pe_int pa_nil))))
      (pss_cons (ps_if (pt_cmpR op_eq (pv 8) pe_int (nomark _))
        (pss_cons (ps_set (i := 9) sc_Ldeed.nd rfl (.inl rfl) (pe_mtN c_Reel_out hr (by decide) k_Reel.oc.cl (pv 1) (pa_cons (pe_ix ix_list (pv 4) pe_int (fun _ _ => rfl)) (pa_cons (pe_ix ix_list (pv 4) pe_int (fun _ _ => rfl)) pa_nil))))
      (pss_cons (ps_if (pt_cmpR (op_neD hr.units) (pv 9) (pe_cl c_Lone hr (by decide) (by rfl) (pa_cons (pv 6) pa_nil)) (nomark _))
        (pss_one (ps_ret pe_non))
        pss_nil)
      (pss_cons (ps_expr (pe_bm0 PySem.F.plainAttrs_list PySem.F.slot_list_clear PySem.F.type_list_clear mt_clear (pv 9)))
      (pss_one (ps_ret (pe_op op_cat (pv 5) (pv 7)))))))
        pss_nil)
      (pss_cons (ps_if (pt_cmpR op_eq (pv 8) pe_int (nomark _))
        (pss_cons (ps_set (i := 10) sc_Ldeed.nd rfl (.inl rfl) (pe_slice sl_list (pe_cl c_Lshow hr (by decide) (by rfl) (pa_cons (pv 0) pa_nil)) po_none (po_some pe_int)))
      (pss_cons (ps_set (i := 11) sc_Ldeed.nd rfl (.inl rfl) (pe_callTy call_list_of (by rfl) T.m_list (by decide +kernel) (pa_cons (pv 10) pa_nil)))
      (pss_cons (ps_if (PW.pt (pw_or (pt_cmpR op_notN (pe_mtN c_Reel_into hr (by decide) k_Reel.oc.cl (pv 1) (pa_cons (pe_ix ix_list (pv 4) pe_int (fun _ _ => rfl)) (pa_cons (pv 11) pa_nil))) pe_non (nomark _)) (pw_or1 (pt_cmpR (op_neD hr.units) (pv 11) (pv 10) (nomark _)))))
        (pss_one (ps_ret pe_non))
        pss_nil)
      (pss_one (ps_ret (pe_op op_cat (pe_op op_cat (pe_op op_cat (pv 5) (pv 10)) (pv 6)) (pv 7)))))))
        pss_nil)
      (pss_cons (ps_set (i := 12) sc_Ldeed.nd rfl (.inr rfl) (pe_cl c_Lpace hr (by decide) (by rfl) (pa_cons (pv 0) pa_nil)))
      (pss_cons (ps_if (pt_cmpR op_notN (pe_mtN c_Reel_faster hr (by decide) k_Reel.oc.cl (pv 1) (pa_cons (pe_ix ix_list (pv 4) pe_int (fun _ _ => rfl)) (pa_cons (pe_ix ix_list (pv 4) pe_int (fun _ _ => rfl)) (pa_cons (pv 12) pa_nil)))) pe_non (nomark _))
        (pss_one (ps_ret pe_non))
        pss_nil)
      (pss_one (ps_ret (pe_op op_cat (pe_op op_cat (pv 5) (pe_lc (own := [("_law_part", 13)]) (g := (gName 13)) (tt := tYes) (by rfl) sc_Ldeed.nd (pi_list (pv 6)) (blkOk_by (N := ["_law_box", "_law_reel", "_law_show_here", "_law_whole", "_law_pair", "_law_head", "_law_middle", "_law_tail", "_law_way", "_law_found", "_law_other", "_law_handed", "_law_factor", "_law_part"]) (sc := defScope s_Ldeed) (by decide +kernel)) (fun _ _ _ _ _ => (pg_name (i := 13) sc_Ldeed.nd rfl (Or.inl rfl))) (fun _ _ _ _ _ => pts_nil) (fun _ _ _ _ _ => (pe_tup (pa_cons (pe_ix (ix_tupK (K := K) rfl) (pv 13) pe_int (fun _ _ => rfl)) (pa_cons (pe_ix (ix_tupK (K := K) rfl) (pv 13) pe_int (fun _ _ => rfl)) (pa_cons (pe_cl c_Ltimes hr (by decide) (by rfl) (pa_cons (pe_ix (ix_tupK (K := K) rfl) (pv 13) pe_int (fun _ _ => rfl)) (pa_cons (pv 12) pa_nil))) pa_nil))))))) (pv 7))))))))))))))), ?_⟩
    refine ⟨_, rfl, _, xs, 2240, rfl, .lst (.inl (.inl (hidL_same _ _ hs))) (dpa_mono hidL_same _ _ ds), okx, Nat.le_refl _, fun H1 vw s1 dw => ?_⟩
    have w1 := w0.mono s1
    have t1 : Same (R.hidL S H) (R.hidL S H1) := Same.hidL s1
    have dw1 : Dp K (R.hidL S H1) vw (dF (lenS xs)) := dp_hidL w1.r.nt _ _ rfl dw
    refine ⟨_, rfl, _, rfl, _, l, _, _, 2240, rfl, w1.bx, dw, zL, by decide, fun H2 v1 q1 s2 B2 d1 wq1 => ?_⟩
    obtain ⟨w2, t2⟩ := w1.draw s2 B2
    have dw2 := dp_mono t2 _ _ dw1
    have d12 : Dp K (R.hidL S H2) v1 (dF (lenS xs * q1)) := dp_hidL w2.r.nt _ _ rfl d1
    have tq1 : Tq xs (lenS xs * q1) := ⟨q1, wq1.iz, wq1.lo, wq1.hi, rfl⟩
    refine ⟨_, rfl, _, rfl, _, l, _, _, 2240, rfl, B2, dp_mono hidL_same _ _ dw2, zL, by decide, fun H3 v2 q2 s3 B3 d2 wq2 => ?_⟩
    obtain ⟨w3, t3⟩ := w2.draw s3 B3
    have dw3 := dp_mono t3 _ _ dw2
    have d13 := dp_mono t3 _ _ d12
    have d23 : Dp K (R.hidL S H3) v2 (dF (lenS xs * q2)) := dp_hidL w3.r.nt _ _ rfl d2
    have tq2 : Tq xs (lenS xs * q2) := ⟨q2, wq2.iz, wq2.lo, wq2.hi, rfl⟩
    generalize lenS xs * q1 = x1 at tq1 d13
    generalize lenS xs * q2 = x2 at tq2 d23
    clear d1 d2 d12
    refine ⟨(show 2 ≤ sizeLine by decide), fun pp npp => ?_⟩
    have s4 := Same.new (o := .lst [v1, v2]) npp
    have w4 := w3.mono s4
    have t4 : Same (R.hidL S H3) (R.hidL S (upd H3 pp (.lst [v1, v2]))) := Same.hidL s4
    have hpp : R.hidL S (upd H3 pp (.lst [v1, v2])) pp = some (.lst [v1, v2]) := hidL_at (w3.r.notin npp) upd_same
    have dw4 := dp_mono t4 _ _ dw3
    have d14 := dp_mono t4 _ _ d13
    have d24 := dp_mono t4 _ _ d23
    have t04 := ((t1.trans t2).trans t3).trans t4
    generalize upd H3 pp (.lst [v1, v2]) = H4 at w4 hpp dw4 d14 d24 t04 ⊢
    clear t1 t2 t3 t4
    have z1 := (sd.time hi tq1).1
    have z2 := (sd.time hi tq2).1
    refine ⟨fun σ' H' => ∃ (pp : Addr) (v1 v2 : V) (x1 x2 : Rat), σ' = [some (.ref b), some (.ref p), some (.ref p0), some vw, some (.ref pp), none, none, none, none, none, none, none, none, none] ∧ Lr K C H' S b l p pe pu (normM xs) ear und ∧ Same (R.hidL S H) (R.hidL S H') ∧ Dp K (R.hidL S H') vw (dF (lenS xs)) ∧ R.hidL S H' pp = some (.lst [v1, v2]) ∧ Dp K (R.hidL S H') v1 (dF x1) ∧ Dp K (R.hidL S H') v2 (dF x2) ∧ Tq xs x1 ∧ Tq xs x2 ∧ x1 ≤ x2, ?_, fun σ' H5 hM => ?_⟩
    · have sq : SqL K H4 pp [v1, v2] := .inl (.inl (hidL_same _ _ hpp))
      refine ⟨_, rfl, _, _, _, _, rfl, rfl, sq, atI_nat (j := 1) rfl, _, rfl, _, _, _, _, rfl, rfl, sq, atI_nat (j := 0) rfl, _, _, x2, x1, 2240, 2240, rfl, dp_mono hidL_same _ _ d24, dp_mono hidL_same _ _ d14, z2, z1, by decide, _, rfl, ite2 (fun z => ?_) (fun z => ?_)⟩
      · refine ⟨_, rfl, _, _, _, _, rfl, rfl, sq, atI_nat (j := 1) rfl, _, rfl, _, _, _, _, rfl, rfl, sq, atI_nat (j := 0) rfl, (show 2 ≤ sizeLine by decide), fun p5 n5 => ?_⟩
        have s5 := Same.new (o := .lst [v2, v1]) n5
        have t5 : Same (R.hidL S H4) (R.hidL S (upd H4 p5 (.lst [v2, v1]))) := Same.hidL s5
        refine ⟨p5, v2, v1, x2, x1, rfl, w4.mono s5, t04.trans t5, dp_mono t5 _ _ dw4, hidL_at (w4.r.notin n5) upd_same, dp_mono t5 _ _ d24, dp_mono t5 _ _ d14, tq2, tq1, ?_⟩
        have := of_decide_eq_true z
        grind
      · refine ⟨pp, v1, v2, x1, x2, rfl, w4, t04, dw4, hpp, d14, d24, tq1, tq2, ?_⟩
        have : ¬ x2 < x1 := fun y => z (decide_eq_true y)
        grind
    clear hpp dw4 d14 d24 t04 w4 z1 z2 tq1 tq2 d13 d23 w3 w2 w1 dw3 dw2 dw1
    obtain ⟨pp, v1, v2, x1, x2, rfl, w5, t5, dw5, hpp, d1, d2, tq1, tq2, hx⟩ := hM
    obtain ⟨z1, g1, g1'⟩ := sd.time hi tq1
    obtain ⟨z2, g2, g2'⟩ := sd.time hi tq2
    have sq5 : SqL K H5 pp [v1, v2] := .inl (.inl (hidL_same _ _ hpp))
    have hs5 := t5 _ _ hs
    have ds5 := dpa_mono t5 _ _ ds
    have sh5 : Dp K H5 (.ref p0) (dSh xs) := .lst (.inl (.inl (hidL_same _ _ hs5))) (dpa_mono hidL_same _ _ ds5)
    -- head
    refine ⟨_, rfl, (show 2 ≤ sizeLine by decide), fun pz nz => ?_⟩
    have sz := Same.new (o := .tup [.int 0, .int 1]) nz
    have dz : Dp K (upd H5 pz (.tup [.int 0, .int 1])) (.ref pz) (dF 0) := dF_mk (.inl (.inl upd_same))
    generalize upd H5 pz (.tup [.int 0, .int 1]) = H6 at sz dz ⊢
    have z0 : Sz 2240 (0 : Rat) := Sz.mono (n := 1) ⟨by decide, by decide⟩ (by decide)
    refine ⟨_, rfl, _, _, _, _, rfl, rfl, sz.seq sq5, atI_nat (j := 0) rfl, _, _, _, xs, 0, x1, 2240, rfl, dp_mono sz _ _ sh5, dz, dp_mono sz _ _ (dp_mono hidL_same _ _ d1), okx, z0, z1, Nat.le_refl _, by omega, fun H7 ph yh s7 nh hh dh lh => ?_⟩
    have s57 := sz.trans s7
    -- middle
    refine ⟨_, rfl, _, rfl, _, _, _, _, rfl, rfl, s57.seq sq5, atI_nat (j := 0) rfl, _, rfl, _, _, _, _, rfl, rfl, s57.seq sq5, atI_nat (j := 1) rfl, _, _, _, xs, x1, x2, 2240, rfl, dp_mono s57 _ _ sh5, dp_mono s57 _ _ (dp_mono hidL_same _ _ d1), dp_mono s57 _ _ (dp_mono hidL_same _ _ d2), okx, z1, z2, Nat.le_refl _, by omega, fun H8 pm ym s8 nm hm dm lm => ?_⟩
    have s58 := s57.trans s8
    -- tail
    refine ⟨_, rfl, _, rfl, _, _, _, _, rfl, rfl, s58.seq sq5, atI_nat (j := 1) rfl, _, rfl, _, _, _, xs, x2, lenS xs, 2240, rfl, dp_mono s58 _ _ sh5, dp_mono s58 _ _ (dp_mono hidL_same _ _ d2), dp_mono s58 _ _ (dp_mono hidL_same _ _ dw5), okx, z2, zL, Nat.le_refl _, by omega, fun H9 pt yt s9 nt ht dt lt => ?_⟩
    have s59 := s58.trans s9
    have w9 := w5.mono s59
    have t9 := t5.trans (Same.hidL s59)
    have hpp9 := Same.hidL (S := S) s59 _ _ hpp
    have d19 := dp_mono (Same.hidL (S := S) s59) _ _ d1
    have d29 := dp_mono (Same.hidL (S := S) s59) _ _ d2
    have hh9 : R.hidL S H9 ph = some (.lst yh) := hidL_at (w5.r.notin (sz.free nh)) ((s8.trans s9) _ _ hh)
    have hm9 : R.hidL S H9 pm = some (.lst ym) := hidL_at (w5.r.notin (s57.free nm)) (s9 _ _ hm)
    have ht9 : R.hidL S H9 pt = some (.lst yt) := hidL_at (w5.r.notin (s58.free nt)) ht
    have dh9 : DpAll K (R.hidL S H9) yh ((cutM xs 0 x1).map dS) := dpa_hidL w9.r.nt _ _ (tupA_dS _) (dpa_mono (s8.trans s9) _ _ dh)
    have dm9 : DpAll K (R.hidL S H9) ym ((cutM xs x1 x2).map dS) := dpa_hidL w9.r.nt _ _ (tupA_dS _) (dpa_mono s9 _ _ dm)
    have dt9 : DpAll K (R.hidL S H9) yt ((cutM xs x2 (lenS xs)).map dS) := dpa_hidL w9.r.nt _ _ (tupA_dS _) dt
    have lyh : yh.length ≤ 100 := by rw [dpa_len dh, List.length_map]; omega
    have lym : ym.length ≤ 100 := by rw [dpa_len dm, List.length_map]; omega
    have lyt : yt.length ≤ 100 := by rw [dpa_len dt, List.length_map]; omega
    clear dh dm dt hh hm ht nh nm nt s7 s8 s9 s57 s58 s59 sz dz z0 sh5 hs5 ds5 sq5 hpp d1 d2 dw5 w5 t5
    -- way
    refine ⟨_, rfl, _, l, _, rfl, w9.bx, by decide, by decide, fun Ha way sa Ba a0 a3 => ?_⟩
    obtain ⟨wa, ta⟩ := w9.draw sa Ba
    have tA := t9.trans ta
    have hpp := ta _ _ hpp9
    have d1 := dp_mono ta _ _ d19
    have d2 := dp_mono ta _ _ d29
    have hh := ta _ _ hh9
    have hm := ta _ _ hm9
    have ht := ta _ _ ht9
    have dh := dpa_mono ta _ _ dh9
    have dm := dpa_mono ta _ _ dm9
    have dt := dpa_mono ta _ _ dt9
    clear t9 hpp9 d19 d29 hh9 hm9 ht9 dh9 dm9 dt9 w9
    have sqa : SqL K Ha pp [v1, v2] := .inl (.inl (hidL_same _ _ hpp))
    have el : lenS (normM xs) = lenS xs := lenS_norm xs
    have nref : ¬ refused (normM xs) x1 x2 := by
      rintro (z | z)
      · grind
      · rw [el] at z
        grind
    obtain ⟨dx, vc, h1, h2⟩ := wa.r.ob
    refine ⟨_, rfl, rfl, _, rfl, ite2 (fun z => ?_) (fun z => ?_)⟩
    · -- out
      refine ⟨_, rfl, p, dx, _, rfl, h1, rF_no _ _ _ (by decide +kernel) (by decide +kernel) (by decide +kernel), _, rfl, _, _, _, _, rfl, rfl, sqa, atI_nat (j := 0) rfl, _, rfl, _, _, _, _, rfl, rfl, sqa, atI_nat (j := 1) rfl, S, p, pe, pu, _, ear, und, _, _, x1, x2, 2240, rfl, wa.r, dp_mono hidL_same _ _ d1, dp_mono hidL_same _ _ d2, okc, z1, z2, Nat.le_refl _, lcur, le, g1, fun c => absurd c nref, fun _ Hb rr yr rb kb nr hr' dr => ?_⟩
      obtain ⟨wb, tb⟩ := wa.kp (rb.less (S := S) (fun c hc => List.mem_cons_of_mem _ hc) wa.r.ip wa.r.ie wa.r.iu) kb
      have hmb := tb _ _ hm
      refine ⟨_, rfl, _, rfl, _, cutM xs x1 x2, rfl, .lst (.inl (.inl (hidL_same _ _ hmb))) (dpa_mono hidL_same _ _ (dpa_mono tb _ _ dm)), by omega, fun Hc rc yc sc nc hc dc => ?_⟩
      rw [cut_norm xs x1 x2 gd] at dr
      refine ⟨_, _, .lst (.inl (.inl (sc _ _ hr'))) (dpa_mono sc _ _ dr), .lst (.inl (.inl hc)) dc, shaped_dSh _, shaped_dSh _, _, rfl, iteN (neq_dSh _) ?_⟩
      refine ⟨_, rfl, .inl ⟨rfl, _, .inl (.inl (sc _ _ hr'))⟩, rr, yr, rfl, rfl, sc _ _ hr', ?_⟩
      obtain ⟨wd, td⟩ := wa.clear (zs := []) rb kb nr sc
      generalize upd Hc rr (.lst []) = Hd at wd td ⊢
      have hhd := td _ _ hh
      have htd := td _ _ ht
      refine ⟨_, rfl, _, rfl, ph, pt, yh, yt, rfl, rfl, hidL_same _ _ hhd, hidL_same _ _ htd, Nat.le_trans (show yh.length + yt.length ≤ 1000 by omega) (by decide), fun pn nn => ?_⟩
      have sn := Same.new (o := .lst (yh ++ yt)) nn
      have tn := tA.trans (td.trans (Same.hidL (S := S) sn))
      have wn := wd.mono sn
      have e1 : fillM (normM xs) [] x1 x2 = normM (cutM xs 0 x1 ++ cutM xs x2 (lenS xs)) := deed_out xs x1 x2 gd
      rw [e1] at wn
      refine q _ pn (yh ++ yt) _ wn tn (hidL_at (wd.r.notin nn) upd_same) ?_ (sd.out tq1 tq2 hx)
      rw [List.map_append]
      exact dpa_mono (td.trans (Same.hidL (S := S) sn)) _ _ (dpa_app dh dt)
    · refine ⟨_, rfl, rfl, _, rfl, ite2 (fun z' => ?_) (fun z' => ?_)⟩
      · -- into
        refine ⟨_, rfl, b, l, rfl, wa.bx, fun Hb pr yr xr sb Bb npr hpr dar hlr ok80 fsr => ?_⟩
        obtain ⟨wb, tb⟩ := wa.draw sb Bb
        have hprb : Hb pr = some (.lst yr) := hid_same _ _ hpr
        refine ⟨_, rfl, pr, yr, rfl, .inl (.inl hprb), fun po no => ?_⟩
        obtain ⟨j, hj, ej⟩ := cut2 yr
        rw [ej]
        have so := Same.new (o := .lst (yr.take j)) no
        have wo := wb.mono so
        have to := tb.trans (Same.hidL (S := S) so)
        have hpo : R.hidL S (upd Hb po (.lst (yr.take j))) po = some (.lst (yr.take j)) := hidL_at (wb.r.notin no) upd_same
        have dpo : DpAll K (R.hidL S (upd Hb po (.lst (yr.take j)))) (yr.take j) ((xr.take j).map dS) := by
          rw [List.map_take]
          exact dpa_hidL wo.r.nt _ _ (by rw [← List.map_take]; exact tupA_dS _) (dpa_take j (dpa_mono so _ _ dar))
        generalize upd Hb po (.lst (yr.take j)) = Hc at so wo to hpo dpo ⊢
        refine ⟨_, rfl, po, _, rfl, .inl (.inl (.inl (hidL_same _ _ hpo))), fun pd nd => ?_⟩
        have sd' := Same.new (o := .lst (yr.take j)) nd
        have wd := wo.mono sd'
        have td := to.trans (Same.hidL (S := S) sd')
        have hpd : R.hidL S (upd Hc pd (.lst (yr.take j))) pd = some (.lst (yr.take j)) := hidL_at (wo.r.notin nd) upd_same
        have hpo := Same.hidL (S := S) sd' _ _ hpo
        have dpo := dpa_mono (Same.hidL (S := S) sd') _ _ dpo
        generalize upd Hc pd (.lst (yr.take j)) = Hd at wd td hpd hpo dpo ⊢
        have lo : (xr.take j).length ≤ 2 := by
          rw [List.length_take]
          omega
        have lyo : (yr.take j).length ≤ 2 := by
          rw [List.length_take]
          omega
        obtain ⟨dx, vc, h1, h2⟩ := wd.r.ob
        have sqd : SqL K Hd pp [v1, v2] := .inl (.inl (hidL_same _ _ (td _ _ hpp)))
        refine ⟨_, rfl, p, dx, _, rfl, h1, rF_no _ _ _ (by decide +kernel) (by decide +kernel) (by decide +kernel), _, rfl, _, _, _, _, rfl, rfl, sqd, atI_nat (j := 0) rfl, _, rfl, S, p, pe, pu, _, xr.take j, ear, und, _, pd, _, x1, 2240, rfl, wd.r, dp_mono hidL_same _ _ (dp_mono td _ _ d1), hpd, dpo, okc, z1, Nat.le_refl _, lcur, by omega, le, g1, fun c => absurd c (by rw [el]; grind), fun _ He re ke => ?_⟩
        obtain ⟨we, te⟩ := wd.kp re ke
        refine ⟨rfl, _, rfl, iteN rfl ?_⟩
        have hpoe := te _ _ hpo
        have hpde := te _ _ hpd
        have dpoe := dpa_mono te _ _ dpo
        refine ⟨_, rfl, _, rfl, _, _, .lst (.inl (.inl (hidL_same _ _ hpde))) (dpa_mono hidL_same _ _ dpoe), .lst (.inl (.inl (hidL_same _ _ hpoe))) (dpa_mono hidL_same _ _ dpoe), shaped_dSh _, shaped_dSh _, _, rfl, iteN (neq_dSh _) ?_⟩
        have tf := td.trans te
        have hhe := hidL_same _ _ (tf _ _ hh)
        have hme := hidL_same _ _ (tf _ _ hm)
        have hte := hidL_same _ _ (tf _ _ ht)
        have hoe := hidL_same _ _ hpoe
        refine ⟨_, rfl, _, rfl, ph, po, yh, yr.take j, rfl, rfl, hhe, hoe, Nat.le_trans (show yh.length + (yr.take j).length ≤ 1000 by omega) (by decide), fun n1 m1 => ?_⟩
        have u1 := Same.new (o := .lst (yh ++ yr.take j)) m1
        refine ⟨_, rfl, n1, pm, yh ++ yr.take j, ym, rfl, rfl, upd_same, u1 _ _ hme, Nat.le_trans (show (yh ++ yr.take j).length + ym.length ≤ 1000 by rw [List.length_append]; omega) (by decide), fun n2 m2 => ?_⟩
        have u2 := Same.new (o := .lst (yh ++ yr.take j ++ ym)) m2
        refine ⟨_, rfl, n2, pt, yh ++ yr.take j ++ ym, yt, rfl, rfl, upd_same, (u1.trans u2) _ _ hte, Nat.le_trans (show (yh ++ yr.take j ++ ym).length + yt.length ≤ 1000 by rw [List.length_append, List.length_append]; omega) (by decide), fun n3 m3 => ?_⟩
        have u3 := Same.new (o := .lst (yh ++ yr.take j ++ ym ++ yt)) m3
        have u13 := (u1.trans u2).trans u3
        have wn := we.mono u13
        have tn := te.trans (Same.hidL (S := S) u13)
        have e1 : fillM (normM xs) (xr.take j) x1 x1 = normM (cutM xs 0 x1 ++ xr.take j ++ cutM xs x1 x2 ++ cutM xs x2 (lenS xs)) := deed_into xs (xr.take j) x1 x2 gd hx (by grind)
        rw [e1] at wn
        refine q _ n3 _ _ wn (tA.trans (td.trans tn)) (hidL_at ((we.mono (u1.trans u2)).r.notin m3) upd_same) ?_ (sd.into tq1 tq2 hx (fun s hs => fsr s (List.mem_of_mem_take hs)) lo)
        rw [List.map_append, List.map_append, List.map_append]
        exact dpa_mono tn _ _ (dpa_app (dpa_app (dpa_app (dpa_mono td _ _ dh) dpo) (dpa_mono td _ _ dm)) (dpa_mono td _ _ dt))
      · -- faster
        refine ⟨_, rfl, b, l, rfl, wa.bx, fun Hb vf xf sb Bb df zf cf => ?_⟩
        obtain ⟨wb, tb⟩ := wa.draw sb Bb
        have dfb : Dp K (R.hidL S Hb) vf (dF xf) := dp_hidL wb.r.nt _ _ rfl df
        obtain ⟨dx, vc, h1, h2⟩ := wb.r.ob
        have sqd : SqL K Hb pp [v1, v2] := .inl (.inl (hidL_same _ _ (tb _ _ hpp)))
        refine ⟨_, rfl, p, dx, _, rfl, h1, rF_no _ _ _ (by decide +kernel) (by decide +kernel) (by decide +kernel), _, rfl, _, _, _, _, rfl, rfl, sqd, atI_nat (j := 0) rfl, _, rfl, _, _, _, _, rfl, rfl, sqd, atI_nat (j := 1) rfl, _, rfl, S, p, pe, pu, _, ear, und, _, _, _, x1, x2, xf, 2240, rfl, wb.r, dp_mono hidL_same _ _ (dp_mono tb _ _ d1), dp_mono hidL_same _ _ (dp_mono tb _ _ d2), df, okc, z1, z2, zf.mono (by decide), Nat.le_refl _, lcur, le, g1, fun c => absurd c nref, fun _ Hc rc kc => ?_⟩
        obtain ⟨wc, tc⟩ := wb.kp rc kc
        refine ⟨rfl, _, rfl, iteN rfl ?_⟩
        have tf := tb.trans tc
        have hhc := hidL_same _ _ (tf _ _ hh)
        have hmc := hidL_same _ _ (tf _ _ hm)
        have dmc := dpa_mono hidL_same _ _ (dpa_mono tf _ _ dm)
        have dfc := dp_mono hidL_same _ _ (dp_mono tc _ _ dfb)
        have ly : ym.length = (cutM xs x1 x2).length := by rw [dpa_len dm, List.length_map]
        have zp : ∀ t ∈ cutM xs x1 x2, Sz 2240 t.2.2 := cut_pace xs x1 x2 fun s hs => (okx.each s hs).p
        refine ⟨_, rfl, _, rfl, pm, rfl, ⟨_, .inl (.inl hmc)⟩, fun D hD => ?_⟩
        have sD := Same.new (o := .lst []) hD
        refine lc_list (K := K) (a := pm) (xs := ym) (fun i H' => ∃ acc, H' D = some (.lst acc) ∧ Same Hc (hid D D H') ∧ acc.length = i ∧ DpAll K (hid D D H') acc (((fastM xf (cutM xs x1 x2)).take i).map dS)) ⟨[], upd_same, hid_old sD hD, rfl, .nil⟩ (fun i H' hi h => ?_) (fun i y H' hy h => ?_) (fun H' h => ?_)
        · obtain ⟨acc, hd, s2, la, dd⟩ := h
          exact .inl (.inl (hid_same _ _ (s2 _ _ hmc)))
        · obtain ⟨acc, hd, s2, la, dd⟩ := h
          have s2' : Same Hc H' := s2.trans hid_same
          obtain ⟨t, ht', dt'⟩ := dpa_map dmc hy
          obtain ⟨pt', v1', v2', v3', rfl, hpt, e1, e2, e3⟩ := dS_at (dp_mono s2' _ _ dt')
          have hi : i < ym.length := (List.getElem?_eq_some_iff.mp hy).1
          refine ⟨rfl, ?_⟩
          refine ⟨_, rfl, _, _, _, _, rfl, rfl, hpt, atI_nat (j := 0) rfl, _, rfl, _, _, _, _, rfl, rfl, hpt, atI_nat (j := 1) rfl, _, rfl, _, _, _, _, rfl, rfl, hpt, atI_nat (j := 2) rfl, _, rfl, _, _, t.2.2, xf, 2240, 4, rfl, e3, dp_mono s2' _ _ dfc, zp t (List.mem_of_getElem? ht'), zf, by decide, trivial, fun H3 z3 s3 r3 => ?_⟩
          refine ⟨(show 3 ≤ sizeLine by decide), fun pn hn => ?_⟩
          have s4 := Same.new (o := .tup [v1', v2', z3]) hn
          have hd4 := s4 _ _ (s3 _ _ hd)
          have dn : Dp K (upd H3 pn (.tup [v1', v2', z3])) (.ref pn) (dS (t.1, t.2.1, t.2.2 * xf)) := dS_mk (.inl (.inl upd_same)) (dp_mono (s3.trans s4) _ _ e1) (dp_mono (s3.trans s4) _ _ e2) (dp_mono s4 _ _ r3)
          have s34 := s3.trans s4
          generalize upd H3 pn (.tup [v1', v2', z3]) = H4 at hd4 dn s34 ⊢
          have LD : IsL H4 D := ⟨_, hd4⟩
          refine ⟨acc, hd4, small1000 (by omega), acc ++ [.ref pn], upd_same, ?_, ?_, ?_⟩
          · rw [hid_b]
            exact s2.trans (Same.hid s34)
          · rw [List.length_append, la]
            rfl
          · rw [hid_b, take_more (x := (t.1, t.2.1, t.2.2 * xf)) (by unfold fastM; rw [List.getElem?_map, ht']; rfl), List.map_append]
            exact dpa_snoc (dpa_mono (Same.hid s34) _ _ dd) (dp_hid LD LD _ _ rfl dn)
        · obtain ⟨acc, hd, s2, la, dd⟩ := h
          have s2' : Same Hc H' := s2.trans hid_same
          have lf : (fastM xf (cutM xs x1 x2)).length = (cutM xs x1 x2).length := List.length_map ..
          have t2 : Same (R.hidL S Hc) (R.hidL S H') := Same.hidL s2'
          have w2 := wc.mono s2'
          have hh2 := hidL_same _ _ (t2 _ _ (tf _ _ hh))
          have ht2 := hidL_same _ _ (t2 _ _ (tf _ _ ht))
          rw [ly, ← lf, List.take_length] at dd
          have dd2 : DpAll K (R.hidL S H') acc ((fastM xf (cutM xs x1 x2)).map dS) := dpa_hidL w2.r.nt _ _ (tupA_dS _) (dpa_mono hid_same _ _ dd)
          refine ⟨ph, D, yh, acc, rfl, rfl, hh2, hd, Nat.le_trans (show yh.length + acc.length ≤ 1000 by omega) (by decide), fun n1 m1 => ?_⟩
          have u1 := Same.new (o := .lst (yh ++ acc)) m1
          refine ⟨_, rfl, n1, pt, yh ++ acc, yt, rfl, rfl, upd_same, u1 _ _ ht2, Nat.le_trans (show (yh ++ acc).length + yt.length ≤ 1000 by rw [List.length_append]; omega) (by decide), fun n2 m2 => ?_⟩
          have u2 := Same.new (o := .lst (yh ++ acc ++ yt)) m2
          have u12 := u1.trans u2
          have wn := w2.mono u12
          have tn : Same (R.hidL S H') (R.hidL S _) := Same.hidL (S := S) u12
          have e1 : fillM (normM xs) (fastM xf (normM (cutM (normM xs) x1 x2))) x1 x2 = normM (cutM xs 0 x1 ++ fastM xf (cutM xs x1 x2) ++ cutM xs x2 (lenS xs)) := deed_fast cf.pos xs x1 x2 gd
          rw [e1] at wn
          refine q _ n2 _ _ wn (tA.trans (tf.trans (t2.trans tn))) (hidL_at ((w2.mono u1).r.notin m2) upd_same) ?_ (sd.faster tq1 tq2 hx cf)
          rw [List.map_append, List.map_append]
          exact dpa_mono tn _ _ (dpa_app (dpa_app (dpa_mono (tf.trans t2) _ _ dh) dd2) (dpa_mono (tf.trans t2) _ _ dt))
theorem le1000 {n : Nat} (h : n ≤ 1000) : n ≤ sizeLine := Nat.le_trans h (by decide)
/-! ### cues on the heap -/
abbrev Wd := Str × Rat
abbrev Cue := Int × Rat × Rat × List Wd
def dW (w : Wd) : PyData := .tuple [.str w.1, dF w.2]
def dWs (ws : List Wd) : PyData := .list (ws.map dW)
def dC (c : Cue) : PyData := .tuple [.int c.1, dF c.2.1, dF c.2.2.1, dWs c.2.2.2]
def dCs (cs : List Cue) : PyData := .list (cs.map dC)
def dIS (x : Int × Str) : PyData := .tuple [.int x.1, .str x.2]
structure WordOk (s : Str) : Prop where
  l0 : 0 < s.length
  l20 : s.length ≤ 20
  abc : ∀ x ∈ s.cps.toList, 97 ≤ x ∧ x ≤ 122
structure CueOk (c : Cue) : Prop where
  tb : TB c.2.1
  te : TB c.2.2.1
  lt : c.2.1 < c.2.2.1
  wn : c.2.2.2.length ≤ 11
  ws : ∀ x ∈ c.2.2.2, WordOk x.1 ∧ TB x.2 ∧ c.2.1 ≤ x.2 ∧ x.2 < c.2.2.1
  ord : c.2.2.2.Pairwise fun x y => x.2 ≤ y.2
theorem dIS_le {x y : Int × Str} (h : PySem.W.dataLe false dIS x y = true) : x.1 ≤ y.1 := by
  rw [PySem.W.dataLe_eq] at h
  have h : (!PySem.W.dataLt (dIS y) (dIS x)) = true := h
  unfold dIS at h
  rw [PySem.W.dataLt_pair (by simp [PySem.W.alike]) (by simp [PySem.W.alike])] at h
  by_cases c : x.1 ≤ y.1
  · exact c
  · exfalso
    have n : ¬ (y.1 = x.1) := by omega
    have e : PyData.eqv (.int y.1) (.int x.1) = false := by
      show (y.1 == x.1) = false
      exact beq_eq_false_iff_ne.mpr n
    rw [e, if_neg (by decide)] at h
    have e2 : PySem.W.dataLt (.int y.1) (.int x.1) = decide (y.1 < x.1) := by
      have := congrFun (congrFun (PySem.W.dataLe_int (β := Int) id) x.1) y.1
      rw [PySem.W.dataLe_eq] at this
      have this : (!PySem.W.dataLt (.int y.1) (.int x.1)) = decide (x.1 ≤ y.1) := this
      rw [decide_eq_false c] at this
      rw [decide_eq_true (by omega)]
      cases hh : PySem.W.dataLt (.int y.1) (.int x.1) with
      | true => rfl
      | false =>
        rw [hh] at this
        cases this
    rw [e2, decide_eq_true (by omega)] at h
    cases h
theorem dIS_alike (bs : List (Int × Str)) : PySem.W.AllAlike (bs.map dIS) := PySem.W.AllAlike.of fun _ _ => by simp [PySem.W.alike, PySem.W.alikeAll, dIS]
theorem dIS_sortable (bs : List (Int × Str)) : PySem.W.Sortable (bs.map dIS) := PySem.W.Sortable.tuples fun _ => ⟨_, _, rfl⟩
theorem dIS_total : PySem.W.TotalLe (PySem.W.dataLe false dIS) := PySem.W.sortLe_total _ _ _
/-- the words of a drawn cue -/
def cWords (b t : Rat) (bs : List (Int × Str)) : List Wd := (bs.mergeSort (PySem.W.dataLe false dIS)).map fun x => (x.2, cAt b t x.1)
theorem cue_ok {n : Int} {b t : Rat} {bs : List (Int × Str)} (h : CueB b t) (hb : ∀ x ∈ bs, 0 ≤ x.1 ∧ x.1 ≤ 10 ∧ WordOk x.2) (hl : bs.length ≤ 11) : CueOk (n, b, cEnd b t, cWords b t bs) := by
  have pm := List.mergeSort_perm bs (PySem.W.dataLe false dIS)
  refine ⟨h.tb, h.te, h.lt, ?_, fun x hx => ?_, ?_⟩
  · show (cWords b t bs).length ≤ 11
    unfold cWords
    rw [List.length_map, pm.length_eq]
    exact hl
  · obtain ⟨y, hy, rfl⟩ := List.mem_map.mp hx
    obtain ⟨h0, h1, h2⟩ := hb y (pm.mem_iff.mp hy)
    obtain ⟨r0, r1, r2⟩ := cAt_rg h h0 h1
    exact ⟨h2, r2, r0, r1⟩
  · show (cWords b t bs).Pairwise _
    unfold cWords
    rw [List.pairwise_map]
    exact (PySem.W.sort_pairwise dIS_total bs).imp fun hxy => cAt_le h (dIS_le hxy)
/-! parts of what stands on the heap -/
theorem dW_at {K : PySem.W.Frag} {H : Hp} {v : V} {x : Wd} (h : Dp K H v (dW x)) : ∃ a v2, v = .ref a ∧ SqT K H a [.str x.1, v2] ∧ Dp K H v2 (dF x.2) := by
  unfold dW at h
  cases h with
  | tup hs ha =>
    cases ha with
    | cons h1 h2 =>
      cases h1
      cases h2 with
      | cons h3 h4 =>
        cases h4
        exact ⟨_, _, rfl, hs, h3⟩
theorem dIS_at {K : PySem.W.Frag} {H : Hp} {v : V} {x : Int × Str} (h : Dp K H v (dIS x)) : ∃ a, v = .ref a ∧ SqT K H a [.int x.1, .str x.2] := by
  unfold dIS at h
  cases h with
  | tup hs ha =>
    cases ha with
    | cons h1 h2 =>
      cases h1
      cases h2 with
      | cons h3 h4 =>
        cases h3
        cases h4
        exact ⟨_, rfl, hs⟩
theorem dC_at {K : PySem.W.Frag} {H : Hp} {v : V} {c : Cue} (h : Dp K H v (dC c)) : ∃ a v1 v2 al vs, v = .ref a ∧ SqT K H a [.int c.1, v1, v2, .ref al] ∧ Dp K H v1 (dF c.2.1) ∧ Dp K H v2 (dF c.2.2.1) ∧ SqL K H al vs ∧ DpAll K H vs (c.2.2.2.map dW) := by
  unfold dC dWs at h
  cases h with
  | tup hs ha =>
    cases ha with
    | cons h1 h2 =>
      cases h1
      cases h2 with
      | cons h3 h4 =>
        cases h4 with
        | cons h5 h6 =>
          cases h6 with
          | cons h7 h8 =>
            cases h8
            cases h7 with
            | lst hl hd => exact ⟨_, _, _, _, _, rfl, hs, h3, h5, hl, hd⟩
theorem dW_mk {K : PySem.W.Frag} {H : Hp} {p : Addr} {v2 : V} {x : Wd} (h : SqT K H p [.str x.1, v2]) (h2 : Dp K H v2 (dF x.2)) : Dp K H (.ref p) (dW x) := .tup h (.cons (.str _) (.cons h2 .nil))
theorem dC_mk {K : PySem.W.Frag} {H : Hp} {p al : Addr} {v1 v2 : V} {vs : List V} {c : Cue} (h : SqT K H p [.int c.1, v1, v2, .ref al]) (h1 : Dp K H v1 (dF c.2.1)) (h2 : Dp K H v2 (dF c.2.2.1)) (hl : SqL K H al vs) (hd : DpAll K H vs (c.2.2.2.map dW)) : Dp K H (.ref p) (dC c) :=
  .tup h (.cons (.int _) (.cons h1 (.cons h2 (.cons (.lst hl hd) .nil))))
theorem dCs_at {K : PySem.W.Frag} {H : Hp} {v : V} {cs : List Cue} (h : Dp K H v (dCs cs)) : ∃ a vs, v = .ref a ∧ SqL K H a vs ∧ DpAll K H vs (cs.map dC) := by
  unfold dCs at h
  cases h with
  | lst hs ha => exact ⟨_, _, rfl, hs, ha⟩
theorem tupA_dW : ∀ ws : List Wd, tupA (ws.map dW) = true
  | [] => rfl
  | x :: r => by
    show (tupD (dW x) && tupA (r.map dW)) = true
    rw [tupA_dW r]
    rfl
theorem tupA_dIS : ∀ ws : List (Int × Str), tupA (ws.map dIS) = true
  | [] => rfl
  | x :: r => by
    show (tupD (dIS x) && tupA (r.map dIS)) = true
    rw [tupA_dIS r]
    rfl
theorem sgn_mem {xs : List Nat} {r : Int} (h0 : 0 ≤ r) (h1 : r < (xs.length : Int)) : ∃ c, atI xs r = some c ∧ c ∈ xs := by
  obtain ⟨n, rfl⟩ : ∃ n : Nat, r = (n : Int) := ⟨r.toNat, by omega⟩
  have hn : n < xs.length := by omega
  exact ⟨xs[n], atI_nat (List.getElem?_eq_getElem hn), List.getElem_mem hn⟩
/-- texts of one sign each -/
def ones (cs : List Nat) : List Str := cs.map fun c => (⟨#[c]⟩ : Str)
theorem join_ones : ∀ cs : List Nat, (Str.join "" (ones cs)).cps.toList = cs
  | [] => rfl
  | [c] => rfl
  | c :: d :: r => by
    have ih := join_ones (d :: r)
    show ((((⟨#[c]⟩ : Str) ++ ("" : Str)) ++ Str.join "" (ones (d :: r))).cps).toList = _
    rw [Str.cps_append, Array.toList_append, ih, Str.cps_append, Array.toList_append]
    rfl
theorem ones_sum : ∀ cs : List Nat, ((ones cs).map (·.length)).sum = cs.length
  | [] => rfl
  | c :: r => by
    show (1 : Nat) + ((ones r).map (·.length)).sum = r.length + 1
    rw [ones_sum r]
    omega
theorem slen_list (z : Str) : z.length = z.cps.toList.length := rfl
structure SgOk (z : Str) : Prop where
  l0 : 0 < z.length
  l10 : z.length ≤ 10
  abc : ∀ x ∈ z.cps.toList, 97 ≤ x ∧ x ≤ 122
theorem sg_six : SgOk "abcxyz" := ⟨by decide +kernel, by decide +kernel, by decide +kernel⟩
theorem abc26 : ∀ x ∈ ("abcdefghijklmnopqrstuvwxyz" : Str).cps.toList, 97 ≤ x ∧ x ≤ 122 := by decide +kernel
/-- a cue stands at v, its words' list at al -/
def CueAt (K : PySem.W.Frag) (H : Hp) (v : V) (c : Cue) (al : Addr) : Prop := ∃ a v1 v2 vs, v = .ref a ∧ SqT K H a [.int c.1, v1, v2, .ref al] ∧ Dp K H v1 (dF c.2.1) ∧ Dp K H v2 (dF c.2.2.1) ∧ H al = some (.lst vs) ∧ DpAll K H vs (c.2.2.2.map dW)
theorem CueAt.dp {K : PySem.W.Frag} {H : Hp} {v : V} {c : Cue} {al : Addr} {S : List Addr} (h : CueAt K H v c al) (nt : ∀ a ∈ S, NoT H a) (n : al ∉ S) : Dp K (R.hidL S H) v (dC c) := by
  obtain ⟨a, v1, v2, vs, rfl, h1, h2, h3, h4, h5⟩ := h
  exact dC_mk (hidL_tup nt h1) (dp_hidL nt _ _ rfl h2) (dp_hidL nt _ _ rfl h3) (.inl (.inl (hidL_at n h4))) (dpa_hidL nt _ _ (tupA_dW _) h5)
def spCue (K : PySem.W.Frag) : Sp := fun vs H Q _ => ∃ (b l : Addr) (n : Int), vs = [.ref b, .int n] ∧ Bx H b l ∧ ∀ H' v (c : Cue) al, Same (hid b l H) (hid b l H') → Bx H' b l → H al = none → CueAt K H' v c al → c.1 = n → CueOk c → Q v H'
theorem hid_ne {b l a : Addr} {H : Hp} {o : HO} (h : hid b l H a = some o) : a ≠ b ∧ a ≠ l := by
  unfold hid at h
  split at h
  · cases h
  · rename_i z
    exact ⟨fun y => z (.inl y), fun y => z (.inr y)⟩
theorem hid_new {b l a : Addr} {H H' : Hp} {o : HO} (B : Bx H b l) (n : H a = none) (h : H' a = some o) : hid b l H' a = some o := by
  obtain ⟨xs, st, h1, h2⟩ := B.ex
  unfold hid
  rw [if_neg, h]
  rintro (z | z)
  · rw [z, h1] at n
    cases n
  · rw [z, h2] at n
    cases n
theorem cl_Lcue (T : Txt K mg) : Cl P w K mg base CX0 3 "_law_cue" (spCue K) := by
  have c_Ltake := cl_Ltake (P := P) (w := w) (base := base) T
  have c_Ltime := cl_Ltime (P := P) (w := w) (base := base) T
  have c_Lsum := cl_Lsum (P := P) (w := w) (base := base) T
  have c_Lminus := cl_Lminus (P := P) (w := w) (base := base) T
  have c_Ltimes := cl_Ltimes (P := P) (w := w) (base := base) T
  have c_Lfr := cl_Lfr (P := P) (w := w) (base := base) T
  refine T.d_Lcue.cl sc_Lcue (fun vs H Q E h => ?_) (fun f cdv A outer s H vs Q E hr h => ?_)
  · obtain ⟨b, l, n, rfl, _⟩ := h
    rfl
  · obtain ⟨b, l, n, rfl, B, q⟩ := h
    refine ⟨_, (pss_cons (ps_set (i := 2) sc_Lcue.nd rfl (.inl rfl) (pe_lst pa_nil))
      (pss_cons (ps_set (i := 3) sc_Lcue.nd rfl (.inr rfl) pe_str)
      (Evl.pss_cut (ps_if (pt_cmpR op_eq (pe_cl c_Ltake hr (by decide) (by rfl) (pa_cons (pv 0) (pa_cons pe_int pa_nil))) pe_int (nomark _))
        (pss_one (ps_set (i := 3) sc_Lcue.nd rfl (.inr rfl) (pe_join pe_str (pe_lc (own := [("_law_k", 4)]) (g := (gName 4)) (tt := tYes) (by rfl) sc_Lcue.nd (pi_range1 (by rfl) T.m_range (pa_cons pe_int pa_nil)) (blkOk_by (N := ["_law_box", "_law_number", "_law_some", "_law_signs", "_law_k", "_law_begin", "_law_end", "_law_many", "_law_word", "_law_far", "_law_words", "_law_at", "_law_j"]) (sc := defScope s_Lcue) (by decide +kernel)) (fun _ _ _ _ _ => (pg_name (i := 4) sc_Lcue.nd rfl (Or.inl rfl))) (fun _ _ _ _ _ => pts_nil) (fun _ _ _ _ _ => (pe_ix ix_str pe_str (pe_cl c_Ltake hr (by decide) (by rfl) (pa_cons (pv 0) (pa_cons pe_int pa_nil))) (fun _ _ => rfl)))))))
        pss_nil)
      (pss_cons (ps_set (i := 5) sc_Lcue.nd rfl (.inr rfl) (pe_cl c_Ltime hr (by decide) (by rfl) (pa_cons (pv 0) (pa_cons (pe_ix ix_list (pe_lst (pa_cons pe_int (pa_cons pe_int pa_nil))) (pe_callTy call_int1 (by rfl) T.m_int (by decide +kernel) (pa_cons (pe_cmpR op_eq (pe_cl c_Ltake hr (by decide) (by rfl) (pa_cons (pv 0) (pa_cons pe_int pa_nil))) pe_int (nomark _)) pa_nil)) (fun _ _ => rfl)) pa_nil))))
      (pss_cons (ps_set (i := 6) sc_Lcue.nd rfl (.inl rfl) (pe_cl c_Lsum hr (by decide) (by rfl) (pa_cons (pv 5) (pa_cons (pe_cl c_Lsum hr (by decide) (by rfl) (pa_cons (pe_tup (pa_cons pe_int (pa_cons pe_int pa_nil))) (pa_cons (pe_cl c_Ltime hr (by decide) (by rfl) (pa_cons (pv 0) (pa_cons pe_int pa_nil))) pa_nil))) pa_nil))))
      (pss_cons (ps_for PassesOwn.never rfl (pi_range1 (by rfl) T.m_range (pa_cons (pe_ix ix_list (pe_lst (pa_cons (pe_cl c_Ltake hr (by decide) (by rfl) (pa_cons (pv 0) (pa_cons pe_int pa_nil))) (pa_cons (pe_cl c_Ltake hr (by decide) (by rfl) (pa_cons (pv 0) (pa_cons pe_int pa_nil))) pa_nil))) (pe_callTy call_int1 (by rfl) T.m_int (by decide +kernel) (pa_cons (pe_cmpR op_eq (pe_cl c_Ltake hr (by decide) (by rfl) (pa_cons (pv 0) (pa_cons pe_int pa_nil))) pe_int (nomark _)) pa_nil)) (fun _ _ => rfl)) pa_nil)) (pg_name (i := 4) sc_Lcue.nd rfl (.inl rfl))
        (pss_cons (ps_set (i := 7) sc_Lcue.nd rfl (.inl rfl) (pe_op op_add pe_int (pe_cl c_Ltake hr (by decide) (by rfl) (pa_cons (pv 0) (pa_cons (pe_ix ix_list (pe_lst (pa_cons pe_int (pa_cons pe_int pa_nil))) (pe_callTy call_int1 (by rfl) T.m_int (by decide +kernel) (pa_cons (pe_cmpR op_eq (pe_cl c_Ltake hr (by decide) (by rfl) (pa_cons (pv 0) (pa_cons pe_int pa_nil))) pe_int (nomark _)) pa_nil)) (fun _ _ => rfl)) pa_nil)))))
      (pss_cons (ps_set (i := 8) sc_Lcue.nd rfl (.inl rfl) (pe_join pe_str (pe_lc (own := [("_law_j", 12)]) (g := (gName 12)) (tt := tYes) (by rfl) sc_Lcue.nd (pi_range1 (by rfl) T.m_range (pa_cons (pv 7) pa_nil)) (blkOk_by (N := ["_law_box", "_law_number", "_law_some", "_law_signs", "_law_k", "_law_begin", "_law_end", "_law_many", "_law_word", "_law_far", "_law_words", "_law_at", "_law_j"]) (sc := defScope s_Lcue) (by decide +kernel)) (fun _ _ _ _ _ => (pg_name (i := 12) sc_Lcue.nd rfl (Or.inl rfl))) (fun _ _ _ _ _ => pts_nil) (fun _ _ _ _ _ => (pe_ix ix_str (pv 3) (pe_cl c_Ltake hr (by decide) (by rfl) (pa_cons (pv 0) (pa_cons (pe_callB call_len_str (by rfl) T.m_len (by decide +kernel) (pa_cons (pv 3) pa_nil)) pa_nil))) (fun _ _ => rfl))))))
      (pss_one (ps_expr (pe_bm PySem.F.plainAttrs_list PySem.F.slot_list_append PySem.F.type_list_append mt_append (pv 2) (pa_cons (pe_tup (pa_cons (pe_cl c_Ltake hr (by decide) (by rfl) (pa_cons (pv 0) (pa_cons pe_int pa_nil))) (pa_cons (pv 8) pa_nil))) pa_nil)))))))
      (pss_cons (ps_set (i := 9) sc_Lcue.nd rfl (.inr rfl) (pe_cl c_Lminus hr (by decide) (by rfl) (pa_cons (pv 6) (pa_cons (pv 5) pa_nil))))
      (pss_cons (ps_setLc (i := 10) (own := [("_law_at", 11), ("_law_word", 8)]) (g := (gTup K 2 (gCons (gName 11) (gCons (gName 8) gNil)))) (tt := tYes) (by rfl) sc_Lcue.nd rfl rfl (sw_true rfl rfl rfl (by decide +kernel)) (pi_list (pe_callB (cr_sortedD dIS hr.units) (by rfl) T.m_sorted (by decide +kernel) (pa_cons (pv 2) pa_nil))) (blkOk_by (N := ["_law_box", "_law_number", "_law_some", "_law_signs", "_law_k", "_law_begin", "_law_end", "_law_many", "_law_word", "_law_far", "_law_words", "_law_at", "_law_j"]) (sc := defScope s_Lcue) (by decide +kernel)) (fun _ _ _ _ _ => (pg_tup rfl (pgs_cons (pg_name (i := 11) sc_Lcue.nd rfl (Or.inl rfl)) (pgs_cons (pg_name (i := 8) sc_Lcue.nd rfl (Or.inl rfl)) pgs_nil)))) (fun _ _ _ _ _ => pts_nil) (fun _ _ _ _ _ => (pe_tup (pa_cons (pv 8) (pa_cons (pe_cl c_Lsum hr (by decide) (by rfl) (pa_cons (pv 5) (pa_cons (pe_cl c_Ltimes hr (by decide) (by rfl) (pa_cons (pv 9) (pa_cons (pe_cl c_Lfr hr (by decide) (by rfl) (pa_cons (pv 11) (pa_cons pe_int pa_nil))) pa_nil))) pa_nil))) pa_nil)))))
      (pss_one (ps_ret (pe_tup (pa_cons (pv 1) (pa_cons (pv 5) (pa_cons (pv 6) (pa_cons (pv 10) pa_nil))))))))))))))), ?_⟩
    refine ⟨Nat.zero_le _, fun r hr0 => ?_⟩
    have s0' := Same.new (o := .lst []) hr0
    have B0 := B.mono s0'
    have hr1 : hid b l (upd H r (.lst [])) r = some (.lst []) := hid_at B hr0
    have s0 : Same (hid b l H) (hid b l (upd H r (.lst []))) := Same.hid s0'
    generalize upd H r (.lst []) = H0 at s0 B0 hr1 ⊢
    clear s0'
    refine ⟨fun σ' H' => ∃ z : Str, σ' = [some (.ref b), some (.int n), some (.ref r), some (.str z), none, none, none, none, none, none, none, none, none] ∧ Same (hid b l H) (hid b l H') ∧ Bx H' b l ∧ hid b l H' r = some (.lst []) ∧ SgOk z, ?_, fun σ' H2 hM => ?_⟩
    · refine ⟨_, rfl, _, l, _, rfl, B0, by decide, by decide, fun H1 r1 s1 B1 a1 b1 => ?_⟩
      refine ⟨rfl, _, rfl, ite2 (fun z => ?_) (fun z => ?_)⟩
      · refine ⟨⟨_, rfl⟩, 3, rfl, by decide, by decide, fun D hD => ?_⟩
        refine lc_range (lo := 0) (n := 3) (fun i H' => Same (hid b l H1) (hid b l H') ∧ Bx H' b l ∧ ∃ cs : List Nat, hid b l H' D = some (.lst ((ones cs).map V.str)) ∧ cs.length = i ∧ ∀ x ∈ cs, 97 ≤ x ∧ x ≤ 122) ⟨Same.hid (Same.new hD), B1.mono (Same.new hD), [], hid_at B1 hD, rfl, fun y hy => by cases hy⟩ (fun i H' hi h => ?_) (fun H' h => ?_)
        · obtain ⟨s3, B3, cs, hz, lc, oc⟩ := h
          refine ⟨rfl, ?_⟩
          refine ⟨_, rfl, b, l, _, rfl, B3, by decide, by decide, fun H4 sg s4 B4 g0 g1 => ?_⟩
          obtain ⟨c, hc, mc⟩ := sgn_mem (xs := ("abcdefghijklmnopqrstuvwxyz" : Str).cps.toList) g0 g1
          have hz4 := s4 _ _ hz
          refine ⟨_, _, c, rfl, rfl, (show 26 ≤ sizeLine by decide), hc, _, hid_same _ _ hz4, le1000 (by rw [List.length_map]; unfold ones; rw [List.length_map]; omega), ?_⟩
          refine ⟨(hid_upd hz4).2 H1 (fun a x _ ha => s4 _ _ (s3 _ _ ha)) hD, bx_upd B4 hz4, cs ++ [c], ?_, by rw [List.length_append, lc]; rfl, mem_snoc oc (abc26 c mc)⟩
          unfold ones
          rw [List.map_append, List.map_append]
          exact (hid_upd hz4).1
        · obtain ⟨s3, B3, cs, hz, lc, oc⟩ := h
          refine ⟨_, D, ones cs, rfl, rfl, .inl (.inl (.inl (hid_same _ _ hz))), ?_, ?_⟩
          · rw [ones_sum]
            show cs.length + (ones cs).length * 0 ≤ 16777216
            omega
          · rw [TL.join_eq]
            have e := join_ones cs
            refine ⟨_, rfl, (s0.trans s1).trans s3, B3, s3 _ _ (s1 _ _ hr1), ⟨?_, ?_, ?_⟩⟩
            · rw [slen_list, show Str.join "" (ones cs) = Str.join "" (ones cs) from rfl, e, lc]
              decide
            · rw [slen_list, e, lc]
              decide
            · rw [e]
              exact oc
      · exact ⟨_, rfl, s0.trans s1, B1, s1 _ _ hr1, sg_six⟩
    obtain ⟨z, rfl, s2, B2, hr2, sg⟩ := hM
    -- begin
    refine ⟨_, rfl, (show 2 ≤ sizeLine by decide), fun p hp => ?_⟩
    have s3' := Same.new (o := .lst [.int 50, .int 99999]) hp
    have B3 := B2.mono s3'
    have hP : hid b l (upd H2 p (.lst [.int 50, .int 99999])) p = some (.lst [.int 50, .int 99999]) := hid_at B2 hp
    have s3 := s2.trans (Same.hid s3')
    have hr3 := Same.hid (b := b) (l := l) s3' _ _ hr2
    generalize upd H2 p (.lst [.int 50, .int 99999]) = H3 at B3 hP s3 hr3 ⊢
    refine ⟨_, rfl, _, l, _, rfl, B3, by decide, by decide, fun H4 r4 s4 B4 a4 b4 => ?_⟩
    have hP4 : SqL K H4 p [.int 50, .int 99999] := .inl (.inl (hid_same _ _ (s4 _ _ hP)))
    refine ⟨rfl, .inr ⟨_, rfl, p, _, _, .int (if decide (V.int r4 = V.int 1) = true then 99999 else 50), rfl, rfl, hP4, ?_, ?_⟩⟩
    · by_cases c : decide (V.int r4 = V.int 1) = true
      · rw [if_pos c, if_pos c]
        exact atI_nat (j := 1) rfl
      · rw [if_neg c, if_neg c]
        exact atI_nat (j := 0) rfl
    have hk : (if decide (V.int r4 = V.int 1) = true then (99999 : Int) else 50) = 99999 ∨ (if decide (V.int r4 = V.int 1) = true then (99999 : Int) else 50) = 50 := by
      by_cases c : decide (V.int r4 = V.int 1) = true
      · rw [if_pos c]
        exact .inl rfl
      · rw [if_neg c]
        exact .inr rfl
    generalize (if decide (V.int r4 = V.int 1) = true then (99999 : Int) else 50) = k at hk ⊢
    refine ⟨_, l, _, rfl, B4, by omega, by omega, fun H5 vb xb s5 B5 db tb => ?_⟩
    have tb9 : Tm 99999 xb := by
      refine ⟨tb.iz, tb.lo, Rat.le_trans tb.hi (Rat.intCast_le_intCast.mpr (by omega)), tb.sz, fun h => absurd h (by decide), tb.dn⟩
    have s5' := (s3.trans s4).trans s5
    have hr5 := s5 _ _ (s4 _ _ hr3)
    -- end
    refine ⟨_, rfl, (show 2 ≤ sizeLine by decide), fun p6 hp6 => ?_⟩
    have t6 := Same.new (o := .tup [.int 1, .int 3]) hp6
    have dh : Dp K (upd H5 p6 (.tup [.int 1, .int 3])) (.ref p6) (dF (Rat.divInt 1 3)) := dF_mk (.inl (.inl upd_same))
    have B6 := B5.mono t6
    have hr6 := Same.hid (b := b) (l := l) t6 _ _ hr5
    have s6 := s5'.trans (Same.hid t6)
    have db6 := dp_mono t6 _ _ db
    generalize upd H5 p6 (.tup [.int 1, .int 3]) = H6 at dh B6 hr6 s6 db6 ⊢
    refine ⟨_, rfl, _, l, _, rfl, B6, by decide, by decide, fun H7 vt xt s7 B7 dt tt => ?_⟩
    have cb : CueB xb xt := ⟨tb9, tt⟩
    have dh7 := frac_keep dh B6 s7
    have db7 := frac_keep db6 B6 s7
    have hr7 := s7 _ _ hr6
    have s7' := s6.trans s7
    have z3 : Sz 2 (Rat.divInt 1 3) := sz_divInt (by decide) (by decide) (by decide)
    refine ⟨_, _, _, _, 2, 17, rfl, dh7, dt, z3, tt.sz, by decide, trivial, fun H8 v8 s8 d8 => ?_⟩
    refine ⟨_, _, _, _, 17, 20, rfl, dp_mono s8 _ _ db7, d8, tb9.sz, sz_add z3 tt.sz, by decide, trivial, fun H9 ve s9 de => ?_⟩
    have B9 := B7.mono (s8.trans s9)
    have db9 := dp_mono (s8.trans s9) _ _ db7
    have hr9 := Same.hid (b := b) (l := l) (s8.trans s9) _ _ hr7
    have s9' := s7'.trans (Same.hid (s8.trans s9))
    have de : Dp K H9 ve (dF (cEnd xb xt)) := de
    clear dh7 db7 db6 db dh d8 dt s8 s9 s7 s6 s5 s4 s3 s2 s7' s5' B7 B6 B5 B4 B3 B2 hr7 hr6 hr5 hr3 hr2 hP hP4
    -- how many words
    refine ⟨_, rfl, _, l, _, rfl, B9, by decide, by decide, fun Ha ra sa Ba aa ba => ?_⟩
    refine ⟨_, rfl, _, l, _, rfl, Ba, by decide, by decide, fun Hb rb sb Bb ab bb => ?_⟩
    refine ⟨(show 2 ≤ sizeLine by decide), fun pc hpc => ?_⟩
    have tc := Same.new (o := .lst [.int ra, .int rb]) hpc
    have Bc := Bb.mono tc
    have hPc : hid b l (upd Hb pc (.lst [.int ra, .int rb])) pc = some (.lst [.int ra, .int rb]) := hid_at Bb hpc
    refine ⟨_, rfl, _, l, _, rfl, Bc, by decide, by decide, fun Hd rd sd Bd' ad bd => ?_⟩
    have hPd : SqL K Hd pc [.int ra, .int rb] := .inl (.inl (hid_same _ _ (sd _ _ hPc)))
    have s9d := ((sa.trans sb).trans (Same.hid tc)).trans sd
    have hrd := s9d _ _ hr9
    have dbd := frac_keep db9 B9 s9d
    have ded := frac_keep de B9 s9d
    refine ⟨rfl, .inr ⟨_, rfl, pc, _, _, .int (if decide (V.int rd = V.int 1) = true then rb else ra), rfl, rfl, hPd, ?_, ?_⟩⟩
    · by_cases c : decide (V.int rd = V.int 1) = true
      · rw [if_pos c, if_pos c]
        exact atI_nat (j := 1) rfl
      · rw [if_neg c, if_neg c]
        exact atI_nat (j := 0) rfl
    have hk : 0 ≤ (if decide (V.int rd = V.int 1) = true then rb else ra) ∧ (if decide (V.int rd = V.int 1) = true then rb else ra) ≤ 11 := by
      split <;> omega
    generalize (if decide (V.int rd = V.int 1) = true then rb else ra) = m at hk ⊢
    refine ⟨m, rfl, by omega, by omega, for_range (lo := 0) (n := m.toNat) (fun i σ H' => ∃ (c4 c7 c8 : Option V) (ys : List V) (bs : List (Int × Str)), σ = [some (.ref b), some (.int n), some (.ref r), some (.str z), c4, some vb, some ve, c7, c8, none, none, none, none] ∧ Same (hid b l H) (hid b l H') ∧ Bx H' b l ∧ hid b l H' r = some (.lst ys) ∧ DpAll K H' ys (bs.map dIS) ∧ bs.length = i ∧ (∀ x ∈ bs, 0 ≤ x.1 ∧ x.1 ≤ 10 ∧ WordOk x.2) ∧ Dp K H' vb (dF xb) ∧ Dp K H' ve (dF (cEnd xb xt))) ⟨none, none, none, [], [], rfl, s9'.trans s9d, Bd', hrd, .nil, rfl, (fun x hx => nomatch hx), dbd, ded⟩ (fun i σ H' hi h => ?_) (fun σ H' h => ?_)⟩
    · obtain ⟨c4, c7, c8, ys, bs, rfl, s1, B1, hr1, da, hl, ok, db, de⟩ := h
      have ly : ys.length = i := by rw [dpa_len da, List.length_map, hl]
      -- many
      refine ⟨_, rfl, (show 2 ≤ sizeLine by decide), fun p2 hp2 => ?_⟩
      have t2 := Same.new (o := .lst [.int 4, .int 20]) hp2
      have B2 := B1.mono t2
      have hP2 : hid b l (upd H' p2 (.lst [.int 4, .int 20])) p2 = some (.lst [.int 4, .int 20]) := hid_at B1 hp2
      refine ⟨_, rfl, _, l, _, rfl, B2, by decide, by decide, fun H3 r3 s3 B3 a3 b3 => ?_⟩
      have hP3 : SqL K H3 p2 [.int 4, .int 20] := .inl (.inl (hid_same _ _ (s3 _ _ hP2)))
      refine ⟨rfl, .inr ⟨_, rfl, p2, _, _, .int (if decide (V.int r3 = V.int 1) = true then 20 else 4), rfl, rfl, hP3, ?_, ?_⟩⟩
      · by_cases c : decide (V.int r3 = V.int 1) = true
        · rw [if_pos c, if_pos c]
          exact atI_nat (j := 1) rfl
        · rw [if_neg c, if_neg c]
          exact atI_nat (j := 0) rfl
      have hk3 : (if decide (V.int r3 = V.int 1) = true then (20 : Int) else 4) = 20 ∨ (if decide (V.int r3 = V.int 1) = true then (20 : Int) else 4) = 4 := by
        by_cases c : decide (V.int r3 = V.int 1) = true
        · rw [if_pos c]
          exact .inl rfl
        · rw [if_neg c]
          exact .inr rfl
      generalize (if decide (V.int r3 = V.int 1) = true then (20 : Int) else 4) = k3 at hk3 ⊢
      refine ⟨_, l, _, rfl, B3, by omega, by omega, fun H4 r4 s4 B4 a4 b4 => ?_⟩
      have s14 := (Same.hid (b := b) (l := l) t2).trans (s3.trans s4)
      have hr4 := s14 _ _ hr1
      have da4 := keepA da (tupA_dIS _) B1.lb B1.ll s14
      have db4 := frac_keep db B1 s14
      have de4 := frac_keep de B1 s14
      refine ⟨_, _, rfl, rfl, ?_⟩
      -- word
      refine ⟨⟨_, rfl⟩, _, rfl, 1 + r4, rfl, by omega, by omega, fun D hD => ?_⟩
      refine lc_range (lo := 0) (n := (1 + r4).toNat) (fun i H' => Same (hid b l H4) (hid b l H') ∧ Bx H' b l ∧ ∃ cs : List Nat, hid b l H' D = some (.lst ((ones cs).map V.str)) ∧ cs.length = i ∧ ∀ x ∈ cs, 97 ≤ x ∧ x ≤ 122) ⟨Same.hid (Same.new hD), B4.mono (Same.new hD), [], hid_at B4 hD, rfl, fun y hy => by cases hy⟩ (fun j H5 hj h => ?_) (fun H5 h => ?_)
      · obtain ⟨s5, B5, cs, hz, lc, oc⟩ := h
        refine ⟨rfl, ?_⟩
        have lz : z.length ≤ sizeLine := le1000 (by have := sg.l10; omega)
        have z10 := sg.l10
        have z0 := sg.l0
        refine ⟨_, rfl, _, rfl, _, rfl, z, rfl, lz, b, l, _, rfl, B5, by omega, by omega, fun H6 sg6 s6 B6 g0 g1 => ?_⟩
        obtain ⟨c, hc, mc⟩ := sgn_mem (xs := z.cps.toList) g0 g1
        have hz6 := s6 _ _ hz
        refine ⟨_, _, c, rfl, rfl, lz, hc, _, hid_same _ _ hz6, le1000 (by rw [List.length_map]; unfold ones; rw [List.length_map]; omega), ?_⟩
        refine ⟨(hid_upd hz6).2 H4 (fun a x _ ha => s6 _ _ (s5 _ _ ha)) hD, bx_upd B6 hz6, cs ++ [c], ?_, by rw [List.length_append, lc]; rfl, mem_snoc oc (sg.abc c mc)⟩
        unfold ones
        rw [List.map_append, List.map_append]
        exact (hid_upd hz6).1
      · obtain ⟨s5, B5, cs, hz, lc, oc⟩ := h
        refine ⟨_, D, ones cs, rfl, rfl, .inl (.inl (.inl (hid_same _ _ hz))), ?_, ?_⟩
        · rw [ones_sum]
          show cs.length + (ones cs).length * 0 ≤ 16777216
          omega
        rw [TL.join_eq]
        have e := join_ones cs
        have wok : WordOk (Str.join "" (ones cs)) := ⟨by rw [slen_list, e, lc]; omega, by rw [slen_list, e, lc]; omega, by rw [e]; exact oc⟩
        generalize Str.join "" (ones cs) = word at wok
        have hr5 := s5 _ _ hr4
        have da5 := keepA da4 (tupA_dIS _) B4.lb B4.ll s5
        have db5 := frac_keep db4 B4 s5
        have de5 := frac_keep de4 B4 s5
        refine ⟨_, rfl, .inl ⟨rfl, _, .inl (.inl (hid_same _ _ hr5))⟩, _, rfl, b, l, _, rfl, B5, by decide, by decide, fun H6 at6 s6 B6 a6 b6 => ?_⟩
        have hr6 := s6 _ _ hr5
        have da6 := keepA da5 (tupA_dIS _) B5.lb B5.ll s6
        have db6 := frac_keep db5 B5 s6
        have de6 := frac_keep de5 B5 s6
        refine ⟨_, rfl, (show 2 ≤ sizeLine by decide), fun p7 hp7 => ?_⟩
        have t7 := Same.new (o := .tup [.int at6, .str word]) hp7
        have dn : Dp K (upd H6 p7 (.tup [.int at6, .str word])) (.ref p7) (dIS (at6, word)) := .tup (.inl (.inl upd_same)) (.cons (.int _) (.cons (.str _) .nil))
        have B7 := B6.mono t7
        have hr7 := Same.hid (b := b) (l := l) t7 _ _ hr6
        have da7 := dpa_mono t7 _ _ da6
        have db7 := dp_mono t7 _ _ db6
        have de7 := dp_mono t7 _ _ de6
        have s17 := (s14.trans (s5.trans s6)).trans (Same.hid t7)
        generalize upd H6 p7 (.tup [.int at6, .str word]) = H7 at dn B7 hr7 da7 db7 de7 s17 ⊢
        have Lr : IsL H7 r := ⟨_, hid_same _ _ hr7⟩
        refine ⟨r, ys, _, rfl, rfl, hid_same _ _ hr7, small1000 (by omega), ?_⟩
        refine ⟨_, _, _, ys ++ [.ref p7], bs ++ [(at6, word)], rfl, (hid_upd hr7).2 H (fun a x _ ha => s17 _ _ (s1 _ _ ha)) hr0, bx_upd B7 hr7, (hid_upd hr7).1, ?_, by rw [List.length_append, hl]; rfl, mem_snoc ok ⟨a6, by omega, wok⟩, keepU db7 rfl Lr, keepU de7 rfl Lr⟩
        rw [List.map_append]
        exact dpa_snoc (keepAU da7 (tupA_dIS _) Lr) (keepU dn rfl Lr)
    · obtain ⟨c4, c7, c8, ys, bs, rfl, s1, B1, hr1, da, hl, ok, db, de⟩ := h
      have hl11 : bs.length ≤ 11 := by omega
      have cok := cue_ok (n := n) cb ok hl11
      -- far
      refine ⟨_, rfl, _, rfl, _, _, _, _, 32, 17, rfl, de, db, cb.te.sz, tb9.sz, by decide, trivial, fun H2 vf s2 df => ?_⟩
      have zf : Sz 50 (cEnd xb xt - xb) := (sz_sub cb.te.sz tb9.sz)
      -- words
      refine ⟨_, rfl, r, ys, bs, rfl, .inl (.inl (s2 _ _ (hid_same _ _ hr1))), dpa_mono s2 _ _ da, dIS_alike _, dIS_sortable _, fun x _ => (by decide : 1 ≤ 60), fun yw pw hpw dw => ?_⟩
      have tw := Same.new (o := .lst yw) hpw
      have hw : (upd H2 pw (.lst yw)) pw = some (.lst yw) := upd_same
      have s2w := s2.trans tw
      have dw := dpa_mono tw _ _ dw
      have df := dp_mono tw _ _ df
      generalize upd H2 pw (.lst yw) = H3 at tw hw s2w dw df ⊢
      have lw : yw.length ≤ 11 := by rw [dpa_len dw, List.length_map, (List.mergeSort_perm bs _).length_eq]; exact hl11
      refine ⟨pw, rfl, ⟨_, .inl (.inl hw)⟩, fun D hD => ?_⟩
      have sD := Same.new (o := .lst []) hD
      have db3 := dp_mono s2w _ _ db
      refine lc_list (K := K) (a := pw) (xs := yw) (fun i H' => ∃ acc, H' D = some (.lst acc) ∧ Same H3 (hid D D H') ∧ acc.length = i ∧ DpAll K (hid D D H') acc (((cWords xb xt bs).take i).map dW)) ⟨[], upd_same, hid_old sD hD, rfl, .nil⟩ (fun i H' hi h => ?_) (fun i y H' hy h => ?_) (fun H' h => ?_)
      · obtain ⟨acc, hd, s4, la, dd⟩ := h
        exact .inl (.inl (hid_same _ _ (s4 _ _ hw)))
      · obtain ⟨acc, hd, s4, la, dd⟩ := h
        have s4' : Same H3 H' := s4.trans hid_same
        obtain ⟨x, hx, dx⟩ := dpa_map dw hy
        have hi : i < yw.length := (List.getElem?_eq_some_iff.mp hy).1
        have okx := ok x ((List.mergeSort_perm bs _).mem_iff.mp (List.mem_of_getElem? hx))
        obtain ⟨pt, rfl, hpt⟩ := dIS_at (dp_mono s4' _ _ dx)
        refine ⟨pt, _, rfl, hpt, rfl, _, _, rfl, _, _, rfl, rfl, rfl, ?_⟩
        refine ⟨_, rfl, _, rfl, _, rfl, _, rfl, _, _, rfl, by decide, p20 (by decide), fun H5 v5 s5 d5 => ?_⟩
        have z5 : Sz 4 (Rat.divInt x.1 11) := sz_divInt (by omega) (by decide) (by decide)
        refine ⟨_, _, _, _, 50, 4, rfl, dp_mono (s4'.trans s5) _ _ df, d5, zf, z5, by decide, trivial, fun H6 v6 s6 d6 => ?_⟩
        refine ⟨_, _, _, _, 17, 54, rfl, dp_mono ((s4'.trans s5).trans s6) _ _ db3, d6, tb9.sz, sz_mul zf z5, by decide, trivial, fun H7 v7 s7 d7 => ?_⟩
        refine ⟨(show 2 ≤ sizeLine by decide), fun pn hn => ?_⟩
        have t8 := Same.new (o := .tup [.str x.2, v7]) hn
        have s48 := ((s5.trans s6).trans s7).trans t8
        have hd8 := s48 _ _ hd
        have dn : Dp K (upd H7 pn (.tup [.str x.2, v7])) (.ref pn) (dW (x.2, cAt xb xt x.1)) := dW_mk (.inl (.inl upd_same)) (dp_mono t8 _ _ d7)
        generalize upd H7 pn (.tup [.str x.2, v7]) = H8 at hd8 dn s48 ⊢
        have LD : IsL H8 D := ⟨_, hd8⟩
        refine ⟨acc, hd8, small1000 (by omega), acc ++ [.ref pn], upd_same, ?_, by rw [List.length_append, la]; rfl, ?_⟩
        · rw [hid_b]
          exact s4.trans (Same.hid s48)
        · rw [hid_b, take_more (x := (x.2, cAt xb xt x.1)) (by unfold cWords; rw [List.getElem?_map, hx]; rfl), List.map_append]
          exact dpa_snoc (dpa_mono (Same.hid s48) _ _ dd) (dp_hid LD LD _ _ rfl dn)
      · obtain ⟨acc, hd, s4, la, dd⟩ := h
        have s4' : Same H3 H' := s4.trans hid_same
        have lcw : (cWords xb xt bs).length = yw.length := by
          unfold cWords
          rw [List.length_map, dpa_len dw, List.length_map]
        rw [← lcw, List.take_length] at dd
        have s14 := s2w.trans s4'
        refine ⟨_, rfl, _, rfl, _, rfl, _, rfl, (show 4 ≤ sizeLine by decide), fun p9 hp9 => ?_⟩
        have t9 := Same.new (o := .tup [.int n, vb, ve, .ref D]) hp9
        have s19 := s14.trans t9
        have B9 := B1.mono s19
        refine q _ (.ref p9) (n, xb, cEnd xb xt, cWords xb xt bs) D (s1.trans (Same.hid s19)) B9 ?_ ⟨p9, vb, ve, acc, rfl, .inl (.inl upd_same), dp_mono s19 _ _ db, dp_mono s19 _ _ de, t9 _ _ hd, dpa_mono t9 _ _ (dpa_mono hid_same _ _ dd)⟩ rfl cok
        -- D is new
        have hD1 : H3 D = none := hD
        have hn1 := s2w.free hD1
        cases hh : H D with
        | none => rfl
        | some o =>
          exfalso
          obtain ⟨bx, bst, e1, e2⟩ := B.ex
          obtain ⟨bx', bst', e1', e2'⟩ := B1.ex
          by_cases z1 : D = b
          · rw [z1, e1'] at hn1
            cases hn1
          · by_cases z2 : D = l
            · rw [z2, e2'] at hn1
              cases hn1
            · have : hid b l H D = some o := by
                unfold hid
                rw [if_neg (fun z => z.elim z1 z2)]
                exact hh
              have := hid_same _ _ (s1 _ _ this)
              rw [hn1] at this
              cases this
structure CuesOk (cs : List Cue) : Prop where
  each : ∀ c ∈ cs, CueOk c ∧ 0 < c.1 ∧ c.1 ≤ 90000000
  rise : cs.Pairwise fun c d => c.1 < d.1
  len : cs.length ≤ 8
def spCues (K : PySem.W.Frag) : Sp := fun vs H Q _ => ∃ (b l : Addr), vs = [.ref b] ∧ Bx H b l ∧ ∀ H' p ys (cs : List Cue), Same (hid b l H) (hid b l H') → Bx H' b l → H p = none → hid b l H' p = some (.lst ys) → DpAll K (R.hidL [b, l, p] H') ys (cs.map dC) → CuesOk cs → Q (.ref p) H'
theorem hid_sub {b l r : Addr} {H H' : Hp} (s : Same (hid b l H) (hid b l H')) : Same (R.hidL [b, l, r] H) (R.hidL [b, l, r] H') := hid_hidL (by simp) (by simp) s
theorem pw_snoc {α : Type} {R : α → α → Prop} {xs : List α} {x : α} (h : xs.Pairwise R) (hx : ∀ y ∈ xs, R y x) : (xs ++ [x]).Pairwise R := by
  rw [List.pairwise_append]
  exact ⟨h, List.pairwise_singleton _ _, fun a ha b hb => by rw [List.mem_singleton.mp hb]; exact hx a ha⟩
theorem cl_Lcues (T : Txt K mg) : Cl P w K mg base CX0 4 "_law_cues" (spCues K) := by
  have c_Ltake := cl_Ltake (P := P) (w := w) (base := base) T
  have c_Lcue := cl_Lcue (P := P) (w := w) (base := base) T
  refine T.d_Lcues.cl sc_Lcues (fun vs H Q E h => ?_) (fun f cdv A outer s H vs Q E hr h => ?_)
  · obtain ⟨b, l, rfl, _⟩ := h
    rfl
  · obtain ⟨b, l, rfl, B, q⟩ := h
    refine ⟨_, (pss_cons (ps_set (i := 1) sc_Lcues.nd rfl (.inl rfl) (pe_lst pa_nil))
      (pss_cons (ps_set (i := 2) sc_Lcues.nd rfl (.inl rfl) pe_int)
      (pss_cons (ps_for PassesOwn.never rfl (pi_range1 (by rfl) T.m_range (pa_cons (pe_ix ix_list (pe_lst (pa_cons (pe_cl c_Ltake hr (by decide) (by rfl) (pa_cons (pv 0) (pa_cons pe_int pa_nil))) (pa_cons (pe_cl c_Ltake hr (by decide) (by rfl) (pa_cons (pv 0) (pa_cons pe_int pa_nil))) pa_nil))) (pe_callTy call_int1 (by rfl) T.m_int (by decide +kernel) (pa_cons (pe_cmpR op_eq (pe_cl c_Ltake hr (by decide) (by rfl) (pa_cons (pv 0) (pa_cons pe_int pa_nil))) pe_int (nomark _)) pa_nil)) (fun _ _ => rfl)) pa_nil)) (pg_name (i := 3) sc_Lcues.nd rfl (.inl rfl))
        (pss_cons (ps_set (i := 2) sc_Lcues.nd rfl (.inl rfl) (pe_op op_add (pe_op op_add (pv 2) pe_int) (pe_ix ix_list (pe_lst (pa_cons (pe_cl c_Ltake hr (by decide) (by rfl) (pa_cons (pv 0) (pa_cons pe_int pa_nil))) (pa_cons (pe_cl c_Ltake hr (by decide) (by rfl) (pa_cons (pv 0) (pa_cons pe_int pa_nil))) pa_nil))) (pe_callTy call_int1 (by rfl) T.m_int (by decide +kernel) (pa_cons (pe_cmpR op_eq (pe_cl c_Ltake hr (by decide) (by rfl) (pa_cons (pv 0) (pa_cons pe_int pa_nil))) pe_int (nomark _)) pa_nil)) (fun _ _ => rfl))))
      (pss_one (ps_expr (pe_bm PySem.F.plainAttrs_list PySem.F.slot_list_append PySem.F.type_list_append mt_append (pv 1) (pa_cons (pe_cl c_Lcue hr (by decide) (by rfl) (pa_cons (pv 0) (pa_cons (pv 2) pa_nil))) pa_nil))))))
      (pss_one (ps_ret (pv 1)))))), ?_⟩
    refine ⟨Nat.zero_le _, fun r hr0 => ?_⟩
    have s0' := Same.new (o := .lst []) hr0
    have B0 := B.mono s0'
    have hr1 : hid b l (upd H r (.lst [])) r = some (.lst []) := hid_at B hr0
    have s0 : Same (hid b l H) (hid b l (upd H r (.lst []))) := Same.hid s0'
    generalize upd H r (.lst []) = H0 at s0 B0 hr1 ⊢
    refine ⟨_, rfl, _, l, _, rfl, B0, by decide, by decide, fun Ha ra sa Ba aa ba => ?_⟩
    refine ⟨_, rfl, _, l, _, rfl, Ba, by decide, by decide, fun Hb rb sb Bb ab bb => ?_⟩
    refine ⟨(show 2 ≤ sizeLine by decide), fun pc hpc => ?_⟩
    have tc := Same.new (o := .lst [.int ra, .int rb]) hpc
    have Bc := Bb.mono tc
    have hPc : hid b l (upd Hb pc (.lst [.int ra, .int rb])) pc = some (.lst [.int ra, .int rb]) := hid_at Bb hpc
    refine ⟨_, rfl, _, l, _, rfl, Bc, by decide, by decide, fun Hd rd sd Bd' ad bd => ?_⟩
    have hPd : SqL K Hd pc [.int ra, .int rb] := .inl (.inl (hid_same _ _ (sd _ _ hPc)))
    have s9d := ((sa.trans sb).trans (Same.hid tc)).trans sd
    have hrd := s9d _ _ hr1
    refine ⟨rfl, .inr ⟨_, rfl, pc, _, _, .int (if decide (V.int rd = V.int 1) = true then rb else ra), rfl, rfl, hPd, ?_, ?_⟩⟩
    · by_cases c : decide (V.int rd = V.int 1) = true
      · rw [if_pos c, if_pos c]
        exact atI_nat (j := 1) rfl
      · rw [if_neg c, if_neg c]
        exact atI_nat (j := 0) rfl
    have hk : 0 ≤ (if decide (V.int rd = V.int 1) = true then rb else ra) ∧ (if decide (V.int rd = V.int 1) = true then rb else ra) ≤ 8 := by
      split <;> omega
    generalize (if decide (V.int rd = V.int 1) = true then rb else ra) = m at hk ⊢
    refine ⟨m, rfl, by omega, by omega, for_range (lo := 0) (n := m.toNat) (fun i σ H' => ∃ (c3 : Option V) (N : Int) (ys : List V) (cs : List Cue), σ = [some (.ref b), some (.ref r), some (.int N), c3] ∧ Same (hid b l H) (hid b l H') ∧ Bx H' b l ∧ hid b l H' r = some (.lst ys) ∧ DpAll K (R.hidL [b, l, r] H') ys (cs.map dC) ∧ cs.length = i ∧ 0 ≤ N ∧ N ≤ 10000001 * i ∧ (∀ c ∈ cs, CueOk c ∧ 0 < c.1 ∧ c.1 ≤ N) ∧ cs.Pairwise (fun c d => c.1 < d.1)) ⟨none, 0, [], [], rfl, s0.trans s9d, Bd', hrd, .nil, rfl, by decide, by omega, (fun c hc => nomatch hc), .nil⟩ (fun i σ H' hi h => ?_) (fun σ H' h => ?_)⟩
    · obtain ⟨c3, N, ys, cs, rfl, s1, B1, hr1, da, hl, N0, N1, ok, rise⟩ := h
      have ly : ys.length = i := by rw [dpa_len da, List.length_map, hl]
      refine ⟨_, rfl, _, _, rfl, rfl, _, rfl, _, l, _, rfl, B1, by decide, by decide, fun H2 r2 s2 B2 a2 b2 => ?_⟩
      refine ⟨_, rfl, _, l, _, rfl, B2, by decide, by decide, fun H3 r3 s3 B3 a3 b3 => ?_⟩
      refine ⟨(show 2 ≤ sizeLine by decide), fun p4 hp4 => ?_⟩
      have t4 := Same.new (o := .lst [.int r2, .int r3]) hp4
      have B4 := B3.mono t4
      have hP4 : hid b l (upd H3 p4 (.lst [.int r2, .int r3])) p4 = some (.lst [.int r2, .int r3]) := hid_at B3 hp4
      refine ⟨_, rfl, _, l, _, rfl, B4, by decide, by decide, fun H5 r5 s5 B5 a5 b5 => ?_⟩
      have hP5 : SqL K H5 p4 [.int r2, .int r3] := .inl (.inl (hid_same _ _ (s5 _ _ hP4)))
      have s15 := ((s2.trans s3).trans (Same.hid t4)).trans s5
      refine ⟨rfl, .inr ⟨_, rfl, p4, _, _, .int (if decide (V.int r5 = V.int 1) = true then r3 else r2), rfl, rfl, hP5, ?_, ?_⟩⟩
      · by_cases c : decide (V.int r5 = V.int 1) = true
        · rw [if_pos c, if_pos c]
          exact atI_nat (j := 1) rfl
        · rw [if_neg c, if_neg c]
          exact atI_nat (j := 0) rfl
      have hk5 : 0 ≤ (if decide (V.int r5 = V.int 1) = true then r3 else r2) ∧ (if decide (V.int r5 = V.int 1) = true then r3 else r2) < 10000000 := by
        split <;> omega
      generalize (if decide (V.int r5 = V.int 1) = true then r3 else r2) = k5 at hk5 ⊢
      refine ⟨_, _, rfl, rfl, ?_⟩
      have hr5 := s15 _ _ hr1
      refine ⟨_, rfl, .inl ⟨rfl, _, .inl (.inl (hid_same _ _ hr5))⟩, _, rfl, _, rfl, b, l, _, rfl, B5, fun H6 v c al s6 B6 nal ca ec okc => ?_⟩
      have hr6 := s6 _ _ hr5
      have s16 := s15.trans s6
      have nt6 : ∀ a ∈ [b, l, r], NoT H6 a := by
        obtain ⟨x1, x2, e1, e2⟩ := B6.ex
        intro a ha
        simp only [List.mem_cons, List.not_mem_nil, or_false] at ha
        rcases ha with z | z | z <;> rw [z]
        · exact NoT.lst e1
        · exact NoT.lst e2
        · exact NoT.lst (hid_same _ _ hr6)
      have nal3 : al ∉ [b, l, r] := by
        obtain ⟨x1, x2, e1, e2⟩ := B5.ex
        intro ha
        simp only [List.mem_cons, List.not_mem_nil, or_false] at ha
        rcases ha with z | z | z
        · rw [z, e1] at nal
          cases nal
        · rw [z, e2] at nal
          cases nal
        · rw [z, hid_same _ _ hr5] at nal
          cases nal
      have dc := ca.dp nt6 nal3
      have da6 := dpa_mono (hid_sub s16) _ _ da
      refine ⟨r, ys, _, rfl, rfl, hid_same _ _ hr6, small1000 (by omega), ?_⟩
      have ec : c.1 = N + 1 + k5 := ec
      refine ⟨_, _, ys ++ [v], cs ++ [c], rfl, (hid_upd hr6).2 H (fun a x _ ha => s16 _ _ (s1 _ _ ha)) hr0, bx_upd B6 hr6, (hid_upd hr6).1, ?_, by rw [List.length_append, hl]; rfl, by omega, by omega, ?_, ?_⟩
      · rw [hidL_upd (by simp), List.map_append]
        exact dpa_snoc da6 dc
      · refine mem_snoc (fun d hd => ?_) ⟨okc, by omega, by omega⟩
        obtain ⟨o1, o2, o3⟩ := ok d hd
        exact ⟨o1, o2, by omega⟩
      · refine pw_snoc rise fun d hd => ?_
        have := (ok d hd).2.2
        omega
    · obtain ⟨c3, N, ys, cs, rfl, s1, B1, hr1, da, hl, N0, N1, ok, rise⟩ := h
      refine ⟨_, rfl, q _ r ys cs s1 B1 hr0 hr1 da ⟨fun c hc => ?_, rise, by omega⟩⟩
      obtain ⟨o1, o2, o3⟩ := ok c hc
      exact ⟨o1, o2, by omega⟩
/-! ### runs and parts on the heap -/
def dRun (r : Run) : PyData := .tuple [dF r.1, dF r.2.1, dF r.2.2.1, dF r.2.2.2]
abbrev Prt := Rat × Rat × List Str
def dPt (x : Prt) : PyData := .tuple [dF x.1, dF x.2.1, .list (x.2.2.map PyData.str)]
def dPts (xs : List Prt) : PyData := .list (xs.map dPt)
def partsM (c : Cue) (xs : List St3) : List Prt := (runsM c.2.1 c.2.2.1 xs).map fun r => (r.2.2.1, r.2.2.2, wordsIn c.2.2.2 r.1 r.2.1)
theorem dRun_at {K : PySem.W.Frag} {H : Hp} {v : V} {r : Run} (h : Dp K H v (dRun r)) : ∃ a v1 v2 v3 v4, v = .ref a ∧ SqT K H a [v1, v2, v3, v4] ∧ Dp K H v1 (dF r.1) ∧ Dp K H v2 (dF r.2.1) ∧ Dp K H v3 (dF r.2.2.1) ∧ Dp K H v4 (dF r.2.2.2) := by
  unfold dRun at h
  cases h with
  | tup hs ha =>
    cases ha with
    | cons h1 h2 =>
      cases h2 with
      | cons h3 h4 =>
        cases h4 with
        | cons h5 h6 =>
          cases h6 with
          | cons h7 h8 =>
            cases h8
            exact ⟨_, _, _, _, _, rfl, hs, h1, h3, h5, h7⟩
theorem dRun_mk {K : PySem.W.Frag} {H : Hp} {p : Addr} {v1 v2 v3 v4 : V} {r : Run} (h : SqT K H p [v1, v2, v3, v4]) (h1 : Dp K H v1 (dF r.1)) (h2 : Dp K H v2 (dF r.2.1)) (h3 : Dp K H v3 (dF r.2.2.1)) (h4 : Dp K H v4 (dF r.2.2.2)) : Dp K H (.ref p) (dRun r) := .tup h (.cons h1 (.cons h2 (.cons h3 (.cons h4 .nil))))
theorem tupA_dRun : ∀ xs : List Run, tupA (xs.map dRun) = true
  | [] => rfl
  | s :: r => by
    show (tupD (dRun s) && tupA (r.map dRun)) = true
    rw [tupA_dRun r]
    rfl
inductive A2 {α β : Type} (R : α → β → Prop) : List α → List β → Prop
  | nil : A2 R [] []
  | cons {x : α} {y : β} {xs : List α} {ys : List β} : R x y → A2 R xs ys → A2 R (x :: xs) (y :: ys)
section
variable {α β : Type} {R R' : α → β → Prop}
theorem A2.mono (h : ∀ x y, R x y → R' x y) : ∀ {xs : List α} {ys : List β}, A2 R xs ys → A2 R' xs ys
  | _, _, .nil => .nil
  | _, _, .cons a b => .cons (h _ _ a) (A2.mono h b)
theorem A2.snoc {x : α} {y : β} (r : R x y) : ∀ {xs : List α} {ys : List β}, A2 R xs ys → A2 R (xs ++ [x]) (ys ++ [y])
  | _, _, .nil => .cons r .nil
  | _, _, .cons a b => .cons a (A2.snoc r b)
theorem A2.len : ∀ {xs : List α} {ys : List β}, A2 R xs ys → xs.length = ys.length
  | _, _, .nil => rfl
  | _, _, .cons _ b => by rw [List.length_cons, List.length_cons, A2.len b]
theorem A2.at : ∀ {xs : List α} {ys : List β} {i : Nat} {x : α}, A2 R xs ys → xs[i]? = some x → ∃ y, ys[i]? = some y ∧ R x y
  | _, _, _, _, .nil, h => by simp at h
  | _, _, 0, _, .cons a b, h => ⟨_, rfl, by
    have e := Option.some.inj h
    rw [← e]
    exact a⟩
  | _, _, i + 1, _, .cons a b, h => A2.at (i := i) b h
theorem A2.split {y : β} : ∀ {ys : List β} {xs : List α}, A2 R xs (ys ++ [y]) → ∃ xs' x, xs = xs' ++ [x] ∧ A2 R xs' ys ∧ R x y
  | [], _, .cons a .nil => ⟨[], _, rfl, .nil, a⟩
  | _ :: ys, _, .cons a b => by
    obtain ⟨xs', x, rfl, h1, h2⟩ := A2.split (ys := ys) b
    exact ⟨_ :: xs', x, rfl, .cons a h1, h2⟩
end
/-- a part stands at y in H; its words' list is new since H0 -/
def PtAt (K : PySem.W.Frag) (H0 H : Hp) (y : V) (x : Prt) : Prop := ∃ a v1 v2 al, y = .ref a ∧ SqT K H a [v1, v2, .ref al] ∧ Dp K H v1 (dF x.1) ∧ Dp K H v2 (dF x.2.1) ∧ H0 al = none ∧ H al = some (.lst (x.2.2.map V.str))
theorem PtAt.mono {K : PySem.W.Frag} {H0 H H' : Hp} {y : V} {x : Prt} (h : PtAt K H0 H y x) (s : Same H H') : PtAt K H0 H' y x := by
  obtain ⟨a, v1, v2, al, e, h1, h2, h3, h4, h5⟩ := h
  exact ⟨a, v1, v2, al, e, Same.tup s h1, dp_mono s _ _ h2, dp_mono s _ _ h3, h4, s _ _ h5⟩
theorem PtAt.old {K : PySem.W.Frag} {H0 H1 H : Hp} {y : V} {x : Prt} (h : PtAt K H1 H y x) (s : Same H0 H1) : PtAt K H0 H y x := by
  obtain ⟨a, v1, v2, al, e, h1, h2, h3, h4, h5⟩ := h
  exact ⟨a, v1, v2, al, e, h1, h2, h3, s.free h4, h5⟩
theorem dpa_strs {K : PySem.W.Frag} {H : Hp} : ∀ ss : List Str, DpAll K H (ss.map V.str) (ss.map PyData.str)
  | [] => .nil
  | _ :: r => .cons (.str _) (dpa_strs r)
theorem PtAt.dp {K : PySem.W.Frag} {H0 H : Hp} {y : V} {x : Prt} (h : PtAt K H0 H y x) : Dp K H y (dPt x) := by
  obtain ⟨a, v1, v2, al, rfl, h1, h2, h3, h4, h5⟩ := h
  exact .tup h1 (.cons h2 (.cons h3 (.cons (.lst (.inl (.inl h5)) (dpa_strs _)) .nil)))
theorem pts_dp {K : PySem.W.Frag} {H0 H : Hp} : ∀ {ys : List V} {xs : List Prt}, A2 (PtAt K H0 H) ys xs → DpAll K H ys (xs.map dPt)
  | _, _, .nil => .nil
  | _, _, .cons a b => .cons a.dp (pts_dp b)
theorem pts_mono {K : PySem.W.Frag} {H0 H H' : Hp} {ys : List V} {xs : List Prt} (h : A2 (PtAt K H0 H) ys xs) (s : Same H H') : A2 (PtAt K H0 H') ys xs := h.mono fun _ _ r => r.mono s
theorem runs_all {P : Rat → Prop} {cb ce : Rat} (hb : P cb) (he : P ce) {xs : List St3} (h : ∀ s ∈ xs, P s.1 ∧ P s.2.1) : ∀ r ∈ runsM cb ce xs, P r.1 ∧ P r.2.1 := by
  have hm : ∀ a b : Rat, P a → P b → P (maxR a b) ∧ P (minR a b) := by
    intro a b ha hb'
    unfold maxR minR
    constructor <;> split <;> assumption
  have hs : ∀ (ys : List St3) (st : Rat), (∀ s ∈ ys, P s.1 ∧ P s.2.1) → ∀ r ∈ ovls cb ce st ys, P r.1 ∧ P r.2.1 := by
    intro ys
    induction ys with
    | nil =>
      intro st _ r hr
      cases hr
    | cons s t ih =>
      intro st hy r hr
      rcases List.mem_append.mp (show r ∈ ovl cb ce st s ++ ovls cb ce (st + lst3 s) t from hr) with h1 | h1
      · unfold ovl at h1
        split at h1
        · rw [List.mem_singleton.mp h1]
          obtain ⟨p1, p2⟩ := hy s List.mem_cons_self
          exact ⟨(hm _ _ hb p1).1, (hm _ _ he p2).2⟩
        · cases h1
      · exact ih _ (fun z hz => hy z (List.mem_cons_of_mem _ hz)) r h1
  have hf : ∀ (rs acc : List Run), (∀ r ∈ rs, P r.1 ∧ P r.2.1) → (∀ r ∈ acc, P r.1 ∧ P r.2.1) → ∀ r ∈ rs.foldl rstep acc, P r.1 ∧ P r.2.1 := by
    intro rs
    induction rs with
    | nil => exact fun acc _ h => h
    | cons x t ih =>
      intro acc h1 h2
      refine ih _ (fun r hr => h1 r (List.mem_cons_of_mem _ hr)) ?_
      have hx := h1 x List.mem_cons_self
      intro r hr
      rcases rstep_cases acc x with ⟨h, e⟩ | ⟨pre, a, h, (⟨c, e⟩ | ⟨_, e⟩)⟩
      · rw [e] at hr
        rw [List.mem_singleton.mp hr]
        exact hx
      · rw [e] at hr
        rcases List.mem_append.mp hr with z | z
        · exact h2 r (by rw [h]; exact List.mem_append_left _ z)
        · rw [List.mem_singleton.mp z]
          exact ⟨(h2 a (by rw [h]; exact List.mem_append_right _ (List.mem_singleton.mpr rfl))).1, hx.2⟩
      · rw [e] at hr
        rcases List.mem_append.mp hr with z | z
        · exact h2 r z
        · rw [List.mem_singleton.mp z]
          exact hx
  exact hf _ _ (hs xs 0 h) (fun r hr => nomatch hr)
def spTimeOf (K : PySem.W.Frag) : Sp := fun vs H Q _ => ∃ (u1 u2 u3 : V) (x st : Rat) (s : St3) (N : Nat), vs = [u1, u2, u3] ∧ Dp K H u1 (dF x) ∧ Dp K H u2 (dF st) ∧ Dp K H u3 (dS s) ∧ StOk N s ∧ Sz N x ∧ Sz N st ∧ N ≤ 2240 ∧ ∀ H' z, Same H H' → Dp K H' z (dF (tOf st s x)) → Q z H'
def spGoes (K : PySem.W.Frag) : Sp := fun vs H Q _ => ∃ (u v : V) (a r : Run), vs = [u, v] ∧ Dp K H u (dRun a) ∧ Dp K H v (dRun r) ∧ Q (.bl (decide (goesOn a r))) H
def spRuns (K : PySem.W.Frag) : Sp := fun vs H Q _ => ∃ (pt : Addr) (rows : List V) (vc : V) (c : Cue) (xs : List St3) (N : Nat), vs = [.ref pt, vc] ∧ SqL K H pt rows ∧ DpAll K H rows ((tabF 0 xs).map dRow) ∧ Dp K H vc (dC c) ∧ ShOk N xs ∧ Sz N c.2.1 ∧ Sz N c.2.2.1 ∧ N ≤ 2240 ∧ xs.length ≤ 900 ∧
  ∀ H' p ys, Same H H' → H p = none → H' p = some (.lst ys) → DpAll K H' ys ((runsM c.2.1 c.2.2.1 xs).map dRun) → Q (.ref p) H'
def spWordsB (K : PySem.W.Frag) : Sp := fun vs H Q _ => ∃ (v u1 u2 : V) (ws : List Wd) (f g : Rat) (N : Nat), vs = [v, u1, u2] ∧ Dp K H v (dWs ws) ∧ Dp K H u1 (dF f) ∧ Dp K H u2 (dF g) ∧ (∀ x ∈ ws, Sz 32 x.2) ∧ Sz N f ∧ Sz N g ∧ N ≤ 2240 ∧ ws.length ≤ 900 ∧
  ∀ H' p, Same H H' → H p = none → H' p = some (.lst ((wordsIn ws f g).map V.str)) → Q (.ref p) H'
def spPartsIn (K : PySem.W.Frag) : Sp := fun vs H Q _ => ∃ (pt : Addr) (rows : List V) (vc : V) (c : Cue) (xs : List St3) (N : Nat), vs = [.ref pt, vc] ∧ SqL K H pt rows ∧ DpAll K H rows ((tabF 0 xs).map dRow) ∧ Dp K H vc (dC c) ∧ CueOk c ∧ ShOk N xs ∧ 32 ≤ N ∧ N ≤ 2240 ∧ xs.length ≤ 900 ∧
  ∀ H' p ys, Same H H' → H p = none → H' p = some (.lst ys) → A2 (PtAt K H H') ys (partsM c xs) → Q (.ref p) H'
def spParts (K : PySem.W.Frag) : Sp := fun vs H Q _ => ∃ (v vc : V) (c : Cue) (xs : List St3) (N : Nat), vs = [v, vc] ∧ Dp K H v (dSh xs) ∧ Dp K H vc (dC c) ∧ CueOk c ∧ ShOk N xs ∧ 32 ≤ N ∧ N ≤ 2240 ∧ xs.length ≤ 900 ∧
  ∀ H' p ys, Same H H' → H p = none → H' p = some (.lst ys) → A2 (PtAt K H H') ys (partsM c xs) → Q (.ref p) H'
theorem rIn_of {x y : Rat} (b : Bool) : True := trivial
theorem cl_time_of (T : Txt K mg) : Cl P w K mg base CX0 4 "time_of" (spTimeOf K) := by
  have c_added := cl_added (P := P) (w := w) (base := base) T
  have c_over := cl_over (P := P) (w := w) (base := base) T
  have c_less := cl_less (P := P) (w := w) (base := base) T
  refine T.d_time_of.cl sc_time_of (fun vs H Q E h => ?_) (fun f cdv A outer s H vs Q E hr h => ?_)
  · obtain ⟨u1, u2, u3, x, st, s', N, rfl, _⟩ := h
    rfl
  · obtain ⟨u1, u2, u3, x, st, s', N, rfl, d1, d2, d3, ok, zx, zs, hN, q⟩ := h
    obtain ⟨a, v1, v2, v3, rfl, h0, e1, e2, e3⟩ := dS_at d3
    refine ⟨_, (pss_cons (ps_asg (pv 2) (pg_tup rfl (pgs_cons (pg_name (i := 3) sc_time_of.nd rfl (.inl rfl)) (pgs_cons (pg_name (i := 4) sc_time_of.nd rfl (.inl rfl)) (pgs_cons (pg_name (i := 5) sc_time_of.nd rfl (.inl rfl)) pgs_nil)))))
      (pss_one (ps_ret (pe_cl c_added hr (by decide) (by rfl) (pa_cons (pv 1) (pa_cons (pe_cl c_over hr (by decide) (by rfl) (pa_cons (pe_cl c_less hr (by decide) (by rfl) (pa_cons (pv 0) (pa_cons (pv 3) pa_nil))) (pa_cons (pv 5) pa_nil))) pa_nil)))))), ?_⟩
    refine ⟨_, rfl, a, _, rfl, h0, rfl, _, _, rfl, _, _, rfl, _, _, rfl, rfl, ?_⟩
    refine ⟨_, rfl, _, rfl, _, rfl, _, _, _, _, N, N, rfl, d1, e1, zx, ok.b, by omega, trivial, fun H1 z1 s1 r1 => ?_⟩
    refine ⟨_, rfl, _, _, _, _, N + N + 1, N, rfl, r1, dp_mono s1 _ _ e3, sz_sub zx ok.b, ok.p, by omega, ne_of_pos ok.pos, fun H2 z2 s2 r2 => ?_⟩
    refine ⟨_, _, _, _, N, N + N + 1 + N, rfl, dp_mono (s1.trans s2) _ _ d2, r2, zs, sz_div (sz_sub zx ok.b) ok.p (ne_of_pos ok.pos), by omega, trivial, fun H3 z3 s3 r3 => q _ _ ((s1.trans s2).trans s3) r3⟩
theorem cl_goes_on (T : Txt K mg) : Cl P w K mg base CX0 1 "goes_on" (spGoes K) := by
  refine T.d_goes_on.cl sc_goes_on (fun vs H Q E h => ?_) (fun f cdv A outer s H vs Q E hr h => ?_)
  · obtain ⟨u, v, a, r, rfl, _⟩ := h
    rfl
  · obtain ⟨u, v, x, r, rfl, d1, d2, q⟩ := h
    obtain ⟨a, u1, u2, u3, u4, rfl, h0, e1, e2, e3, e4⟩ := dRun_at d1
    obtain ⟨b, w1, w2, w3, w4, rfl, h1, g1, g2, g3, g4⟩ := dRun_at d2
    refine ⟨_, (pss_one (ps_ret (pe_and (pe_cmpR (op_eqD hr.units) (pe_ix ix_tup (pv 0) pe_int (fun _ _ => rfl)) (pe_ix ix_tup (pv 1) pe_int (fun _ _ => rfl)) (nomark _)) (pe_one (pe_cmpR (op_eqD hr.units) (pe_ix ix_tup (pv 0) pe_int (fun _ _ => rfl)) (pe_ix ix_tup (pv 1) pe_int (fun _ _ => rfl)) (nomark _)))))), ?_⟩
    refine ⟨_, rfl, _, _, _, _, rfl, rfl, h0, atI_nat (j := 1) rfl, _, rfl, _, _, _, _, rfl, rfl, h1, atI_nat (j := 0) rfl, _, _, e2, g1, shaped_dF _, shaped_dF _, _, rfl, ?_⟩
    rw [eqv_dF]
    by_cases c1 : x.2.1 = r.1
    · rw [decide_eq_true c1]
      refine iteY rfl ?_
      refine ⟨_, rfl, _, _, _, _, rfl, rfl, h0, atI_nat (j := 3) rfl, _, rfl, _, _, _, _, rfl, rfl, h1, atI_nat (j := 2) rfl, _, _, e4, g3, shaped_dF _, shaped_dF _, ?_⟩
      rw [eqv_dF]
      by_cases c2 : x.2.2.2 = r.2.2.1
      · rw [decide_eq_true c2]
        rw [decide_eq_true (show goesOn x r from ⟨c1, c2⟩)] at q
        exact q
      · rw [decide_eq_false c2]
        rw [decide_eq_false (show ¬ goesOn x r from fun z => c2 z.2)] at q
        exact q
    · rw [decide_eq_false c1]
      rw [decide_eq_false (show ¬ goesOn x r from fun z => c1 z.1)] at q
      exact iteN rfl q
theorem cl_runs (T : Txt K mg) : Cl P w K mg base CX0 5 "runs" (spRuns K) := by
  have c_larger := cl_larger (P := P) (w := w) (base := base) T
  have c_smaller := cl_smaller (P := P) (w := w) (base := base) T
  have c_is_below := cl_is_below (P := P) (w := w) (base := base) T
  have c_time_of := cl_time_of (P := P) (w := w) (base := base) T
  have c_goes_on := cl_goes_on (P := P) (w := w) (base := base) T
  refine T.d_runs.cl sc_runs (fun vs H Q E h => ?_) (fun f cdv A outer s H vs Q E hr h => ?_)
  · obtain ⟨pt, rows, vc, c, xs, N, rfl, _⟩ := h
    rfl
  · obtain ⟨pt, rows, vc, c, xs, N, rfl, h0, ha, dc, ok, zb, ze, hN, hn, q⟩ := h
    obtain ⟨cd, v1, v2, al, ws, rfl, hcd, e1, e2, hal, dws⟩ := dC_at dc
    have el : rows.length = xs.length := by rw [dpa_len ha, List.length_map, tabF_len]
    refine ⟨_, (pss_cons (ps_set (i := 2) sc_runs.nd rfl (.inl rfl) (pe_lst pa_nil))
      (pss_cons (ps_for PassesOwn.never rfl (pi_list (pv 0)) (pg_tup rfl (pgs_cons (pg_name (i := 3) sc_runs.nd rfl (.inl rfl)) (pgs_cons (pg_name (i := 4) sc_runs.nd rfl (.inl rfl)) (pgs_cons (pg_name (i := 5) sc_runs.nd rfl (.inl rfl)) pgs_nil))))
        (pss_cons (ps_set (i := 6) sc_runs.nd rfl (.inl rfl) (pe_cl c_larger hr (by decide) (by rfl) (pa_cons (pe_ix ix_tup (pv 1) pe_int (fun _ _ => rfl)) (pa_cons (pe_ix ix_tup (pv 5) pe_int (fun _ _ => rfl)) pa_nil))))
      (pss_cons (ps_set (i := 7) sc_runs.nd rfl (.inl rfl) (pe_cl c_smaller hr (by decide) (by rfl) (pa_cons (pe_ix ix_tup (pv 1) pe_int (fun _ _ => rfl)) (pa_cons (pe_ix ix_tup (pv 5) pe_int (fun _ _ => rfl)) pa_nil))))
      (pss_one (ps_if (pt_val (pe_cl c_is_below hr (by decide) (by rfl) (pa_cons (pv 6) (pa_cons (pv 7) pa_nil))))
        (pss_cons (ps_set (i := 8) sc_runs.nd rfl (.inl rfl) (pe_tup (pa_cons (pv 6) (pa_cons (pv 7) (pa_cons (pe_cl c_time_of hr (by decide) (by rfl) (pa_cons (pv 6) (pa_cons (pv 3) (pa_cons (pv 5) pa_nil)))) (pa_cons (pe_cl c_time_of hr (by decide) (by rfl) (pa_cons (pv 7) (pa_cons (pv 3) (pa_cons (pv 5) pa_nil)))) pa_nil))))))
      (Evl.pss_cut (ps_if (PW.pt (pw_and (pt_truth (pv 2) (by intro _; rfl)) (pw_and1 (pt_val (pe_cl c_goes_on hr (by decide) (by rfl) (pa_cons (pe_ix ix_list (pv 2) (pe_un un_neg pe_int) (fun _ _ => rfl)) (pa_cons (pv 8) pa_nil)))))))
        (pss_cons (ps_set (i := 9) sc_runs.nd rfl (.inl rfl) (pe_bm0 PySem.F.plainAttrs_list PySem.F.slot_list_pop PySem.F.type_list_pop mt_pop (pv 2)))
      (pss_one (ps_set (i := 8) sc_runs.nd rfl (.inl rfl) (pe_tup (pa_cons (pe_ix ix_tup (pv 9) pe_int (fun _ _ => rfl)) (pa_cons (pv 7) (pa_cons (pe_ix ix_tup (pv 9) pe_int (fun _ _ => rfl)) (pa_cons (pe_ix ix_tup (pv 8) pe_int (fun _ _ => rfl)) pa_nil))))))))
        pss_nil)
      (pss_one (ps_expr (pe_bm PySem.F.plainAttrs_list PySem.F.slot_list_append PySem.F.type_list_append mt_append (pv 2) (pa_cons (pv 8) pa_nil))))))
        pss_nil)))))
      (pss_one (ps_ret (pv 2))))), ?_⟩
    refine ⟨Nat.zero_le _, fun r hr0 => ?_⟩
    have s0 := Same.new (o := .lst []) hr0
    refine ⟨_, rfl, pt, rfl, ⟨_, s0.seq h0⟩, for_list (K := K) (a := pt) (xs := rows) (fun i σ H' => ∃ (c3 c4 c5 c6 c7 c8 c9 : Option V) (ys : List V), σ = [some (.ref pt), some (.ref cd), some (.ref r), c3, c4, c5, c6, c7, c8, c9] ∧ Same H H' ∧ H' r = some (.lst ys) ∧ DpAll K H' ys ((runsM c.2.1 c.2.2.1 (xs.take i)).map dRun)) ⟨none, none, none, none, none, none, none, [], rfl, s0, upd_same, .nil⟩ (fun i σ H' _ h => ?_) (fun i y σ H' hy h => ?_) (fun σ H' h => ?_)⟩
    · obtain ⟨c3, c4, c5, c6, c7, c8, c9, ys, rfl, s1, hr1, da⟩ := h
      exact s1.seq h0
    · obtain ⟨c3, c4, c5, c6, c7, c8, c9, ys, rfl, s1, hr1, da⟩ := h
      obtain ⟨row, hrow, drow⟩ := dpa_map ha hy
      rw [tabF_get] at hrow
      have hi : i < xs.length := by
        have := (List.getElem?_eq_some_iff.mp hy).1
        omega
      obtain ⟨x, hx⟩ : ∃ x, xs[i]? = some x := ⟨xs[i], List.getElem?_eq_getElem hi⟩
      rw [hx] at hrow
      have erow := (Option.some.inj hrow).symm
      subst erow
      have okx := ok.each x (List.mem_of_getElem? hx)
      have ly : ys.length ≤ i := by rw [dpa_len da, List.length_map]; exact runs_le _ _ _ _
      obtain ⟨pr, w1, w2, w3, rfl, hpr, g1, g2, g3⟩ := dRow_at (dp_mono s1 _ _ drow)
      obtain ⟨px, x1, x2, x3, rfl, hpx, k1, k2, k3⟩ := dS_at g3
      have hcd1 := Same.tup s1 hcd
      have e1' := dp_mono s1 _ _ e1
      have e2' := dp_mono s1 _ _ e2
      rw [Rat.zero_add] at g1
      refine ⟨pr, _, rfl, hpr, rfl, _, _, rfl, _, _, rfl, _, _, rfl, rfl, ?_⟩
      -- first, last
      refine ⟨_, rfl, _, _, _, _, rfl, rfl, hcd1, atI_nat (j := 1) rfl, _, rfl, _, _, _, _, rfl, rfl, hpx, atI_nat (j := 0) rfl, _, _, c.2.1, x.1, N, N, rfl, e1', k1, zb, okx.b, by omega, ?_⟩
      have df : Dp K H' (if decide (c.2.1 < x.1) = true then x1 else v1) (dF (maxR c.2.1 x.1)) := by
        unfold maxR
        by_cases z : c.2.1 < x.1
        · rw [if_pos (decide_eq_true z), if_pos z]
          exact k1
        · rw [if_neg (fun y => z (of_decide_eq_true y)), if_neg z]
          exact e1'
      generalize (if decide (c.2.1 < x.1) = true then x1 else v1) = vf at df ⊢
      refine ⟨_, rfl, _, _, _, _, rfl, rfl, hcd1, atI_nat (j := 2) rfl, _, rfl, _, _, _, _, rfl, rfl, hpx, atI_nat (j := 1) rfl, _, _, c.2.2.1, x.2.1, N, N, rfl, e2', k2, ze, okx.e, by omega, ?_⟩
      have dl : Dp K H' (if decide (x.2.1 < c.2.2.1) = true then x2 else v2) (dF (minR c.2.2.1 x.2.1)) := by
        unfold minR
        by_cases z : x.2.1 < c.2.2.1
        · rw [if_pos (decide_eq_true z), if_pos z]
          exact k2
        · rw [if_neg (fun y => z (of_decide_eq_true y)), if_neg z]
          exact e2'
      generalize (if decide (x.2.1 < c.2.2.1) = true then x2 else v2) = vl at dl ⊢
      have zf : Sz N (maxR c.2.1 x.1) := by
        unfold maxR
        split
        · exact okx.b
        · exact zb
      have zl : Sz N (minR c.2.2.1 x.2.1) := by
        unfold minR
        split
        · exact okx.e
        · exact ze
      refine ⟨_, rfl, _, rfl, _, _, _, _, N, N, rfl, df, dl, zf, zl, by omega, _, rfl, ite2 (fun z => ?_) (fun z => ?_)⟩
      · have z := of_decide_eq_true z
        refine ⟨_, rfl, _, rfl, _, rfl, _, rfl, _, rfl, _, _, _, _, _, x, N, rfl, df, g1, g3, okx, zf, ok.sums i, hN, fun H2 t2 s2 r2 => ?_⟩
        refine ⟨_, rfl, _, rfl, _, rfl, _, _, _, _, _, x, N, rfl, dp_mono s2 _ _ dl, dp_mono s2 _ _ g1, dp_mono s2 _ _ g3, okx, zl, ok.sums i, hN, fun H3 t3 s3 r3 => ?_⟩
        refine ⟨(show 4 ≤ sizeLine by decide), fun pn hpn => ?_⟩
        have s4 := Same.new (o := .tup [vf, vl, t2, t3]) hpn
        have s14 := (s2.trans s3).trans s4
        have dn : Dp K (upd H3 pn (.tup [vf, vl, t2, t3])) (.ref pn) (dRun (maxR c.2.1 x.1, minR c.2.2.1 x.2.1, tOf (lenS (xs.take i)) x (maxR c.2.1 x.1), tOf (lenS (xs.take i)) x (minR c.2.2.1 x.2.1))) := dRun_mk (.inl (.inl upd_same)) (dp_mono s14 _ _ df) (dp_mono s14 _ _ dl) (dp_mono (s3.trans s4) _ _ r2) (dp_mono s4 _ _ r3)
        have hr4 := s14 _ _ hr1
        have da4 := dpa_mono s14 _ _ da
        have s04 := s1.trans s14
        have dl4 := dp_mono s14 _ _ dl
        generalize upd H3 pn (.tup [vf, vl, t2, t3]) = H4 at dn hr4 da4 s04 dl4 ⊢
        rw [runs_yes hx z]
        generalize er : (maxR c.2.1 x.1, minR c.2.2.1 x.2.1, tOf (lenS (xs.take i)) x (maxR c.2.1 x.1), tOf (lenS (xs.take i)) x (minR c.2.2.1 x.2.1)) = ru at dn ⊢
        have dl4 : Dp K H4 vl (dF ru.2.1) := by rw [← er]; exact dl4
        refine ⟨fun σ' H'' => ∃ (c9 : Option V) (vn : V) (pre : List Run) (nw : Run) (ys2 : List V), σ' = [some (.ref pt), some (.ref cd), some (.ref r), some w1, some w2, some (.ref px), some vf, some vl, some vn, c9] ∧ Same H H'' ∧ H'' r = some (.lst ys2) ∧ ys2.length ≤ i ∧ DpAll K H'' ys2 (pre.map dRun) ∧ Dp K H'' vn (dRun nw) ∧ rstep (runsM c.2.1 c.2.2.1 (xs.take i)) ru = pre ++ [nw], ?_, fun σ' H5 hM => ?_⟩
        · rcases rstep_cases (runsM c.2.1 c.2.2.1 (xs.take i)) ru with ⟨f0, f1⟩ | ⟨pre, lr, f0, f1⟩
          · rw [f0] at da4
            cases da4
            refine ⟨_, rfl, false, .inl ⟨[], .inl (.inl hr4), rfl⟩, iteN rfl ?_⟩
            exact iteN rfl ⟨c9, .ref pn, [], ru, [], rfl, s04, hr4, Nat.zero_le _, .nil, dn, f1⟩
          · have da0 := da4
            rw [f0, List.map_append] at da4
            obtain ⟨ys', lv, rfl, da', dl'⟩ := dpa_split da4
            have sq : SqL K H4 r (ys' ++ [lv]) := .inl (.inl hr4)
            refine ⟨_, rfl, true, .inl ⟨_, sq, ?_⟩, iteY rfl ?_⟩
            · cases ys' <;> rfl
            refine ⟨_, rfl, _, rfl, _, _, _, _, rfl, rfl, sq, atI_last _ _, _, rfl, _, _, lr, ru, rfl, dl', dn, _, rfl, ?_⟩
            by_cases g : goesOn lr ru
            · rw [decide_eq_true g]
              refine iteY rfl ?_
              obtain ⟨pa, a1, a2, a3, a4, rfl, hpa, m1, m2, m3, m4⟩ := dRun_at dl'
              obtain ⟨pn', b1, b2, b3, b4, en, hpn', n1, n2, n3, n4⟩ := dRun_at dn
              cases en
              refine ⟨_, rfl, .inl ⟨rfl, _, sq⟩, r, _, .ref pa, rfl, rfl, hr4, ?_, ?_⟩
              · rw [List.length_append]
                show (ys' ++ [V.ref pa])[ys'.length + 1 - 1]? = _
                rw [Nat.add_sub_cancel]
                simp
              rw [List.dropLast_concat]
              have Lr : IsL H4 r := ⟨_, hr4⟩
              have hpa5 : SqT K (upd H4 r (.lst ys')) pa [a1, a2, a3, a4] := Same.tup hid_same (by rw [hid_b]; exact hid_tupL Lr Lr hpa)
              have hpn5 : SqT K (upd H4 r (.lst ys')) pn [b1, b2, b3, b4] := Same.tup hid_same (by rw [hid_b]; exact hid_tupL Lr Lr hpn')
              have s5 : Same H (upd H4 r (.lst ys')) := fun b o hb => by
                rw [upd_ne (ne_of_none hb hr0)]
                exact s04 _ _ hb
              have hr5 : (upd H4 r (.lst ys')) r = some (.lst ys') := upd_same
              have da5 := keepAU (o := .lst ys') da' (tupA_dRun _) Lr
              have m1' := keepU (o := .lst ys') m1 rfl Lr
              have m3' := keepU (o := .lst ys') m3 rfl Lr
              have n4' := keepU (o := .lst ys') n4 rfl Lr
              have dl5 := keepU (o := .lst ys') dl4 rfl Lr
              generalize upd H4 r (.lst ys') = H5 at hpa5 hpn5 s5 hr5 da5 m1' m3' n4' dl5 ⊢
              refine ⟨_, rfl, _, _, _, _, rfl, rfl, hpa5, atI_nat (j := 0) rfl, _, rfl, _, rfl, _, _, _, _, rfl, rfl, hpa5, atI_nat (j := 2) rfl, _, rfl, _, _, _, _, rfl, rfl, hpn5, atI_nat (j := 3) rfl, (show 4 ≤ sizeLine by decide), fun pq hpq => ?_⟩
              have s6 := Same.new (o := .tup [a1, vl, a3, b4]) hpq
              refine ⟨_, .ref pq, pre, (lr.1, ru.2.1, lr.2.2.1, ru.2.2.2), ys', rfl, s5.trans s6, s6 _ _ hr5, ?_, dpa_mono s6 _ _ da5, dRun_mk (.inl (.inl upd_same)) (dp_mono s6 _ _ m1') (dp_mono s6 _ _ dl5) (dp_mono s6 _ _ m3') (dp_mono s6 _ _ n4'), ?_⟩
              · rw [List.length_append] at ly
                simp at ly
                omega
              · rcases f1 with ⟨_, f1⟩ | ⟨w, _⟩
                · exact f1
                · exact absurd g w
            · rw [decide_eq_false g]
              refine iteN rfl ⟨c9, .ref pn, runsM c.2.1 c.2.2.1 (xs.take i), ru, _, rfl, s04, hr4, ly, da0, dn, ?_⟩
              rcases f1 with ⟨w, _⟩ | ⟨_, f1⟩
              · exact absurd w g
              · exact f1
        · obtain ⟨c9, vn, pre, nw, ys2, rfl, s5, hr5, l5, da5, dn5, e5⟩ := hM
          have Lr : IsL H5 r := ⟨_, hr5⟩
          refine ⟨_, rfl, .inl ⟨rfl, _, .inl (.inl hr5)⟩, _, rfl, r, ys2, _, rfl, rfl, hr5, small1000 (by omega), ?_⟩
          refine ⟨_, _, _, _, _, _, _, ys2 ++ [vn], rfl, fun b o hb => ?_, upd_same, ?_⟩
          · rw [upd_ne (ne_of_none hb hr0)]
            exact s5 _ _ hb
          · rw [e5, List.map_append]
            exact dpa_snoc (keepAU da5 (tupA_dRun _) Lr) (keepU dn5 rfl Lr)
      · have z : ¬ maxR c.2.1 x.1 < minR c.2.2.1 x.2.1 := fun y => z (decide_eq_true y)
        refine ⟨_, _, _, _, _, _, _, ys, rfl, s1, hr1, ?_⟩
        rw [runs_no hx z]
        exact da
    · obtain ⟨c3, c4, c5, c6, c7, c8, c9, ys, rfl, s1, hr1, da⟩ := h
      rw [el, List.take_length] at da
      exact ⟨_, rfl, q _ r ys s1 hr0 hr1 da⟩
theorem wordsIn_snoc {ws : List Wd} {i : Nat} {x : Wd} {f g : Rat} (h : ws[i]? = some x) : wordsIn (ws.take (i + 1)) f g = wordsIn (ws.take i) f g ++ (if (!decide (x.2 < f) && decide (x.2 < g)) = true then [x.1] else []) := by
  unfold wordsIn
  rw [take_more h, List.filter_append, List.map_append]
  congr 1
  by_cases c : (!decide (x.2 < f) && decide (x.2 < g)) = true
  · rw [if_pos c, List.filter_cons_of_pos (p := fun x : Wd => !decide (x.2 < f) && decide (x.2 < g)) c]
    rfl
  · rw [if_neg c, List.filter_cons_of_neg (p := fun x : Wd => !decide (x.2 < f) && decide (x.2 < g)) c]
    rfl
theorem wordsIn_le (ws : List Wd) (f g : Rat) : (wordsIn ws f g).length ≤ ws.length := by
  unfold wordsIn
  rw [List.length_map]
  exact List.length_filter_le _ _
theorem cl_words_between (T : Txt K mg) : Cl P w K mg base CX0 2 "words_between" (spWordsB K) := by
  have c_is_below := cl_is_below (P := P) (w := w) (base := base) T
  refine T.d_words_between.cl sc_words_between (fun vs H Q E h => ?_) (fun f cdv A outer s H vs Q E hr h => ?_)
  · obtain ⟨v, u1, u2, ws, f, g, N, rfl, _⟩ := h
    rfl
  · obtain ⟨v, u1, u2, ws, x1, x2, N, rfl, dv, d1, d2, sz, z1, z2, hN, hn, q⟩ := h
    unfold dWs at dv
    cases dv with
    | lst hs ha =>
      rename_i a vs
      have el : vs.length = ws.length := by rw [dpa_len ha, List.length_map]
      refine ⟨_, (pss_one (ps_ret (pe_lc (own := [("word", 4), ("place", 3)]) (g := (gTup K 2 (gCons (gName 4) (gCons (gName 3) gNil)))) (by rfl) sc_words_between.nd (pi_list (pv 0)) (blkOk_by (N := ["words", "first", "last", "place", "word"]) (sc := defScope s_words_between) (by decide +kernel)) (fun _ _ _ _ _ => (pg_tup rfl (pgs_cons (pg_name (i := 4) sc_words_between.nd rfl (Or.inl rfl)) (pgs_cons (pg_name (i := 3) sc_words_between.nd rfl (Or.inl rfl)) pgs_nil)))) (fun _ _ _ _ _ => (pts_one (PW.pt (pw_and (pt_not (pt_val (pe_cl c_is_below hr (by decide) (by rfl) (pa_cons (pv 3) (pa_cons (pv 1) pa_nil))))) (pw_and1 (pt_val (pe_cl c_is_below hr (by decide) (by rfl) (pa_cons (pv 3) (pa_cons (pv 2) pa_nil))))))))) (fun _ _ _ _ _ => (pv 4))))), ?_⟩
      refine ⟨_, rfl, a, rfl, ⟨_, hs⟩, fun D hD => ?_⟩
      have sD := Same.new (o := .lst []) hD
      refine lc_list (K := K) (a := a) (xs := vs) (fun i H' => ∃ acc, H' D = some (.lst acc) ∧ Same H (hid D D H') ∧ acc = (wordsIn (ws.take i) x1 x2).map V.str) ⟨[], upd_same, hid_old sD hD, rfl⟩ (fun i H' hi h => ?_) (fun i y H' hy h => ?_) (fun H' h => ?_)
      · obtain ⟨acc, hd, s2, ea⟩ := h
        exact (s2.trans hid_same).seq hs
      · obtain ⟨acc, hd, s2, ea⟩ := h
        have s2' : Same H H' := s2.trans hid_same
        obtain ⟨x, hx, dx⟩ := dpa_map ha hy
        have hi : i < ws.length := (List.getElem?_eq_some_iff.mp hx).1
        have la : acc.length ≤ i := by
          rw [ea, List.length_map]
          have := wordsIn_le (ws.take i) x1 x2
          rw [List.length_take] at this
          omega
        obtain ⟨px, vt, rfl, hpx, dt⟩ := dW_at (dp_mono s2' _ _ dx)
        have zx := sz x (List.mem_of_getElem? hx)
        refine ⟨px, _, rfl, hpx, rfl, _, _, rfl, _, _, rfl, rfl, rfl, ?_⟩
        have e := wordsIn_snoc (f := x1) (g := x2) hx
        refine ⟨_, rfl, _, rfl, _, _, x.2, x1, 32, N, rfl, dt, dp_mono s2' _ _ d1, zx, z1, by omega, _, rfl, ?_⟩
        by_cases b1 : x.2 < x1
        · rw [decide_eq_true b1] at e ⊢
          refine iteN rfl (iteN rfl ⟨acc, hd, s2, ?_⟩)
          rw [e, ea]
          simp
        · rw [decide_eq_false b1] at e ⊢
          refine iteY rfl ?_
          refine ⟨_, rfl, _, rfl, _, _, x.2, x2, 32, N, rfl, dt, dp_mono s2' _ _ d2, zx, z2, by omega, _, rfl, ?_⟩
          by_cases b2 : x.2 < x2
          · rw [decide_eq_true b2] at e ⊢
            refine iteY rfl ⟨_, rfl, acc, hd, small1000 (by omega), acc ++ [.str x.1], upd_same, ?_, ?_⟩
            · rw [hid_b]
              exact s2
            · rw [e, ea]
              simp
          · rw [decide_eq_false b2] at e ⊢
            refine iteN rfl ⟨acc, hd, s2, ?_⟩
            rw [e, ea]
            simp
      · obtain ⟨acc, hd, s2, ea⟩ := h
        rw [el, List.take_length] at ea
        subst ea
        exact q _ D (s2.trans hid_same) hD hd
theorem cl_parts_in (T : Txt K mg) : Cl P w K mg base CX0 6 "parts_in" (spPartsIn K) := by
  have c_runs := cl_runs (P := P) (w := w) (base := base) T
  have c_words_between := cl_words_between (P := P) (w := w) (base := base) T
  refine T.d_parts_in.cl sc_parts_in (fun vs H Q E h => ?_) (fun f cdv A outer s H vs Q E hr h => ?_)
  · obtain ⟨pt, rows, vc, c, xs, N, rfl, _⟩ := h
    rfl
  · obtain ⟨pt, rows, vc, c, xs, N, rfl, h0, ha, dc, okc, ok, n32, hN, hn, q⟩ := h
    obtain ⟨cd, v1, v2, al, ws, rfl, hcd, e1, e2, hal, dws⟩ := dC_at dc
    have zb : Sz N c.2.1 := okc.tb.sz.mono n32
    have ze : Sz N c.2.2.1 := okc.te.sz.mono n32
    have zr := runs_all (P := fun x => Sz N x) zb ze (xs := xs) fun s hs => ⟨(ok.each s hs).b, (ok.each s hs).e⟩
    have wn := okc.wn
    refine ⟨_, (pss_cons (ps_set (i := 2) sc_parts_in.nd rfl (.inl rfl) (pe_lst pa_nil))
      (pss_cons (ps_for PassesOwn.never rfl (pi_list (pe_cl c_runs hr (by decide) (by rfl) (pa_cons (pv 0) (pa_cons (pv 1) pa_nil)))) (pg_tup rfl (pgs_cons (pg_name (i := 3) sc_parts_in.nd rfl (.inl rfl)) (pgs_cons (pg_name (i := 4) sc_parts_in.nd rfl (.inl rfl)) (pgs_cons (pg_name (i := 5) sc_parts_in.nd rfl (.inl rfl)) (pgs_cons (pg_name (i := 6) sc_parts_in.nd rfl (.inl rfl)) pgs_nil)))))
        (pss_one (ps_expr (pe_bm PySem.F.plainAttrs_list PySem.F.slot_list_append PySem.F.type_list_append mt_append (pv 2) (pa_cons (pe_tup (pa_cons (pv 5) (pa_cons (pv 6) (pa_cons (pe_cl c_words_between hr (by decide) (by rfl) (pa_cons (pe_ix ix_tup (pv 1) pe_int (fun _ _ => rfl)) (pa_cons (pv 3) (pa_cons (pv 4) pa_nil)))) pa_nil)))) pa_nil)))))
      (pss_one (ps_ret (pv 2))))), ?_⟩
    refine ⟨Nat.zero_le _, fun r hr0 => ?_⟩
    have s0 := Same.new (o := .lst []) hr0
    refine ⟨_, rfl, _, rfl, pt, rows, _, c, xs, N, rfl, s0.seq h0, dpa_mono s0 _ _ ha, dp_mono s0 _ _ dc, ok, zb, ze, hN, hn, fun H1 pr ry s1 np hp dr => ?_⟩
    have s01 := s0.trans s1
    have hr1 := s1 _ _ upd_same
    have npr : pr ≠ r := fun z => by
      rw [z, upd_same] at np
      cases np
    have lry : ry.length = (runsM c.2.1 c.2.2.1 xs).length := by rw [dpa_len dr, List.length_map]
    have lrun := runs_le c.2.1 c.2.2.1 xs xs.length
    rw [List.take_length] at lrun
    refine ⟨pr, rfl, ⟨_, .inl (.inl hp)⟩, for_list (K := K) (a := pr) (xs := ry) (fun i σ H' => ∃ (c3 c4 c5 c6 : Option V) (ys : List V), σ = [some (.ref pt), some (.ref cd), some (.ref r), c3, c4, c5, c6] ∧ Same (hid r r H1) (hid r r H') ∧ H' r = some (.lst ys) ∧ A2 (PtAt K H (hid r r H')) ys ((partsM c xs).take i)) ⟨none, none, none, none, [], rfl, Same.refl _, hr1, .nil⟩ (fun i σ H' _ h => ?_) (fun i y σ H' hy h => ?_) (fun σ H' h => ?_)⟩
    · obtain ⟨c3, c4, c5, c6, ys, rfl, s2, hr2, pa⟩ := h
      have : hid r r H1 pr = some (.lst ry) := by
        unfold hid
        rw [if_neg (fun z => z.elim npr npr)]
        exact hp
      exact .inl (.inl (hid_same _ _ (s2 _ _ this)))
    · obtain ⟨c3, c4, c5, c6, ys, rfl, s2, hr2, pa⟩ := h
      obtain ⟨ru, hru, dru⟩ := dpa_map dr hy
      have hi : i < ry.length := (List.getElem?_eq_some_iff.mp hy).1
      have ly := pa.len
      rw [List.length_take] at ly
      have Lr1 : IsL H1 r := ⟨_, hr1⟩
      have sH : Same H (hid r r H') := (hid_old s01 hr0).trans s2
      have sH' : Same H H' := sH.trans hid_same
      obtain ⟨pu, u1, u2, u3, u4, rfl, hpu, g1, g2, g3, g4⟩ := dRun_at (dp_mono (s2.trans hid_same) _ _ (dp_hid Lr1 Lr1 _ _ rfl dru))
      obtain ⟨z1, z2⟩ := zr ru (List.mem_of_getElem? hru)
      have hcd1 := Same.tup sH' hcd
      refine ⟨pu, _, rfl, hpu, rfl, _, _, rfl, _, _, rfl, _, _, rfl, _, _, rfl, rfl, ?_⟩
      refine ⟨_, rfl, .inl ⟨rfl, _, .inl (.inl hr2)⟩, _, rfl, _, rfl, ?_⟩
      refine ⟨_, rfl, _, _, _, _, rfl, rfl, hcd1, atI_nat (j := 3) rfl, _, rfl, _, rfl, _, _, _, c.2.2.2, ru.1, ru.2.1, N, rfl, .lst (sH'.seq hal) (dpa_mono sH' _ _ dws), g1, g2, fun x hx => (okc.ws x hx).2.1.sz, z1, z2, hN, by omega, fun H3 pw s3 nw hw => ?_⟩
      refine ⟨(show 3 ≤ sizeLine by decide), fun pn hpn => ?_⟩
      have s4 := Same.new (o := .tup [u3, u4, .ref pw]) hpn
      have s34 := s3.trans s4
      have hr4 := s34 _ _ hr2
      have Lr : IsL (upd H3 pn (.tup [u3, u4, .ref pw])) r := ⟨_, hr4⟩
      have npw : pw ≠ r := fun z => by
        rw [z, hr2] at nw
        cases nw
      have hw4 : hid r r (upd H3 pn (.tup [u3, u4, .ref pw])) pw = some (.lst ((wordsIn c.2.2.2 ru.1 ru.2.1).map V.str)) := by
        unfold hid
        rw [if_neg (fun z => z.elim npw npw)]
        exact s4 _ _ hw
      have pn4 : PtAt K H (hid r r (upd H3 pn (.tup [u3, u4, .ref pw]))) (.ref pn) (ru.2.2.1, ru.2.2.2, wordsIn c.2.2.2 ru.1 ru.2.1) :=
        ⟨pn, u3, u4, pw, rfl, hid_tupL Lr Lr (.inl (.inl upd_same)), dp_hid Lr Lr _ _ rfl (dp_mono s34 _ _ g3), dp_hid Lr Lr _ _ rfl (dp_mono s34 _ _ g4), sH'.free nw, hw4⟩
      have s24 := s2.trans (Same.hid (b := r) (l := r) s34)
      have pa4 := pts_mono pa (Same.hid (b := r) (l := r) s34)
      generalize upd H3 pn (.tup [u3, u4, .ref pw]) = H4 at hr4 pn4 s24 pa4 ⊢
      refine ⟨r, ys, _, rfl, rfl, hr4, small1000 (by omega), ?_⟩
      refine ⟨_, _, _, _, ys ++ [.ref pn], rfl, by rw [hid_b]; exact s24, upd_same, ?_⟩
      rw [hid_b, take_more (x := (ru.2.2.1, ru.2.2.2, wordsIn c.2.2.2 ru.1 ru.2.1)) (by unfold partsM; rw [List.getElem?_map, hru]; rfl)]
      exact pa4.snoc pn4
    · obtain ⟨c3, c4, c5, c6, ys, rfl, s2, hr2, pa⟩ := h
      have lp : (partsM c xs).length = ry.length := by
        unfold partsM
        rw [List.length_map, lry]
      rw [← lp, List.take_length] at pa
      exact ⟨_, rfl, q _ r ys (((hid_old s01 hr0).trans s2).trans hid_same) hr0 hr2 (pts_mono pa hid_same)⟩
def dP4 (ws : List Wd) (r : Run) : PyData := .tuple [dF r.2.2.1, dF r.2.2.2, .list ((wordsIn ws r.1 r.2.1).map PyData.str), dF r.2.1]
theorem word_str {s : Str} (h : WordOk s) : PyData.strOk s = true := by
  unfold PyData.strOk
  rw [Array.all_eq_true']
  intro x hx
  have := h.abc x (Array.mem_toList_iff.mpr hx)
  exact decide_eq_true (by omega)
theorem lay_strs : ∀ ss : List Str, (∀ s ∈ ss, WordOk s) → PyData.canLayAll0 (ss.map PyData.str) = true
  | [], _ => rfl
  | s :: r, h => by
    show (PyData.canLay0 (.str s) && PyData.canLayAll0 (r.map PyData.str)) = true
    rw [lay_strs r fun x hx => h x (List.mem_cons_of_mem _ hx), show PyData.canLay0 (.str s) = true from word_str (h s List.mem_cons_self)]
    rfl
theorem wordsIn_ok {ws : List Wd} {f g : Rat} (h : ∀ x ∈ ws, WordOk x.1) : ∀ s ∈ wordsIn ws f g, WordOk s := by
  intro s hs
  obtain ⟨x, hx, rfl⟩ := List.mem_map.mp hs
  exact h x (List.mem_filter.mp hx).1
theorem depth_strs : ∀ ss : List Str, PyData.depthAll (ss.map PyData.str) = 0
  | [] => rfl
  | s :: r => by
    show max (PyData.depth (.str s)) (PyData.depthAll (r.map PyData.str)) = 0
    rw [depth_strs r]
    rfl
theorem lay_dP4 (ws : List Wd) (hw : ∀ x ∈ ws, WordOk x.1) : ∀ rs : List Run, PyData.canLayAll0 (rs.map (dP4 ws)) = true
  | [] => rfl
  | r :: t => by
    show (PyData.canLay0 (dP4 ws r) && PyData.canLayAll0 (t.map (dP4 ws))) = true
    rw [lay_dP4 ws hw t]
    have : PyData.canLay0 (dP4 ws r) = true := by
      show ((true && true) && ((true && true) && (PyData.canLayAll0 ((wordsIn ws r.1 r.2.1).map PyData.str) && ((true && true) && true)))) = true
      rw [lay_strs _ (wordsIn_ok hw)]
      rfl
    rw [this]
    rfl
theorem depth_dP4 (ws : List Wd) : ∀ rs : List Run, PyData.depthAll (rs.map (dP4 ws)) ≤ 3
  | [] => Nat.zero_le _
  | r :: t => by
    refine Nat.max_le.mpr ⟨?_, depth_dP4 ws t⟩
    show PyData.depthAll [dF r.2.2.1, dF r.2.2.2, .list ((wordsIn ws r.1 r.2.1).map PyData.str), dF r.2.1] + 1 ≤ 3
    have e : PyData.depth (.list ((wordsIn ws r.1 r.2.1).map PyData.str)) = 1 := by
      show PyData.depthAll _ + 1 = 1
      rw [depth_strs]
    show max 1 (max 1 (max (PyData.depth (.list ((wordsIn ws r.1 r.2.1).map PyData.str))) (max 1 0))) + 1 ≤ 3
    rw [e]
    decide
theorem shaped_dP4 (ws : List Wd) (hw : ∀ x ∈ ws, WordOk x.1) (rs : List Run) : SeqAt.shaped (.list (rs.map (dP4 ws))) = true := by
  unfold SeqAt.shaped
  rw [show PyData.canLay0 (.list (rs.map (dP4 ws))) = true from lay_dP4 ws hw rs]
  have : PyData.depth (.list (rs.map (dP4 ws))) ≤ 64 := by
    show PyData.depthAll (rs.map (dP4 ws)) + 1 ≤ 64
    have := depth_dP4 ws rs
    omega
  rw [decide_eq_true this]
  rfl
def P4At (K : PySem.W.Frag) (ws : List Wd) (H0 H : Hp) (y : V) (r : Run) : Prop := ∃ a v1 v2 al v4, y = .ref a ∧ SqT K H a [v1, v2, .ref al, v4] ∧ Dp K H v1 (dF r.2.2.1) ∧ Dp K H v2 (dF r.2.2.2) ∧ Dp K H v4 (dF r.2.1) ∧ H0 al = none ∧ H al = some (.lst ((wordsIn ws r.1 r.2.1).map V.str))
theorem P4At.mono {K : PySem.W.Frag} {ws : List Wd} {H0 H H' : Hp} {y : V} {r : Run} (h : P4At K ws H0 H y r) (s : Same H H') : P4At K ws H0 H' y r := by
  obtain ⟨a, v1, v2, al, v4, e, h1, h2, h3, h4, h5, h6⟩ := h
  exact ⟨a, v1, v2, al, v4, e, Same.tup s h1, dp_mono s _ _ h2, dp_mono s _ _ h3, dp_mono s _ _ h4, h5, s _ _ h6⟩
theorem P4At.dp {K : PySem.W.Frag} {ws : List Wd} {H0 H : Hp} {y : V} {r : Run} (h : P4At K ws H0 H y r) : Dp K H y (dP4 ws r) := by
  obtain ⟨a, v1, v2, al, v4, rfl, h1, h2, h3, h4, h5, h6⟩ := h
  exact .tup h1 (.cons h2 (.cons h3 (.cons (.lst (.inl (.inl h6)) (dpa_strs _)) (.cons h4 .nil))))
theorem p4_dp {K : PySem.W.Frag} {ws : List Wd} {H0 H : Hp} : ∀ {ys : List V} {rs : List Run}, A2 (P4At K ws H0 H) ys rs → DpAll K H ys (rs.map (dP4 ws))
  | _, _, .nil => .nil
  | _, _, .cons a b => .cons a.dp (p4_dp b)
theorem p4_mono {K : PySem.W.Frag} {ws : List Wd} {H0 H H' : Hp} {ys : List V} {rs : List Run} (h : A2 (P4At K ws H0 H) ys rs) (s : Same H H') : A2 (P4At K ws H0 H') ys rs := h.mono fun _ _ r => r.mono s
theorem hid_at1 {r a : Addr} {H : Hp} {o : HO} (n : a ≠ r) (h : H a = some o) : hid r r H a = some o := by
  unfold hid
  rw [if_neg (fun z => z.elim n n)]
  exact h
theorem cl_Lparts (T : Txt K mg) : Cl P w K mg base CX0 4 "_law_parts" (spParts K) := by
  have c_Llow := cl_Llow (P := P) (w := w) (base := base) T
  have c_Lsum := cl_Lsum (P := P) (w := w) (base := base) T
  have c_Lby := cl_Lby (P := P) (w := w) (base := base) T
  have c_Lminus := cl_Lminus (P := P) (w := w) (base := base) T
  have c_Llast := cl_Llast (P := P) (w := w) (base := base) T
  refine T.d_Lparts.cl sc_Lparts (fun vs H Q E h => ?_) (fun f cdv A outer s H vs Q E hr h => ?_)
  · obtain ⟨v, vc, c, xs, N, rfl, _⟩ := h
    rfl
  · obtain ⟨v, vc, c, xs, N, rfl, hv, dc, okc, ok, n32, hN, hn, q⟩ := h
    obtain ⟨a0, vs, rfl, h0, ha⟩ := dSh_at hv
    obtain ⟨cd, v1, v2, al, ws, rfl, hcd, e1, e2, hal, dws⟩ := dC_at dc
    have el : vs.length = xs.length := by rw [dpa_len ha, List.length_map]
    have elw : ws.length = c.2.2.2.length := by rw [dpa_len dws, List.length_map]
    have zb : Sz N c.2.1 := okc.tb.sz.mono n32
    have ze : Sz N c.2.2.1 := okc.te.sz.mono n32
    have wn := okc.wn
    have z0 : Sz N (0 : Rat) := Sz.mono (n := 1) ⟨by decide, by decide⟩ (by omega)
    refine ⟨_, (pss_cons (ps_set (i := 2) sc_Lparts.nd rfl (.inl rfl) (pe_lst pa_nil))
      (pss_cons (ps_set (i := 3) sc_Lparts.nd rfl (.inl rfl) (pe_tup (pa_cons pe_int (pa_cons pe_int pa_nil))))
      (pss_cons (ps_for PassesOwn.never rfl (pi_list (pv 0)) (pg_name (i := 4) sc_Lparts.nd rfl (.inl rfl))
        (Evl.pss_cut (ps_set (i := 5) sc_Lparts.nd rfl (.inr rfl) (pe_ifExp (pt_val (pe_cl c_Llow hr (by decide) (by rfl) (pa_cons (pe_ix ix_tup (pv 1) pe_int (fun _ _ => rfl)) (pa_cons (pe_ix ix_tup (pv 4) pe_int (fun _ _ => rfl)) pa_nil)))) (pe_ix ix_tup (pv 4) pe_int (fun _ _ => rfl)) (pe_ix ix_tup (pv 1) pe_int (fun _ _ => rfl))))
      (Evl.pss_cut (ps_set (i := 6) sc_Lparts.nd rfl (.inr rfl) (pe_ifExp (pt_val (pe_cl c_Llow hr (by decide) (by rfl) (pa_cons (pe_ix ix_tup (pv 4) pe_int (fun _ _ => rfl)) (pa_cons (pe_ix ix_tup (pv 1) pe_int (fun _ _ => rfl)) pa_nil)))) (pe_ix ix_tup (pv 4) pe_int (fun _ _ => rfl)) (pe_ix ix_tup (pv 1) pe_int (fun _ _ => rfl))))
      (Evl.pss_cut (ps_if (pt_val (pe_cl c_Llow hr (by decide) (by rfl) (pa_cons (pv 5) (pa_cons (pv 6) pa_nil))))
        (pss_cons (ps_set (i := 7) sc_Lparts.nd rfl (.inl rfl) (pe_cl c_Lsum hr (by decide) (by rfl) (pa_cons (pv 3) (pa_cons (pe_cl c_Lby hr (by decide) (by rfl) (pa_cons (pe_cl c_Lminus hr (by decide) (by rfl) (pa_cons (pv 5) (pa_cons (pe_ix ix_tup (pv 4) pe_int (fun _ _ => rfl)) pa_nil))) (pa_cons (pe_ix ix_tup (pv 4) pe_int (fun _ _ => rfl)) pa_nil))) pa_nil))))
      (pss_cons (ps_set (i := 8) sc_Lparts.nd rfl (.inl rfl) (pe_cl c_Lsum hr (by decide) (by rfl) (pa_cons (pv 3) (pa_cons (pe_cl c_Lby hr (by decide) (by rfl) (pa_cons (pe_cl c_Lminus hr (by decide) (by rfl) (pa_cons (pv 6) (pa_cons (pe_ix ix_tup (pv 4) pe_int (fun _ _ => rfl)) pa_nil))) (pa_cons (pe_ix ix_tup (pv 4) pe_int (fun _ _ => rfl)) pa_nil))) pa_nil))))
      (pss_cons (ps_setLc (i := 9) (own := [("_law_word", 13), ("_law_time_here", 12)]) (g := (gTup K 2 (gCons (gName 13) (gCons (gName 12) gNil)))) (by rfl) sc_Lparts.nd rfl rfl (sw_true rfl rfl rfl (by decide +kernel)) (pi_list (pe_ix ix_tup (pv 1) pe_int (fun _ _ => rfl))) (blkOk_by (N := ["_law_show_here", "_law_cue_here", "_law_found", "_law_at", "_law_stretch", "_law_first", "_law_last_here", "_law_begin", "_law_end", "_law_words", "_law_elder", "_law_part", "_law_time_here", "_law_word"]) (sc := defScope s_Lparts) (by decide +kernel)) (fun _ _ _ _ _ => (pg_tup rfl (pgs_cons (pg_name (i := 13) sc_Lparts.nd rfl (Or.inl rfl)) (pgs_cons (pg_name (i := 12) sc_Lparts.nd rfl (Or.inl rfl)) pgs_nil)))) (fun _ _ _ _ _ => (pts_one (PW.pt (pw_and (pt_not (pt_val (pe_cl c_Llow hr (by decide) (by rfl) (pa_cons (pv 12) (pa_cons (pv 5) pa_nil))))) (pw_and1 (pt_val (pe_cl c_Llow hr (by decide) (by rfl) (pa_cons (pv 12) (pa_cons (pv 6) pa_nil))))))))) (fun _ _ _ _ _ => (pv 13)))
      (Evl.pss_cut (ps_if (PW.pt (pw_and (pt_cmpR (op_neD hr.units) (pv 2) (pe_lst pa_nil) (nomark _)) (pw_and (pt_cmpR (op_eqD hr.units) (pe_ix ix_tup (pe_ix ix_list (pv 2) (pe_un un_neg pe_int) (fun _ _ => rfl)) pe_int (fun _ _ => rfl)) (pv 7) (nomark _)) (pw_and1 (pt_cmpR (op_eqD hr.units) (pe_ix ix_tup (pe_ix ix_list (pv 2) (pe_un un_neg pe_int) (fun _ _ => rfl)) pe_int (fun _ _ => rfl)) (pv 5) (nomark _))))))
        (pss_cons (ps_set (i := 10) sc_Lparts.nd rfl (.inl rfl) (pe_bm0 PySem.F.plainAttrs_list PySem.F.slot_list_pop PySem.F.type_list_pop mt_pop (pv 2)))
      (pss_cons (ps_set (i := 7) sc_Lparts.nd rfl (.inl rfl) (pe_ix ix_tup (pv 10) pe_int (fun _ _ => rfl)))
      (pss_one (ps_set (i := 9) sc_Lparts.nd rfl (.inl rfl) (pe_op op_cat (pe_ix ix_tup (pv 10) pe_int (fun _ _ => rfl)) (pv 9))))))
        pss_nil)
      (pss_one (ps_expr (pe_bm PySem.F.plainAttrs_list PySem.F.slot_list_append PySem.F.type_list_append mt_append (pv 2) (pa_cons (pe_tup (pa_cons (pv 7) (pa_cons (pv 8) (pa_cons (pv 9) (pa_cons (pv 6) pa_nil))))) pa_nil))))))))
        pss_nil)
      (pss_one (ps_set (i := 3) sc_Lparts.nd rfl (.inl rfl) (pe_cl c_Lsum hr (by decide) (by rfl) (pa_cons (pv 3) (pa_cons (pe_cl c_Llast hr (by decide) (by rfl) (pa_cons (pv 4) pa_nil)) pa_nil)))))))))
      (pss_one (ps_ret (pe_lc (own := [("_law_part", 11)]) (g := (gName 11)) (tt := tYes) (by rfl) sc_Lparts.nd (pi_list (pv 2)) (blkOk_by (N := ["_law_show_here", "_law_cue_here", "_law_found", "_law_at", "_law_stretch", "_law_first", "_law_last_here", "_law_begin", "_law_end", "_law_words", "_law_elder", "_law_part", "_law_time_here", "_law_word"]) (sc := defScope s_Lparts) (by decide +kernel)) (fun _ _ _ _ _ => (pg_name (i := 11) sc_Lparts.nd rfl (Or.inl rfl))) (fun _ _ _ _ _ => pts_nil) (fun _ _ _ _ _ => (pe_tup (pa_cons (pe_ix (ix_tupK (K := K) rfl) (pv 11) pe_int (fun _ _ => rfl)) (pa_cons (pe_ix (ix_tupK (K := K) rfl) (pv 11) pe_int (fun _ _ => rfl)) (pa_cons (pe_ix (ix_tupK (K := K) rfl) (pv 11) pe_int (fun _ _ => rfl)) pa_nil))))))))))), ?_⟩
    refine ⟨Nat.zero_le _, fun r hr0 => ?_⟩
    have s0 := Same.new (o := .lst []) hr0
    refine ⟨(show 2 ≤ sizeLine by decide), fun pz hpz => ?_⟩
    have sz := Same.new (o := .tup [.int 0, .int 1]) hpz
    have dz : Dp K (upd (upd H r (.lst [])) pz (.tup [.int 0, .int 1])) (.ref pz) (dF 0) := dF_mk (.inl (.inl upd_same))
    have hr1 := sz _ _ (upd_same (H := H) (a := r) (o := .lst []))
    have s1 := s0.trans sz
    generalize upd (upd H r (.lst [])) pz (.tup [.int 0, .int 1]) = H1 at sz dz hr1 s1 ⊢
    have sH1 : Same H (hid r r H1) := hid_old s1 hr0
    refine ⟨_, rfl, a0, rfl, ⟨_, s1.seq h0⟩, for_list (K := K) (a := a0) (xs := vs) (fun i σ H' => ∃ (vat : V) (c4 c5 c6 c7 c8 c9 c10 : Option V) (ys : List V), σ = [some (.ref a0), some (.ref cd), some (.ref r), some vat, c4, c5, c6, c7, c8, c9, c10, none, none, none] ∧ Same H (hid r r H') ∧ H' r = some (.lst ys) ∧ Dp K (hid r r H') vat (dF (lenS (xs.take i))) ∧ A2 (P4At K c.2.2.2 H (hid r r H')) ys (runsM c.2.1 c.2.2.1 (xs.take i))) ⟨_, none, none, none, none, none, none, none, [], rfl, sH1, hr1, dp_hid ⟨_, hr1⟩ ⟨_, hr1⟩ _ _ rfl dz, .nil⟩ (fun i σ H' _ h => ?_) (fun i y σ H' hy h => ?_) (fun σ H' h => ?_)⟩
    · obtain ⟨vat, c4, c5, c6, c7, c8, c9, c10, ys, rfl, s2, hr2, dat, pa⟩ := h
      exact (s2.trans hid_same).seq h0
    · obtain ⟨vat, c4, c5, c6, c7, c8, c9, c10, ys, rfl, s2, hr2, dat, pa⟩ := h
      have s2' : Same H H' := s2.trans hid_same
      obtain ⟨x, hx, dx⟩ := dpa_map ha hy
      have hi : i < xs.length := (List.getElem?_eq_some_iff.mp hx).1
      have okx := ok.each x (List.mem_of_getElem? hx)
      obtain ⟨px, x1, x2, x3, rfl, hpx, k1, k2, k3⟩ := dS_at (dp_mono s2 _ _ dx)
      have hcd2 := Same.tup s2' hcd
      have hpx2 := Same.tup hid_same hpx
      have e1' := dp_mono s2 _ _ e1
      have e2' := dp_mono s2 _ _ e2
      have ly : ys.length ≤ i := by rw [pa.len]; exact runs_le _ _ _ _
      -- first
      refine ⟨fun σ' H'' => ∃ vf, σ' = [some (.ref a0), some (.ref cd), some (.ref r), some vat, some (.ref px), some vf, c6, c7, c8, c9, c10, none, none, none] ∧ H'' = H' ∧ Dp K (hid r r H') vf (dF (maxR c.2.1 x.1)), ?_, fun σ' H'' hM => ?_⟩
      · refine ⟨_, rfl, _, _, _, _, rfl, rfl, hcd2, atI_nat (j := 1) rfl, _, rfl, _, _, _, _, rfl, rfl, hpx2, atI_nat (j := 0) rfl, _, _, c.2.1, x.1, N, N, rfl, dp_mono hid_same _ _ e1', dp_mono hid_same _ _ k1, zb, okx.b, by omega, _, rfl, ?_⟩
        unfold maxR
        by_cases z : c.2.1 < x.1
        · rw [if_pos z, decide_eq_true z]
          exact iteY rfl ⟨_, rfl, _, _, _, _, rfl, rfl, hpx2, atI_nat (j := 0) rfl, x1, rfl, rfl, k1⟩
        · rw [if_neg z, decide_eq_false z]
          exact iteN rfl ⟨_, rfl, _, _, _, _, rfl, rfl, hcd2, atI_nat (j := 1) rfl, v1, rfl, rfl, e1'⟩
      obtain ⟨vf, rfl, rfl, df⟩ := hM
      -- last
      refine ⟨fun σ' Hx => ∃ vl, σ' = [some (.ref a0), some (.ref cd), some (.ref r), some vat, some (.ref px), some vf, some vl, c7, c8, c9, c10, none, none, none] ∧ Hx = H'' ∧ Dp K (hid r r Hx) vl (dF (minR c.2.2.1 x.2.1)), ?_, fun σ' Hx hM => ?_⟩
      · refine ⟨_, rfl, _, _, _, _, rfl, rfl, hpx2, atI_nat (j := 1) rfl, _, rfl, _, _, _, _, rfl, rfl, hcd2, atI_nat (j := 2) rfl, _, _, x.2.1, c.2.2.1, N, N, rfl, dp_mono hid_same _ _ k2, dp_mono hid_same _ _ e2', okx.e, ze, by omega, _, rfl, ?_⟩
        unfold minR
        by_cases z : x.2.1 < c.2.2.1
        · rw [if_pos z, decide_eq_true z]
          exact iteY rfl ⟨_, rfl, _, _, _, _, rfl, rfl, hpx2, atI_nat (j := 1) rfl, x2, rfl, rfl, k2⟩
        · rw [if_neg z, decide_eq_false z]
          exact iteN rfl ⟨_, rfl, _, _, _, _, rfl, rfl, hcd2, atI_nat (j := 2) rfl, v2, rfl, rfl, e2'⟩
      obtain ⟨vl, rfl, rfl, dl⟩ := hM
      have zf : Sz N (maxR c.2.1 x.1) := by
        unfold maxR
        split
        · exact okx.b
        · exact zb
      have zl : Sz N (minR c.2.2.1 x.2.1) := by
        unfold minR
        split
        · exact okx.e
        · exact ze
      -- the part
      refine ⟨fun σ' Hz => ∃ (c7 c8 c9 c10 : Option V) (ys : List V), σ' = [some (.ref a0), some (.ref cd), some (.ref r), some vat, some (.ref px), some vf, some vl, c7, c8, c9, c10, none, none, none] ∧ Same (hid r r Hx) (hid r r Hz) ∧ Hz r = some (.lst ys) ∧ A2 (P4At K c.2.2.2 H (hid r r Hz)) ys (runsM c.2.1 c.2.2.1 (xs.take (i + 1))), ?_, fun σ' Hz hM => ?_⟩
      · refine ⟨_, rfl, _, rfl, _, _, _, _, N, N, rfl, dp_mono hid_same _ _ df, dp_mono hid_same _ _ dl, zf, zl, by omega, _, rfl, ite2 (fun z => ?_) (fun z => ?_)⟩
        · have z := of_decide_eq_true z
          -- begin
          have zd1 : Sz (N + N + 1) (maxR c.2.1 x.1 - x.1) := sz_sub zf okx.b
          have zd2 : Sz (N + N + 1) (minR c.2.2.1 x.2.1 - x.1) := sz_sub zl okx.b
          refine ⟨_, rfl, _, rfl, _, rfl, _, _, _, _, rfl, rfl, hpx2, atI_nat (j := 0) rfl, _, _, _, _, N, N, rfl, dp_mono hid_same _ _ df, dp_mono hid_same _ _ k1, zf, okx.b, by omega, trivial, fun H2 t2 s2a r2 => ?_⟩
          have hpx3 := Same.tup s2a hpx2
          refine ⟨_, rfl, _, _, _, _, rfl, rfl, hpx3, atI_nat (j := 2) rfl, _, _, _, _, N + N + 1, N, rfl, r2, dp_mono s2a _ _ (dp_mono hid_same _ _ k3), zd1, okx.p, by omega, ne_of_pos okx.pos, fun H3 t3 s3 r3 => ?_⟩
          refine ⟨_, _, _, _, N, N + N + 1 + N, rfl, dp_mono (s2a.trans s3) _ _ (dp_mono hid_same _ _ dat), r3, ok.sums i, sz_div zd1 okx.p (ne_of_pos okx.pos), by omega, trivial, fun H4 vb s4 db => ?_⟩
          have s14 := (s2a.trans s3).trans s4
          have hpx4 := Same.tup s14 hpx2
          -- end
          refine ⟨_, rfl, _, rfl, _, rfl, _, _, _, _, rfl, rfl, hpx4, atI_nat (j := 0) rfl, _, _, _, _, N, N, rfl, dp_mono s14 _ _ (dp_mono hid_same _ _ dl), dp_mono s14 _ _ (dp_mono hid_same _ _ k1), zl, okx.b, by omega, trivial, fun H5 t5 s5 r5 => ?_⟩
          have hpx5 := Same.tup s5 hpx4
          refine ⟨_, rfl, _, _, _, _, rfl, rfl, hpx5, atI_nat (j := 2) rfl, _, _, _, _, N + N + 1, N, rfl, r5, dp_mono (s14.trans s5) _ _ (dp_mono hid_same _ _ k3), zd2, okx.p, by omega, ne_of_pos okx.pos, fun H6 t6 s6 r6 => ?_⟩
          refine ⟨_, _, _, _, N, N + N + 1 + N, rfl, dp_mono ((s14.trans s5).trans s6) _ _ (dp_mono hid_same _ _ dat), r6, ok.sums i, sz_div zd2 okx.p (ne_of_pos okx.pos), by omega, trivial, fun H7 ve s7 de => ?_⟩
          have s17 := ((s14.trans s5).trans s6).trans s7
          have db7 := dp_mono ((s5.trans s6).trans s7) _ _ db
          have sH7 := s2'.trans s17
          have hcd7 := Same.tup s17 hcd2
          have df7 := dp_mono s17 _ _ (dp_mono hid_same _ _ df)
          have dl7 := dp_mono s17 _ _ (dp_mono hid_same _ _ dl)
          have hr7 := s17 _ _ hr2
          clear hpx3 hpx4 hpx5 r2 r3 r5 r6 db
          -- words
          refine ⟨_, rfl, _, _, _, _, rfl, rfl, hcd7, atI_nat (j := 3) rfl, al, rfl, ⟨_, sH7.seq hal⟩, fun D hD => ?_⟩
          have sD := Same.new (o := .lst []) hD
          have nDr : D ≠ r := fun w => by
            rw [w, hr7] at hD
            cases hD
          refine lc_list (K := K) (a := al) (xs := ws) (fun j Hy => ∃ acc, Hy D = some (.lst acc) ∧ Same H7 (hid D D Hy) ∧ acc = (wordsIn (c.2.2.2.take j) (maxR c.2.1 x.1) (minR c.2.2.1 x.2.1)).map V.str) ⟨[], upd_same, hid_old sD hD, rfl⟩ (fun j Hy hj h => ?_) (fun j y Hy hy' h => ?_) (fun Hy h => ?_)
          · obtain ⟨acc, hd, s8, ea⟩ := h
            exact (sH7.trans (s8.trans hid_same)).seq hal
          · obtain ⟨acc, hd, s8, ea⟩ := h
            have s8' : Same H7 Hy := s8.trans hid_same
            obtain ⟨wx, hwx, dwx⟩ := dpa_map dws hy'
            have hj : j < c.2.2.2.length := (List.getElem?_eq_some_iff.mp hwx).1
            have la : acc.length ≤ j := by
              rw [ea, List.length_map]
              have := wordsIn_le (c.2.2.2.take j) (maxR c.2.1 x.1) (minR c.2.2.1 x.2.1)
              rw [List.length_take] at this
              omega
            obtain ⟨pw, vt, rfl, hpw, dt⟩ := dW_at (dp_mono (sH7.trans s8') _ _ dwx)
            have zx := (okc.ws wx (List.mem_of_getElem? hwx)).2.1.sz
            refine ⟨pw, _, rfl, hpw, rfl, _, _, rfl, _, _, rfl, rfl, rfl, ?_⟩
            have e := wordsIn_snoc (f := maxR c.2.1 x.1) (g := minR c.2.2.1 x.2.1) hwx
            refine ⟨_, rfl, _, rfl, _, _, wx.2, _, 32, N, rfl, dt, dp_mono s8' _ _ df7, zx, zf, by omega, _, rfl, ?_⟩
            by_cases b1 : wx.2 < maxR c.2.1 x.1
            · rw [decide_eq_true b1] at e ⊢
              refine iteN rfl (iteN rfl ⟨acc, hd, s8, ?_⟩)
              rw [e, ea]
              simp
            · rw [decide_eq_false b1] at e ⊢
              refine iteY rfl ?_
              refine ⟨_, rfl, _, rfl, _, _, wx.2, _, 32, N, rfl, dt, dp_mono s8' _ _ dl7, zx, zl, by omega, _, rfl, ?_⟩
              by_cases b2 : wx.2 < minR c.2.2.1 x.2.1
              · rw [decide_eq_true b2] at e ⊢
                refine iteY rfl ⟨_, rfl, acc, hd, small1000 (by omega), acc ++ [.str wx.1], upd_same, ?_, ?_⟩
                · rw [hid_b]
                  exact s8
                · rw [e, ea]
                  simp
              · rw [decide_eq_false b2] at e ⊢
                refine iteN rfl ⟨acc, hd, s8, ?_⟩
                rw [e, ea]
                simp
          obtain ⟨acc, hd, s8, ea⟩ := h
          rw [elw, List.take_length] at ea
          subst ea
          have s8' : Same H7 Hy := s8.trans hid_same
          have s18 := s17.trans s8'
          have hr8 := s8' _ _ hr7
          have pa8 := p4_mono pa (Same.hid (b := r) (l := r) s18)
          have db8 := dp_mono s8' _ _ db7
          have de8 := dp_mono s8' _ _ de
          have df8 := dp_mono s8' _ _ df7
          have dl8 := dp_mono s8' _ _ dl7
          have nDH : H D = none := sH7.free hD
          rw [runs_yes hx z]
          generalize er : (maxR c.2.1 x.1, minR c.2.2.1 x.2.1, tOf (lenS (xs.take i)) x (maxR c.2.1 x.1), tOf (lenS (xs.take i)) x (minR c.2.2.1 x.2.1)) = ru
          have db8 : Dp K Hy vb (dF ru.2.2.1) := by rw [← er]; exact db8
          have de8 : Dp K Hy ve (dF ru.2.2.2) := by rw [← er]; exact de8
          have df8 : Dp K Hy vf (dF ru.1) := by rw [← er]; exact df8
          have dl8 : Dp K Hy vl (dF ru.2.1) := by rw [← er]; exact dl8
          have hd8 : Hy D = some (.lst ((wordsIn c.2.2.2 ru.1 ru.2.1).map V.str)) := by rw [← er]; exact hd
          have lru : ru.1 < ru.2.1 := by rw [← er]; exact z
          clear db7 de df7 dl7 hd
          -- joined or not
          refine ⟨fun σ' Hz => ∃ (vb : V) (pw : Addr) (c10 : Option V) (ys : List V) (pre : List Run) (nw : Run), σ' = [some (.ref a0), some (.ref cd), some (.ref r), some vat, some (.ref px), some vf, some vl, some vb, some ve, some (.ref pw), c10, none, none, none] ∧ Same (hid r r Hx) (hid r r Hz) ∧ Hz r = some (.lst ys) ∧ ys.length ≤ i ∧ A2 (P4At K c.2.2.2 H (hid r r Hz)) ys pre ∧ Dp K Hz vb (dF nw.2.2.1) ∧ Dp K Hz ve (dF nw.2.2.2) ∧ Dp K Hz vl (dF nw.2.1) ∧ H pw = none ∧ pw ≠ r ∧ Hz pw = some (.lst ((wordsIn c.2.2.2 nw.1 nw.2.1).map V.str)) ∧ rstep (runsM c.2.1 c.2.2.1 (xs.take i)) ru = pre ++ [nw], ?_, fun σ' H9 hM => ?_⟩
          · refine ⟨_, rfl, Nat.zero_le _, fun o no => ?_⟩
            have so := Same.new (o := .lst []) no
            have so18 := s18.trans so
            have hro := so _ _ hr8
            have pao := p4_mono pa8 (Same.hid (b := r) (l := r) so)
            have dbo := dp_mono so _ _ db8
            have deo := dp_mono so _ _ de8
            have dfo := dp_mono so _ _ df8
            have dlo := dp_mono so _ _ dl8
            have hdo := so _ _ hd8
            have he : SqL K (upd Hy o (.lst [])) o [] := .inl (.inl upd_same)
            generalize upd Hy o (.lst []) = H9 at so18 hro pao dbo deo dfo dlo hdo he ⊢
            have sq : SqL K H9 r ys := .inl (.inl hro)
            refine ⟨.list ((runsM c.2.1 c.2.2.1 (xs.take i)).map (dP4 c.2.2.2)), .list [], .lst sq (dpa_mono hid_same _ _ (p4_dp pao)), .lst he .nil, shaped_dP4 _ (fun w hw => (okc.ws w hw).1) _, rfl, _, rfl, ?_⟩
            rcases rstep_cases (runsM c.2.1 c.2.2.1 (xs.take i)) ru with ⟨f0, f1⟩ | ⟨pre, lr, f0, f1⟩
            · rw [f0] at pao f1 ⊢
              cases pao
              exact iteN rfl (iteN rfl ⟨vb, D, c10, [], [], ru, rfl, Same.hid so18, hro, Nat.zero_le _, .nil, dbo, deo, dlo, nDH, nDr, hdo, f1⟩)
            · have hne : (!PyData.eqv (.list ((runsM c.2.1 c.2.2.1 (xs.take i)).map (dP4 c.2.2.2))) (.list [])) = true := by
                rw [f0]
                cases pre <;> rfl
              rw [hne]
              refine iteY rfl ?_
              have pa0 := pao
              rw [f0] at pao
              obtain ⟨ys', lv, rfl, pa', pl⟩ := pao.split
              obtain ⟨pp, w1, w2, wl, w4, rfl, hpp, m1, m2, m4, nwl, hwl⟩ := pl
              have hpp9 := Same.tup hid_same hpp
              refine ⟨_, rfl, _, rfl, _, _, _, _, rfl, rfl, sq, atI_last _ _, _, _, _, _, rfl, rfl, hpp9, atI_nat (j := 1) rfl, _, rfl, _, _, dp_mono hid_same _ _ m2, dbo, shaped_dF _, shaped_dF _, _, rfl, ?_⟩
              rw [eqv_dF]
              by_cases g1 : lr.2.2.2 = ru.2.2.1
              · rw [decide_eq_true g1]
                refine iteY rfl ?_
                refine ⟨_, rfl, _, rfl, _, _, _, _, rfl, rfl, sq, atI_last _ _, _, _, _, _, rfl, rfl, hpp9, atI_nat (j := 3) rfl, _, rfl, _, _, dp_mono hid_same _ _ m4, dfo, shaped_dF _, shaped_dF _, _, rfl, ?_⟩
                rw [eqv_dF]
                by_cases g2 : lr.2.1 = ru.1
                · rw [decide_eq_true g2]
                  refine iteY rfl ?_
                  refine ⟨_, rfl, .inl ⟨rfl, _, sq⟩, r, _, .ref pp, rfl, rfl, hro, ?_, ?_⟩
                  · rw [List.length_append]
                    show (ys' ++ [V.ref pp])[ys'.length + 1 - 1]? = _
                    rw [Nat.add_sub_cancel]
                    simp
                  rw [List.dropLast_concat]
                  have eH : hid r r (upd H9 r (.lst ys')) = hid r r H9 := hid_b
                  have Lr : IsL H9 r := ⟨_, hro⟩
                  have hpp10 : SqT K (upd H9 r (.lst ys')) pp [w1, w2, .ref wl, w4] := Same.tup hid_same (by rw [eH]; exact hpp)
                  have hr10 : (upd H9 r (.lst ys')) r = some (.lst ys') := upd_same
                  have hwl10 : (upd H9 r (.lst ys')) wl = some (.lst ((wordsIn c.2.2.2 lr.1 lr.2.1).map V.str)) := hid_same _ _ (by rw [eH]; exact hwl)
                  have hD10 : (upd H9 r (.lst ys')) D = some (.lst ((wordsIn c.2.2.2 ru.1 ru.2.1).map V.str)) := by rw [upd_ne nDr]; exact hdo
                  have de10 := keepU (o := .lst ys') deo rfl Lr
                  have dl10 := keepU (o := .lst ys') dlo rfl Lr
                  have m110 : Dp K (upd H9 r (.lst ys')) w1 (dF lr.2.2.1) := dp_mono hid_same _ _ (by rw [eH]; exact m1)
                  have pa10 : A2 (P4At K c.2.2.2 H (hid r r (upd H9 r (.lst ys')))) ys' pre := by rw [eH]; exact pa'
                  have s10 : Same (hid r r Hx) (hid r r (upd H9 r (.lst ys'))) := by rw [eH]; exact Same.hid so18
                  have ly' : ys'.length ≤ i := by
                    rw [List.length_append] at ly
                    simp at ly
                    omega
                  generalize upd H9 r (.lst ys') = H10 at hpp10 hr10 hwl10 hD10 de10 dl10 m110 pa10 s10 ⊢
                  refine ⟨_, rfl, _, _, _, _, rfl, rfl, hpp10, atI_nat (j := 0) rfl, _, rfl, _, _, _, _, rfl, rfl, hpp10, atI_nat (j := 2) rfl, _, rfl, wl, D, _, _, rfl, rfl, hwl10, hD10, ?_, fun pn hpn => ?_⟩
                  · rw [List.length_map, List.length_map]
                    have := wordsIn_le c.2.2.2 lr.1 lr.2.1
                    have := wordsIn_le c.2.2.2 ru.1 ru.2.1
                    exact Nat.le_trans (show (wordsIn c.2.2.2 lr.1 lr.2.1).length + (wordsIn c.2.2.2 ru.1 ru.2.1).length ≤ 1000 by omega) (by decide)
                  have s11 := Same.new (o := .lst ((wordsIn c.2.2.2 lr.1 lr.2.1).map V.str ++ (wordsIn c.2.2.2 ru.1 ru.2.1).map V.str)) hpn
                  have llr : lr.1 < lr.2.1 := runs_lt c.2.1 c.2.2.1 (xs.take i) lr (by rw [f0]; exact List.mem_append_right _ (List.mem_singleton.mpr rfl))
                  have ew : (wordsIn c.2.2.2 lr.1 lr.2.1).map V.str ++ (wordsIn c.2.2.2 ru.1 ru.2.1).map V.str = (wordsIn c.2.2.2 lr.1 ru.2.1).map V.str := by
                    rw [← List.map_append, ← g2, wordsIn_split okc.ord (Rat.le_of_lt llr) (by rw [g2]; exact Rat.le_of_lt lru)]
                  have npr : pn ≠ r := fun w => by
                    rw [w, hr10] at hpn
                    cases hpn
                  refine ⟨w1, pn, _, ys', pre, (lr.1, ru.2.1, lr.2.2.1, ru.2.2.2), rfl, s10.trans (Same.hid s11), s11 _ _ hr10, ly', p4_mono pa10 (Same.hid s11), dp_mono s11 _ _ m110, dp_mono s11 _ _ de10, dp_mono s11 _ _ dl10, ?_, npr, ?_, ?_⟩
                  · have : Same H H10 := (s2.trans s10).trans hid_same
                    exact this.free hpn
                  · rw [upd_same, ew]
                  · rcases f1 with ⟨_, f1⟩ | ⟨w, _⟩
                    · exact f1
                    · exact absurd ⟨g2, g1⟩ w
                · rw [decide_eq_false g2]
                  refine iteN rfl ⟨vb, D, c10, _, runsM c.2.1 c.2.2.1 (xs.take i), ru, rfl, Same.hid so18, hro, ly, pa0, dbo, deo, dlo, nDH, nDr, hdo, ?_⟩
                  rcases f1 with ⟨w, _⟩ | ⟨_, f1⟩
                  · exact absurd w.1 g2
                  · exact f1
              · rw [decide_eq_false g1]
                refine iteN rfl (iteN rfl ⟨vb, D, c10, _, runsM c.2.1 c.2.2.1 (xs.take i), ru, rfl, Same.hid so18, hro, ly, pa0, dbo, deo, dlo, nDH, nDr, hdo, ?_⟩)
                rcases f1 with ⟨w, _⟩ | ⟨_, f1⟩
                · exact absurd w.2 g1
                · exact f1
          · obtain ⟨vb, pw, c10, ys, pre, nw, rfl, s9, hr9, l9, pa9, db9, de9, dl9, npw, npwr, hpw, e9⟩ := hM
            refine ⟨_, rfl, .inl ⟨rfl, _, .inl (.inl hr9)⟩, _, rfl, _, rfl, _, rfl, _, rfl, (show 4 ≤ sizeLine by decide), fun pn hpn => ?_⟩
            have s10 := Same.new (o := .tup [vb, ve, .ref pw, vl]) hpn
            have hr10 := s10 _ _ hr9
            have Lr : IsL (upd H9 pn (.tup [vb, ve, .ref pw, vl])) r := ⟨_, hr10⟩
            have pn10 : P4At K c.2.2.2 H (hid r r (upd H9 pn (.tup [vb, ve, .ref pw, vl]))) (.ref pn) nw :=
              ⟨pn, vb, ve, pw, vl, rfl, hid_tupL Lr Lr (.inl (.inl upd_same)), dp_hid Lr Lr _ _ rfl (dp_mono s10 _ _ db9), dp_hid Lr Lr _ _ rfl (dp_mono s10 _ _ de9), dp_hid Lr Lr _ _ rfl (dp_mono s10 _ _ dl9), npw, hid_at1 npwr (s10 _ _ hpw)⟩
            have pa10 := p4_mono pa9 (Same.hid (b := r) (l := r) s10)
            have s910 := s9.trans (Same.hid (b := r) (l := r) s10)
            generalize upd H9 pn (.tup [vb, ve, .ref pw, vl]) = H10 at hr10 pn10 pa10 s910 ⊢
            refine ⟨r, ys, _, rfl, rfl, hr10, small1000 (by omega), ?_⟩
            refine ⟨_, _, _, _, ys ++ [.ref pn], rfl, by rw [hid_b]; exact s910, upd_same, ?_⟩
            rw [hid_b, e9]
            exact pa10.snoc pn10
        · have z : ¬ maxR c.2.1 x.1 < minR c.2.2.1 x.2.1 := fun y => z (decide_eq_true y)
          refine ⟨_, _, _, _, ys, rfl, Same.refl _, hr2, ?_⟩
          rw [runs_no hx z]
          exact pa
      · obtain ⟨c7, c8, c9, c10, ys, rfl, s9, hr9, pa9⟩ := hM
        have k9 : Dp K (hid r r Hz) (.ref px) (dS x) := dp_mono s9 _ _ (dS_mk hpx k1 k2 k3)
        have dat9 := dp_mono s9 _ _ dat
        refine ⟨_, rfl, _, rfl, _, x, N, rfl, dp_mono hid_same _ _ k9, okx, hN, fun H10 t10 s10 r10 => ?_⟩
        refine ⟨_, _, _, _, N, N, rfl, dp_mono s10 _ _ (dp_mono hid_same _ _ dat9), r10, ok.sums i, ok.lasts x (List.mem_of_getElem? hx), by omega, trivial, fun H11 t11 s11 r11 => ?_⟩
        have s911 := s10.trans s11
        have hr11 := s911 _ _ hr9
        refine ⟨t11, _, _, _, _, _, _, _, ys, rfl, (s2.trans s9).trans (Same.hid s911), hr11, ?_, p4_mono pa9 (Same.hid s911)⟩
        rw [lenS_more hx]
        exact dp_hid ⟨_, hr11⟩ ⟨_, hr11⟩ _ _ rfl r11
    · obtain ⟨vat, c4, c5, c6, c7, c8, c9, c10, ys, rfl, s2, hr2, dat, pa⟩ := h
      rw [el, List.take_length] at pa
      have s2' : Same H H' := s2.trans hid_same
      have ly : ys.length = (runsM c.2.1 c.2.2.1 xs).length := pa.len
      have lrun := runs_le c.2.1 c.2.2.1 xs xs.length
      rw [List.take_length] at lrun
      refine ⟨_, rfl, r, rfl, ⟨_, .inl (.inl hr2)⟩, fun D hD => ?_⟩
      have sD := Same.new (o := .lst []) hD
      have pa1 := p4_mono pa hid_same
      refine lc_list (K := K) (a := r) (xs := ys) (fun j Hy => ∃ acc, Hy D = some (.lst acc) ∧ Same H' (hid D D Hy) ∧ A2 (PtAt K H (hid D D Hy)) acc ((partsM c xs).take j)) ⟨[], upd_same, hid_old sD hD, .nil⟩ (fun j Hy hj h => ?_) (fun j y Hy hy h => ?_) (fun Hy h => ?_)
      · obtain ⟨acc, hd, s3, ac⟩ := h
        exact .inl (.inl (hid_same _ _ (s3 _ _ hr2)))
      · obtain ⟨acc, hd, s3, ac⟩ := h
        obtain ⟨ru, hru, pu⟩ := pa1.at hy
        have hj : j < ys.length := (List.getElem?_eq_some_iff.mp hy).1
        have lacc := ac.len
        rw [List.length_take] at lacc
        obtain ⟨pp, w1, w2, wl, w4, rfl, hpp, m1, m2, m4, nwl, hwl⟩ := pu.mono s3
        have hpp3 := Same.tup hid_same hpp
        refine ⟨rfl, ?_⟩
        refine ⟨_, rfl, _, _, _, _, rfl, rfl, hpp3, atI_nat (j := 0) rfl, _, rfl, _, _, _, _, rfl, rfl, hpp3, atI_nat (j := 1) rfl, _, rfl, _, _, _, _, rfl, rfl, hpp3, atI_nat (j := 2) rfl, (show 3 ≤ sizeLine by decide), fun pn hpn => ?_⟩
        have s4 := Same.new (o := .tup [w1, w2, .ref wl]) hpn
        have hd4 := s4 _ _ hd
        have LD : IsL (upd Hy pn (.tup [w1, w2, .ref wl])) D := ⟨_, hd4⟩
        have pn4 : PtAt K H (hid D D (upd Hy pn (.tup [w1, w2, .ref wl]))) (.ref pn) (ru.2.2.1, ru.2.2.2, wordsIn c.2.2.2 ru.1 ru.2.1) :=
          ⟨pn, w1, w2, wl, rfl, hid_tupL LD LD (.inl (.inl upd_same)), dp_mono (Same.hid s4) _ _ m1, dp_mono (Same.hid s4) _ _ m2, nwl, Same.hid (b := D) (l := D) s4 _ _ hwl⟩
        have ac4 := pts_mono ac (Same.hid (b := D) (l := D) s4)
        have s34 := s3.trans (Same.hid (b := D) (l := D) s4)
        generalize upd Hy pn (.tup [w1, w2, .ref wl]) = H4 at hd4 pn4 ac4 s34 ⊢
        refine ⟨acc, hd4, small1000 (by omega), acc ++ [.ref pn], upd_same, by rw [hid_b]; exact s34, ?_⟩
        rw [hid_b, take_more (x := (ru.2.2.1, ru.2.2.2, wordsIn c.2.2.2 ru.1 ru.2.1)) (by unfold partsM; rw [List.getElem?_map, hru]; rfl)]
        exact ac4.snoc pn4
      · obtain ⟨acc, hd, s3, ac⟩ := h
        have lp : (partsM c xs).length = ys.length := by
          unfold partsM
          rw [List.length_map, ly]
        rw [← lp, List.take_length] at ac
        exact q _ D acc (s2'.trans (s3.trans hid_same)) (s2'.free hD) hd (pts_mono ac hid_same)
structure Dfc (K : PySem.W.Frag) (mg : Str → Option Value) (x : Str) (st : Stmt) (ps : List Str) (c : Addr) : Prop where
  ex : ∃ (f : Addr) (oc : Value) (od : Option Addr) (kV doc pm : Value) (an : Option Addr) (ct : Value) (osl : Array (Option Value)),
    K.lookup f = some ⟨oc, od, .func (PySem.W.fnOf x x (defArgs st) (defBody st) (defScope st) .none kV doc pm an (.ref c) ct), osl⟩ ∧ PySem.W.codeIn K (.ref c) x = true ∧ PySem.W.keepIn K (.ref f) = true ∧ mg x = some (.ref f) ∧
    Binds K (PySem.W.fnOf x x (defArgs st) (defBody st) (defScope st) .none kV doc pm an (.ref c) ct) ps []
/-! ### a lambda handed on: its table may grow; all else stays -/
theorem extN_seq {K : PySem.W.Frag} {H H' : Hp} {a : Addr} {xs : List V} (s : LamX.ExtN H H') (h : SqL K H a xs) : SqL K H' a xs := by
  rcases h with (h | ⟨o, h⟩) | h
  · exact .inl (.inl (s _ _ h (fun _ z => nomatch z)))
  · exact .inl (.inr ⟨o, s _ _ h (fun _ z => nomatch z)⟩)
  · exact .inr h
theorem extN_tup {K : PySem.W.Frag} {H H' : Hp} {a : Addr} {xs : List V} (s : LamX.ExtN H H') (h : SqT K H a xs) : SqT K H' a xs := by
  rcases h with (h | ⟨o, h⟩) | h
  · exact .inl (.inl (s _ _ h (fun _ z => nomatch z)))
  · exact .inl (.inr ⟨o, s _ _ h (fun _ z => nomatch z)⟩)
  · exact .inr h
mutual
theorem dp_extN {K : PySem.W.Frag} {H H' : Hp} (s : LamX.ExtN H H') : ∀ (d : PyData) (v : V), Dp K H v d → Dp K H' v d
  | .none, _, h => by cases h; exact .non
  | .bool _, _, h => by cases h; exact .bl _
  | .int _, _, h => by cases h; exact .int _
  | .str _, _, h => by cases h; exact .str _
  | .list ds, _, h => by
    cases h with
    | lst hs ha => exact .lst (extN_seq s hs) (dpa_extN s ds _ ha)
  | .tuple ds, _, h => by
    cases h with
    | tup hs ha => exact .tup (extN_tup s hs) (dpa_extN s ds _ ha)
  | .dict _, _, h => by cases h
theorem dpa_extN {K : PySem.W.Frag} {H H' : Hp} (s : LamX.ExtN H H') : ∀ (ds : List PyData) (vs : List V), DpAll K H vs ds → DpAll K H' vs ds
  | [], _, h => by cases h; exact .nil
  | d :: ds, _, h => by
    cases h with
    | cons h1 h2 => exact .cons (dp_extN s d _ h1) (dpa_extN s ds _ h2)
end
theorem extN_hidL {S : List Addr} {H H' : Hp} (s : LamX.ExtN H H') : LamX.ExtN (R.hidL S H) (R.hidL S H') := fun b o h n => by
  obtain ⟨h1, h2⟩ := hidL_ne h
  exact hidL_at h1 (s b o h2 n)
/-- a list or an object of an own class -/
def LI (H : Hp) (a : Addr) : Prop := (∃ xs, H a = some (.lst xs)) ∨ ∃ C dx fs, H a = some (.ins C dx fs)
theorem LI.noT {H : Hp} {a : Addr} (h : LI H a) : NoT H a := by
  rcases h with ⟨xs, h⟩ | ⟨C, dx, fs, h⟩
  · exact NoT.lst h
  · exact NoT.ins h
theorem LI.extN {H H' : Hp} {a : Addr} (h : LI H a) (s : LamX.ExtN H H') : LI H' a := by
  rcases h with ⟨xs, h⟩ | ⟨C, dx, fs, h⟩
  · exact .inl ⟨xs, s _ _ h (fun _ z => nomatch z)⟩
  · exact .inr ⟨C, dx, fs, s _ _ h (fun _ z => nomatch z)⟩
section
variable {C : Addr} {H H' : Hp} {S : List Addr} {b l p pe pu : Addr} {cur : List St3} {ear und : List (List St3)}
theorem Lr.li (h : Lr K C H S b l p pe pu cur ear und) (hS : ∀ a ∈ S, a = p ∨ a = pe ∨ a = pu ∨ a = b ∨ a = l) : ∀ a ∈ S, LI H a := by
  intro a ha
  obtain ⟨dx, vc, h1, _⟩ := h.r.ob
  obtain ⟨es, h2, _⟩ := h.r.he
  obtain ⟨us, h3, _⟩ := h.r.hu
  obtain ⟨xs, st, h4, h5⟩ := h.bx.ex
  rcases hS a ha with rfl | rfl | rfl | rfl | rfl
  · exact .inr ⟨_, _, _, h1⟩
  · exact .inl ⟨_, h2⟩
  · exact .inl ⟨_, h3⟩
  · exact .inl ⟨_, h4⟩
  · exact .inl ⟨_, h5⟩
theorem Lr.extN (h : Lr K C H S b l p pe pu cur ear und) (hS : ∀ a ∈ S, a = p ∨ a = pe ∨ a = pu ∨ a = b ∨ a = l) (s : LamX.ExtN H H') : Lr K C H' S b l p pe pu cur ear und := by
  obtain ⟨dx, vc, h1, h2⟩ := h.r.ob
  obtain ⟨es, h3, h4⟩ := h.r.he
  obtain ⟨us, h5, h6⟩ := h.r.hu
  obtain ⟨xs, st, h7, h8⟩ := h.bx.ex
  have li := h.li hS
  have sh := extN_hidL (S := S) s
  exact ⟨⟨h.bx.ne, xs, st, s _ _ h7 (fun _ z => nomatch z), s _ _ h8 (fun _ z => nomatch z)⟩, h.ib, h.il, h.nb, ⟨h.r.ip, h.r.ie, h.r.iu, h.r.neu, fun a ha => ((li a ha).extN s).noT, ⟨dx, vc, s _ _ h1 (fun _ z => nomatch z), dp_extN sh _ _ h2⟩, ⟨es, s _ _ h3 (fun _ z => nomatch z), dpa_extN sh _ _ h4⟩, ⟨us, s _ _ h5 (fun _ z => nomatch z), dpa_extN sh _ _ h6⟩⟩⟩
end
/-- a table beside what changes -/
theorem tabS_keep {H H' : Hp} {S : List Addr} {P0 : Addr} {q : Str} (t : LamX.TabS H P0 q) (hS : ∀ a ∈ S, LI H a) (s : Same (R.hidL S H) (R.hidL S H')) : LamX.TabS H' P0 q := by
  obtain ⟨ps, h1, h2, h3⟩ := t
  have key : ∀ a o, H a = some o → (∀ xs, o ≠ .lst xs) → (∀ C dx fs, o ≠ .ins C dx fs) → H' a = some o := fun a o h n1 n2 => by
    refine hidL_same _ _ (s a o (hidL_at (fun z => ?_) h))
    rcases hS a z with ⟨xs, e⟩ | ⟨C, dx, fs, e⟩
    · rw [h] at e
      exact n1 xs (Option.some.inj e)
    · rw [h] at e
      exact n2 C dx fs (Option.some.inj e)
  refine ⟨ps, key _ _ h1 (fun _ z => nomatch z) (fun _ _ _ z => nomatch z), h2, fun pos cv hc => ?_⟩
  obtain ⟨c, e1, e2⟩ := h3 pos cv hc
  refine ⟨c, e1, key _ _ e2 (fun _ z => ?_) (fun _ _ _ z => ?_)⟩
  · unfold LamX.CodeO at z
    cases z
  · unfold LamX.CodeO at z
    cases z
def spBottom (K : PySem.W.Frag) : Sp := fun vs H Q _ => ∃ (p : Addr) (ys : List V) (qs : List Rat) (D n : Nat), vs = [.ref p] ∧ SqL K H p ys ∧ DpAll K H ys (qs.map dF) ∧ 0 < D ∧ D < 2 ^ n ∧ n ≤ 8000 ∧ (∀ q ∈ qs, q.den ∣ D) ∧ ∀ B : Nat, 0 < B → B ∣ D → (∀ q ∈ qs, q.den ∣ B) → Q (.int (B : Int)) H
theorem lcm_fdiv {B d : Nat} (hB : 0 < B) : ((B : Int).fdiv ((Nat.gcd (B : Int).natAbs (d : Int).natAbs : Nat) : Int)) * (d : Int) = ((Nat.lcm B d : Nat) : Int) := by
  rw [Int.natAbs_natCast, Int.natAbs_natCast, Int.fdiv_eq_ediv_of_nonneg _ (by omega)]
  unfold Nat.lcm
  rw [← Nat.div_mul_right_comm (Nat.gcd_dvd_left B d) d, Int.natCast_mul, Int.natCast_ediv]
theorem cl_common_bottom (T : Txt K mg) : Cl P w K mg base CX0 2 "common_bottom" (spBottom K) := by
  have c_common_divisor := cl_common_divisor (P := P) (w := w) (base := base) T
  refine T.d_common_bottom.cl sc_common_bottom (fun vs H Q E h => ?_) (fun f cdv A outer s H vs Q E hr h => ?_)
  · obtain ⟨p, ys, qs, D, n, rfl, _⟩ := h
    rfl
  · obtain ⟨p, ys, qs, D, n, rfl, hp, dq, D0, Dn, n0, hd, q⟩ := h
    have el : ys.length = qs.length := by rw [dpa_len dq, List.length_map]
    have nz : 0 < n := by
      cases n with
      | zero => exact absurd Dn (by show ¬ D < 1; omega)
      | succ n => omega
    refine ⟨_, (pss_cons (ps_set (i := 1) sc_common_bottom.nd rfl (.inl rfl) pe_int)
      (pss_cons (ps_for PassesOwn.never rfl (pi_list (pv 0)) (pg_name (i := 2) sc_common_bottom.nd rfl (.inl rfl))
        (pss_one (ps_set (i := 1) sc_common_bottom.nd rfl (.inl rfl) (pe_op op_mulW (pe_op op_fdivX (pv 1) (pe_cl c_common_divisor hr (by decide) (by rfl) (pa_cons (pv 1) (pa_cons (pe_ix ix_tup (pv 2) pe_int (fun _ _ => rfl)) pa_nil)))) (pe_ix ix_tup (pv 2) pe_int (fun _ _ => rfl))))))
      (pss_one (ps_ret (pv 1))))), ?_⟩
    refine ⟨_, rfl, p, rfl, ⟨_, hp⟩, for_list (K := K) (a := p) (xs := ys) (fun i σ H' => ∃ (B : Nat) (c : Option V), σ = [some (.ref p), some (.int (B : Int)), c] ∧ H' = H ∧ 0 < B ∧ B ∣ D ∧ ∀ q ∈ qs.take i, q.den ∣ B) ⟨1, none, rfl, rfl, by decide, Nat.one_dvd _, by simp⟩ (fun i σ H' _ h => ?_) (fun i y σ H' hy h => ?_) (fun σ H' h => ?_)⟩
    · obtain ⟨B, c, rfl, rfl, _⟩ := h
      exact hp
    · obtain ⟨B, c, rfl, rfl, B0, BD, hB⟩ := h
      obtain ⟨x, hx, dx⟩ := dpa_map dq hy
      obtain ⟨a, rfl, hq⟩ := dF_at dx
      have xd := hd x (List.mem_of_getElem? hx)
      have bB : B < 2 ^ n := Nat.lt_of_le_of_lt (Nat.le_of_dvd D0 BD) Dn
      have bx : x.den < 2 ^ n := Nat.lt_of_le_of_lt (Nat.le_of_dvd D0 xd) Dn
      have g0 : 0 < Nat.gcd B x.den := Nat.gcd_pos_of_pos_left _ B0
      have gn : Nat.gcd B x.den < 2 ^ n := Nat.lt_of_le_of_lt (Nat.le_of_dvd B0 (Nat.gcd_dvd_left _ _)) bB
      refine ⟨_, rfl, _, rfl, _, rfl, _, _, _, _, rfl, rfl, hq, atI_nat (j := 1) rfl, _, _, rfl, _, _, rfl, rfl, ?_, _, rfl, _, _, _, _, rfl, rfl, hq, atI_nat (j := 1) rfl, _, _, rfl, rfl, ?_, ?_⟩
      · refine cdiv ?_ (b := n) ?_ nz (by omega)
        · rw [Int.natAbs_natCast, Int.natAbs_natCast]
          omega
        · rw [Int.natAbs_natCast, Int.natAbs_natCast, Int.natAbs_natCast]
          exact gn
      · refine wide_mul (a := n) (b := n) ?_ (by rw [Int.natAbs_natCast]; exact bx) nz nz (by omega)
        rw [Int.natAbs_natCast, Int.natAbs_natCast, Int.fdiv_eq_ediv_of_nonneg _ (by omega), ← Int.natCast_ediv, Int.natAbs_natCast]
        exact Nat.lt_of_le_of_lt (Nat.div_le_self _ _) bB
      · refine ⟨Nat.lcm B x.den, some (.ref a), congrArg (fun z : Int => [some (V.ref p), some (V.int z), some (V.ref a)]) (lcm_fdiv B0), rfl, Nat.lcm_pos B0 x.den_pos, Nat.lcm_dvd BD xd, fun r hr => ?_⟩
        rw [take_more hx] at hr
        rcases List.mem_append.mp hr with z | z
        · exact Nat.dvd_trans (hB r z) (Nat.dvd_lcm_left _ _)
        · rw [List.mem_singleton.mp z]
          exact Nat.dvd_lcm_right _ _
    · obtain ⟨B, c, rfl, rfl, B0, BD, hB⟩ := h
      rw [el, List.take_length] at hB
      exact ⟨_, rfl, q B B0 BD hB⟩
def spScaled (K : PySem.W.Frag) : Sp := fun vs H Q _ => ∃ (v : V) (x : Rat) (B n m : Nat), vs = [v, .int (B : Int)] ∧ Dp K H v (dF x) ∧ Sz n x ∧ B < 2 ^ m ∧ n ≤ 8000 ∧ 0 < m ∧ m ≤ 8000 ∧ Q (.int (scI B x)) H
theorem cl_scaled (T : Txt K mg) : Cl P w K mg base CX0 1 "scaled" (spScaled K) := by
  refine T.d_scaled.cl sc_scaled (fun vs H Q E h => ?_) (fun f cdv A outer s H vs Q E hr h => ?_)
  · obtain ⟨v, x, B, n, m, rfl, _⟩ := h
    rfl
  · obtain ⟨v, x, B, n, m, rfl, dv, sx, bB, n0, m0, m1, q⟩ := h
    obtain ⟨a, rfl, hq⟩ := dF_at dv
    have xp := x.den_pos
    refine ⟨_, (pss_one (ps_ret (pe_op op_mulW (pe_ix ix_tup (pv 0) pe_int (fun _ _ => rfl)) (pe_op op_fdivX (pv 1) (pe_ix ix_tup (pv 0) pe_int (fun _ _ => rfl)))))), ?_⟩
    have e : (B : Int).fdiv (x.den : Int) = (B : Int) / (x.den : Int) := Int.fdiv_eq_ediv_of_nonneg _ (by omega)
    refine ⟨_, rfl, _, _, _, _, rfl, rfl, hq, atI_nat (j := 0) rfl, _, rfl, _, rfl, _, _, _, _, rfl, rfl, hq, atI_nat (j := 1) rfl, _, _, rfl, rfl, cdiv (by omega) (b := n) (by rw [Int.natAbs_natCast]; exact sx.den) sx.pos (by omega), _, _, rfl, rfl, ?_, ?_⟩
    · refine wide_mul (a := n) (b := m) sx.num ?_ sx.pos m0 (by omega)
      rw [e, ← Int.natCast_ediv, Int.natAbs_natCast]
      exact Nat.lt_of_le_of_lt (Nat.div_le_self _ _) bB
    · rw [e]
      exact q
/-! ### rows on the heap -/
def rowsOf (c : Cue) (xs : List St3) : List Rw := (partsM c xs).map fun p => (p.1, p.2.1, c.1, p.2.2)
def rowsM (cs : List Cue) (xs : List St3) : List Rw := cs.flatMap fun c => rowsOf c xs
theorem rowsM_more {cs : List Cue} {xs : List St3} {i : Nat} {c : Cue} (h : cs[i]? = some c) : rowsM (cs.take (i + 1)) xs = rowsM (cs.take i) xs ++ rowsOf c xs := by
  unfold rowsM
  rw [take_more h, List.flatMap_append]
  simp
/-- a row stands at y in H; its words' list is new since H0 -/
def RwAt (K : PySem.W.Frag) (H0 H : Hp) (y : V) (r : Rw) : Prop := ∃ a v1 v2 al, y = .ref a ∧ SqT K H a [v1, v2, .int r.2.2.1, .ref al] ∧ Dp K H v1 (dF r.1) ∧ Dp K H v2 (dF r.2.1) ∧ H0 al = none ∧ H al = some (.lst (r.2.2.2.map V.str))
theorem RwAt.mono {H0 H H' : Hp} {y : V} {r : Rw} (s : Same H H') (h : RwAt K H0 H y r) : RwAt K H0 H' y r := by
  obtain ⟨a, v1, v2, al, e, h1, h2, h3, h4, h5⟩ := h
  exact ⟨a, v1, v2, al, e, Same.tup s h1, dp_mono s _ _ h2, dp_mono s _ _ h3, h4, s _ _ h5⟩
theorem RwAt.extN {H0 H H' : Hp} {y : V} {r : Rw} (s : LamX.ExtN H H') (h : RwAt K H0 H y r) : RwAt K H0 H' y r := by
  obtain ⟨a, v1, v2, al, e, h1, h2, h3, h4, h5⟩ := h
  exact ⟨a, v1, v2, al, e, extN_tup s h1, dp_extN s _ _ h2, dp_extN s _ _ h3, h4, s _ _ h5 (fun _ z => nomatch z)⟩
def dRw (r : Rw) : PyData := .tuple [dF r.1, dF r.2.1, .int r.2.2.1, .list (r.2.2.2.map PyData.str)]
def dRws (rs : List Rw) : PyData := .list (rs.map dRw)
theorem RwAt.dp {H0 H : Hp} {y : V} {r : Rw} (h : RwAt K H0 H y r) : Dp K H y (dRw r) := by
  obtain ⟨a, v1, v2, al, rfl, h1, h2, h3, h4, h5⟩ := h
  exact .tup h1 (.cons h2 (.cons h3 (.cons (.int _) (.cons (.lst (.inl (.inl h5)) (dpa_strs _)) .nil))))
theorem rws_dp {H0 H : Hp} : ∀ {ys : List V} {rs : List Rw}, A2 (RwAt K H0 H) ys rs → DpAll K H ys (rs.map dRw)
  | _, _, .nil => .nil
  | _, _, .cons a b => .cons a.dp (rws_dp b)
theorem a2_each {α β : Type} {R : α → β → Prop} : ∀ {xs : List α} {ys : List β}, A2 R xs ys → PySem.W.EachIs R xs ys
  | _, _, .nil => .nil
  | _, _, .cons a b => .cons a (a2_each b)
theorem each_a2 {α β : Type} {R : α → β → Prop} : ∀ {xs : List α} {ys : List β}, PySem.W.EachIs R xs ys → A2 R xs ys
  | _, _, .nil => .nil
  | _, _, .cons a b => .cons a (each_a2 b)
/-- nothing that is told stands there, but it may be a table -/
def NewA (H : Hp) (p : Addr) : Prop := ∀ o, H p = some o → ∃ ps, o = .tbl ps
def qOrd : Str := (envOfC "in_order" (defScope s_in_order) 0 0 .none).qual ++ "<lambda>"
/-- what the rows are asked for: their bottoms divide D -/
structure RsOk (rs : List Rw) (D n : Nat) : Prop where
  d0 : 0 < D
  dn : D < 2 ^ n
  n0 : n ≤ 8000
  den : ∀ r ∈ rs, r.1.den ∣ D ∧ r.2.1.den ∣ D
  sz : ∀ r ∈ rs, Sz 8000 r.1 ∧ Sz 8000 r.2.1
  len : rs.length ≤ 900
def spOrder (K : PySem.W.Frag) (P0 : Addr) : Sp := fun vs H Q _ => ∃ (pr : Addr) (ys : List V) (rs : List Rw) (H0 : Hp) (D n : Nat), vs = [.ref pr] ∧ H pr = some (.lst ys) ∧ A2 (RwAt K H0 H) ys rs ∧ RsOk rs D n ∧ LamX.TabS H P0 qOrd ∧
  ∀ H' p ys' m, LamX.ExtN H H' → LamX.TabS H' P0 qOrd → NewA H p → H' p = some (.lst ys') → A2 (RwAt K H0 H') ys' m → m.Perm rs → m.Pairwise (fun a b => leM a b = true) → Q (.ref p) H'
theorem Dfc.clN {x : Str} {st : Stmt} {N ps : List Str} {k : Nat} {sp : Sp} {c : Addr} (D : Dfc K mg x st ps c) (S : FnScope N ps (defScope st)) (len : ∀ vs H Q E, sp vs H Q E → vs.length = ps.length)
    (hbody : ∀ (f : Addr) (A : Around) (outer : List Env) (s : Shared) (H : Hp) (vs : List V) (Q : VK) (E : XK), Room k (A.deeper (envOfC x (defScope st) s.heap.objs.size f (.ref c))) → sp vs H Q E →
      ∃ t, PSs (cxOf CX0 P w K mg base N x (defScope st) f (.ref c) A outer s H E).nox (defBody st) t ∧ t { nx := fun _ H' => Q .non H', rt := Q } (start N vs) H) : Cl P w K mg base CX0 (k + 1) x sp := by
  obtain ⟨f, oc, od, kV, doc, pm, an, ct, osl, lk, hcd, kp, g, b⟩ := D.ex
  exact ⟨f, _, ps, fn_of lk hcd S len fun A outer s H vs Q E hr hsp => let ⟨t, h1, h2⟩ := hbody f A outer s H vs Q E hr hsp; ⟨t, h1.nox, h2⟩, g, kp, b⟩
theorem cl_in_order (T : Txt K mg) {c P0 : Addr} (D0 : Dfc K mg "in_order" s_in_order ["rows"] c) (TB : LamX.TabB base mg c P0) : Cl P w K mg base CX0 4 "in_order" (spOrder K P0) := by
  have c_common_bottom := cl_common_bottom (P := P) (w := w) (base := base) T
  have c_scaled := cl_scaled (P := P) (w := w) (base := base) T
  refine D0.clN sc_in_order (fun vs H Q E h => ?_) (fun f A outer s H vs Q E hr h => ?_)
  · obtain ⟨pr, ys, rs, H0, D, n, rfl, _⟩ := h
    rfl
  · obtain ⟨pr, ys, rs, H0, D, n, rfl, hp, ha, ok, tab, q⟩ := h
    refine ⟨_, (pss_cons (ps_set (i := 1) sc_in_order.nd rfl (.inr rfl) (pe_cl c_common_bottom hr (by decide) (by rfl) (pa_cons (pe_op op_cat (pe_lc (own := [("row", 2)]) (g := (gName 2)) (tt := tYes) (by rfl) sc_in_order.nd (pi_list (pv 0)) (blkOk_by (N := ["rows", "bottom", "row"]) (sc := defScope s_in_order) (by decide +kernel)) (fun _ _ _ _ _ => (pg_name (i := 2) sc_in_order.nd rfl (Or.inl rfl))) (fun _ _ _ _ _ => pts_nil) (fun _ _ _ _ _ => (pe_ix (ix_tupK (K := K) rfl) (pv 2) pe_int (fun _ _ => rfl)))) (pe_lc (own := [("row", 2)]) (g := (gName 2)) (tt := tYes) (by rfl) sc_in_order.nd (pi_list (pv 0)) (blkOk_by (N := ["rows", "bottom", "row"]) (sc := defScope s_in_order) (by decide +kernel)) (fun _ _ _ _ _ => (pg_name (i := 2) sc_in_order.nd rfl (Or.inl rfl))) (fun _ _ _ _ _ => pts_nil) (fun _ _ _ _ _ => (pe_ix (ix_tupK (K := K) rfl) (pv 2) pe_int (fun _ _ => rfl))))) pa_nil)))
      (pss_one (ps_ret (pe_sortLam (β := Rw) (T := [(P0, qOrd)]) (N := ["row", "bottom"]) (fr := ["bottom"]) (js := [1]) (k := 1) TB rfl (List.mem_singleton.mpr rfl) (fun p hp _ => by rw [List.mem_singleton.mp hp]; rfl) rfl (NdefX.nscope_by (by decide +kernel)) (NdefX.ndef_free (sc := defScope s_in_order) (fr := ["bottom"]) (by decide +kernel)) (NdefX.ndef_fr (sc := defScope s_in_order) (by decide +kernel)) rfl (fun _ _ _ _ _ _ => rfl) (hr.mono (by decide)) (by rfl) T.m_sorted (by decide +kernel) (pa_cons (pv 0) pa_nil) (fun f c' A outer s H E hr => (pe_tup (pa_cons (pe_cl c_scaled hr (by decide) (by rfl) (pa_cons (pe_ix (ix_tupK (K := K) rfl) (pv 0) pe_int (fun _ _ => rfl)) (pa_cons (pv 1) pa_nil))) (pa_cons (pe_ix (ix_tupK (K := K) rfl) (pv 0) pe_int (fun _ _ => rfl)) (pa_cons (pe_cl c_scaled hr (by decide) (by rfl) (pa_cons (pe_ix (ix_tupK (K := K) rfl) (pv 0) pe_int (fun _ _ => rfl)) (pa_cons (pv 1) pa_nil))) pa_nil))))))))), ?_⟩
    have el := ha.len
    have lr := ok.len
    refine ⟨_, rfl, pr, rfl, ⟨_, .inl (.inl hp)⟩, fun D1 hD1 => ?_⟩
    have sD := Same.new (o := .lst []) hD1
    refine lc_list (K := K) (a := pr) (xs := ys) (fun j H'' => ∃ acc, H'' D1 = some (.lst acc) ∧ Same H (hid D1 D1 H'') ∧ DpAll K H acc (((rs.take j).map (·.1)).map dF)) ⟨[], upd_same, hid_old sD hD1, .nil⟩ (fun j H'' hj h => ?_) (fun j y H'' hy h => ?_) (fun H'' h => ?_)
    · obtain ⟨acc, hd, s3, da⟩ := h
      exact .inl (.inl (hid_same _ _ (s3 _ _ hp)))
    · obtain ⟨acc, hd, s3, da⟩ := h
      obtain ⟨r, hr', a, v1, v2, al, rfl, g1, g2, g3, g4, g5⟩ := ha.at hy
      have la : acc.length ≤ 1000 := by
        rw [dpa_len da, List.length_map, List.length_map, List.length_take]
        omega
      have g1' := Same.tup (s3.trans hid_same) g1
      refine ⟨rfl, _, rfl, _, _, _, _, rfl, rfl, g1', atI_nat (j := 0) rfl, acc, hd, small1000 la, _, upd_same, by rw [hid_b]; exact s3, ?_⟩
      rw [take_more hr', List.map_append, List.map_append]
      exact dpa_snoc da g2
    · obtain ⟨acc1, hd1, s3, da1⟩ := h
      rw [el, List.take_length] at da1
      have sa : Same H H'' := s3.trans hid_same
      have nD1 : H D1 = none := hD1
      clear s3 sD
      refine ⟨_, rfl, pr, rfl, ⟨_, .inl (.inl (sa _ _ hp))⟩, fun D2 hD2 => ?_⟩
      have sD := Same.new (o := .lst []) hD2
      refine lc_list (K := K) (a := pr) (xs := ys) (fun j H4 => ∃ acc, H4 D2 = some (.lst acc) ∧ Same H'' (hid D2 D2 H4) ∧ DpAll K H acc (((rs.take j).map (·.2.1)).map dF)) ⟨[], upd_same, hid_old sD hD2, .nil⟩ (fun j H4 hj h => ?_) (fun j y H4 hy h => ?_) (fun H4 h => ?_)
      · obtain ⟨acc, hd, s3, da⟩ := h
        exact .inl (.inl (hid_same _ _ (s3 _ _ (sa _ _ hp))))
      · obtain ⟨acc, hd, s3, da⟩ := h
        obtain ⟨r, hr', a, v1, v2, al, rfl, g1, g2, g3, g4, g5⟩ := ha.at hy
        have la : acc.length ≤ 1000 := by
          rw [dpa_len da, List.length_map, List.length_map, List.length_take]
          omega
        have g1' := Same.tup (sa.trans (s3.trans hid_same)) g1
        refine ⟨rfl, _, rfl, _, _, _, _, rfl, rfl, g1', atI_nat (j := 1) rfl, acc, hd, small1000 la, _, upd_same, by rw [hid_b]; exact s3, ?_⟩
        rw [take_more hr', List.map_append, List.map_append]
        exact dpa_snoc da g3
      · obtain ⟨acc2, hd2, s3, da2⟩ := h
        rw [el, List.take_length] at da2
        have sb : Same H'' H4 := s3.trans hid_same
        have hd1 := sb _ _ hd1
        have sab := sa.trans sb
        have l1 : acc1.length = rs.length := by rw [dpa_len da1, List.length_map, List.length_map]
        have l2 : acc2.length = rs.length := by rw [dpa_len da2, List.length_map, List.length_map]
        refine ⟨D1, D2, _, _, rfl, rfl, hd1, hd2, Nat.le_trans (show acc1.length + acc2.length ≤ 2000 by omega) (by decide), fun pc nc => ?_⟩
        have sc := Same.new (o := .lst (acc1 ++ acc2)) nc
        have s5 := sab.trans sc
        have hc : (upd H4 pc (.lst (acc1 ++ acc2))) pc = some (.lst (acc1 ++ acc2)) := upd_same
        generalize upd H4 pc (.lst (acc1 ++ acc2)) = H5 at sc s5 hc ⊢
        refine ⟨pc, _, rs.map (·.1) ++ rs.map (·.2.1), D, n, rfl, .inl (.inl hc), by rw [List.map_append]; exact dpa_mono s5 _ _ (dpa_app da1 da2), ok.d0, ok.dn, ok.n0, fun x hx => ?_, fun B B0 BD hB => ?_⟩
        · rcases List.mem_append.mp hx with z | z
          · obtain ⟨r, hr', rfl⟩ := List.mem_map.mp z
            exact (ok.den r hr').1
          · obtain ⟨r, hr', rfl⟩ := List.mem_map.mp z
            exact (ok.den r hr').2
        · have dB : ∀ r ∈ rs, r.1.den ∣ B ∧ r.2.1.den ∣ B := fun r hr' => ⟨hB _ (List.mem_append_left _ (List.mem_map.mpr ⟨r, hr', rfl⟩)), hB _ (List.mem_append_right _ (List.mem_map.mpr ⟨r, hr', rfl⟩))⟩
          have bn : B < 2 ^ n := Nat.lt_of_le_of_lt (Nat.le_of_dvd ok.d0 BD) ok.dn
          have nz : 0 < n := by
            have := ok.dn
            have := ok.d0
            cases n with
            | zero => exact absurd ok.dn (by show ¬ D < 1; omega)
            | succ n => omega
          refine ⟨_, rfl, fun p hp' => by rw [List.mem_singleton.mp hp']; exact tab.ext s5, fun H6 eN tN => ?_⟩
          have e6 : LamX.ExtN H H6 := (LamX.ExtN.of s5).trans eN
          refine ⟨pr, ys, rs, RwAt K H0 H6, keyR B, rfl, .inl (.inl (e6 _ _ hp (fun _ z => nomatch z))), a2_each (ha.mono fun _ _ z => z.extN e6), fun d hd d' hd' => ?_, .inl fun d hd => ?_, fun r _ => (by show 1 ≤ 60; decide), fun v r hv hr' H7 s7 => ?_, fun H7 p ys' s7 np em => ?_⟩
          · obtain ⟨r, _, rfl⟩ := List.mem_map.mp hd
            obtain ⟨r', _, rfl⟩ := List.mem_map.mp hd'
            rfl
          · obtain ⟨r, _, rfl⟩ := List.mem_map.mp hd
            exact ⟨_, _, rfl⟩
          · obtain ⟨a, v1, v2, al, rfl, g1, g2, g3, g4, g5⟩ := hv.mono s7
            obtain ⟨z1, z2⟩ := ok.sz r hr'
            refine ⟨_, rfl, _, _, _, _, rfl, rfl, g1, atI_nat (j := 0) rfl, _, rfl, _, r.1, B, 8000, n, rfl, g2, z1, bn, Nat.le_refl _, nz, ok.n0, ?_⟩
            refine ⟨_, rfl, _, _, _, _, rfl, rfl, g1, atI_nat (j := 2) rfl, ?_⟩
            refine ⟨_, rfl, _, _, _, _, rfl, rfl, g1, atI_nat (j := 1) rfl, _, rfl, _, r.2.1, B, 8000, n, rfl, g3, z2, bn, Nat.le_refl _, nz, ok.n0, ?_⟩
            refine ⟨(show 3 ≤ sizeLine by decide), fun p np => ⟨Same.new np, ?_⟩⟩
            exact .tup (.inl (.inl upd_same)) (.cons (.int _) (.cons (.int _) (.cons (.int _) .nil)))
          · obtain ⟨pm, ps⟩ := sorted_keys B0 dB
            have e7 : LamX.ExtN H H7 := e6.trans (LamX.ExtN.of s7)
            have sn := Same.new (o := .lst ys') np
            have nH : NewA H p := fun o z => by
              by_cases c : ∃ ps, o = .tbl ps
              · exact c
              · exfalso
                have := e7 p o z (fun ps y => c ⟨ps, y⟩)
                rw [np] at this
                cases this
            exact q _ p ys' _ (e7.trans (LamX.ExtN.of sn)) ((tN _ (List.mem_singleton.mpr rfl)).ext (s7.trans sn)) nH upd_same ((each_a2 em).mono fun _ _ z => (z.mono s7).mono sn) pm ps
def spListing (K : PySem.W.Frag) (P0 : Addr) : Sp := fun vs H Q _ => ∃ (v vc : V) (xs : List St3) (cs : List Cue) (N D n : Nat), vs = [v, vc] ∧ Dp K H v (dSh xs) ∧ Dp K H vc (dCs cs) ∧ (∀ c ∈ cs, CueOk c) ∧ ShOk N xs ∧ 32 ≤ N ∧ N ≤ 2240 ∧ xs.length ≤ 100 ∧ RsOk (rowsM cs xs) D n ∧ LamX.TabS H P0 qOrd ∧
  ∀ H' p ys m, LamX.ExtN H H' → LamX.TabS H' P0 qOrd → NewA H p → H' p = some (.lst ys) → A2 (RwAt K H H') ys m → m.Perm (rowsM cs xs) → m.Pairwise (fun a b => leM a b = true) → Q (.ref p) H'
theorem PtAt.hid {H0 H : Hp} {r : Addr} {y : V} {x : Prt} (h : PtAt K H0 H y x) (h0 : ∃ o, H0 r = some o) (hr : IsL H r) : PtAt K H0 (R.hid r r H) y x := by
  obtain ⟨a, v1, v2, al, e, h1, h2, h3, h4, h5⟩ := h
  refine ⟨a, v1, v2, al, e, hid_tupL hr hr h1, dp_hid hr hr _ _ rfl h2, dp_hid hr hr _ _ rfl h3, h4, ?_⟩
  unfold R.hid
  rw [if_neg]
  · exact h5
  · rintro (z | z)
    · obtain ⟨o, ho⟩ := h0
      rw [z, ho] at h4
      cases h4
    · obtain ⟨o, ho⟩ := h0
      rw [z, ho] at h4
      cases h4
theorem cl_listing (T : Txt K mg) {c P0 : Addr} (D0 : Dfc K mg "in_order" s_in_order ["rows"] c) (TB : LamX.TabB base mg c P0) : Cl P w K mg base CX0 7 "listing" (spListing K P0) := by
  have c_timetable := cl_timetable (P := P) (w := w) (base := base) T
  have c_parts_in := cl_parts_in (P := P) (w := w) (base := base) T
  have c_in_order := cl_in_order (P := P) (w := w) (base := base) T D0 TB
  refine T.d_listing.cl sc_listing (fun vs H Q E h => ?_) (fun f cdv A outer s H vs Q E hr h => ?_)
  · obtain ⟨v, vc, xs, cs, N, D, n, rfl, _⟩ := h
    rfl
  · obtain ⟨v, vc, xs, cs, N, D, n, rfl, hv, dcs, okc, ok, n32, hN, hn, rok, tab, q⟩ := h
    obtain ⟨ac, vcs, rfl, hac, da⟩ := dCs_at dcs
    have ecs : vcs.length = cs.length := by rw [dpa_len da, List.length_map]
    refine ⟨_, (pss_cons (ps_set (i := 2) sc_listing.nd rfl (.inl rfl) (pe_cl c_timetable hr (by decide) (by rfl) (pa_cons (pv 0) pa_nil)))
      (pss_cons (ps_set (i := 3) sc_listing.nd rfl (.inl rfl) (pe_lst pa_nil))
      (pss_cons (ps_for PassesOwn.never rfl (pi_list (pv 1)) (pg_name (i := 4) sc_listing.nd rfl (.inl rfl))
        (pss_one (ps_for PassesOwn.never rfl (pi_list (pe_cl c_parts_in hr (by decide) (by rfl) (pa_cons (pv 2) (pa_cons (pv 4) pa_nil)))) (pg_tup rfl (pgs_cons (pg_name (i := 5) sc_listing.nd rfl (.inl rfl)) (pgs_cons (pg_name (i := 6) sc_listing.nd rfl (.inl rfl)) (pgs_cons (pg_name (i := 7) sc_listing.nd rfl (.inl rfl)) pgs_nil))))
        (pss_one (ps_expr (pe_bm PySem.F.plainAttrs_list PySem.F.slot_list_append PySem.F.type_list_append mt_append (pv 3) (pa_cons (pe_tup (pa_cons (pv 5) (pa_cons (pv 6) (pa_cons (pe_ix ix_tup (pv 4) pe_int (fun _ _ => rfl)) (pa_cons (pv 7) pa_nil))))) pa_nil)))))))
      (pss_one (ps_ret (pe_cl c_in_order hr (by decide) (by rfl) (pa_cons (pv 3) pa_nil))))))), ?_⟩
    refine ⟨_, rfl, _, xs, N, rfl, hv, ok, hN, by omega, fun H1 pt rows s1 npt hpt dr => ?_⟩
    refine ⟨Nat.zero_le _, fun r nr => ?_⟩
    have sr := Same.new (o := .lst []) nr
    have nrH : H r = none := s1.free nr
    refine ⟨_, rfl, ac, rfl, ⟨_, (s1.trans sr).seq hac⟩, for_list (K := K) (a := ac) (xs := vcs) (fun i σ H' => ∃ (ys : List V) (c4 c5 c6 c7 : Option V), σ = [some v, some (.ref ac), some (.ref pt), some (.ref r), c4, c5, c6, c7] ∧ Same H1 (R.hid r r H') ∧ H' r = some (.lst ys) ∧ A2 (RwAt K H (R.hid r r H')) ys (rowsM (cs.take i) xs)) ⟨[], none, none, none, none, rfl, hid_old sr nr, upd_same, .nil⟩ (fun i σ H' _ h => ?_) (fun i y σ H' hy h => ?_) (fun σ H' h => ?_)⟩
    · obtain ⟨ys, c4, c5, c6, c7, rfl, s2, hr2, ha2⟩ := h
      exact (s1.trans (s2.trans hid_same)).seq hac
    · obtain ⟨ys, c4, c5, c6, c7, rfl, s2, hr2, ha2⟩ := h
      obtain ⟨cu, hc, dc⟩ := dpa_map da hy
      have hok := okc cu (List.mem_of_getElem? hc)
      have s2' := s2.trans hid_same
      have s02 := s1.trans s2'
      have hpt2 := s2' _ _ hpt
      have dc2 := dp_mono s02 _ _ dc
      obtain ⟨cd, w1, w2, wl, wws, rfl, hcd, _⟩ := dC_at dc2
      refine ⟨_, rfl, _, rfl, pt, rows, _, cu, xs, N, rfl, .inl (.inl hpt2), dpa_mono s2' _ _ dr, dc2, hok, ok, n32, hN, by omega, fun H3 pl yp s3 npl hpl pa => ?_⟩
      have hr3 := s3 _ _ hr2
      have nlr : pl ≠ r := fun z => by rw [z, hr2] at npl; cases npl
      have ltot : (rowsM cs xs).length ≤ 900 := rok.len
      refine ⟨pl, rfl, ⟨_, .inl (.inl hpl)⟩, for_list (K := K) (a := pl) (xs := yp) (fun j σ Hx => ∃ (zs : List V) (c5 c6 c7 : Option V), σ = [some v, some (.ref ac), some (.ref pt), some (.ref r), some (.ref cd), c5, c6, c7] ∧ Same (R.hid r r H3) (R.hid r r Hx) ∧ Hx r = some (.lst zs) ∧ A2 (RwAt K H (R.hid r r Hx)) zs (rowsM (cs.take i) xs ++ (rowsOf cu xs).take j)) ⟨ys, c5, c6, c7, rfl, Same.refl _, hr3, ?_⟩ (fun j σ Hx _ h => ?_) (fun j y σ Hx hy' h => ?_) (fun σ Hx h => ?_)⟩
      · rw [List.take_zero, List.append_nil]
        exact ha2.mono fun _ _ z => z.mono (Same.hid s3)
      · obtain ⟨zs, c5, c6, c7, rfl, s4, hr4, ha4⟩ := h
        refine .inl (.inl (hid_same _ _ (s4 _ _ ?_)))
        unfold R.hid
        rw [if_neg (by rintro (z | z) <;> exact nlr z)]
        exact hpl
      · obtain ⟨zs, c5, c6, c7, rfl, s4, hr4, ha4⟩ := h
        obtain ⟨x, hx, pax⟩ := pa.at hy'
        have pax := (pax.hid ⟨_, hr2⟩ ⟨_, hr3⟩).mono s4
        obtain ⟨a', u1, u2, al, rfl, g1, g2, g3, g4, g5⟩ := pax
        have nal : H al = none := s02.free g4
        have hrow : (rowsOf cu xs)[j]? = some (x.1, x.2.1, cu.1, x.2.2) := by
          unfold rowsOf
          rw [List.getElem?_map, hx]
          rfl
        have lz : zs.length ≤ 900 := by
          rw [ha4.len, List.length_append, List.length_take]
          have e := congrArg List.length (rowsM_more (xs := xs) hc)
          rw [List.length_append] at e
          have hle : (rowsM (cs.take (i + 1)) xs).length ≤ (rowsM cs xs).length := by
            have e2 : rowsM cs xs = rowsM (cs.take (i + 1)) xs ++ rowsM (cs.drop (i + 1)) xs := by
              unfold rowsM
              rw [← List.flatMap_append, List.take_append_drop]
            rw [e2, List.length_append]
            omega
          omega
        refine ⟨a', _, rfl, Same.tup hid_same g1, rfl, _, _, rfl, _, _, rfl, _, _, rfl, rfl, ?_⟩
        refine ⟨_, rfl, .inl ⟨rfl, _, .inl (.inl hr4)⟩, ?_⟩
        have hcd4 : SqT K Hx cd [.int cu.1, w1, w2, .ref wl] := Same.tup hid_same (Same.tup s4 (hid_tupL ⟨_, hr3⟩ ⟨_, hr3⟩ (Same.tup s3 hcd)))
        refine ⟨_, rfl, _, rfl, _, rfl, _, _, _, _, rfl, rfl, hcd4, atI_nat (j := 0) rfl, _, rfl, (show 4 ≤ sizeLine by decide), fun pn npn => ?_⟩
        have sn := Same.new (o := .tup [u1, u2, .int cu.1, .ref al]) npn
        have hn : (upd Hx pn (.tup [u1, u2, .int cu.1, .ref al])) pn = some (.tup [u1, u2, .int cu.1, .ref al]) := upd_same
        have hrn := sn _ _ hr4
        generalize upd Hx pn (.tup [u1, u2, .int cu.1, .ref al]) = Hn at sn hn hrn ⊢
        refine ⟨r, zs, _, rfl, rfl, hrn, small1000 (by omega), ?_⟩
        have sh := Same.hid (b := r) (l := r) sn
        refine ⟨zs ++ [.ref pn], _, _, _, rfl, by rw [hid_b]; exact s4.trans sh, upd_same, ?_⟩
        rw [hid_b, take_more hrow, ← List.append_assoc]
        refine A2.snoc ?_ (ha4.mono fun _ _ z => z.mono sh)
        exact ⟨pn, u1, u2, al, rfl, hid_tupL ⟨_, hrn⟩ ⟨_, hrn⟩ (.inl (.inl hn)), dp_mono sh _ _ g2, dp_mono sh _ _ g3, nal, sh _ _ g5⟩
      · obtain ⟨zs, c5, c6, c7, rfl, s4, hr4, ha4⟩ := h
        have et : (rowsOf cu xs).take yp.length = rowsOf cu xs := List.take_of_length_le (by unfold rowsOf; rw [List.length_map, pa.len]; exact Nat.le_refl _)
        rw [et, ← rowsM_more hc] at ha4
        exact ⟨zs, _, _, _, _, rfl, (s2.trans (Same.hid s3)).trans s4, hr4, ha4⟩
    · obtain ⟨ys, c4, c5, c6, c7, rfl, s2, hr2, ha2⟩ := h
      rw [ecs, List.take_length] at ha2
      have s02 := s1.trans (s2.trans hid_same)
      refine ⟨_, rfl, r, ys, _, H, D, n, rfl, hr2, ha2.mono fun _ _ z => z.mono hid_same, rok, tab.ext s02, fun H' p ys' m e tb np hp hm pm ps => ?_⟩
      exact q _ p ys' m ((LamX.ExtN.of s02).trans e) tb (fun o ho => np o (s02 _ _ ho)) hp hm pm ps
theorem dRw_at {K : PySem.W.Frag} {H : Hp} {v : V} {r : Rw} (h : Dp K H v (dRw r)) : ∃ a v1 v2 v3, v = .ref a ∧ SqT K H a [v1, v2, .int r.2.2.1, v3] ∧ Dp K H v1 (dF r.1) ∧ Dp K H v2 (dF r.2.1) := by
  unfold dRw at h
  cases h with
  | tup hs ha =>
    cases ha with
    | cons h1 h2 =>
      cases h2 with
      | cons h3 h4 =>
        cases h4 with
        | cons h5 h6 =>
          cases h5
          cases h6 with
          | cons h7 h8 =>
            cases h8
            exact ⟨_, _, _, _, rfl, hs, h1, h3⟩
def spSooner (K : PySem.W.Frag) : Sp := fun vs H Q _ => ∃ (v u : V) (r o : Rw), vs = [v, u] ∧ Dp K H v (dRw r) ∧ Dp K H u (dRw o) ∧ (Sz 4000 r.1 ∧ Sz 4000 r.2.1) ∧ (Sz 4000 o.1 ∧ Sz 4000 o.2.1) ∧ Q (.bl (soonM r o)) H
theorem cl_Lsooner (T : Txt K mg) : Cl P w K mg base CX0 2 "_law_sooner" (spSooner K) := by
  have c_Llow := cl_Llow (P := P) (w := w) (base := base) T
  refine T.d_Lsooner.cl sc_Lsooner (fun vs H Q E h => ?_) (fun f cdv A outer s H vs Q E hr h => ?_)
  · obtain ⟨v, u, r, o, rfl, _⟩ := h
    rfl
  · obtain ⟨v, u, r, o, rfl, dv, du, zr, zo, q⟩ := h
    obtain ⟨a, v1, v2, v3, rfl, ha, d1, d2⟩ := dRw_at dv
    obtain ⟨b, u1, u2, u3, rfl, hb, e1, e2⟩ := dRw_at du
    refine ⟨_, (pss_cons (ps_if (pt_cmpR (op_neD hr.units) (pe_ix ix_tup (pv 0) pe_int (fun _ _ => rfl)) (pe_ix ix_tup (pv 1) pe_int (fun _ _ => rfl)) (nomark _))
        (pss_one (ps_ret (pe_cl c_Llow hr (by decide) (by rfl) (pa_cons (pe_ix ix_tup (pv 0) pe_int (fun _ _ => rfl)) (pa_cons (pe_ix ix_tup (pv 1) pe_int (fun _ _ => rfl)) pa_nil)))))
        pss_nil)
      (pss_cons (ps_if (pt_cmpR op_ne (pe_ix ix_tup (pv 0) pe_int (fun _ _ => rfl)) (pe_ix ix_tup (pv 1) pe_int (fun _ _ => rfl)) (nomark _))
        (pss_one (ps_ret (pe_cmpR op_lt (pe_ix ix_tup (pv 0) pe_int (fun _ _ => rfl)) (pe_ix ix_tup (pv 1) pe_int (fun _ _ => rfl)) (nomark _))))
        pss_nil)
      (pss_one (ps_ret (pe_cl c_Llow hr (by decide) (by rfl) (pa_cons (pe_ix ix_tup (pv 0) pe_int (fun _ _ => rfl)) (pa_cons (pe_ix ix_tup (pv 1) pe_int (fun _ _ => rfl)) pa_nil))))))), ?_⟩
    refine ⟨_, rfl, _, _, _, _, rfl, rfl, ha, atI_nat (j := 0) rfl, _, rfl, _, _, _, _, rfl, rfl, hb, atI_nat (j := 0) rfl, _, _, d1, e1, (by rfl), (by rfl), _, rfl, ite2 (fun z => ?_) (fun z => ?_)⟩
    · rw [eqv_dF] at z
      have ne : r.1 ≠ o.1 := by simpa using z
      refine ⟨_, rfl, _, _, _, _, rfl, rfl, ha, atI_nat (j := 0) rfl, _, rfl, _, _, _, _, rfl, rfl, hb, atI_nat (j := 0) rfl, _, _, r.1, o.1, 4000, 4000, rfl, d1, e1, zr.1, zo.1, by decide, ?_⟩
      have es : soonM r o = decide (r.1 < o.1) := by
        unfold soonM
        exact decide_eq_decide.mpr ⟨fun h => h.elim id fun h => absurd h.1 ne, .inl⟩
      rw [es] at q
      exact q
    · rw [eqv_dF] at z
      have eq : r.1 = o.1 := by simpa using z
      have nl : ¬ r.1 < o.1 := by rw [eq]; exact Rat.lt_irrefl
      refine ⟨_, rfl, _, _, _, _, rfl, rfl, ha, atI_nat (j := 2) rfl, _, rfl, _, _, _, _, rfl, rfl, hb, atI_nat (j := 2) rfl, rfl, _, rfl, ite2 (fun z2 => ?_) (fun z2 => ?_)⟩
      · have ne : r.2.2.1 ≠ o.2.2.1 := fun y => by
          rw [y] at z2
          simp at z2
        refine ⟨_, rfl, _, _, _, _, rfl, rfl, ha, atI_nat (j := 2) rfl, _, rfl, _, _, _, _, rfl, rfl, hb, atI_nat (j := 2) rfl, _, _, rfl, rfl, ?_⟩
        have es : soonM r o = decide (r.2.2.1 < o.2.2.1) := by
          unfold soonM
          refine decide_eq_decide.mpr ⟨fun h => ?_, fun h => .inr ⟨eq, .inl h⟩⟩
          rcases h with h | ⟨_, h | h⟩
          · exact absurd h nl
          · exact h
          · exact absurd h.1 ne
        rw [es] at q
        exact q
      · have eq2 : r.2.2.1 = o.2.2.1 := by
          by_cases c : r.2.2.1 = o.2.2.1
          · exact c
          · refine absurd ?_ z2
            simpa using c
        refine ⟨_, rfl, _, _, _, _, rfl, rfl, ha, atI_nat (j := 1) rfl, _, rfl, _, _, _, _, rfl, rfl, hb, atI_nat (j := 1) rfl, _, _, r.2.1, o.2.1, 4000, 4000, rfl, d2, e2, zr.2, zo.2, by decide, ?_⟩
        have es : soonM r o = decide (r.2.1 < o.2.1) := by
          unfold soonM
          refine decide_eq_decide.mpr ⟨fun h => ?_, fun h => .inr ⟨eq, .inr ⟨eq2, h⟩⟩⟩
          rcases h with h | ⟨_, h | h⟩
          · exact absurd h nl
          · omega
          · exact h.2
        rw [es] at q
        exact q
theorem cutTo (ys : List V) (n : Nat) : cutV ys none (some (n : Int)) = ys.take n := by
  unfold cutV
  rw [HT.sIx_none, HT.sIx_nat]
  show (ys.drop 0).take (min n ys.length - 0) = _
  rw [List.drop_zero, Nat.sub_zero]
  by_cases h : n ≤ ys.length
  · rw [Nat.min_eq_left h]
  · rw [Nat.min_eq_right (by omega), List.take_length, List.take_of_length_le (by omega)]
theorem cutFrom (ys : List V) (n : Nat) : cutV ys (some (n : Int)) none = ys.drop n := by
  unfold cutV
  rw [HT.sIx_none, HT.sIx_nat]
  by_cases h : n ≤ ys.length
  · rw [Nat.min_eq_left h, List.take_of_length_le]
    rw [List.length_drop]
    exact Nat.le_refl _
  · rw [Nat.min_eq_right (by omega), Nat.sub_self, List.take_zero, List.drop_eq_nil_of_le (by omega)]
theorem dpa_tk {K : PySem.W.Frag} {H : Hp} : ∀ {vs : List V} {ds : List PyData} (j : Nat), DpAll K H vs ds → DpAll K H (vs.take j) (ds.take j)
  | _, _, 0, _ => .nil
  | _, _, _ + 1, .nil => .nil
  | _, _, j + 1, .cons h1 h2 => .cons h1 (dpa_tk j h2)
theorem dpa_dr {K : PySem.W.Frag} {H : Hp} : ∀ {vs : List V} {ds : List PyData} (j : Nat), DpAll K H vs ds → DpAll K H (vs.drop j) (ds.drop j)
  | _, _, 0, h => h
  | _, _, _ + 1, .nil => .nil
  | _, _, j + 1, .cons h1 h2 => dpa_dr j h2
def spLListing (K : PySem.W.Frag) : Sp := fun vs H Q _ => ∃ (v vc : V) (xs : List St3) (cs : List Cue) (N : Nat), vs = [v, vc] ∧ Dp K H v (dSh xs) ∧ Dp K H vc (dCs cs) ∧ (∀ c ∈ cs, CueOk c) ∧ ShOk N xs ∧ 32 ≤ N ∧ N ≤ 2240 ∧ xs.length ≤ 100 ∧ (∀ r ∈ rowsM cs xs, Sz 4000 r.1 ∧ Sz 4000 r.2.1) ∧ (rowsM cs xs).length ≤ 900 ∧
  ∀ H' p ys (m : List Rw), Same H H' → H p = none → H' p = some (.lst ys) → DpAll K H' ys (m.map dRw) → m.Perm (rowsM cs xs) → m.Pairwise (fun a b => leM a b = true) → Q (.ref p) H'
theorem cl_Llisting (T : Txt K mg) : Cl P w K mg base CX0 5 "_law_listing" (spLListing K) := by
  have c_Lparts := cl_Lparts (P := P) (w := w) (base := base) T
  have c_Lsooner := cl_Lsooner (P := P) (w := w) (base := base) T
  refine T.d_Llisting.cl sc_Llisting (fun vs H Q E h => ?_) (fun f cdv A outer s H vs Q E hr h => ?_)
  · obtain ⟨v, vc, xs, cs, N, rfl, _⟩ := h
    rfl
  · obtain ⟨v, vc, xs, cs, N, rfl, hv, dcs, okc, ok, n32, hN, hn, rsz, rlen, q⟩ := h
    obtain ⟨ac, vcs, rfl, hac, da⟩ := dCs_at dcs
    have ecs : vcs.length = cs.length := by rw [dpa_len da, List.length_map]
    have pre : ∀ i, ∃ t, rowsM cs xs = rowsM (cs.take i) xs ++ t := fun i => ⟨rowsM (cs.drop i) xs, by
      unfold rowsM
      rw [← List.flatMap_append, List.take_append_drop]⟩
    refine ⟨_, (pss_cons (ps_set (i := 2) sc_Llisting.nd rfl (.inl rfl) (pe_lst pa_nil))
      (pss_cons (ps_for PassesOwn.never rfl (pi_list (pv 1)) (pg_name (i := 3) sc_Llisting.nd rfl (.inl rfl))
        (pss_one (ps_for PassesOwn.never rfl (pi_list (pe_cl c_Lparts hr (by decide) (by rfl) (pa_cons (pv 0) (pa_cons (pv 3) pa_nil)))) (pg_tup rfl (pgs_cons (pg_name (i := 4) sc_Llisting.nd rfl (.inl rfl)) (pgs_cons (pg_name (i := 5) sc_Llisting.nd rfl (.inl rfl)) (pgs_cons (pg_name (i := 6) sc_Llisting.nd rfl (.inl rfl)) pgs_nil))))
        (pss_cons (ps_set (i := 7) sc_Llisting.nd rfl (.inr rfl) (pe_tup (pa_cons (pv 4) (pa_cons (pv 5) (pa_cons (pe_ix ix_tup (pv 3) pe_int (fun _ _ => rfl)) (pa_cons (pv 6) pa_nil))))))
      (pss_cons (ps_set (i := 8) sc_Llisting.nd rfl (.inl rfl) (pe_callB call_len_seq (by rfl) T.m_len (by decide +kernel) (pa_cons (pe_lc (own := [("_law_other", 9)]) (g := (gName 9)) (by rfl) sc_Llisting.nd (pi_list (pv 2)) (blkOk_by (N := ["_law_show_here", "_law_cues_here", "_law_rows", "_law_cue_here", "_law_begin", "_law_end", "_law_words", "_law_row", "_law_ahead", "_law_other"]) (sc := defScope s_Llisting) (by decide +kernel)) (fun _ _ _ _ _ => (pg_name (i := 9) sc_Llisting.nd rfl (Or.inl rfl))) (fun _ _ _ _ _ => (pts_one (pt_not (pt_val (pe_cl c_Lsooner hr (by decide) (by rfl) (pa_cons (pv 7) (pa_cons (pv 9) pa_nil))))))) (fun _ _ _ _ _ => (pv 9))) pa_nil)))
      (pss_one (ps_set (i := 2) sc_Llisting.nd rfl (.inl rfl) (pe_op op_cat (pe_op op_cat (pe_slice sl_list (pv 2) po_none (po_some (pv 8))) (pe_lst (pa_cons (pv 7) pa_nil))) (pe_slice sl_list (pv 2) (po_some (pv 8)) po_none)))))))))
      (pss_one (ps_ret (pv 2))))), ?_⟩
    refine ⟨Nat.zero_le _, fun r nr => ?_⟩
    have sr := Same.new (o := .lst []) nr
    refine ⟨_, rfl, ac, rfl, ⟨_, sr.seq hac⟩, for_list (K := K) (a := ac) (xs := vcs) (fun i σ H' => ∃ (r : Addr) (ys : List V) (m : List Rw) (c3 c4 c5 c6 c7 c8 : Option V), σ = [some v, some (.ref ac), some (.ref r), c3, c4, c5, c6, c7, c8, none] ∧ Same H H' ∧ H r = none ∧ H' r = some (.lst ys) ∧ DpAll K H' ys (m.map dRw) ∧ m.Perm (rowsM (cs.take i) xs) ∧ m.Pairwise (fun a b => leM a b = true)) ⟨r, [], [], none, none, none, none, none, none, rfl, sr, nr, upd_same, .nil, .refl _, .nil⟩ (fun i σ H' _ h => ?_) (fun i y σ H' hy h => ?_) (fun σ H' h => ?_)⟩
    · obtain ⟨r, ys, m, c3, c4, c5, c6, c7, c8, rfl, s2, _⟩ := h
      exact s2.seq hac
    · clear sr nr
      obtain ⟨r, ys, m, c3, c4, c5, c6, c7, c8, rfl, s2, nr, hr2, dm, pm, ps⟩ := h
      obtain ⟨cu, hc, dc⟩ := dpa_map da hy
      have hok := okc cu (List.mem_of_getElem? hc)
      have dc2 := dp_mono s2 _ _ dc
      obtain ⟨cd, w1, w2, wl, wws, rfl, hcd, _⟩ := dC_at dc2
      refine ⟨_, rfl, _, rfl, _, _, cu, xs, N, rfl, dp_mono s2 _ _ hv, dc2, hok, ok, n32, hN, by omega, fun H3 pl yp s3 npl hpl pa => ?_⟩
      refine ⟨pl, rfl, ⟨_, .inl (.inl hpl)⟩, for_list (K := K) (a := pl) (xs := yp) (fun j σ Hx => ∃ (r : Addr) (ys : List V) (m : List Rw) (c4 c5 c6 c7 c8 : Option V), σ = [some v, some (.ref ac), some (.ref r), some (.ref cd), c4, c5, c6, c7, c8, none] ∧ Same H3 Hx ∧ H r = none ∧ Hx r = some (.lst ys) ∧ DpAll K Hx ys (m.map dRw) ∧ m.Perm (rowsM (cs.take i) xs ++ (rowsOf cu xs).take j) ∧ m.Pairwise (fun a b => leM a b = true)) ⟨r, ys, m, c4, c5, c6, c7, c8, rfl, Same.refl _, nr, s3 _ _ hr2, dpa_mono s3 _ _ dm, by rw [List.take_zero, List.append_nil]; exact pm, ps⟩ (fun j σ Hx _ h => ?_) (fun j y σ Hx hy' h => ?_) (fun σ Hx h => ?_)⟩
      · obtain ⟨r, ys, m, c4, c5, c6, c7, c8, rfl, s4, _⟩ := h
        exact .inl (.inl (s4 _ _ hpl))
      · clear hr2 dm pm ps nr
        obtain ⟨r, ys, m, c4, c5, c6, c7, c8, rfl, s4, nr, hr4, dm, pm, ps⟩ := h
        obtain ⟨x, hx, pax⟩ := pa.at hy'
        obtain ⟨a', u1, u2, al, rfl, g1, g2, g3, g4, g5⟩ := pax.mono s4
        have hrow : (rowsOf cu xs)[j]? = some (x.1, x.2.1, cu.1, x.2.2) := by
          unfold rowsOf
          rw [List.getElem?_map, hx]
          rfl
        obtain ⟨t, et⟩ := pre (i + 1)
        rw [rowsM_more hc] at et
        have sub : ∀ o ∈ m, o ∈ rowsM cs xs := fun o ho => by
          rw [et]
          rcases List.mem_append.mp (pm.mem_iff.mp ho) with z | z
          · exact List.mem_append_left _ (List.mem_append_left _ z)
          · exact List.mem_append_left _ (List.mem_append_right _ (List.mem_of_mem_take z))
        have rin : ((x.1, x.2.1, cu.1, x.2.2) : Rw) ∈ rowsM cs xs := by
          rw [et]
          exact List.mem_append_left _ (List.mem_append_right _ (List.mem_of_getElem? hrow))
        have lm : m.length ≤ 900 := by
          have h1 := pm.length_eq
          rw [List.length_append, List.length_take] at h1
          have h2 := congrArg List.length et
          rw [List.length_append, List.length_append] at h2
          omega
        have ly : ys.length = m.length := by rw [dpa_len dm, List.length_map]
        refine ⟨a', _, rfl, g1, rfl, _, _, rfl, _, _, rfl, _, _, rfl, rfl, ?_⟩
        have hcd4 : SqT K Hx cd [.int cu.1, w1, w2, .ref wl] := Same.tup (s3.trans s4) hcd
        refine ⟨_, rfl, _, rfl, _, rfl, _, _, _, _, rfl, rfl, hcd4, atI_nat (j := 0) rfl, _, rfl, (show 4 ≤ sizeLine by decide), fun pn npn => ?_⟩
        have sn := Same.new (o := .tup [u1, u2, .int cu.1, .ref al]) npn
        have dn : Dp K (upd Hx pn (.tup [u1, u2, .int cu.1, .ref al])) (.ref pn) (dRw (x.1, x.2.1, cu.1, x.2.2)) := .tup (.inl (.inl upd_same)) (.cons (dp_mono sn _ _ g2) (.cons (dp_mono sn _ _ g3) (.cons (.int _) (.cons (.lst (.inl (.inl (sn _ _ g5))) (dpa_strs _)) .nil))))
        have hrn := sn _ _ hr4
        have dmn := dpa_mono sn _ _ dm
        have s5 := s4.trans sn
        generalize upd Hx pn (.tup [u1, u2, .int cu.1, .ref al]) = Hn at dn hrn dmn s5 ⊢
        clear sn g1 g2 g3 g5 npn dm hr4 s4 hcd4
        generalize hR : ((x.1, x.2.1, cu.1, x.2.2) : Rw) = R0 at dn hrow rin
        refine ⟨_, rfl, r, rfl, ⟨_, .inl (.inl hrn)⟩, fun Dd hDd => ?_⟩
        have sD := Same.new (o := .lst []) hDd
        refine lc_list (K := K) (a := r) (xs := ys) (fun k H6 => ∃ acc, H6 Dd = some (.lst acc) ∧ Same Hn (hid Dd Dd H6) ∧ acc.length = ((m.take k).filter fun o => !soonM R0 o).length) ⟨[], upd_same, hid_old sD hDd, rfl⟩ (fun k H6 hk h => ?_) (fun k y H6 hy6 h => ?_) (fun H6 h => ?_)
        · obtain ⟨acc, hd, s6, ea⟩ := h
          exact .inl (.inl (hid_same _ _ (s6 _ _ hrn)))
        · obtain ⟨acc, hd, s6, ea⟩ := h
          obtain ⟨o, ho, dO⟩ := dpa_map dmn hy6
          have s6' := s6.trans hid_same
          have lk : acc.length ≤ 1000 := by
            have h1 := List.length_filter_le (fun o => !soonM R0 o) (m.take k)
            rw [List.length_take] at h1
            omega
          refine ⟨rfl, _, rfl, _, rfl, _, _, R0, o, rfl, dp_mono s6' _ _ dn, dp_mono s6' _ _ dO, rsz _ rin, rsz _ (sub o (List.mem_of_getElem? ho)), _, rfl, ite2 (fun z => ?_) (fun z => ?_)⟩
          · have zs : soonM R0 o = false := by simpa using z
            refine ⟨_, rfl, acc, hd, small1000 lk, _, upd_same, by rw [hid_b]; exact s6, ?_⟩
            rw [List.length_append, ea, take_more ho, List.filter_append, List.length_append]
            simp [zs]
          · have zs : soonM R0 o = true := by simpa using z
            refine ⟨acc, hd, s6, ?_⟩
            rw [ea, take_more ho, List.filter_append, List.length_append]
            simp [zs]
        · obtain ⟨acc, hd, s6, ea⟩ := h
          rw [ly, List.take_length] at ea
          have s6' := s6.trans hid_same
          have hr6 := s6' _ _ hrn
          have la : acc.length ≤ m.length := by
            rw [ea]
            exact List.length_filter_le _ _
          refine ⟨Dd, acc, rfl, .inl (.inl (.inl hd)), ?_⟩
          refine ⟨_, rfl, _, rfl, _, rfl, r, ys, rfl, .inl (.inl hr6), fun p1 n1 => ?_⟩
          rw [cutTo]
          have t1 := Same.new (o := .lst (ys.take acc.length)) n1
          have e1 : (upd H6 p1 (.lst (ys.take acc.length))) p1 = some (.lst (ys.take acc.length)) := upd_same
          generalize upd H6 p1 (.lst (ys.take acc.length)) = H7 at t1 e1 ⊢
          refine ⟨_, rfl, (show 1 ≤ sizeLine by decide), fun p2 n2 => ?_⟩
          have t2 := Same.new (o := .lst [.ref pn]) n2
          have e2 : (upd H7 p2 (.lst [.ref pn])) p2 = some (.lst [.ref pn]) := upd_same
          generalize upd H7 p2 (.lst [.ref pn]) = H8 at t2 e2 ⊢
          have lt : (ys.take acc.length).length ≤ 900 := by
            rw [List.length_take]
            omega
          have ld : (ys.drop acc.length).length ≤ 900 := by
            rw [List.length_drop]
            omega
          refine ⟨p1, p2, _, _, rfl, rfl, t2 _ _ e1, e2, Nat.le_trans (show (ys.take acc.length).length + 1 ≤ 1000 by omega) (by decide), fun p3 n3 => ?_⟩
          have t3 := Same.new (o := .lst (ys.take acc.length ++ [.ref pn])) n3
          have e3 : (upd H8 p3 (.lst (ys.take acc.length ++ [.ref pn]))) p3 = some (.lst (ys.take acc.length ++ [.ref pn])) := upd_same
          generalize upd H8 p3 (.lst (ys.take acc.length ++ [.ref pn])) = H9 at t3 e3 ⊢
          have t13 := (t1.trans t2).trans t3
          refine ⟨_, rfl, _, rfl, _, rfl, r, ys, rfl, .inl (.inl (t13 _ _ hr6)), fun p4 n4 => ?_⟩
          rw [cutFrom]
          have t4 := Same.new (o := .lst (ys.drop acc.length)) n4
          have e4 : (upd H9 p4 (.lst (ys.drop acc.length))) p4 = some (.lst (ys.drop acc.length)) := upd_same
          generalize upd H9 p4 (.lst (ys.drop acc.length)) = Ha at t4 e4 ⊢
          refine ⟨p3, p4, _, _, rfl, rfl, t4 _ _ e3, e4, Nat.le_trans (show (ys.take acc.length ++ [V.ref pn]).length + (ys.drop acc.length).length ≤ 2000 by rw [List.length_append]; show _ + 1 + _ ≤ _; omega) (by decide), fun p5 n5 => ?_⟩
          have t5 := Same.new (o := .lst (ys.take acc.length ++ [.ref pn] ++ ys.drop acc.length)) n5
          have tn := s6'.trans ((t13.trans t4).trans t5)
          refine ⟨p5, _, insM R0 m, _, _, _, _, _, rfl, s5.trans tn, (((s2.trans s3).trans s5).trans (s6'.trans (t13.trans t4))).free n5, upd_same, ?_, ?_, ins_sorted ps⟩
          · unfold insM
            rw [← ea, List.map_append, List.map_append, List.map_take, List.map_drop]
            exact dpa_app (dpa_app (dpa_tk _ (dpa_mono tn _ _ dmn)) (.cons (dp_mono tn _ _ dn) .nil)) (dpa_dr _ (dpa_mono tn _ _ dmn))
          · rw [take_more hrow, ← List.append_assoc]
            exact (ins_perm R0 m).trans (pm.append_right _)
      · obtain ⟨r, ys, m, c4, c5, c6, c7, c8, rfl, s4, nr, hr4, dm, pm, ps⟩ := h
        have et : (rowsOf cu xs).take yp.length = rowsOf cu xs := List.take_of_length_le (by unfold rowsOf; rw [List.length_map, pa.len]; exact Nat.le_refl _)
        rw [et, ← rowsM_more hc] at pm
        exact ⟨r, ys, m, _, _, _, _, _, _, rfl, (s2.trans s3).trans s4, nr, hr4, dm, pm, ps⟩
    · obtain ⟨r, ys, m, c3, c4, c5, c6, c7, c8, rfl, s2, nr, hr2, dm, pm, ps⟩ := h
      rw [ecs, List.take_length] at pm
      exact ⟨_, rfl, q _ r ys m s2 nr hr2 dm pm ps⟩
theorem Ch.ge : ∀ {lo hi : Rat} {rs : List Run}, Ch lo rs hi → ∀ u ∈ rs, lo ≤ u.2.2.1
  | _, _, _, .cons h1 h2 h3, u, hu => by
    rcases List.mem_cons.mp hu with z | z
    · rw [z]
      exact h1
    · have := h3.ge u z
      grind
theorem Ch.inj : ∀ {lo hi : Rat} {rs : List Run}, Ch lo rs hi → ∀ u ∈ rs, ∀ v ∈ rs, u.2.2.1 = v.2.2.1 → u = v
  | _, _, _, .cons h1 h2 h3, u, hu, v, hv, e => by
    rcases List.mem_cons.mp hu with z | z
    · rcases List.mem_cons.mp hv with y | y
      · rw [z, y]
      · have := h3.ge v y
        rw [z] at e
        grind
    · rcases List.mem_cons.mp hv with y | y
      · have := h3.ge u z
        rw [y] at e
        grind
      · exact h3.inj u z v y e
theorem cue_inj : ∀ {cs : List Cue}, cs.Pairwise (fun c d => c.1 < d.1) → ∀ c ∈ cs, ∀ d ∈ cs, c.1 = d.1 → c = d
  | x :: r, h, c, hc, d, hd, e => by
    obtain ⟨h1, h2⟩ := List.pairwise_cons.mp h
    rcases List.mem_cons.mp hc with z | z
    · rcases List.mem_cons.mp hd with y | y
      · rw [z, y]
      · have := h1 d y
        rw [z] at e
        omega
    · rcases List.mem_cons.mp hd with y | y
      · have := h1 c z
        rw [y] at e
        omega
      · exact cue_inj h2 c z d y e
theorem rows_mem {cs : List Cue} {xs : List St3} {r : Rw} (h : r ∈ rowsM cs xs) : ∃ c ∈ cs, ∃ u ∈ runsM c.2.1 c.2.2.1 xs, r = (u.2.2.1, u.2.2.2, c.1, wordsIn c.2.2.2 u.1 u.2.1) := by
  obtain ⟨c, hc, hr⟩ := List.mem_flatMap.mp h
  obtain ⟨p, hp, rfl⟩ := List.mem_map.mp hr
  obtain ⟨u, hu, rfl⟩ := List.mem_map.mp hp
  exact ⟨c, hc, u, hu, rfl⟩
theorem rows_dis {cs : List Cue} {xs : List St3} (ok : CuesOk cs) (st : ∀ s ∈ xs, St0 s) : ∀ a ∈ rowsM cs xs, ∀ b ∈ rowsM cs xs, a.1 = b.1 → a.2.2.1 = b.2.2.1 → a = b := by
  intro a ha b hb e1 e2
  obtain ⟨c, hc, u, hu, rfl⟩ := rows_mem ha
  obtain ⟨d, hd, v, hv, rfl⟩ := rows_mem hb
  obtain rfl := cue_inj ok.rise c hc d hd e2
  obtain rfl := (runs_whole (cb := c.2.1) (ce := c.2.2.1) st).1.inj u hu v hv e1
  rfl
theorem rows_len {cs : List Cue} (xs : List St3) : (rowsM cs xs).length ≤ cs.length * xs.length := by
  induction cs with
  | nil => exact Nat.zero_le _
  | cons c r ih =>
    show (rowsOf c xs ++ rowsM r xs).length ≤ _
    have h1 : (rowsOf c xs).length ≤ xs.length := by
      unfold rowsOf partsM
      rw [List.length_map, List.length_map]
      have := runs_le c.2.1 c.2.2.1 xs xs.length
      rw [List.take_length] at this
      exact this
    rw [List.length_append, List.length_cons, Nat.add_mul, Nat.one_mul]
    omega
def denK : List Cue → Nat
  | [] => 1
  | c :: r => (c.2.1.den * c.2.2.1.den) * denK r
theorem denK_pos : ∀ cs : List Cue, 0 < denK cs
  | [] => Nat.one_pos
  | c :: r => Nat.mul_pos (Nat.mul_pos c.2.1.den_pos c.2.2.1.den_pos) (denK_pos r)
theorem denK_dvd : ∀ {cs : List Cue} {c : Cue}, c ∈ cs → c.2.1.den ∣ denK cs ∧ c.2.2.1.den ∣ denK cs
  | d :: r, c, h => by
    rcases List.mem_cons.mp h with z | z
    · rw [z]
      exact ⟨Nat.dvd_trans (Nat.dvd_mul_right _ _) (Nat.dvd_mul_right _ _), Nat.dvd_trans (Nat.dvd_mul_left _ _) (Nat.dvd_mul_right _ _)⟩
    · obtain ⟨h1, h2⟩ := denK_dvd z
      exact ⟨Nat.dvd_trans h1 (Nat.dvd_mul_left _ _), Nat.dvd_trans h2 (Nat.dvd_mul_left _ _)⟩
theorem denK_le : ∀ {cs : List Cue}, (∀ c ∈ cs, CueOk c) → denK cs ≤ (2 ^ 30) ^ cs.length
  | [], _ => Nat.le_refl _
  | c :: r, h => by
    have h1 := h c List.mem_cons_self
    have h2 : c.2.1.den * c.2.2.1.den ≤ 29700 * 29700 := Nat.mul_le_mul h1.tb.dn h1.te.dn
    have h3 : 29700 * 29700 ≤ 2 ^ 30 := by decide
    have h4 := denK_le fun d hd => h d (List.mem_cons_of_mem c hd)
    show (c.2.1.den * c.2.2.1.den) * denK r ≤ (2 ^ 30) ^ (r.length + 1)
    rw [Nat.pow_succ, Nat.mul_comm ((2 ^ 30) ^ r.length)]
    exact Nat.mul_le_mul (Nat.le_trans h2 h3) h4
theorem Sd.st0 {i : Nat} {xs : List St3} (h : Sd i xs) : ∀ s ∈ xs, St0 s := let ⟨_, _, h⟩ := h; h.st0
theorem rows13 {i : Nat} {xs : List St3} {cs : List Cue} (sd : Sd i xs) (hi : i ≤ 8) (ok : CuesOk cs) : (∃ D n, RsOk (rowsM cs xs) D n) ∧ ∀ r ∈ rowsM cs xs, Sz 4000 r.1 ∧ Sz 4000 r.2.1 := by
  have lx := sd.len
  have lr := rows_len (cs := cs) xs
  have lc := ok.len
  have l3 : cs.length * xs.length ≤ 8 * 38 := Nat.mul_le_mul lc (by omega)
  obtain ⟨D, fs, h⟩ := sd
  have hk : denK cs ≤ 2 ^ 240 := by
    refine Nat.le_trans (denK_le fun c hc => (ok.each c hc).1) ?_
    rw [← Nat.pow_mul]
    exact Nat.pow_le_pow_right (by decide) (by omega)
  have key : ∀ r ∈ rowsM cs xs, (r.1.den ∣ gD D fs (denK cs) ∧ r.2.1.den ∣ gD D fs (denK cs)) ∧ Sz 1700 r.1 ∧ Sz 1700 r.2.1 := fun r hr => by
    obtain ⟨c, hc, u, hu, rfl⟩ := rows_mem hr
    obtain ⟨d1, d2⟩ := denK_dvd hc
    exact h.runs hi hk (denK_pos cs) d1 d2 u hu
  refine ⟨⟨gD D fs (denK cs), 1500, h.gpos (denK_pos cs), h.gle hi hk, by decide, fun r hr => (key r hr).1, fun r hr => ⟨(key r hr).2.1.mono (by decide), (key r hr).2.2.mono (by decide)⟩, by omega⟩, fun r hr => ⟨(key r hr).2.1.mono (by decide), (key r hr).2.2.mono (by decide)⟩⟩
theorem rowsM_norm {cs : List Cue} {xs : List St3} (h : ∀ s ∈ xs, St0 s) : rowsM cs (normM xs) = rowsM cs xs := by
  unfold rowsM rowsOf partsM
  congr 1
  funext c
  rw [runs_norm h]
/-! ### what H tells is none of K's objects -/
def NoK (K : PySem.W.Frag) (H : Hp) : Prop := ∀ a o, H a = some o → K.lookup a = none
theorem nok_inv {X : Cx} {pins : List (Addr × Obj)} {σ : L2.St} {H : Hp} {s : Shared} (I : Inv X pins σ H s) : NoK X.K H := fun a o h => by
  cases e : X.K.lookup a with
  | none => rfl
  | some u =>
    exfalso
    have := (I.env0.bs a u (I.ok.mod.kin _ _ e)).2
    rw [h] at this
    cases this
theorem pss_nok {X : Cx} {body : List Stmt} {t : TS} (h : PSs X body t) : PSs X body (fun D σ H => NoK X.K H → t D σ H) := ⟨fun pins s σ H D I q => h.run pins s σ H D I (q (nok_inv I))⟩
mutual
def okD : PyData → Bool
  | .list ds => okL ds
  | .tuple ds => okA ds
  | .dict _ => false
  | _ => true
def okA : List PyData → Bool
  | [] => true
  | d :: ds => okD d && okA ds
def okL : List PyData → Bool
  | [] => true
  | .list _ :: _ => false
  | d :: ds => okD d && okL ds
end
section
variable {H : Hp} {pr q : Addr} {zs ws : List V}
theorem nok_tup {a : Addr} {xs ys : List V} (nk : NoK K H) (h : H a = some (.lst ys)) (k : SqT K H a xs) : False := by
  rcases k with (k | ⟨o, k⟩) | ⟨o, its, n, k, _⟩
  · rw [h] at k
    cases k
  · rw [h] at k
    cases k
  · rw [nk a _ h] at k
    cases k
theorem nok_lst {a : Addr} {xs ys : List V} (nk : NoK K H) (h : H a = some (.lst ys)) (k : SqL K H a xs) : xs = ys := by
  rcases k with (k | ⟨o, k⟩) | ⟨o, its, n, k, _⟩
  · rw [h] at k
    injection k with k
    injection k with k
    exact k.symm
  · rw [h] at k
    cases k
  · rw [nk a _ h] at k
    cases k
theorem hide_lst {a : Addr} {xs : List V} (h : SqL K H a xs) (n : a ≠ pr) : SqL K (R.hidL [pr] H) a xs := by
  have e : ∀ o, H a = some o → R.hidL [pr] H a = some o := fun o ho => hidL_at (by simpa using n) ho
  rcases h with (h | ⟨o, h⟩) | h
  · exact .inl (.inl (e _ h))
  · exact .inl (.inr ⟨o, e _ h⟩)
  · exact .inr h
theorem hide_tup {a : Addr} {xs : List V} (hp : H pr = some (.lst zs)) (h : SqT K H a xs) : SqT K (R.hidL [pr] H) a xs := hidL_tup (fun b hb => by rw [List.mem_singleton.mp hb]; exact NoT.lst hp) h
mutual
theorem dp_hide (nk : NoK K H) (hp : H pr = some (.lst (.ref q :: zs))) (hq : H q = some (.lst ws)) : ∀ (d : PyData) (v : V), okD d = true → Dp K H v d → Dp K (R.hidL [pr] H) v d
  | .none, _, _, h => by cases h; exact .non
  | .bool _, _, _, h => by cases h; exact .bl _
  | .int _, _, _, h => by cases h; exact .int _
  | .str _, _, _, h => by cases h; exact .str _
  | .list ds, _, z, h => by
    cases h with
    | lst hs ha =>
      refine .lst (hide_lst hs ?_) (dpa_hideL nk hp hq ds _ z ha)
      rintro rfl
      have e := nok_lst nk hp hs
      rw [e] at ha
      cases ds with
      | nil => cases ha
      | cons d0 ds0 =>
        cases ha with
        | cons h1 h2 =>
          cases d0 with
          | list l0 =>
            have z : okL (.list l0 :: ds0) = true := z
            unfold okL at z
            cases z
          | tuple _ =>
            cases h1 with
            | tup hs' _ => exact nok_tup nk hq hs'
          | _ => cases h1
  | .tuple ds, _, z, h => by
    cases h with
    | tup hs ha => exact .tup (hide_tup hp hs) (dpa_hide nk hp hq ds _ z ha)
  | .dict _, _, z, _ => by cases z
theorem dpa_hide (nk : NoK K H) (hp : H pr = some (.lst (.ref q :: zs))) (hq : H q = some (.lst ws)) : ∀ (ds : List PyData) (vs : List V), okA ds = true → DpAll K H vs ds → DpAll K (R.hidL [pr] H) vs ds
  | [], _, _, h => by cases h; exact .nil
  | d :: ds, _, z, h => by
    have z2 := Bool.and_eq_true_iff.mp (show (okD d && okA ds) = true from z)
    cases h with
    | cons h1 h2 => exact .cons (dp_hide nk hp hq d _ z2.1 h1) (dpa_hide nk hp hq ds _ z2.2 h2)
theorem dpa_hideL (nk : NoK K H) (hp : H pr = some (.lst (.ref q :: zs))) (hq : H q = some (.lst ws)) : ∀ (ds : List PyData) (vs : List V), okL ds = true → DpAll K H vs ds → DpAll K (R.hidL [pr] H) vs ds
  | [], _, _, h => by cases h; exact .nil
  | d :: ds, _, z, h => by
    have z2 : okD d = true ∧ okL ds = true := by
      cases d with
      | list _ => unfold okL at z; cases z
      | _ => exact Bool.and_eq_true_iff.mp (by unfold okL at z; exact z)
    cases h with
    | cons h1 h2 => exact .cons (dp_hide nk hp hq d _ z2.1 h1) (dpa_hideL nk hp hq ds _ z2.2 h2)
end
end
theorem lay_dW : ∀ ws : List Wd, (∀ x ∈ ws, WordOk x.1) → PyData.canLayAll0 (ws.map dW) = true
  | [], _ => rfl
  | x :: r, h => by
    show (PyData.canLay0 (dW x) && PyData.canLayAll0 (r.map dW)) = true
    rw [lay_dW r fun y hy => h y (List.mem_cons_of_mem _ hy)]
    have : PyData.canLay0 (dW x) = true := by
      show (PyData.strOk x.1 && ((true && true) && true)) = true
      rw [word_str (h x List.mem_cons_self)]
      rfl
    rw [this]
    rfl
theorem depth_dW : ∀ ws : List Wd, PyData.depthAll (ws.map dW) ≤ 2
  | [] => Nat.zero_le _
  | x :: r => Nat.max_le.mpr ⟨Nat.le_refl 2, depth_dW r⟩
theorem lay_dC {c : Cue} (h : CueOk c) : PyData.canLay0 (dC c) = true := by
  show (true && ((true && (true && true)) && ((true && (true && true)) && (PyData.canLayAll0 (c.2.2.2.map dW) && true)))) = true
  rw [lay_dW _ fun x hx => (h.ws x hx).1]
  rfl
theorem depth_dC (c : Cue) : (dC c).depth ≤ 4 := by
  have := depth_dW c.2.2.2
  show max 0 (max 1 (max 1 (max (PyData.depthAll (c.2.2.2.map dW) + 1) 0))) + 1 ≤ 4
  omega
theorem shaped_dC {c : Cue} (h : CueOk c) : SeqAt.shaped (dC c) = true := by
  unfold SeqAt.shaped
  rw [lay_dC h, decide_eq_true (show (dC c).depth ≤ 64 by have := depth_dC c; omega)]
  rfl
theorem neq_dC {c : Cue} (h : CueOk c) : (!PyData.eqv (dC c) (dC c)) = false := by
  rw [SeqAt.eqv_refl _ (lay_dC h)]
  rfl
theorem sz_strs : ∀ ss : List Str, szAll (ss.map PyData.str) = true
  | [] => rfl
  | s :: r => by
    show (szOk (.str s) && szAll (r.map PyData.str)) = true
    rw [sz_strs r]
    rfl
theorem tabS_draw {H H' : Hp} {P0 b l : Addr} {q : Str} (t : LamX.TabS H P0 q) (B : Bx H b l) (s : Same (hid b l H) (hid b l H')) : LamX.TabS H' P0 q := by
  obtain ⟨xs, st, h4, h5⟩ := B.ex
  refine tabS_keep (S := [b, l]) t (fun a ha => ?_) (hid_hidL (by simp) (by simp) s)
  simp only [List.mem_cons, List.not_mem_nil, or_false] at ha
  rcases ha with rfl | rfl
  · exact .inl ⟨_, h4⟩
  · exact .inl ⟨_, h5⟩
theorem call_list_ofK {X : Cx} {K : PySem.W.Frag} (h : X.K = K) : CallR X (.type "list") (fun xs H Q => ∃ p ys, xs = [V.ref p] ∧ (SqL K H p ys ∨ SqT K H p ys) ∧ ∀ (l : Addr), H l = none → Q (.ref l) (upd H l (.lst ys))) := by
  subst h
  exact call_list_of
theorem tabS_upd {H : Hp} {P0 a : Addr} {q : Str} {o : HO} (t : LamX.TabS H P0 q) (h : IsL H a) : LamX.TabS (upd H a o) P0 q := by
  refine tabS_keep (S := [a]) t (fun b hb => ?_) ?_
  · rw [List.mem_singleton.mp hb]
    exact .inl h
  · rw [hidL_upd (by simp)]
    exact Same.refl _
theorem cues_dp12 {K : PySem.W.Frag} {b l p : Addr} {H : Hp} {ys : List V} {cs : List Cue} (hp : R.hid b l H p = some (.lst ys)) (da : DpAll K (R.hidL [b, l, p] H) ys (cs.map dC)) : Dp K H (.ref p) (dCs cs) := .lst (.inl (.inl (hid_same _ _ hp))) (dpa_mono hidL_same _ _ da)
theorem lay_dCs : ∀ {cs : List Cue}, (∀ c ∈ cs, CueOk c) → PyData.canLayAll0 (cs.map dC) = true
  | [], _ => rfl
  | c :: r, h => by
    show (PyData.canLay0 (dC c) && PyData.canLayAll0 (r.map dC)) = true
    rw [lay_dCs fun d hd => h d (List.mem_cons_of_mem _ hd), lay_dC (h c List.mem_cons_self)]
    rfl
theorem depA_dC : ∀ cs : List Cue, PyData.depthAll (cs.map dC) ≤ 4
  | [] => Nat.zero_le _
  | c :: r => Nat.max_le.mpr ⟨depth_dC c, depA_dC r⟩
theorem shaped_dCs {cs : List Cue} (h : ∀ c ∈ cs, CueOk c) : SeqAt.shaped (dCs cs) = true := by
  unfold SeqAt.shaped
  have h1 : PyData.canLay0 (dCs cs) = true := lay_dCs h
  have h2 : (dCs cs).depth ≤ 64 := by
    show PyData.depthAll (cs.map dC) + 1 ≤ 64
    have := depA_dC cs
    omega
  rw [h1, decide_eq_true h2]
  rfl
theorem neq_dCs {cs : List Cue} (h : ∀ c ∈ cs, CueOk c) : (!PyData.eqv (dCs cs) (dCs cs)) = false := by
  rw [SeqAt.eqv_refl (dCs cs) (lay_dCs h)]
  rfl
theorem depth_dRw : ∀ rs : List Rw, PyData.depthAll (rs.map dRw) ≤ 2
  | [] => Nat.zero_le _
  | r :: t => by
    refine Nat.max_le.mpr ⟨?_, depth_dRw t⟩
    show max 1 (max 1 (max 0 (max (PyData.depthAll (r.2.2.2.map PyData.str) + 1) 0))) + 1 ≤ 2
    rw [depth_strs]
    decide
theorem dep_dRws (rs : List Rw) : (dRws rs).depth < 4 := by
  show PyData.depthAll (rs.map dRw) + 1 < 4
  have := depth_dRw rs
  omega
theorem sz_dRw : ∀ rs : List Rw, (∀ r ∈ rs, r.2.2.2.length ≤ 1000) → szAll (rs.map dRw) = true
  | [], _ => rfl
  | x :: r, h => by
    show (szOk (dRw x) && szAll (r.map dRw)) = true
    rw [sz_dRw r fun y hy => h y (List.mem_cons_of_mem _ hy)]
    have : szOk (dRw x) = true := by
      show (decide (4 < 2 ^ 62) && (true && (true && (true && ((decide ((x.2.2.2.map PyData.str).length < 2 ^ 62) && szAll (x.2.2.2.map PyData.str)) && true))))) = true
      rw [sz_strs, decide_eq_true (show (x.2.2.2.map PyData.str).length < 2 ^ 62 by rw [List.length_map]; have := h x List.mem_cons_self; omega)]
      rfl
    rw [this]
    rfl
theorem sz_dRws (rs : List Rw) (h : ∀ r ∈ rs, r.2.2.2.length ≤ 1000) (hl : rs.length ≤ 1000) : szOk (dRws rs) = true := by
  show (decide ((rs.map dRw).length < 2 ^ 62) && szAll (rs.map dRw)) = true
  rw [sz_dRw rs h, decide_eq_true (show (rs.map dRw).length < 2 ^ 62 by rw [List.length_map]; omega)]
  rfl
theorem rws_dp' {H0 H : Hp} {p : Addr} {ys : List V} {rs : List Rw} (hp : H p = some (.lst ys)) (h : A2 (RwAt K H0 H) ys rs) : Dp K H (.ref p) (dRws rs) := .lst (.inl (.inl hp)) (rws_dp h)
theorem hid_at3 {H : Hp} {b l a : Addr} {o : HO} (B : Bx H b l) (n : H a = none) : hid b l (upd H a o) a = some o := by
  obtain ⟨bxs, bst, hb1, hb2⟩ := B.ex
  unfold hid
  rw [if_neg]
  · exact upd_same
  · rintro (z | z)
    · rw [z, hb1] at n
      cases n
    · rw [z, hb2] at n
      cases n
theorem okL_tup (ds r : List PyData) : okL (.tuple ds :: r) = (okA ds && okL r) := by simp [okL, okD]
theorem okL_dS : ∀ xs : List St3, okL (xs.map dS) = true
  | [] => by simp [okL]
  | x :: r => by
    rw [List.map_cons]
    unfold dS
    rw [okL_tup]
    have := okL_dS r
    unfold dS at this
    rw [this]
    simp [okA, okD, dF]
theorem okD_dSh (xs : List St3) : okD (dSh xs) = true := by
  unfold dSh okD
  exact okL_dS xs
theorem okL_dW : ∀ ws : List Wd, okL (ws.map dW) = true
  | [] => by simp [okL]
  | x :: r => by
    rw [List.map_cons]
    unfold dW
    rw [okL_tup]
    have := okL_dW r
    unfold dW at this
    rw [this]
    simp [okA, okD, dF]
theorem okL_dC : ∀ cs : List Cue, okL (cs.map dC) = true
  | [] => by simp [okL]
  | c :: r => by
    rw [List.map_cons]
    unfold dC
    rw [okL_tup]
    have := okL_dC r
    unfold dC at this
    rw [this]
    have hw := okL_dW c.2.2.2
    simp [okA, okD, dF, dWs, hw]
theorem okD_dCs (cs : List Cue) : okD (dCs cs) = true := by
  unfold dCs okD
  exact okL_dC cs
theorem okL_strs : ∀ ss : List Str, okL (ss.map PyData.str) = true
  | [] => by simp [okL]
  | s :: r => by
    have := okL_strs r
    simp [okL, okD, this]
theorem okL_dRw : ∀ rs : List Rw, okL (rs.map dRw) = true
  | [] => by simp [okL]
  | x :: r => by
    rw [List.map_cons]
    unfold dRw
    rw [okL_tup]
    have := okL_dRw r
    unfold dRw at this
    rw [this]
    have hs := okL_strs x.2.2.2
    simp [okA, okD, dF, hs]
theorem okD_dRws (rs : List Rw) : okD (dRws rs) = true := by
  unfold dRws okD
  exact okL_dRw rs
/-! ### what the law holds: the reel, the row of shows, the data beside them -/
structure J13 (K : PySem.W.Frag) (C P0 : Addr) (H : Hp) (S : List Addr) (b l p pe pu pr : Addr) (ds : List (V × PyData)) (pre : List (List St3)) (xs : List St3) (und : List (List St3)) : Prop where
  lr : Lr K C H S b l p pe pu (normM xs) (pre.map normM) und
  tb : LamX.TabS H P0 qOrd
  hS : ∀ a ∈ S, a = p ∨ a = pe ∨ a = pu ∨ a = b ∨ a = l
  npr : pr ∉ S
  row : ∃ rs, H pr = some (.lst rs) ∧ A2 (fun r x => ∃ pa ys, r = .ref pa ∧ R.hidL S H pa = some (.lst ys) ∧ DpAll K (R.hidL S H) ys (x.map dS) ∧ pa ≠ pr) rs (pre ++ [xs])
  dat : ∀ q ∈ ds, okD q.2 = true ∧ Dp K (R.hidL S H) q.1 q.2
  sd : ∀ j x, (pre ++ [xs])[j]? = some x → Sd j x
  len : pre.length ≤ 8
  lu : und.length ≤ 100
section
variable {C P0 : Addr} {H H' : Hp} {S : List Addr} {b l p pe pu pr : Addr} {ds : List (V × PyData)} {pre : List (List St3)} {xs : List St3} {und : List (List St3)}
theorem J13.to (h : J13 K C P0 H S b l p pe pu pr ds pre xs und) {xs' : List St3} {pre' und' : List (List St3)} (w : Lr K C H' S b l p pe pu (normM xs') (pre'.map normM) und') (t : LamX.TabS H' P0 qOrd) (s : Same (R.hidL S H) (R.hidL S H')) : (∃ rs, H' pr = some (.lst rs) ∧ A2 (fun r x => ∃ pa ys, r = .ref pa ∧ R.hidL S H' pa = some (.lst ys) ∧ DpAll K (R.hidL S H') ys (x.map dS) ∧ pa ≠ pr) rs (pre ++ [xs])) ∧ ∀ q ∈ ds, okD q.2 = true ∧ Dp K (R.hidL S H') q.1 q.2 := by
  obtain ⟨rs, h1, h2⟩ := h.row
  exact ⟨⟨rs, hidL_same _ _ (s _ _ (hidL_at h.npr h1)), h2.mono fun _ _ ⟨pa, ys, e, k1, k2, k3⟩ => ⟨pa, ys, e, s _ _ k1, dpa_mono s _ _ k2, k3⟩⟩, fun q hq => ⟨(h.dat q hq).1, dp_mono s _ _ (h.dat q hq).2⟩⟩
theorem J13.mono (h : J13 K C P0 H S b l p pe pu pr ds pre xs und) (s : Same H H') : J13 K C P0 H' S b l p pe pu pr ds pre xs und := by
  have w := h.lr.mono s
  obtain ⟨h1, h2⟩ := h.to w (h.tb.ext s) (Same.hidL s)
  exact ⟨w, h.tb.ext s, h.hS, h.npr, h1, h2, h.sd, h.len, h.lu⟩
theorem J13.extN (h : J13 K C P0 H S b l p pe pu pr ds pre xs und) (s : LamX.ExtN H H') (t : LamX.TabS H' P0 qOrd) : J13 K C P0 H' S b l p pe pu pr ds pre xs und := by
  have sh := extN_hidL (S := S) s
  obtain ⟨rs, h1, h2⟩ := h.row
  exact ⟨h.lr.extN h.hS s, t, h.hS, h.npr, ⟨rs, s _ _ h1 (fun _ z => nomatch z), h2.mono fun _ _ ⟨pa, ys, e, k1, k2, k3⟩ => ⟨pa, ys, e, sh _ _ k1 (fun _ z => nomatch z), dpa_extN sh _ _ k2, k3⟩⟩, fun q hq => ⟨(h.dat q hq).1, dp_extN sh _ _ (h.dat q hq).2⟩, h.sd, h.len, h.lu⟩
theorem J13.draw (h : J13 K C P0 H S b l p pe pu pr ds pre xs und) (s : Same (hid b l H) (hid b l H')) (B : Bx H' b l) : J13 K C P0 H' S b l p pe pu pr ds pre xs und := by
  obtain ⟨w, t⟩ := h.lr.draw s B
  have tb := tabS_keep h.tb (h.lr.li h.hS) t
  obtain ⟨h1, h2⟩ := h.to w tb t
  exact ⟨w, tb, h.hS, h.npr, h1, h2, h.sd, h.len, h.lu⟩
theorem J13.more (h : J13 K C P0 H S b l p pe pu pr ds pre xs und) {q : V × PyData} (hq : okD q.2 = true) (d : Dp K (R.hidL S H) q.1 q.2) : J13 K C P0 H S b l p pe pu pr (q :: ds) pre xs und :=
  ⟨h.lr, h.tb, h.hS, h.npr, h.row, fun x hx => by
    rcases List.mem_cons.mp hx with z | z
    · rw [z]
      exact ⟨hq, d⟩
    · exact h.dat x z, h.sd, h.len, h.lu⟩
theorem J13.sdx (h : J13 K C P0 H S b l p pe pu pr ds pre xs und) : Sd pre.length xs := h.sd pre.length xs (by rw [List.getElem?_append_right (Nat.le_refl _), Nat.sub_self]; rfl)
/-- row[-1] -/
theorem J13.last (h : J13 K C P0 H S b l p pe pu pr ds pre xs und) : ∃ rs r0 pa ys, H pr = some (.lst (rs ++ [.ref pa])) ∧ R.hidL S H pa = some (.lst ys) ∧ DpAll K (R.hidL S H) ys (xs.map dS) ∧ (rs ++ [.ref pa])[0]? = some (.ref r0) := by
  obtain ⟨rs, h1, h2⟩ := h.row
  obtain ⟨rs', x, rfl, h3, pa, ys, rfl, k1, k2, k3⟩ := h2.split
  obtain ⟨y, hy⟩ : ∃ y, (rs' ++ [V.ref pa])[0]? = some y := ⟨_, List.getElem?_eq_getElem (by rw [List.length_append]; show 0 < _ + 1; omega)⟩
  obtain ⟨x0, _, p0, _, rfl, _⟩ := h2.at hy
  exact ⟨rs', p0, pa, ys, h1, k1, k2, hy⟩
theorem row_upd {cur : List St3} {ear und : List (List St3)} {xss : List (List St3)} {rs : List V} (w : Lr K C H S b l p pe pu cur ear und) (tb : LamX.TabS H P0 qOrd) (npr : pr ∉ S) (h1 : H pr = some (.lst rs))
    (h2 : A2 (fun r x => ∃ pa ys, r = .ref pa ∧ R.hidL S H pa = some (.lst ys) ∧ DpAll K (R.hidL S H) ys (x.map dS) ∧ pa ≠ pr) rs xss) (hne : xss ≠ []) (nk : NoK K H) {zs : List V} :
    Lr K C (L2.upd H pr (.lst zs)) S b l p pe pu cur ear und ∧ LamX.TabS (L2.upd H pr (.lst zs)) P0 qOrd ∧ (∀ d v, okD d = true → Dp K (R.hidL S H) v d → Dp K (R.hidL S (L2.upd H pr (.lst zs))) v d) ∧ (∀ a o, R.hidL S H a = some o → a ≠ pr → R.hidL S (L2.upd H pr (.lst zs)) a = some o) ∧
    (∀ ds vs, tupA ds = true → DpAll K (R.hidL S H) vs ds → DpAll K (R.hidL S (L2.upd H pr (.lst zs))) vs ds) ∧ ∀ (p1 : Addr) (ys : List V) (x : List St3), R.hidL S H p1 = some (.lst ys) → DpAll K (R.hidL S H) ys (x.map dS) → p1 ≠ pr := by
  obtain ⟨r0, t0, er⟩ : ∃ r0 t0, rs = .ref r0 :: t0 ∧ ∃ ws, R.hidL S H r0 = some (.lst ws) := by
    cases rs with
    | nil =>
      cases h2
      exact absurd rfl hne
    | cons y t =>
      obtain ⟨x, _, pa, ys, rfl, k1, _⟩ := h2.at (i := 0) (x := y) rfl
      exact ⟨pa, t, rfl, ys, k1⟩
  obtain ⟨rfl, ws, hw⟩ := er
  have nkG : NoK K (R.hidL S H) := fun a o z => nk a o (hidL_same _ _ z)
  have hpG := hidL_at npr h1
  have sG : Same (R.hidL [pr] (R.hidL S H)) (R.hidL S (L2.upd H pr (.lst zs))) := fun a o z => by
    obtain ⟨z1, z2⟩ := hidL_ne z
    obtain ⟨z3, z4⟩ := hidL_ne z2
    refine hidL_at z3 ?_
    rw [upd_ne (fun e => z1 (by rw [e]; simp))]
    exact z4
  have key : ∀ d v, okD d = true → Dp K (R.hidL S H) v d → Dp K (R.hidL S (L2.upd H pr (.lst zs))) v d := fun d v hd z => dp_mono sG _ _ (dp_hide nkG hpG hw d v hd z)
  have keyA : ∀ (xss : List (List St3)) (vs : List V), DpAll K (R.hidL S H) vs (xss.map dSh) → DpAll K (R.hidL S (L2.upd H pr (.lst zs))) vs (xss.map dSh) := fun xss => by
    induction xss with
    | nil => intro vs z; cases z; exact .nil
    | cons x r ih =>
      intro vs z
      cases z with
      | cons z1 z2 => exact .cons (key _ _ (okD_dSh x) z1) (ih _ z2)
  have nS : ∀ a ∈ S, a ≠ pr := fun a ha e => npr (by rw [← e]; exact ha)
  obtain ⟨dx, vc, g1, g2⟩ := w.r.ob
  obtain ⟨es, g3, g4⟩ := w.r.he
  obtain ⟨us, g5, g6⟩ := w.r.hu
  obtain ⟨bx, bs, g7, g8⟩ := w.bx.ex
  refine ⟨⟨⟨w.bx.ne, bx, bs, by rw [upd_ne (nS b w.ib)]; exact g7, by rw [upd_ne (nS l w.il)]; exact g8⟩, w.ib, w.il, w.nb, ⟨w.r.ip, w.r.ie, w.r.iu, w.r.neu, fun a ha => ?_, ⟨dx, vc, by rw [upd_ne (nS p w.r.ip)]; exact g1, key _ _ (okD_dSh _) g2⟩, ⟨es, by rw [upd_ne (nS pe w.r.ie)]; exact g3, keyA _ _ g4⟩, ⟨us, by rw [upd_ne (nS pu w.r.iu)]; exact g5, keyA _ _ g6⟩⟩⟩, tabS_upd tb ⟨_, h1⟩, key, fun a o z n => ?_, fun ds vs hd z => dpa_mono sG _ _ (dpa_hidL (fun b hb => by rw [List.mem_singleton.mp hb]; exact NoT.lst hpG) _ _ hd z), fun p1 ys x z1 z2 e => ?_⟩
  · obtain ⟨u, w1, w2, w3⟩ := w.r.nt a ha
    exact ⟨u, by rw [upd_ne (nS a ha)]; exact w1, w2, w3⟩
  · obtain ⟨z1, z2⟩ := hidL_ne z
    exact hidL_at z1 (by rw [upd_ne n]; exact z2)
  · rw [e, hpG] at z1
    injection z1 with z1
    injection z1 with z1
    rw [← z1] at z2
    cases x with
    | nil => cases z2
    | cons x0 xr =>
      cases z2 with
      | cons k1 k2 =>
        unfold dS at k1
        cases k1 with
        | tup hs _ => exact nok_tup nkG hw hs
end
theorem rw_hidL {H6 H7 : Hp} {S : List Addr} {y : V} {r : Rw} (li : ∀ a ∈ S, LI H6 a) (nt : ∀ a ∈ S, NoT H7 a) (h : RwAt K H6 H7 y r) : Dp K (R.hidL S H7) y (dRw r) := by
  obtain ⟨a, v1, v2, al, rfl, h1, h2, h3, h4, h5⟩ := h
  refine .tup (hidL_tup nt h1) (.cons (dp_hidL nt _ _ rfl h2) (.cons (dp_hidL nt _ _ rfl h3) (.cons (.int _) (.cons (.lst (.inl (.inl (hidL_at (fun z => ?_) h5))) (dpa_strs _)) .nil))))
  rcases li al z with ⟨xs, e⟩ | ⟨C, dx, fs, e⟩
  · rw [h4] at e
    cases e
  · rw [h4] at e
    cases e
theorem rws_hidL {H6 H7 : Hp} {S : List Addr} (li : ∀ a ∈ S, LI H6 a) (nt : ∀ a ∈ S, NoT H7 a) : ∀ {ys : List V} {rs : List Rw}, A2 (RwAt K H6 H7) ys rs → DpAll K (R.hidL S H7) ys (rs.map dRw)
  | _, _, .nil => .nil
  | _, _, .cons a b => .cons (rw_hidL li nt a) (rws_hidL li nt b)
theorem new_notin {H6 : Hp} {S : List Addr} {pf : Addr} (li : ∀ a ∈ S, LI H6 a) (n : NewA H6 pf) : pf ∉ S := fun z => by
  rcases li pf z with ⟨xs, e⟩ | ⟨C, dx, fs, e⟩
  · obtain ⟨ps, k⟩ := n _ e
    cases k
  · obtain ⟨ps, k⟩ := n _ e
    cases k
section
variable {C P0 : Addr} {H Ha : Hp} {S : List Addr} {b l p pe pu pr p1 : Addr} {ds : List (V × PyData)} {pre : List (List St3)} {xs x1 : List St3} {und : List (List St3)} {y1 : List V}
/-- a deed is done, its show is put to the row -/
theorem J13.app (h : J13 K C P0 H S b l p pe pu pr ds pre xs und) (wa : Lr K C Ha S b l p pe pu (normM x1) (pre.map normM ++ [normM xs]) []) (ta : Same (R.hidL S H) (R.hidL S Ha)) (q1 : R.hidL S Ha p1 = some (.lst y1)) (q2 : DpAll K (R.hidL S Ha) y1 (x1.map dS)) (sd' : Sd (pre.length + 1) x1) (nk : NoK K Ha) (hl : pre.length ≤ 7) :
    ∃ rs, Ha pr = some (.lst rs) ∧ rs.length ≤ 900 ∧ J13 K C P0 (L2.upd Ha pr (.lst (rs ++ [.ref p1]))) S b l p pe pu pr ds (pre ++ [xs]) x1 [] ∧ Dp K (R.hidL S (L2.upd Ha pr (.lst (rs ++ [.ref p1])))) (.ref p1) (dSh x1) := by
  have tb := tabS_keep h.tb (h.lr.li h.hS) ta
  obtain ⟨rs, h1, h2⟩ := h.row
  have h1' : Ha pr = some (.lst rs) := hidL_same _ _ (ta _ _ (hidL_at h.npr h1))
  have h2' := h2.mono (R' := fun r x => ∃ pa ys, r = .ref pa ∧ R.hidL S Ha pa = some (.lst ys) ∧ DpAll K (R.hidL S Ha) ys (x.map dS) ∧ pa ≠ pr) fun _ _ ⟨pa, ys, e, k1, k2, k3⟩ => ⟨pa, ys, e, ta _ _ k1, dpa_mono ta _ _ k2, k3⟩
  obtain ⟨w, t, key, at_, keyT, ne⟩ := row_upd (zs := rs ++ [.ref p1]) wa tb h.npr h1' h2' (by simp) nk
  have n1 := ne p1 y1 x1 q1 q2
  have lr : rs.length ≤ 900 := by
    rw [h2.len, List.length_append]
    show pre.length + 1 ≤ 900
    omega
  refine ⟨rs, h1', lr, ⟨by rw [List.map_append]; exact w, t, h.hS, h.npr, ⟨_, upd_same, A2.snoc ⟨p1, y1, rfl, at_ _ _ q1 n1, keyT _ _ (tupA_dS _) q2, n1⟩ (h2'.mono fun _ _ ⟨pa, ys, e, k1, k2, k3⟩ => ⟨pa, ys, e, at_ _ _ k1 k3, keyT _ _ (tupA_dS _) k2, k3⟩)⟩, fun q hq => ⟨(h.dat q hq).1, key _ _ (h.dat q hq).1 (dp_mono ta _ _ (h.dat q hq).2)⟩, fun j x hj => ?_, by rw [List.length_append]; show pre.length + 1 ≤ 8; omega, Nat.zero_le _⟩, .lst (.inl (.inl (at_ _ _ q1 n1))) (keyT _ _ (tupA_dS _) q2)⟩
  by_cases c : j < (pre ++ [xs]).length
  · rw [List.getElem?_append_left c] at hj
    exact h.sd j x hj
  · have hl2 := (List.getElem?_eq_some_iff.mp hj).1
    rw [List.length_append] at hl2
    have hl2 : j < (pre ++ [xs]).length + 1 := hl2
    have ej : j = (pre ++ [xs]).length := by omega
    rw [ej, List.getElem?_append_right (Nat.le_refl _), Nat.sub_self] at hj
    have e : x1 = x := Option.some.inj (show some x1 = some x from hj)
    rw [← e, ej, List.length_append]
    exact sd'
/-- a deed is undone, the row's last show taken off -/
theorem J13.back (h : J13 K C P0 H S b l p pe pu pr ds pre xs und) {pre2 : List (List St3)} {x : List St3} (e : pre.map normM = pre2 ++ [x]) (r : RAt K C Ha S p pe pu x pre2 (und ++ [normM xs])) (k : Kp3 p pe pu H Ha) (nk : NoK K Ha) (hl : und.length ≤ 90) :
    ∃ pre' x' rs v, pre = pre' ++ [x'] ∧ Ha pr = some (.lst (rs ++ [v])) ∧ J13 K C P0 (L2.upd Ha pr (.lst rs)) S b l p pe pu pr ds pre' x' (und ++ [normM xs]) := by
  obtain ⟨wa, ta⟩ := h.lr.kp r k
  have tb := tabS_keep h.tb (h.lr.li h.hS) ta
  obtain ⟨pre', x', ep⟩ : ∃ pre' x', pre = pre' ++ [x'] := by
    rcases List.eq_nil_or_concat pre with z | ⟨a, b, z⟩
    · rw [z] at e
      have := congrArg List.length e
      rw [List.length_append] at this
      have this : 0 = pre2.length + 1 := this
      omega
    · exact ⟨a, b, by rw [z]; simp⟩
  subst ep
  rw [List.map_append] at e
  obtain ⟨e1, e2⟩ := List.append_inj' e rfl
  have e2 : normM x' = x := (List.cons.inj e2).1
  subst e1 e2
  obtain ⟨rs, h1, h2⟩ := h.row
  have h1' : Ha pr = some (.lst rs) := hidL_same _ _ (ta _ _ (hidL_at h.npr h1))
  have h2' := h2.mono (R' := fun r x => ∃ pa ys, r = .ref pa ∧ R.hidL S Ha pa = some (.lst ys) ∧ DpAll K (R.hidL S Ha) ys (x.map dS) ∧ pa ≠ pr) fun _ _ ⟨pa, ys, e, k1, k2, k3⟩ => ⟨pa, ys, e, ta _ _ k1, dpa_mono ta _ _ k2, k3⟩
  obtain ⟨rs', v, rfl, h3, _⟩ := h2'.split
  obtain ⟨w, t, key, at_, keyT, ne⟩ := row_upd (zs := rs') wa tb h.npr h1' h2' (by simp) nk
  refine ⟨pre', x', rs', v, rfl, h1', ⟨w, t, h.hS, h.npr, ⟨_, upd_same, h3.mono fun _ _ ⟨pa, ys, e, k1, k2, k3⟩ => ⟨pa, ys, e, at_ _ _ k1 k3, keyT _ _ (tupA_dS _) k2, k3⟩⟩, fun q hq => ⟨(h.dat q hq).1, key _ _ (h.dat q hq).1 (dp_mono ta _ _ (h.dat q hq).2)⟩, fun j y hj => h.sd j y ?_, ?_, ?_⟩⟩
  · have hl2 := (List.getElem?_eq_some_iff.mp hj).1
    rw [List.getElem?_append_left hl2]
    exact hj
  · have := h.len
    rw [List.length_append] at this
    omega
  · rw [List.length_append]
    show und.length + 1 ≤ 100
    omega
end
def spLaw (K : PySem.W.Frag) (P0 : Addr) : Sp := fun vs H Q _ => ∃ (a : Addr) (ns : List Int), vs = [.ref a] ∧ SqL K H a (ns.map V.int) ∧ ns.length ≤ 63 ∧ LamX.TabS H P0 qOrd ∧ ∀ H', Q (.bl true) H'
theorem ok_law {f : Addr} {fd : FuncData} (F : Fun K "law" "law" s_law f fd) (T : Txt K mg) {c P0 : Addr} (D0 : Dfc K mg "in_order" s_in_order ["rows"] c) (TB : LamX.TabB base mg c P0) : FnOk P w K mg base CX0 10 f fd ["_law_script"] (spLaw K P0) := by
  obtain ⟨C, k_Reel⟩ := T.o_Reel
  obtain ⟨C0, e_OffReel⟩ := T.e_OffReel
  obtain ⟨C1, e_NoDeed⟩ := T.e_NoDeed
  have c_Lbegun := cl_Lbegun (P := P) (w := w) (base := base) T
  have c_Lshow := cl_Lshow (P := P) (w := w) (base := base) T
  have c_Lcues := cl_Lcues (P := P) (w := w) (base := base) T
  have c_Ltake := cl_Ltake (P := P) (w := w) (base := base) T
  have c_Llisting := cl_Llisting (P := P) (w := w) (base := base) T
  have c_listing := cl_listing (P := P) (w := w) (base := base) T D0 TB
  have c_Lalike := cl_Lalike (P := P) (w := w) (base := base) T 4
  have c_Ldeed := cl_Ldeed (P := P) (w := w) (base := base) T k_Reel e_OffReel
  have c_Reel_show := cl_Reel_show (P := P) (w := w) (base := base) T k_Reel
  have c_Reel_back := cl_Reel_back (P := P) (w := w) (base := base) T k_Reel e_NoDeed
  have c_Reel___init__ := cl_Reel___init__ (P := P) (w := w) (base := base) T k_Reel
  refine F.ok sc_law (fun vs H Q E h => ?_) (fun cdv A outer s H vs Q E hr h => ?_)
  · obtain ⟨a, ns, rfl, _⟩ := h
    rfl
  · obtain ⟨a, ns, rfl, hS, hlen, tab, q⟩ := h
    refine ⟨_, (pss_cons (ps_set (i := 1) sc_law.nd rfl (.inl rfl) (pe_cl c_Lbegun hr (by decide) (by rfl) (pa_cons (pv 0) pa_nil)))
      (pss_cons (ps_set (i := 2) sc_law.nd rfl (.inl rfl) (pe_lst (pa_cons (pe_cl c_Lshow hr (by decide) (by rfl) (pa_cons (pv 1) pa_nil)) pa_nil)))
      (pss_cons (ps_set (i := 3) sc_law.nd rfl (.inl rfl) (pe_cl c_Lcues hr (by decide) (by rfl) (pa_cons (pv 1) pa_nil)))
      (pss_cons (ps_set (i := 4) sc_law.nd rfl (.inl rfl) (pe_mkC c_Reel___init__ k_Reel.oc hr (by decide) (by rfl) (pa_cons (pe_ix ix_list (pv 2) pe_int (fun _ _ => rfl)) pa_nil)))
      (pss_cons (ps_set (i := 5) sc_law.nd rfl (.inl rfl) (pe_cl c_listing hr (by decide) (by rfl) (pa_cons (pe_mt0 c_Reel_show hr (by decide) k_Reel.oc.cl (pv 4)) (pa_cons (pv 3) pa_nil))))
      (pss_cons (ps_for PassesOwn.never rfl (pi_range1 (by rfl) T.m_range (pa_cons (pe_cl c_Ltake hr (by decide) (by rfl) (pa_cons (pv 1) (pa_cons pe_int pa_nil))) pa_nil)) (pg_name (i := 6) sc_law.nd rfl (.inl rfl))
        (pss_cons (ps_set (i := 7) sc_law.nd rfl (.inl rfl) (pe_cl c_Ldeed hr (by decide) (by rfl) (pa_cons (pv 1) (pa_cons (pv 4) (pa_cons (pe_ix ix_list (pv 2) (pe_un un_neg pe_int) (fun _ _ => rfl)) pa_nil)))))
      (pss_cons (ps_if (pt_cmpR op_isN (pv 7) pe_non (nomark _))
        (pss_one (ps_ret pe_bl))
        pss_nil)
      (pss_nok (pss_cons (ps_expr (pe_bm PySem.F.plainAttrs_list PySem.F.slot_list_append PySem.F.type_list_append mt_append (pv 2) (pa_cons (pv 7) pa_nil)))
      (pss_one (ps_if (pt_not (pt_val (pe_cl c_Lalike hr (by decide) (by rfl) (pa_cons (pe_cl c_listing hr (by decide) (by rfl) (pa_cons (pe_mt0 c_Reel_show hr (by decide) k_Reel.oc.cl (pv 4)) (pa_cons (pv 3) pa_nil))) (pa_cons (pe_cl c_Llisting hr (by decide) (by rfl) (pa_cons (pv 7) (pa_cons (pv 3) pa_nil))) pa_nil)))))
        (pss_one (ps_ret pe_bl))
        pss_nil)))))))
      (pss_cons (ps_while PassesOwn.never (pt_cmpR op_gt (pe_callB call_len_seq (by rfl) T.m_len (by decide +kernel) (pa_cons (pv 2) pa_nil)) pe_int (nomark _))
        (pss_cons (ps_expr (pe_mt0N c_Reel_back hr (by decide) k_Reel.oc.cl (pv 4)))
      (pss_nok (pss_cons (ps_expr (pe_bm0 PySem.F.plainAttrs_list PySem.F.slot_list_pop PySem.F.type_list_pop mt_pop (pv 2)))
      (pss_one (ps_if (pt_not (pt_val (pe_cl c_Lalike hr (by decide) (by rfl) (pa_cons (pe_cl c_listing hr (by decide) (by rfl) (pa_cons (pe_mt0 c_Reel_show hr (by decide) k_Reel.oc.cl (pv 4)) (pa_cons (pv 3) pa_nil))) (pa_cons (pe_cl c_Llisting hr (by decide) (by rfl) (pa_cons (pe_ix ix_list (pv 2) (pe_un un_neg pe_int) (fun _ _ => rfl)) (pa_cons (pv 3) pa_nil))) pa_nil)))))
        (pss_one (ps_ret pe_bl))
        pss_nil))))))
      (pss_one (ps_ret (pe_and (pe_cl c_Lalike hr (by decide) (by rfl) (pa_cons (pe_cl c_listing hr (by decide) (by rfl) (pa_cons (pe_mt0 c_Reel_show hr (by decide) k_Reel.oc.cl (pv 4)) (pa_cons (pv 3) pa_nil))) (pa_cons (pv 5) pa_nil))) (pe_one (pe_cl c_Lalike hr (by decide) (by rfl) (pa_cons (pv 5) (pa_cons (pe_cl c_Llisting hr (by decide) (by rfl) (pa_cons (pe_ix ix_list (pv 2) pe_int (fun _ _ => rfl)) (pa_cons (pv 3) pa_nil))) pa_nil)))))))))))))), ?_⟩
    refine ⟨_, rfl, a, ns, rfl, hS, fun H1 b l s1 nb nl B1 => ?_⟩
    have tab1 := tab.ext s1
    refine ⟨_, rfl, b, l, rfl, B1, fun H2 p0 ys xs s2 B2 np0 hp0 da hl ok80 fs => ?_⟩
    have tab2 := tabS_draw tab1 B1 s2
    refine ⟨(show 1 ≤ sizeLine by decide), fun pr npr => ?_⟩
    have sr := Same.new (o := .lst [.ref p0]) npr
    have hr3 : R.hid b l (upd H2 pr (.lst [.ref p0])) pr = some (.lst [.ref p0]) := hid_at3 B2 npr
    have B3 := B2.mono sr
    have tab3 := tab2.ext sr
    have n0r : p0 ≠ pr := fun z => by rw [z] at hp0; rw [hid_same _ _ hp0] at npr; cases npr
    have sr' : Same (R.hid b l H2) (R.hid b l (upd H2 pr (.lst [.ref p0]))) := Same.hid sr
    have h03 := sr' _ _ hp0
    have da3 := dpa_mono sr' _ _ (dpa_hid B2.lb B2.ll _ _ (tupA_dS _) da)
    generalize upd H2 pr (.lst [.ref p0]) = H3 at hr3 h03 da3 B3 tab3 ⊢
    clear sr sr' tab2 tab1 s2 B2 hp0 np0 da npr s1 B1
    -- cues
    refine ⟨_, rfl, b, l, rfl, B3, fun H4 pc yc cs s4 B4 npc hpc dcs okcs => ?_⟩
    have tab4 := tabS_draw tab3 B3 s4
    have hr4 := s4 _ _ hr3
    have h04 := s4 _ _ h03
    have da4 := dpa_mono s4 _ _ da3
    have oke : ∀ c ∈ cs, CueOk c := fun c hc => (okcs.each c hc).1
    clear tab3 hr3 h03 da3 s4 B3
    -- the reel
    refine ⟨_, rfl, _, _, _, _, rfl, rfl, .inl (.inl (hid_same _ _ hr4)), atI_nat (j := 0) rfl, fun p dx np ndx nex => ?_⟩
    have sN : Same H4 (upd (upd H4 dx (.own p)) p (.ins C dx [])) := fun c o e => by
      rw [upd_ne (ne_of_none e np), upd_ne (ne_of_none e ndx)]
      exact e
    have h0' : H4 p0 = some (.lst ys) := hid_same _ _ h04
    have da' : DpAll K H4 ys (xs.map dS) := dpa_mono hid_same _ _ da4
    refine ⟨p, dx, _, xs, rfl, upd_same, .lst (.inl (.inl (sN _ _ h0'))) (dpa_mono sN _ _ da'), by omega, fun H5 pc5 pe pu yc5 old nc ne nu neu nce ncu hp5 hc5 he5 hu5 dc5 => ⟨rfl, ?_⟩⟩
    have s5 : Same H4 H5 := fun c o e => old c o (sN _ _ e) (ne_of_none e np)
    have w5 := Lr.make (C := C) (K := K) B4 np s5 (sN.free nc) (sN.free ne) (sN.free nu) (fun z => by rw [z, upd_same] at nc; cases nc) neu nce ncu hp5 hc5 he5 hu5 dc5
    have nin : ∀ x y, R.hid b l H4 x = some y → x ∉ [p, pe, pu, b, l] := by
      intro x y hx hin
      have hx' := hid_same _ _ hx
      have n12 : x ≠ b ∧ x ≠ l := by
        unfold R.hid at hx
        split at hx
        · cases hx
        · rename_i z
          exact ⟨fun y => z (.inl y), fun y => z (.inr y)⟩
      simp only [List.mem_cons, List.not_mem_nil, or_false] at hin
      rcases hin with z | z | z | z | z
      · exact ne_of_none hx' np z
      · exact ne_of_none (sN _ _ hx') ne z
      · exact ne_of_none (sN _ _ hx') nu z
      · exact n12.1 z
      · exact n12.2 z
    have sC : Same (R.hidL [b, l, pc] H4) (R.hidL [p, pe, pu, b, l] H5) := fun x y hx => by
      obtain ⟨z1, z2⟩ := hidL_ne hx
      refine hidL_at (nin x y ?_) (s5 _ _ z2)
      unfold R.hid
      rw [if_neg]
      · exact z2
      · rintro (z | z)
        · exact z1 (by rw [z]; simp)
        · exact z1 (by rw [z]; simp)
    have j5 : J13 K C P0 H5 [p, pe, pu, b, l] b l p pe pu pr [(V.ref pc, dCs cs)] [] xs [] :=
      ⟨w5, tab4.ext s5, by simp, nin _ _ hr4, ⟨[.ref p0], s5 _ _ (hid_same _ _ hr4), .cons ⟨p0, ys, rfl, hidL_at (nin _ _ h04) (s5 _ _ h0'), dpa_hidL w5.r.nt _ _ (tupA_dS _) (dpa_mono s5 _ _ da'), n0r⟩ .nil⟩,
        (fun q hq => by
          rw [List.mem_singleton.mp hq]
          exact ⟨okD_dCs cs, .lst (.inl (.inl (hidL_at (nin _ _ hpc) (s5 _ _ (hid_same _ _ hpc))))) (dpa_mono sC _ _ dcs)⟩),
        (fun j x hj => by
          match j, hj with
          | 0, hj =>
            rw [← Option.some.inj (show some xs = some x from hj)]
            exact Sd.start fs hl
          | j + 1, hj => exact absurd (show (none : Option (List St3)) = some x from hj) (by simp)), Nat.zero_le _, Nat.zero_le _⟩
    generalize [p, pe, pu, b, l] = S at j5
    clear sC w5 nin s5 sN old nc ne nu neu nce ncu hp5 hc5 he5 hu5 dc5 da' h0' da4 h04 hr4 B4 tab4 np ndx nex dcs hpc npc n0r
    have lw : ∀ (xs : List St3) (m : List Rw), m.Perm (rowsM cs xs) → (rowsM cs xs).length ≤ 900 → szOk (dRws m) = true := fun xs m pm ln => sz_dRws m (fun r hr => by
      obtain ⟨c, hc, u, hu, rfl⟩ := rows_mem (pm.mem_iff.mp hr)
      have h1 := wordsIn_le c.2.2.2 u.1 u.2.1
      have h2 := (oke c hc).wn
      show (wordsIn c.2.2.2 u.1 u.2.1).length ≤ 1000
      omega) (by
      have h1 := pm.length_eq
      omega)
    -- listing(reel.show(), cues)
    have told : ∀ (σ : L2.St) (Hx : Hp) (ds : List (V × PyData)) (xs : List St3) (pre und : List (List St3)), σ[4]? = some (some (.ref p)) → σ[3]? = some (some (.ref pc)) → J13 K C P0 Hx S b l p pe pu pr ds pre xs und → (V.ref pc, dCs cs) ∈ ds → ∀ D : VK,
        (∀ Hb pb (m : List Rw), LamX.ExtN Hx Hb → J13 K C P0 Hb S b l p pe pu pr ds pre xs und → Dp K (R.hidL S Hb) (.ref pb) (dRws m) → m.Perm (rowsM cs xs) → m.Pairwise (fun a b => leM a b = true) → D (.ref pb) Hb) →
        tCall (spListing K P0) [] E0 (tCons (tMeth C "show" (spRShow K C) [] E0 (tVar 4) tNil) (tCons (tVar 3) tNil)) σ Hx D := by
      intro σ Hx ds xs pre und e4 e3 h hc D hD
      obtain ⟨dx, vc, h1, h2⟩ := h.lr.r.ob
      refine ⟨_, e4, p, dx, _, rfl, h1, rF_no _ _ _ (by decide +kernel) (by decide +kernel) (by decide +kernel), S, p, pe, pu, _, _, _, rfl, h.lr.r, fun Ha ra ya sa na ha da => ?_⟩
      have ja := h.mono sa
      have sdx := h.sdx
      have hi := h.len
      have lx := sdx.norm.len
      obtain ⟨⟨D1, n1, rok⟩, _⟩ := rows13 sdx.norm hi okcs
      refine ⟨_, e3, _, _, normM xs, cs, 2240, D1, n1, rfl, .lst (.inl (.inl ha)) da, dp_mono hidL_same _ _ (ja.dat _ hc).2, oke, sdx.norm.ok (by omega), by decide, Nat.le_refl _, by omega, rok, ja.tb, fun Hb pb yb mb eb tb npb hpb ab pmb psb => ?_⟩
      rw [rowsM_norm sdx.st0] at pmb
      have jb := ja.extN eb tb
      have li := ja.lr.li ja.hS
      exact hD Hb pb mb ((LamX.ExtN.of sa).trans eb) jb (.lst (.inl (.inl (hidL_at (new_notin li npb) hpb))) (rws_hidL li jb.lr.r.nt ab)) pmb psb
    -- _law_listing(a show of the row, cues)
    have due : ∀ (σ : L2.St) (Hx : Hp) (te : TE) (v : V) (ds : List (V × PyData)) (x : List St3) (j : Nat) (xs : List St3) (pre und : List (List St3)), σ[3]? = some (some (.ref pc)) → J13 K C P0 Hx S b l p pe pu pr ds pre xs und → (V.ref pc, dCs cs) ∈ ds → Sd j x → j ≤ 8 → Dp K (R.hidL S Hx) v (dSh x) → (∀ Q : VK, Q v Hx → te σ Hx Q) → ∀ D : VK,
        (∀ Hb pb (m : List Rw), Same Hx Hb → J13 K C P0 Hb S b l p pe pu pr ds pre xs und → Dp K Hb (.ref pb) (dRws m) → m.Perm (rowsM cs x) → m.Pairwise (fun a b => leM a b = true) → D (.ref pb) Hb) →
        tCall (spLListing K) [] E0 (tCons te (tCons (tVar 3) tNil)) σ Hx D := by
      intro σ Hx te v ds x j xs pre und e3 h hc sdx hj dv hte D hD
      have lx := sdx.len
      obtain ⟨⟨D1, n1, rok⟩, rsz⟩ := rows13 sdx hj okcs
      refine hte _ ⟨_, e3, _, _, x, cs, 2240, rfl, dp_mono hidL_same _ _ dv, dp_mono hidL_same _ _ (h.dat _ hc).2, oke, sdx.ok (by omega), by decide, Nat.le_refl _, by omega, rsz, rok.len, fun Hb pb yb mb sb npb hpb db pmb psb => ?_⟩
      exact hD Hb pb mb sb (h.mono sb) (.lst (.inl (.inl hpb)) db) pmb psb
    -- first
    refine told _ _ _ xs [] [] rfl rfl j5 (by simp) _ fun H6 pf m0 e6 j6 d6 pm0 ps0 => ?_
    have j6 := j6.more (q := (.ref pf, dRws m0)) (okD_dRws m0) d6
    have hm1 : (V.ref pf, dRws m0) ∈ [(V.ref pf, dRws m0), (V.ref pc, dCs cs)] := by simp
    have hm2 : (V.ref pc, dCs cs) ∈ [(V.ref pf, dRws m0), (V.ref pc, dCs cs)] := by simp
    generalize [(V.ref pf, dRws m0), (V.ref pc, dCs cs)] = ds at j6 hm1 hm2
    clear j5 e6 d6
    refine ⟨_, rfl, b, l, _, rfl, j6.lr.bx, by decide, by decide, fun H7 r7 s7 B7 a7 b7 => ?_⟩
    have j7 := j6.draw s7 B7
    clear s7 B7 j6
    refine ⟨r7, rfl, by omega, by omega, for_range (lo := 0) (n := r7.toNat) (fun i σ Hx => ∃ (pre : List (List St3)) (x : List St3) (c6 c7 : Option V), σ = [some (.ref a), some (.ref b), some (.ref pr), some (.ref pc), some (.ref p), some (.ref pf), c6, c7] ∧ J13 K C P0 Hx S b l p pe pu pr ds pre x [] ∧ pre.length = i ∧ (pre ++ [x])[0]? = some xs) ⟨[], xs, none, none, rfl, j7, rfl, rfl⟩ (fun i σ Hx hi h => ?_) (fun σ Hx h => ?_)⟩
    · clear j7
      obtain ⟨pre, x, c6, c7, rfl, j, ei, e0⟩ := h
      have hi7 : pre.length ≤ 7 := by omega
      obtain ⟨rs, r0, pa, ya, g1, g2, g3, g4⟩ := j.last
      refine ⟨_, rfl, _, rfl, _, rfl, _, rfl, _, _, _, _, rfl, rfl, .inl (.inl g1), atI_last _ _, S, b, l, p, pe, pu, pa, ya, x, _, _, pre.length, rfl, j.lr, g2, g3, j.sdx, by omega, by rw [List.length_map]; omega, fun Ha p1 y1 x1 wa ta q1 q2 sd' => ?_⟩
      refine ⟨_, rfl, rfl, _, rfl, iteN rfl (fun nk => ?_)⟩
      obtain ⟨rs1, hr1, lr1, jn, dn⟩ := j.app wa ta q1 q2 sd' nk hi7
      refine ⟨_, rfl, .inl ⟨rfl, _, .inl (.inl hr1)⟩, _, rfl, pr, rs1, _, rfl, rfl, hr1, small1000 (by omega), ?_⟩
      generalize upd Ha pr (.lst (rs1 ++ [.ref p1])) = Hn at jn dn ⊢
      refine told _ _ _ x1 (pre ++ [x]) [] rfl rfl jn hm2 _ fun Hb pb mb eb jb db pmb psb => ?_
      have dnb := dp_extN (extN_hidL (S := S) eb) _ _ dn
      have ln : (pre ++ [x]).length ≤ 8 := jn.len
      refine due _ _ (tVar 7) _ _ x1 (pre ++ [x]).length x1 (pre ++ [x]) [] rfl jb hm2 jn.sdx ln dnb (fun Q h => ⟨_, rfl, h⟩) _ fun Hc pd md sc jc dd pmd psd => ?_
      obtain ⟨⟨D1, n1, rok⟩, _⟩ := rows13 jn.sdx ln okcs
      obtain rfl := rows_one (rows_dis okcs jn.sdx.st0) pmb psb pmd psd
      refine ⟨_, _, dRws mb, rfl, dp_mono sc _ _ (dp_mono hidL_same _ _ db), dd, dep_dRws _, lw _ _ pmb rok.len, _, rfl, iteN rfl ?_⟩
      refine ⟨pre ++ [x], x1, _, _, rfl, jc, by rw [List.length_append, ei]; rfl, ?_⟩
      rw [List.getElem?_append_left (by rw [List.length_append]; show 0 < _ + 1; omega)]
      exact e0
    · clear j7
      obtain ⟨pre, x, c6, c7, rfl, j, ei, e0⟩ := h
      have hp8 : pre.length ≤ 8 := by omega
      refine while_by (fun σ Hx => ∃ (pre : List (List St3)) (x : List St3) (und : List (List St3)) (c6 c7 : Option V), σ = [some (.ref a), some (.ref b), some (.ref pr), some (.ref pc), some (.ref p), some (.ref pf), c6, c7] ∧ J13 K C P0 Hx S b l p pe pu pr ds pre x und ∧ und.length + pre.length ≤ 8 ∧ (pre ++ [x])[0]? = some xs) (fun σ Hx => match Hx pr with | some (.lst rs) => rs.length | _ => 0) ⟨pre, x, [], c6, c7, rfl, j, by show 0 + pre.length ≤ 8; omega, e0⟩ (fun σ Hx h => ?_) (fun σ Hx Q1 Q2 h12 h => ?_)
      · clear j e0 ei hp8
        obtain ⟨pre, x, und, c6, c7, rfl, j, hu, e0⟩ := h
        obtain ⟨rs, hrow, hrows⟩ := j.row
        have lrs : rs.length = pre.length + 1 := by rw [hrows.len, List.length_append]; rfl
        refine ⟨_, rfl, pr, rs, rfl, .inl (.inl (.inl hrow)), _, _, rfl, rfl, _, rfl, ite2 (fun z => ?_) (fun z => ?_)⟩
        · have z : (1 : Int) < (rs.length : Int) := of_decide_eq_true z
          have hne : pre ≠ [] := fun y => by
            rw [y] at lrs
            have lrs : rs.length = 0 + 1 := lrs
            omega
          obtain ⟨dx, vc, h1, _⟩ := j.lr.r.ob
          refine ⟨_, rfl, p, dx, _, rfl, h1, rF_no _ _ _ (by decide +kernel) (by decide +kernel) (by decide +kernel), S, p, pe, pu, _, _, _, rfl, j.lr.r, by omega, fun y => absurd (List.map_eq_nil_iff.mp y) hne, fun pre2 x2 e2 Ha r2 k2 nk => ?_⟩
          obtain ⟨pre', x', rs', v, rfl, hr', jn⟩ := j.back e2 r2 k2 nk (by omega)
          refine ⟨_, rfl, .inl ⟨rfl, _, .inl (.inl hr')⟩, pr, rs' ++ [v], v, rfl, rfl, hr', ?_, ?_⟩
          · rw [List.length_append]
            show (rs' ++ [v])[rs'.length + 1 - 1]? = _
            rw [Nat.add_sub_cancel]
            simp
          rw [List.dropLast_concat]
          generalize upd Ha pr (.lst rs') = Hn at jn ⊢
          rw [List.length_append] at hu lrs
          refine told _ _ _ x' pre' _ rfl rfl jn hm2 _ fun Hb pb mb eb jb db pmb psb => ?_
          obtain ⟨rs3, r0, pa, ya, g1, g2, g3, g4⟩ := jb.last
          refine due _ _ _ (.ref pa) _ x' pre'.length x' pre' _ rfl jb hm2 jb.sdx jb.len (.lst (.inl (.inl g2)) g3) (fun Q h => ⟨_, rfl, _, rfl, _, _, _, _, rfl, rfl, .inl (.inl g1), atI_last _ _, h⟩) _ fun Hc pd md sc jc dd pmd psd => ?_
          obtain ⟨⟨D1, n1, rok⟩, _⟩ := rows13 jb.sdx jb.len okcs
          obtain rfl := rows_one (rows_dis okcs jb.sdx.st0) pmb psb pmd psd
          refine ⟨_, _, dRws mb, rfl, dp_mono sc _ _ (dp_mono hidL_same _ _ db), dd, dep_dRws _, lw _ _ pmb rok.len, _, rfl, iteN rfl ?_⟩
          refine ⟨⟨pre', x', _, _, _, rfl, jc, ?_, ?_⟩, ?_⟩
          · rw [List.length_append]
            have hu : und.length + (pre'.length + 1) ≤ 8 := hu
            show und.length + 1 + pre'.length ≤ 8
            omega
          · rw [List.getElem?_append_left (by rw [List.length_append]; show 0 < _ + 1; omega)] at e0
            exact e0
          · obtain ⟨rs4, hc4, hc5⟩ := jc.row
            have l4 : rs4.length = pre'.length + 1 := by rw [hc5.len, List.length_append]; rfl
            rw [hc4, hrow]
            show rs4.length < rs.length
            have lrs : rs.length = pre'.length + 1 + 1 := lrs
            omega
        · have z : ¬ (1 : Int) < (rs.length : Int) := fun y => z (decide_eq_true y)
          have hpe : pre = [] := List.length_eq_zero_iff.mp (by omega)
          subst hpe
          obtain rfl : x = xs := Option.some.inj (show some x = some xs from e0)
          refine told _ _ _ x [] _ rfl rfl j hm2 _ fun Hb pb mb eb jb db pmb psb => ?_
          obtain ⟨⟨D1, n1, rok⟩, _⟩ := rows13 jb.sdx jb.len okcs
          obtain rfl := rows_one (rows_dis okcs jb.sdx.st0) pmb psb pm0 ps0
          refine ⟨_, rfl, _, _, dRws mb, rfl, dp_mono hidL_same _ _ db, dp_mono hidL_same _ _ (jb.dat _ hm1).2, dep_dRws _, lw _ _ pmb rok.len, ?_⟩
          refine ⟨_, rfl, iteY rfl ?_⟩
          obtain ⟨rsb, g1, g2⟩ := jb.row
          obtain ⟨y, hy⟩ : ∃ y, rsb[0]? = some y := ⟨_, List.getElem?_eq_getElem (by rw [g2.len]; show 0 < 1; decide)⟩
          obtain ⟨x0, hx0, pa, ya, rfl, g3, g4, _⟩ := g2.at hy
          obtain rfl : x = x0 := Option.some.inj (show some x = some x0 from hx0)
          refine ⟨_, rfl, ?_⟩
          refine due _ _ _ (.ref pa) _ x 0 x [] _ rfl jb hm2 jb.sdx (by decide) (.lst (.inl (.inl g3)) g4) (fun Q h => ⟨_, rfl, _, _, _, _, rfl, rfl, .inl (.inl g1), atI_nat (j := 0) hy, h⟩) _ fun Hc pd md sc jc dd pmd psd => ?_
          obtain rfl := rows_one (rows_dis okcs jb.sdx.st0) pmb psb pmd psd
          refine ⟨_, _, dRws mb, rfl, dp_mono hidL_same _ _ (jc.dat _ hm1).2, dd, dep_dRws _, lw _ _ pmb rok.len, ?_⟩
          exact q _
      · obtain ⟨v, e, p', ys', e1, sq, i', j', e2, e3, k, e4, h⟩ := h
        exact ⟨v, e, p', ys', e1, sq, i', j', e2, e3, k, e4, h12 _ _ h⟩
end
theorem txt_mk {K : PySem.W.Frag} {h : Heap} {mg : Str → Option Value} (X : K.In h) (G : h.Ns mainGlobals mg)
    {f0 : Addr} {od0 an0 : Option Addr} {sl0 : Array (Option Value)} {oc0 kV0 dc0 pm0 cd0 ct0 : Value}
    (a0 : PySem.W.nsIn K mainGlobals "common_divisor" = some (some (.ref f0))) (l0 : K.lookup f0 = some ⟨oc0, od0, .func (PySem.W.fnOf "common_divisor" "common_divisor" (defArgs s_common_divisor) (defBody s_common_divisor) (defScope s_common_divisor) .none kV0 dc0 pm0 an0 cd0 ct0), sl0⟩) (c0 : PySem.W.codeIn K cd0 "common_divisor" = true) (k0 : PySem.W.keepIn K (.ref f0) = true)
    {f1 : Addr} {od1 an1 : Option Addr} {sl1 : Array (Option Value)} {oc1 kV1 dc1 pm1 cd1 ct1 : Value}
    (a1 : PySem.W.nsIn K mainGlobals "made" = some (some (.ref f1))) (l1 : K.lookup f1 = some ⟨oc1, od1, .func (PySem.W.fnOf "made" "made" (defArgs s_made) (defBody s_made) (defScope s_made) .none kV1 dc1 pm1 an1 cd1 ct1), sl1⟩) (c1 : PySem.W.codeIn K cd1 "made" = true) (k1 : PySem.W.keepIn K (.ref f1) = true)
    {f2 : Addr} {od2 an2 : Option Addr} {sl2 : Array (Option Value)} {oc2 kV2 dc2 pm2 cd2 ct2 : Value}
    (a2 : PySem.W.nsIn K mainGlobals "added" = some (some (.ref f2))) (l2 : K.lookup f2 = some ⟨oc2, od2, .func (PySem.W.fnOf "added" "added" (defArgs s_added) (defBody s_added) (defScope s_added) .none kV2 dc2 pm2 an2 cd2 ct2), sl2⟩) (c2 : PySem.W.codeIn K cd2 "added" = true) (k2 : PySem.W.keepIn K (.ref f2) = true)
    {f3 : Addr} {od3 an3 : Option Addr} {sl3 : Array (Option Value)} {oc3 kV3 dc3 pm3 cd3 ct3 : Value}
    (a3 : PySem.W.nsIn K mainGlobals "less" = some (some (.ref f3))) (l3 : K.lookup f3 = some ⟨oc3, od3, .func (PySem.W.fnOf "less" "less" (defArgs s_less) (defBody s_less) (defScope s_less) .none kV3 dc3 pm3 an3 cd3 ct3), sl3⟩) (c3 : PySem.W.codeIn K cd3 "less" = true) (k3 : PySem.W.keepIn K (.ref f3) = true)
    {f4 : Addr} {od4 an4 : Option Addr} {sl4 : Array (Option Value)} {oc4 kV4 dc4 pm4 cd4 ct4 : Value}
    (a4 : PySem.W.nsIn K mainGlobals "timed" = some (some (.ref f4))) (l4 : K.lookup f4 = some ⟨oc4, od4, .func (PySem.W.fnOf "timed" "timed" (defArgs s_timed) (defBody s_timed) (defScope s_timed) .none kV4 dc4 pm4 an4 cd4 ct4), sl4⟩) (c4 : PySem.W.codeIn K cd4 "timed" = true) (k4 : PySem.W.keepIn K (.ref f4) = true)
    {f5 : Addr} {od5 an5 : Option Addr} {sl5 : Array (Option Value)} {oc5 kV5 dc5 pm5 cd5 ct5 : Value}
    (a5 : PySem.W.nsIn K mainGlobals "over" = some (some (.ref f5))) (l5 : K.lookup f5 = some ⟨oc5, od5, .func (PySem.W.fnOf "over" "over" (defArgs s_over) (defBody s_over) (defScope s_over) .none kV5 dc5 pm5 an5 cd5 ct5), sl5⟩) (c5 : PySem.W.codeIn K cd5 "over" = true) (k5 : PySem.W.keepIn K (.ref f5) = true)
    {f6 : Addr} {od6 an6 : Option Addr} {sl6 : Array (Option Value)} {oc6 kV6 dc6 pm6 cd6 ct6 : Value}
    (a6 : PySem.W.nsIn K mainGlobals "is_below" = some (some (.ref f6))) (l6 : K.lookup f6 = some ⟨oc6, od6, .func (PySem.W.fnOf "is_below" "is_below" (defArgs s_is_below) (defBody s_is_below) (defScope s_is_below) .none kV6 dc6 pm6 an6 cd6 ct6), sl6⟩) (c6 : PySem.W.codeIn K cd6 "is_below" = true) (k6 : PySem.W.keepIn K (.ref f6) = true)
    {f7 : Addr} {od7 an7 : Option Addr} {sl7 : Array (Option Value)} {oc7 kV7 dc7 pm7 cd7 ct7 : Value}
    (a7 : PySem.W.nsIn K mainGlobals "smaller" = some (some (.ref f7))) (l7 : K.lookup f7 = some ⟨oc7, od7, .func (PySem.W.fnOf "smaller" "smaller" (defArgs s_smaller) (defBody s_smaller) (defScope s_smaller) .none kV7 dc7 pm7 an7 cd7 ct7), sl7⟩) (c7 : PySem.W.codeIn K cd7 "smaller" = true) (k7 : PySem.W.keepIn K (.ref f7) = true)
    {f8 : Addr} {od8 an8 : Option Addr} {sl8 : Array (Option Value)} {oc8 kV8 dc8 pm8 cd8 ct8 : Value}
    (a8 : PySem.W.nsIn K mainGlobals "larger" = some (some (.ref f8))) (l8 : K.lookup f8 = some ⟨oc8, od8, .func (PySem.W.fnOf "larger" "larger" (defArgs s_larger) (defBody s_larger) (defScope s_larger) .none kV8 dc8 pm8 an8 cd8 ct8), sl8⟩) (c8 : PySem.W.codeIn K cd8 "larger" = true) (k8 : PySem.W.keepIn K (.ref f8) = true)
    {f9 : Addr} {od9 an9 : Option Addr} {sl9 : Array (Option Value)} {oc9 kV9 dc9 pm9 cd9 ct9 : Value}
    (a9 : PySem.W.nsIn K mainGlobals "common_bottom" = some (some (.ref f9))) (l9 : K.lookup f9 = some ⟨oc9, od9, .func (PySem.W.fnOf "common_bottom" "common_bottom" (defArgs s_common_bottom) (defBody s_common_bottom) (defScope s_common_bottom) .none kV9 dc9 pm9 an9 cd9 ct9), sl9⟩) (c9 : PySem.W.codeIn K cd9 "common_bottom" = true) (k9 : PySem.W.keepIn K (.ref f9) = true)
    {f10 : Addr} {od10 an10 : Option Addr} {sl10 : Array (Option Value)} {oc10 kV10 dc10 pm10 cd10 ct10 : Value}
    (a10 : PySem.W.nsIn K mainGlobals "scaled" = some (some (.ref f10))) (l10 : K.lookup f10 = some ⟨oc10, od10, .func (PySem.W.fnOf "scaled" "scaled" (defArgs s_scaled) (defBody s_scaled) (defScope s_scaled) .none kV10 dc10 pm10 an10 cd10 ct10), sl10⟩) (c10 : PySem.W.codeIn K cd10 "scaled" = true) (k10 : PySem.W.keepIn K (.ref f10) = true)
    {f11 : Addr} {od11 an11 : Option Addr} {sl11 : Array (Option Value)} {oc11 kV11 dc11 pm11 cd11 ct11 : Value}
    (a11 : PySem.W.nsIn K mainGlobals "lasting" = some (some (.ref f11))) (l11 : K.lookup f11 = some ⟨oc11, od11, .func (PySem.W.fnOf "lasting" "lasting" (defArgs s_lasting) (defBody s_lasting) (defScope s_lasting) .none kV11 dc11 pm11 an11 cd11 ct11), sl11⟩) (c11 : PySem.W.codeIn K cd11 "lasting" = true) (k11 : PySem.W.keepIn K (.ref f11) = true)
    {f12 : Addr} {od12 an12 : Option Addr} {sl12 : Array (Option Value)} {oc12 kV12 dc12 pm12 cd12 ct12 : Value}
    (a12 : PySem.W.nsIn K mainGlobals "timetable" = some (some (.ref f12))) (l12 : K.lookup f12 = some ⟨oc12, od12, .func (PySem.W.fnOf "timetable" "timetable" (defArgs s_timetable) (defBody s_timetable) (defScope s_timetable) .none kV12 dc12 pm12 an12 cd12 ct12), sl12⟩) (c12 : PySem.W.codeIn K cd12 "timetable" = true) (k12 : PySem.W.keepIn K (.ref f12) = true)
    {f13 : Addr} {od13 an13 : Option Addr} {sl13 : Array (Option Value)} {oc13 kV13 dc13 pm13 cd13 ct13 : Value}
    (a13 : PySem.W.nsIn K mainGlobals "length" = some (some (.ref f13))) (l13 : K.lookup f13 = some ⟨oc13, od13, .func (PySem.W.fnOf "length" "length" (defArgs s_length) (defBody s_length) (defScope s_length) .none kV13 dc13 pm13 an13 cd13 ct13), sl13⟩) (c13 : PySem.W.codeIn K cd13 "length" = true) (k13 : PySem.W.keepIn K (.ref f13) = true)
    {f14 : Addr} {od14 an14 : Option Addr} {sl14 : Array (Option Value)} {oc14 kV14 dc14 pm14 cd14 ct14 : Value}
    (a14 : PySem.W.nsIn K mainGlobals "normal" = some (some (.ref f14))) (l14 : K.lookup f14 = some ⟨oc14, od14, .func (PySem.W.fnOf "normal" "normal" (defArgs s_normal) (defBody s_normal) (defScope s_normal) .none kV14 dc14 pm14 an14 cd14 ct14), sl14⟩) (c14 : PySem.W.codeIn K cd14 "normal" = true) (k14 : PySem.W.keepIn K (.ref f14) = true)
    {f15 : Addr} {od15 an15 : Option Addr} {sl15 : Array (Option Value)} {oc15 kV15 dc15 pm15 cd15 ct15 : Value}
    (a15 : PySem.W.nsIn K mainGlobals "place_in" = some (some (.ref f15))) (l15 : K.lookup f15 = some ⟨oc15, od15, .func (PySem.W.fnOf "place_in" "place_in" (defArgs s_place_in) (defBody s_place_in) (defScope s_place_in) .none kV15 dc15 pm15 an15 cd15 ct15), sl15⟩) (c15 : PySem.W.codeIn K cd15 "place_in" = true) (k15 : PySem.W.keepIn K (.ref f15) = true)
    {f16 : Addr} {od16 an16 : Option Addr} {sl16 : Array (Option Value)} {oc16 kV16 dc16 pm16 cd16 ct16 : Value}
    (a16 : PySem.W.nsIn K mainGlobals "taken" = some (some (.ref f16))) (l16 : K.lookup f16 = some ⟨oc16, od16, .func (PySem.W.fnOf "taken" "taken" (defArgs s_taken) (defBody s_taken) (defScope s_taken) .none kV16 dc16 pm16 an16 cd16 ct16), sl16⟩) (c16 : PySem.W.codeIn K cd16 "taken" = true) (k16 : PySem.W.keepIn K (.ref f16) = true)
    {f17 : Addr} {od17 an17 : Option Addr} {sl17 : Array (Option Value)} {oc17 kV17 dc17 pm17 cd17 ct17 : Value}
    (a17 : PySem.W.nsIn K mainGlobals "piece" = some (some (.ref f17))) (l17 : K.lookup f17 = some ⟨oc17, od17, .func (PySem.W.fnOf "piece" "piece" (defArgs s_piece) (defBody s_piece) (defScope s_piece) .none kV17 dc17 pm17 an17 cd17 ct17), sl17⟩) (c17 : PySem.W.codeIn K cd17 "piece" = true) (k17 : PySem.W.keepIn K (.ref f17) = true)
    {f18 : Addr} {od18 an18 : Option Addr} {sl18 : Array (Option Value)} {oc18 kV18 dc18 pm18 cd18 ct18 : Value}
    (a18 : PySem.W.nsIn K mainGlobals "parts_in" = some (some (.ref f18))) (l18 : K.lookup f18 = some ⟨oc18, od18, .func (PySem.W.fnOf "parts_in" "parts_in" (defArgs s_parts_in) (defBody s_parts_in) (defScope s_parts_in) .none kV18 dc18 pm18 an18 cd18 ct18), sl18⟩) (c18 : PySem.W.codeIn K cd18 "parts_in" = true) (k18 : PySem.W.keepIn K (.ref f18) = true)
    {f19 : Addr} {od19 an19 : Option Addr} {sl19 : Array (Option Value)} {oc19 kV19 dc19 pm19 cd19 ct19 : Value}
    (a19 : PySem.W.nsIn K mainGlobals "runs" = some (some (.ref f19))) (l19 : K.lookup f19 = some ⟨oc19, od19, .func (PySem.W.fnOf "runs" "runs" (defArgs s_runs) (defBody s_runs) (defScope s_runs) .none kV19 dc19 pm19 an19 cd19 ct19), sl19⟩) (c19 : PySem.W.codeIn K cd19 "runs" = true) (k19 : PySem.W.keepIn K (.ref f19) = true)
    {f20 : Addr} {od20 an20 : Option Addr} {sl20 : Array (Option Value)} {oc20 kV20 dc20 pm20 cd20 ct20 : Value}
    (a20 : PySem.W.nsIn K mainGlobals "time_of" = some (some (.ref f20))) (l20 : K.lookup f20 = some ⟨oc20, od20, .func (PySem.W.fnOf "time_of" "time_of" (defArgs s_time_of) (defBody s_time_of) (defScope s_time_of) .none kV20 dc20 pm20 an20 cd20 ct20), sl20⟩) (c20 : PySem.W.codeIn K cd20 "time_of" = true) (k20 : PySem.W.keepIn K (.ref f20) = true)
    {f21 : Addr} {od21 an21 : Option Addr} {sl21 : Array (Option Value)} {oc21 kV21 dc21 pm21 cd21 ct21 : Value}
    (a21 : PySem.W.nsIn K mainGlobals "goes_on" = some (some (.ref f21))) (l21 : K.lookup f21 = some ⟨oc21, od21, .func (PySem.W.fnOf "goes_on" "goes_on" (defArgs s_goes_on) (defBody s_goes_on) (defScope s_goes_on) .none kV21 dc21 pm21 an21 cd21 ct21), sl21⟩) (c21 : PySem.W.codeIn K cd21 "goes_on" = true) (k21 : PySem.W.keepIn K (.ref f21) = true)
    {f22 : Addr} {od22 an22 : Option Addr} {sl22 : Array (Option Value)} {oc22 kV22 dc22 pm22 cd22 ct22 : Value}
    (a22 : PySem.W.nsIn K mainGlobals "words_between" = some (some (.ref f22))) (l22 : K.lookup f22 = some ⟨oc22, od22, .func (PySem.W.fnOf "words_between" "words_between" (defArgs s_words_between) (defBody s_words_between) (defScope s_words_between) .none kV22 dc22 pm22 an22 cd22 ct22), sl22⟩) (c22 : PySem.W.codeIn K cd22 "words_between" = true) (k22 : PySem.W.keepIn K (.ref f22) = true)
    {f23 : Addr} {od23 an23 : Option Addr} {sl23 : Array (Option Value)} {oc23 kV23 dc23 pm23 cd23 ct23 : Value}
    (a23 : PySem.W.nsIn K mainGlobals "listing" = some (some (.ref f23))) (l23 : K.lookup f23 = some ⟨oc23, od23, .func (PySem.W.fnOf "listing" "listing" (defArgs s_listing) (defBody s_listing) (defScope s_listing) .none kV23 dc23 pm23 an23 cd23 ct23), sl23⟩) (c23 : PySem.W.codeIn K cd23 "listing" = true) (k23 : PySem.W.keepIn K (.ref f23) = true)
    {f24 : Addr} {od24 an24 : Option Addr} {sl24 : Array (Option Value)} {oc24 kV24 dc24 pm24 cd24 ct24 : Value}
    (a24 : PySem.W.nsIn K mainGlobals "in_order" = some (some (.ref f24))) (l24 : K.lookup f24 = some ⟨oc24, od24, .func (PySem.W.fnOf "in_order" "in_order" (defArgs s_in_order) (defBody s_in_order) (defScope s_in_order) .none kV24 dc24 pm24 an24 cd24 ct24), sl24⟩) (c24 : PySem.W.codeIn K cd24 "in_order" = true) (k24 : PySem.W.keepIn K (.ref f24) = true)
    {f25 : Addr} {od25 an25 : Option Addr} {sl25 : Array (Option Value)} {oc25 kV25 dc25 pm25 cd25 ct25 : Value}
    (a25 : PySem.W.nsIn K mainGlobals "_law_begun" = some (some (.ref f25))) (l25 : K.lookup f25 = some ⟨oc25, od25, .func (PySem.W.fnOf "_law_begun" "_law_begun" (defArgs s_Lbegun) (defBody s_Lbegun) (defScope s_Lbegun) .none kV25 dc25 pm25 an25 cd25 ct25), sl25⟩) (c25 : PySem.W.codeIn K cd25 "_law_begun" = true) (k25 : PySem.W.keepIn K (.ref f25) = true)
    {f26 : Addr} {od26 an26 : Option Addr} {sl26 : Array (Option Value)} {oc26 kV26 dc26 pm26 cd26 ct26 : Value}
    (a26 : PySem.W.nsIn K mainGlobals "_law_take" = some (some (.ref f26))) (l26 : K.lookup f26 = some ⟨oc26, od26, .func (PySem.W.fnOf "_law_take" "_law_take" (defArgs s_Ltake) (defBody s_Ltake) (defScope s_Ltake) .none kV26 dc26 pm26 an26 cd26 ct26), sl26⟩) (c26 : PySem.W.codeIn K cd26 "_law_take" = true) (k26 : PySem.W.keepIn K (.ref f26) = true)
    {f27 : Addr} {od27 an27 : Option Addr} {sl27 : Array (Option Value)} {oc27 kV27 dc27 pm27 cd27 ct27 : Value}
    (a27 : PySem.W.nsIn K mainGlobals "_law_alike" = some (some (.ref f27))) (l27 : K.lookup f27 = some ⟨oc27, od27, .func (PySem.W.fnOf "_law_alike" "_law_alike" (defArgs s_Lalike) (defBody s_Lalike) (defScope s_Lalike) .none kV27 dc27 pm27 an27 cd27 ct27), sl27⟩) (c27 : PySem.W.codeIn K cd27 "_law_alike" = true) (k27 : PySem.W.keepIn K (.ref f27) = true)
    {f28 : Addr} {od28 an28 : Option Addr} {sl28 : Array (Option Value)} {oc28 kV28 dc28 pm28 cd28 ct28 : Value}
    (a28 : PySem.W.nsIn K mainGlobals "_law_fr" = some (some (.ref f28))) (l28 : K.lookup f28 = some ⟨oc28, od28, .func (PySem.W.fnOf "_law_fr" "_law_fr" (defArgs s_Lfr) (defBody s_Lfr) (defScope s_Lfr) .none kV28 dc28 pm28 an28 cd28 ct28), sl28⟩) (c28 : PySem.W.codeIn K cd28 "_law_fr" = true) (k28 : PySem.W.keepIn K (.ref f28) = true)
    {f29 : Addr} {od29 an29 : Option Addr} {sl29 : Array (Option Value)} {oc29 kV29 dc29 pm29 cd29 ct29 : Value}
    (a29 : PySem.W.nsIn K mainGlobals "_law_sum" = some (some (.ref f29))) (l29 : K.lookup f29 = some ⟨oc29, od29, .func (PySem.W.fnOf "_law_sum" "_law_sum" (defArgs s_Lsum) (defBody s_Lsum) (defScope s_Lsum) .none kV29 dc29 pm29 an29 cd29 ct29), sl29⟩) (c29 : PySem.W.codeIn K cd29 "_law_sum" = true) (k29 : PySem.W.keepIn K (.ref f29) = true)
    {f30 : Addr} {od30 an30 : Option Addr} {sl30 : Array (Option Value)} {oc30 kV30 dc30 pm30 cd30 ct30 : Value}
    (a30 : PySem.W.nsIn K mainGlobals "_law_minus" = some (some (.ref f30))) (l30 : K.lookup f30 = some ⟨oc30, od30, .func (PySem.W.fnOf "_law_minus" "_law_minus" (defArgs s_Lminus) (defBody s_Lminus) (defScope s_Lminus) .none kV30 dc30 pm30 an30 cd30 ct30), sl30⟩) (c30 : PySem.W.codeIn K cd30 "_law_minus" = true) (k30 : PySem.W.keepIn K (.ref f30) = true)
    {f31 : Addr} {od31 an31 : Option Addr} {sl31 : Array (Option Value)} {oc31 kV31 dc31 pm31 cd31 ct31 : Value}
    (a31 : PySem.W.nsIn K mainGlobals "_law_times" = some (some (.ref f31))) (l31 : K.lookup f31 = some ⟨oc31, od31, .func (PySem.W.fnOf "_law_times" "_law_times" (defArgs s_Ltimes) (defBody s_Ltimes) (defScope s_Ltimes) .none kV31 dc31 pm31 an31 cd31 ct31), sl31⟩) (c31 : PySem.W.codeIn K cd31 "_law_times" = true) (k31 : PySem.W.keepIn K (.ref f31) = true)
    {f32 : Addr} {od32 an32 : Option Addr} {sl32 : Array (Option Value)} {oc32 kV32 dc32 pm32 cd32 ct32 : Value}
    (a32 : PySem.W.nsIn K mainGlobals "_law_by" = some (some (.ref f32))) (l32 : K.lookup f32 = some ⟨oc32, od32, .func (PySem.W.fnOf "_law_by" "_law_by" (defArgs s_Lby) (defBody s_Lby) (defScope s_Lby) .none kV32 dc32 pm32 an32 cd32 ct32), sl32⟩) (c32 : PySem.W.codeIn K cd32 "_law_by" = true) (k32 : PySem.W.keepIn K (.ref f32) = true)
    {f33 : Addr} {od33 an33 : Option Addr} {sl33 : Array (Option Value)} {oc33 kV33 dc33 pm33 cd33 ct33 : Value}
    (a33 : PySem.W.nsIn K mainGlobals "_law_low" = some (some (.ref f33))) (l33 : K.lookup f33 = some ⟨oc33, od33, .func (PySem.W.fnOf "_law_low" "_law_low" (defArgs s_Llow) (defBody s_Llow) (defScope s_Llow) .none kV33 dc33 pm33 an33 cd33 ct33), sl33⟩) (c33 : PySem.W.codeIn K cd33 "_law_low" = true) (k33 : PySem.W.keepIn K (.ref f33) = true)
    {f34 : Addr} {od34 an34 : Option Addr} {sl34 : Array (Option Value)} {oc34 kV34 dc34 pm34 cd34 ct34 : Value}
    (a34 : PySem.W.nsIn K mainGlobals "_law_time" = some (some (.ref f34))) (l34 : K.lookup f34 = some ⟨oc34, od34, .func (PySem.W.fnOf "_law_time" "_law_time" (defArgs s_Ltime) (defBody s_Ltime) (defScope s_Ltime) .none kV34 dc34 pm34 an34 cd34 ct34), sl34⟩) (c34 : PySem.W.codeIn K cd34 "_law_time" = true) (k34 : PySem.W.keepIn K (.ref f34) = true)
    {f35 : Addr} {od35 an35 : Option Addr} {sl35 : Array (Option Value)} {oc35 kV35 dc35 pm35 cd35 ct35 : Value}
    (a35 : PySem.W.nsIn K mainGlobals "_law_pace" = some (some (.ref f35))) (l35 : K.lookup f35 = some ⟨oc35, od35, .func (PySem.W.fnOf "_law_pace" "_law_pace" (defArgs s_Lpace) (defBody s_Lpace) (defScope s_Lpace) .none kV35 dc35 pm35 an35 cd35 ct35), sl35⟩) (c35 : PySem.W.codeIn K cd35 "_law_pace" = true) (k35 : PySem.W.keepIn K (.ref f35) = true)
    {f36 : Addr} {od36 an36 : Option Addr} {sl36 : Array (Option Value)} {oc36 kV36 dc36 pm36 cd36 ct36 : Value}
    (a36 : PySem.W.nsIn K mainGlobals "_law_show" = some (some (.ref f36))) (l36 : K.lookup f36 = some ⟨oc36, od36, .func (PySem.W.fnOf "_law_show" "_law_show" (defArgs s_Lshow) (defBody s_Lshow) (defScope s_Lshow) .none kV36 dc36 pm36 an36 cd36 ct36), sl36⟩) (c36 : PySem.W.codeIn K cd36 "_law_show" = true) (k36 : PySem.W.keepIn K (.ref f36) = true)
    {f37 : Addr} {od37 an37 : Option Addr} {sl37 : Array (Option Value)} {oc37 kV37 dc37 pm37 cd37 ct37 : Value}
    (a37 : PySem.W.nsIn K mainGlobals "_law_last" = some (some (.ref f37))) (l37 : K.lookup f37 = some ⟨oc37, od37, .func (PySem.W.fnOf "_law_last" "_law_last" (defArgs s_Llast) (defBody s_Llast) (defScope s_Llast) .none kV37 dc37 pm37 an37 cd37 ct37), sl37⟩) (c37 : PySem.W.codeIn K cd37 "_law_last" = true) (k37 : PySem.W.keepIn K (.ref f37) = true)
    {f38 : Addr} {od38 an38 : Option Addr} {sl38 : Array (Option Value)} {oc38 kV38 dc38 pm38 cd38 ct38 : Value}
    (a38 : PySem.W.nsIn K mainGlobals "_law_long" = some (some (.ref f38))) (l38 : K.lookup f38 = some ⟨oc38, od38, .func (PySem.W.fnOf "_law_long" "_law_long" (defArgs s_Llong) (defBody s_Llong) (defScope s_Llong) .none kV38 dc38 pm38 an38 cd38 ct38), sl38⟩) (c38 : PySem.W.codeIn K cd38 "_law_long" = true) (k38 : PySem.W.keepIn K (.ref f38) = true)
    {f39 : Addr} {od39 an39 : Option Addr} {sl39 : Array (Option Value)} {oc39 kV39 dc39 pm39 cd39 ct39 : Value}
    (a39 : PySem.W.nsIn K mainGlobals "_law_one" = some (some (.ref f39))) (l39 : K.lookup f39 = some ⟨oc39, od39, .func (PySem.W.fnOf "_law_one" "_law_one" (defArgs s_Lone) (defBody s_Lone) (defScope s_Lone) .none kV39 dc39 pm39 an39 cd39 ct39), sl39⟩) (c39 : PySem.W.codeIn K cd39 "_law_one" = true) (k39 : PySem.W.keepIn K (.ref f39) = true)
    {f40 : Addr} {od40 an40 : Option Addr} {sl40 : Array (Option Value)} {oc40 kV40 dc40 pm40 cd40 ct40 : Value}
    (a40 : PySem.W.nsIn K mainGlobals "_law_cut" = some (some (.ref f40))) (l40 : K.lookup f40 = some ⟨oc40, od40, .func (PySem.W.fnOf "_law_cut" "_law_cut" (defArgs s_Lcut) (defBody s_Lcut) (defScope s_Lcut) .none kV40 dc40 pm40 an40 cd40 ct40), sl40⟩) (c40 : PySem.W.codeIn K cd40 "_law_cut" = true) (k40 : PySem.W.keepIn K (.ref f40) = true)
    {f41 : Addr} {od41 an41 : Option Addr} {sl41 : Array (Option Value)} {oc41 kV41 dc41 pm41 cd41 ct41 : Value}
    (a41 : PySem.W.nsIn K mainGlobals "_law_within" = some (some (.ref f41))) (l41 : K.lookup f41 = some ⟨oc41, od41, .func (PySem.W.fnOf "_law_within" "_law_within" (defArgs s_Lwithin) (defBody s_Lwithin) (defScope s_Lwithin) .none kV41 dc41 pm41 an41 cd41 ct41), sl41⟩) (c41 : PySem.W.codeIn K cd41 "_law_within" = true) (k41 : PySem.W.keepIn K (.ref f41) = true)
    {f42 : Addr} {od42 an42 : Option Addr} {sl42 : Array (Option Value)} {oc42 kV42 dc42 pm42 cd42 ct42 : Value}
    (a42 : PySem.W.nsIn K mainGlobals "_law_cue" = some (some (.ref f42))) (l42 : K.lookup f42 = some ⟨oc42, od42, .func (PySem.W.fnOf "_law_cue" "_law_cue" (defArgs s_Lcue) (defBody s_Lcue) (defScope s_Lcue) .none kV42 dc42 pm42 an42 cd42 ct42), sl42⟩) (c42 : PySem.W.codeIn K cd42 "_law_cue" = true) (k42 : PySem.W.keepIn K (.ref f42) = true)
    {f43 : Addr} {od43 an43 : Option Addr} {sl43 : Array (Option Value)} {oc43 kV43 dc43 pm43 cd43 ct43 : Value}
    (a43 : PySem.W.nsIn K mainGlobals "_law_cues" = some (some (.ref f43))) (l43 : K.lookup f43 = some ⟨oc43, od43, .func (PySem.W.fnOf "_law_cues" "_law_cues" (defArgs s_Lcues) (defBody s_Lcues) (defScope s_Lcues) .none kV43 dc43 pm43 an43 cd43 ct43), sl43⟩) (c43 : PySem.W.codeIn K cd43 "_law_cues" = true) (k43 : PySem.W.keepIn K (.ref f43) = true)
    {f44 : Addr} {od44 an44 : Option Addr} {sl44 : Array (Option Value)} {oc44 kV44 dc44 pm44 cd44 ct44 : Value}
    (a44 : PySem.W.nsIn K mainGlobals "_law_parts" = some (some (.ref f44))) (l44 : K.lookup f44 = some ⟨oc44, od44, .func (PySem.W.fnOf "_law_parts" "_law_parts" (defArgs s_Lparts) (defBody s_Lparts) (defScope s_Lparts) .none kV44 dc44 pm44 an44 cd44 ct44), sl44⟩) (c44 : PySem.W.codeIn K cd44 "_law_parts" = true) (k44 : PySem.W.keepIn K (.ref f44) = true)
    {f45 : Addr} {od45 an45 : Option Addr} {sl45 : Array (Option Value)} {oc45 kV45 dc45 pm45 cd45 ct45 : Value}
    (a45 : PySem.W.nsIn K mainGlobals "_law_sooner" = some (some (.ref f45))) (l45 : K.lookup f45 = some ⟨oc45, od45, .func (PySem.W.fnOf "_law_sooner" "_law_sooner" (defArgs s_Lsooner) (defBody s_Lsooner) (defScope s_Lsooner) .none kV45 dc45 pm45 an45 cd45 ct45), sl45⟩) (c45 : PySem.W.codeIn K cd45 "_law_sooner" = true) (k45 : PySem.W.keepIn K (.ref f45) = true)
    {f46 : Addr} {od46 an46 : Option Addr} {sl46 : Array (Option Value)} {oc46 kV46 dc46 pm46 cd46 ct46 : Value}
    (a46 : PySem.W.nsIn K mainGlobals "_law_listing" = some (some (.ref f46))) (l46 : K.lookup f46 = some ⟨oc46, od46, .func (PySem.W.fnOf "_law_listing" "_law_listing" (defArgs s_Llisting) (defBody s_Llisting) (defScope s_Llisting) .none kV46 dc46 pm46 an46 cd46 ct46), sl46⟩) (c46 : PySem.W.codeIn K cd46 "_law_listing" = true) (k46 : PySem.W.keepIn K (.ref f46) = true)
    {f47 : Addr} {od47 an47 : Option Addr} {sl47 : Array (Option Value)} {oc47 kV47 dc47 pm47 cd47 ct47 : Value}
    (a47 : PySem.W.nsIn K mainGlobals "_law_deed" = some (some (.ref f47))) (l47 : K.lookup f47 = some ⟨oc47, od47, .func (PySem.W.fnOf "_law_deed" "_law_deed" (defArgs s_Ldeed) (defBody s_Ldeed) (defScope s_Ldeed) .none kV47 dc47 pm47 an47 cd47 ct47), sl47⟩) (c47 : PySem.W.codeIn K cd47 "_law_deed" = true) (k47 : PySem.W.keepIn K (.ref f47) = true)
    {f48 : Addr} {od48 an48 : Option Addr} {sl48 : Array (Option Value)} {oc48 kV48 dc48 pm48 cd48 ct48 : Value}
    (a48 : PySem.W.nsIn K mainGlobals "law" = some (some (.ref f48))) (l48 : K.lookup f48 = some ⟨oc48, od48, .func (PySem.W.fnOf "law" "law" (defArgs s_law) (defBody s_law) (defScope s_law) .none kV48 dc48 pm48 an48 cd48 ct48), sl48⟩) (c48 : PySem.W.codeIn K cd48 "law" = true) (k48 : PySem.W.keepIn K (.ref f48) = true)
    (z_abs : PySem.W.nsIn K mainGlobals "abs" = some none)
    (z_sorted : PySem.W.nsIn K mainGlobals "sorted" = some none)
    (z_list : PySem.W.nsIn K mainGlobals "list" = some none)
    (z_int : PySem.W.nsIn K mainGlobals "int" = some none)
    (z_len : PySem.W.nsIn K mainGlobals "len" = some none)
    (z_isinstance : PySem.W.nsIn K mainGlobals "isinstance" = some none)
    (z_bool : PySem.W.nsIn K mainGlobals "bool" = some none)
    (z_str : PySem.W.nsIn K mainGlobals "str" = some none)
    (z_tuple : PySem.W.nsIn K mainGlobals "tuple" = some none)
    (z_range : PySem.W.nsIn K mainGlobals "range" = some none)
    {C_OffReel : Addr} (ag_OffReel : PySem.W.nsIn K mainGlobals "OffReel" = some (some (.ref C_OffReel))) (ax_OffReel : PySem.W.excIn K C_OffReel [.type "ValueError", .type "Exception", .type "BaseException", .type "object"] "ValueError.__new__" = true) (ak_OffReel : PySem.W.keepIn K (.ref C_OffReel) = true) (ab_OffReel : PySem.W.subIn K (.ref C_OffReel) (.type "BaseException") = some true) (at_OffReel : PySem.W.typeIn K (.ref C_OffReel) = some (.type "type")) (ai_OffReel : PySem.W.isClsIn K C_OffReel = true) (as_OffReel : PySem.W.subIn K (.ref C_OffReel) (.ref C_OffReel) = some true)
    {C_NoDeed : Addr} (ag_NoDeed : PySem.W.nsIn K mainGlobals "NoDeed" = some (some (.ref C_NoDeed))) (ax_NoDeed : PySem.W.excIn K C_NoDeed [.type "ValueError", .type "Exception", .type "BaseException", .type "object"] "ValueError.__new__" = true) (ak_NoDeed : PySem.W.keepIn K (.ref C_NoDeed) = true) (ab_NoDeed : PySem.W.subIn K (.ref C_NoDeed) (.type "BaseException") = some true) (at_NoDeed : PySem.W.typeIn K (.ref C_NoDeed) = some (.type "type")) (ai_NoDeed : PySem.W.isClsIn K C_NoDeed = true) (as_NoDeed : PySem.W.subIn K (.ref C_NoDeed) (.ref C_NoDeed) = some true)
    {C_Reel : Addr} (ag_Reel : PySem.W.nsIn K mainGlobals "Reel" = some (some (.ref C_Reel))) (pg_Reel : PySem.W.plainGet K C_Reel Str.empty = true) (hd_Reel : PySem.W.hasDictIn K C_Reel = true) (po_Reel : PySem.W.plainOver K C_Reel = true) (sa_Reel : PySem.W.findIn K (.ref C_Reel) "__setattr__" = some (some (.builtin "object.__setattr__"))) (mk_Reel : PySem.W.makesIn K C_Reel = true) (kc_Reel : PySem.W.keepIn K (.ref C_Reel) = true)
    (n_Reel_current : PySem.W.findIn K (.ref C_Reel) "current" = some none)
    (n_Reel_earlier : PySem.W.findIn K (.ref C_Reel) "earlier" = some none)
    (n_Reel_undone : PySem.W.findIn K (.ref C_Reel) "undone" = some none)
    {fm0 : Addr} {odm0 anm0 : Option Addr} {slm0 : Array (Option Value)} {ocm0 kVm0 dcm0 pmm0 cdm0 ctm0 : Value}
    (am0 : PySem.W.findIn K (.ref C_Reel) "__init__" = some (some (.ref fm0))) (im0 : PySem.W.isFn K (.ref fm0) = true) (lm0 : K.lookup fm0 = some ⟨ocm0, odm0, .func (PySem.W.fnOf "__init__" "Reel.__init__" (defArgs s_Reel___init__) (defBody s_Reel___init__) (defScope s_Reel___init__) .none kVm0 dcm0 pmm0 anm0 cdm0 ctm0), slm0⟩) (cm0 : PySem.W.codeIn K cdm0 "Reel.__init__" = true) (km0 : PySem.W.keepIn K (.ref fm0) = true)
    {fm1 : Addr} {odm1 anm1 : Option Addr} {slm1 : Array (Option Value)} {ocm1 kVm1 dcm1 pmm1 cdm1 ctm1 : Value}
    (am1 : PySem.W.findIn K (.ref C_Reel) "show" = some (some (.ref fm1))) (im1 : PySem.W.isFn K (.ref fm1) = true) (lm1 : K.lookup fm1 = some ⟨ocm1, odm1, .func (PySem.W.fnOf "show" "Reel.show" (defArgs s_Reel_show) (defBody s_Reel_show) (defScope s_Reel_show) .none kVm1 dcm1 pmm1 anm1 cdm1 ctm1), slm1⟩) (cm1 : PySem.W.codeIn K cdm1 "Reel.show" = true) (km1 : PySem.W.keepIn K (.ref fm1) = true)
    {fm2 : Addr} {odm2 anm2 : Option Addr} {slm2 : Array (Option Value)} {ocm2 kVm2 dcm2 pmm2 cdm2 ctm2 : Value}
    (am2 : PySem.W.findIn K (.ref C_Reel) "out" = some (some (.ref fm2))) (im2 : PySem.W.isFn K (.ref fm2) = true) (lm2 : K.lookup fm2 = some ⟨ocm2, odm2, .func (PySem.W.fnOf "out" "Reel.out" (defArgs s_Reel_out) (defBody s_Reel_out) (defScope s_Reel_out) .none kVm2 dcm2 pmm2 anm2 cdm2 ctm2), slm2⟩) (cm2 : PySem.W.codeIn K cdm2 "Reel.out" = true) (km2 : PySem.W.keepIn K (.ref fm2) = true)
    {fm3 : Addr} {odm3 anm3 : Option Addr} {slm3 : Array (Option Value)} {ocm3 kVm3 dcm3 pmm3 cdm3 ctm3 : Value}
    (am3 : PySem.W.findIn K (.ref C_Reel) "into" = some (some (.ref fm3))) (im3 : PySem.W.isFn K (.ref fm3) = true) (lm3 : K.lookup fm3 = some ⟨ocm3, odm3, .func (PySem.W.fnOf "into" "Reel.into" (defArgs s_Reel_into) (defBody s_Reel_into) (defScope s_Reel_into) .none kVm3 dcm3 pmm3 anm3 cdm3 ctm3), slm3⟩) (cm3 : PySem.W.codeIn K cdm3 "Reel.into" = true) (km3 : PySem.W.keepIn K (.ref fm3) = true)
    {fm4 : Addr} {odm4 anm4 : Option Addr} {slm4 : Array (Option Value)} {ocm4 kVm4 dcm4 pmm4 cdm4 ctm4 : Value}
    (am4 : PySem.W.findIn K (.ref C_Reel) "faster" = some (some (.ref fm4))) (im4 : PySem.W.isFn K (.ref fm4) = true) (lm4 : K.lookup fm4 = some ⟨ocm4, odm4, .func (PySem.W.fnOf "faster" "Reel.faster" (defArgs s_Reel_faster) (defBody s_Reel_faster) (defScope s_Reel_faster) .none kVm4 dcm4 pmm4 anm4 cdm4 ctm4), slm4⟩) (cm4 : PySem.W.codeIn K cdm4 "Reel.faster" = true) (km4 : PySem.W.keepIn K (.ref fm4) = true)
    {fm5 : Addr} {odm5 anm5 : Option Addr} {slm5 : Array (Option Value)} {ocm5 kVm5 dcm5 pmm5 cdm5 ctm5 : Value}
    (am5 : PySem.W.findIn K (.ref C_Reel) "fill" = some (some (.ref fm5))) (im5 : PySem.W.isFn K (.ref fm5) = true) (lm5 : K.lookup fm5 = some ⟨ocm5, odm5, .func (PySem.W.fnOf "fill" "Reel.fill" (defArgs s_Reel_fill) (defBody s_Reel_fill) (defScope s_Reel_fill) .none kVm5 dcm5 pmm5 anm5 cdm5 ctm5), slm5⟩) (cm5 : PySem.W.codeIn K cdm5 "Reel.fill" = true) (km5 : PySem.W.keepIn K (.ref fm5) = true)
    {fm6 : Addr} {odm6 anm6 : Option Addr} {slm6 : Array (Option Value)} {ocm6 kVm6 dcm6 pmm6 cdm6 ctm6 : Value}
    (am6 : PySem.W.findIn K (.ref C_Reel) "back" = some (some (.ref fm6))) (im6 : PySem.W.isFn K (.ref fm6) = true) (lm6 : K.lookup fm6 = some ⟨ocm6, odm6, .func (PySem.W.fnOf "back" "Reel.back" (defArgs s_Reel_back) (defBody s_Reel_back) (defScope s_Reel_back) .none kVm6 dcm6 pmm6 anm6 cdm6 ctm6), slm6⟩) (cm6 : PySem.W.codeIn K cdm6 "Reel.back" = true) (km6 : PySem.W.keepIn K (.ref fm6) = true)
    {p_NOUGHT : Addr} {t1_NOUGHT t2_NOUGHT : Tok} {n_NOUGHT : Nat} {od_NOUGHT : Option Addr} {sl_NOUGHT : Array (Option Value)} (y_NOUGHT : PySem.W.nsIn K mainGlobals "NOUGHT" = some (some (.ref p_NOUGHT))) (w_NOUGHT : K.lookup p_NOUGHT = some ⟨.type "tuple", od_NOUGHT, .seq #[.int 0 t1_NOUGHT, .int 1 t2_NOUGHT] n_NOUGHT, sl_NOUGHT⟩) : Txt K mg := by
  constructor
  · exact ⟨_, _, fun_mk (st := s_common_divisor) l0 c0 k0, PySem.W.mg_of X G a0, (fun_mk (st := s_common_divisor) l0 c0 k0).binds (ps := ["one", "two"]) fun _ _ _ _ _ _ us hl => match us, hl with | [_, _], _ => rfl⟩
  · exact ⟨_, _, fun_mk (st := s_made) l1 c1 k1, PySem.W.mg_of X G a1, (fun_mk (st := s_made) l1 c1 k1).binds (ps := ["top", "bottom"]) fun _ _ _ _ _ _ us hl => match us, hl with | [_, _], _ => rfl⟩
  · exact ⟨_, _, fun_mk (st := s_added) l2 c2 k2, PySem.W.mg_of X G a2, (fun_mk (st := s_added) l2 c2 k2).binds (ps := ["one", "two"]) fun _ _ _ _ _ _ us hl => match us, hl with | [_, _], _ => rfl⟩
  · exact ⟨_, _, fun_mk (st := s_less) l3 c3 k3, PySem.W.mg_of X G a3, (fun_mk (st := s_less) l3 c3 k3).binds (ps := ["one", "two"]) fun _ _ _ _ _ _ us hl => match us, hl with | [_, _], _ => rfl⟩
  · exact ⟨_, _, fun_mk (st := s_timed) l4 c4 k4, PySem.W.mg_of X G a4, (fun_mk (st := s_timed) l4 c4 k4).binds (ps := ["one", "two"]) fun _ _ _ _ _ _ us hl => match us, hl with | [_, _], _ => rfl⟩
  · exact ⟨_, _, fun_mk (st := s_over) l5 c5 k5, PySem.W.mg_of X G a5, (fun_mk (st := s_over) l5 c5 k5).binds (ps := ["one", "two"]) fun _ _ _ _ _ _ us hl => match us, hl with | [_, _], _ => rfl⟩
  · exact ⟨_, _, fun_mk (st := s_is_below) l6 c6 k6, PySem.W.mg_of X G a6, (fun_mk (st := s_is_below) l6 c6 k6).binds (ps := ["one", "two"]) fun _ _ _ _ _ _ us hl => match us, hl with | [_, _], _ => rfl⟩
  · exact ⟨_, _, fun_mk (st := s_smaller) l7 c7 k7, PySem.W.mg_of X G a7, (fun_mk (st := s_smaller) l7 c7 k7).binds (ps := ["one", "two"]) fun _ _ _ _ _ _ us hl => match us, hl with | [_, _], _ => rfl⟩
  · exact ⟨_, _, fun_mk (st := s_larger) l8 c8 k8, PySem.W.mg_of X G a8, (fun_mk (st := s_larger) l8 c8 k8).binds (ps := ["one", "two"]) fun _ _ _ _ _ _ us hl => match us, hl with | [_, _], _ => rfl⟩
  · exact ⟨_, _, fun_mk (st := s_common_bottom) l9 c9 k9, PySem.W.mg_of X G a9, (fun_mk (st := s_common_bottom) l9 c9 k9).binds (ps := ["fractions"]) fun _ _ _ _ _ _ us hl => match us, hl with | [_], _ => rfl⟩
  · exact ⟨_, _, fun_mk (st := s_scaled) l10 c10 k10, PySem.W.mg_of X G a10, (fun_mk (st := s_scaled) l10 c10 k10).binds (ps := ["fraction", "bottom"]) fun _ _ _ _ _ _ us hl => match us, hl with | [_, _], _ => rfl⟩
  · exact ⟨_, _, fun_mk (st := s_lasting) l11 c11 k11, PySem.W.mg_of X G a11, (fun_mk (st := s_lasting) l11 c11 k11).binds (ps := ["stretch"]) fun _ _ _ _ _ _ us hl => match us, hl with | [_], _ => rfl⟩
  · exact ⟨_, _, fun_mk (st := s_timetable) l12 c12 k12, PySem.W.mg_of X G a12, (fun_mk (st := s_timetable) l12 c12 k12).binds (ps := ["show"]) fun _ _ _ _ _ _ us hl => match us, hl with | [_], _ => rfl⟩
  · exact ⟨_, _, fun_mk (st := s_length) l13 c13 k13, PySem.W.mg_of X G a13, (fun_mk (st := s_length) l13 c13 k13).binds (ps := ["show"]) fun _ _ _ _ _ _ us hl => match us, hl with | [_], _ => rfl⟩
  · exact ⟨_, _, fun_mk (st := s_normal) l14 c14 k14, PySem.W.mg_of X G a14, (fun_mk (st := s_normal) l14 c14 k14).binds (ps := ["show"]) fun _ _ _ _ _ _ us hl => match us, hl with | [_], _ => rfl⟩
  · exact ⟨_, _, fun_mk (st := s_place_in) l15 c15 k15, PySem.W.mg_of X G a15, (fun_mk (st := s_place_in) l15 c15 k15).binds (ps := ["stretch", "since"]) fun _ _ _ _ _ _ us hl => match us, hl with | [_, _], _ => rfl⟩
  · exact ⟨_, _, fun_mk (st := s_taken) l16 c16 k16, PySem.W.mg_of X G a16, (fun_mk (st := s_taken) l16 c16 k16).binds (ps := ["show", "begin", "end"]) fun _ _ _ _ _ _ us hl => match us, hl with | [_, _, _], _ => rfl⟩
  · exact ⟨_, _, fun_mk (st := s_piece) l17 c17 k17, PySem.W.mg_of X G a17, (fun_mk (st := s_piece) l17 c17 k17).binds (ps := ["stretch", "since", "until"]) fun _ _ _ _ _ _ us hl => match us, hl with | [_, _, _], _ => rfl⟩
  · exact ⟨_, _, fun_mk (st := s_parts_in) l18 c18 k18, PySem.W.mg_of X G a18, (fun_mk (st := s_parts_in) l18 c18 k18).binds (ps := ["table", "cue"]) fun _ _ _ _ _ _ us hl => match us, hl with | [_, _], _ => rfl⟩
  · exact ⟨_, _, fun_mk (st := s_runs) l19 c19 k19, PySem.W.mg_of X G a19, (fun_mk (st := s_runs) l19 c19 k19).binds (ps := ["table", "cue"]) fun _ _ _ _ _ _ us hl => match us, hl with | [_, _], _ => rfl⟩
  · exact ⟨_, _, fun_mk (st := s_time_of) l20 c20 k20, PySem.W.mg_of X G a20, (fun_mk (st := s_time_of) l20 c20 k20).binds (ps := ["place", "start", "stretch"]) fun _ _ _ _ _ _ us hl => match us, hl with | [_, _, _], _ => rfl⟩
  · exact ⟨_, _, fun_mk (st := s_goes_on) l21 c21 k21, PySem.W.mg_of X G a21, (fun_mk (st := s_goes_on) l21 c21 k21).binds (ps := ["one", "two"]) fun _ _ _ _ _ _ us hl => match us, hl with | [_, _], _ => rfl⟩
  · exact ⟨_, _, fun_mk (st := s_words_between) l22 c22 k22, PySem.W.mg_of X G a22, (fun_mk (st := s_words_between) l22 c22 k22).binds (ps := ["words", "first", "last"]) fun _ _ _ _ _ _ us hl => match us, hl with | [_, _, _], _ => rfl⟩
  · exact ⟨_, _, fun_mk (st := s_listing) l23 c23 k23, PySem.W.mg_of X G a23, (fun_mk (st := s_listing) l23 c23 k23).binds (ps := ["show", "cues"]) fun _ _ _ _ _ _ us hl => match us, hl with | [_, _], _ => rfl⟩
  · exact ⟨_, _, fun_mk (st := s_in_order) l24 c24 k24, PySem.W.mg_of X G a24, (fun_mk (st := s_in_order) l24 c24 k24).binds (ps := ["rows"]) fun _ _ _ _ _ _ us hl => match us, hl with | [_], _ => rfl⟩
  · exact ⟨_, _, fun_mk (st := s_Lbegun) l25 c25 k25, PySem.W.mg_of X G a25, (fun_mk (st := s_Lbegun) l25 c25 k25).binds (ps := ["_law_script"]) fun _ _ _ _ _ _ us hl => match us, hl with | [_], _ => rfl⟩
  · exact ⟨_, _, fun_mk (st := s_Ltake) l26 c26 k26, PySem.W.mg_of X G a26, (fun_mk (st := s_Ltake) l26 c26 k26).binds (ps := ["_law_box", "_law_many"]) fun _ _ _ _ _ _ us hl => match us, hl with | [_, _], _ => rfl⟩
  · exact ⟨_, _, fun_mk (st := s_Lalike) l27 c27 k27, PySem.W.mg_of X G a27, (fun_mk (st := s_Lalike) l27 c27 k27).binds (ps := ["_law_found", "_law_due"]) fun _ _ _ _ _ _ us hl => match us, hl with | [_, _], _ => rfl⟩
  · exact ⟨_, _, fun_mk (st := s_Lfr) l28 c28 k28, PySem.W.mg_of X G a28, (fun_mk (st := s_Lfr) l28 c28 k28).binds (ps := ["_law_top", "_law_bottom"]) fun _ _ _ _ _ _ us hl => match us, hl with | [_, _], _ => rfl⟩
  · exact ⟨_, _, fun_mk (st := s_Lsum) l29 c29 k29, PySem.W.mg_of X G a29, (fun_mk (st := s_Lsum) l29 c29 k29).binds (ps := ["_law_one_here", "_law_two"]) fun _ _ _ _ _ _ us hl => match us, hl with | [_, _], _ => rfl⟩
  · exact ⟨_, _, fun_mk (st := s_Lminus) l30 c30 k30, PySem.W.mg_of X G a30, (fun_mk (st := s_Lminus) l30 c30 k30).binds (ps := ["_law_one_here", "_law_two"]) fun _ _ _ _ _ _ us hl => match us, hl with | [_, _], _ => rfl⟩
  · exact ⟨_, _, fun_mk (st := s_Ltimes) l31 c31 k31, PySem.W.mg_of X G a31, (fun_mk (st := s_Ltimes) l31 c31 k31).binds (ps := ["_law_one_here", "_law_two"]) fun _ _ _ _ _ _ us hl => match us, hl with | [_, _], _ => rfl⟩
  · exact ⟨_, _, fun_mk (st := s_Lby) l32 c32 k32, PySem.W.mg_of X G a32, (fun_mk (st := s_Lby) l32 c32 k32).binds (ps := ["_law_one_here", "_law_two"]) fun _ _ _ _ _ _ us hl => match us, hl with | [_, _], _ => rfl⟩
  · exact ⟨_, _, fun_mk (st := s_Llow) l33 c33 k33, PySem.W.mg_of X G a33, (fun_mk (st := s_Llow) l33 c33 k33).binds (ps := ["_law_one_here", "_law_two"]) fun _ _ _ _ _ _ us hl => match us, hl with | [_, _], _ => rfl⟩
  · exact ⟨_, _, fun_mk (st := s_Ltime) l34 c34 k34, PySem.W.mg_of X G a34, (fun_mk (st := s_Ltime) l34 c34 k34).binds (ps := ["_law_box", "_law_most"]) fun _ _ _ _ _ _ us hl => match us, hl with | [_, _], _ => rfl⟩
  · exact ⟨_, _, fun_mk (st := s_Lpace) l35 c35 k35, PySem.W.mg_of X G a35, (fun_mk (st := s_Lpace) l35 c35 k35).binds (ps := ["_law_box"]) fun _ _ _ _ _ _ us hl => match us, hl with | [_], _ => rfl⟩
  · exact ⟨_, _, fun_mk (st := s_Lshow) l36 c36 k36, PySem.W.mg_of X G a36, (fun_mk (st := s_Lshow) l36 c36 k36).binds (ps := ["_law_box"]) fun _ _ _ _ _ _ us hl => match us, hl with | [_], _ => rfl⟩
  · exact ⟨_, _, fun_mk (st := s_Llast) l37 c37 k37, PySem.W.mg_of X G a37, (fun_mk (st := s_Llast) l37 c37 k37).binds (ps := ["_law_stretch"]) fun _ _ _ _ _ _ us hl => match us, hl with | [_], _ => rfl⟩
  · exact ⟨_, _, fun_mk (st := s_Llong) l38 c38 k38, PySem.W.mg_of X G a38, (fun_mk (st := s_Llong) l38 c38 k38).binds (ps := ["_law_show_here"]) fun _ _ _ _ _ _ us hl => match us, hl with | [_], _ => rfl⟩
  · exact ⟨_, _, fun_mk (st := s_Lone) l39 c39 k39, PySem.W.mg_of X G a39, (fun_mk (st := s_Lone) l39 c39 k39).binds (ps := ["_law_show_here"]) fun _ _ _ _ _ _ us hl => match us, hl with | [_], _ => rfl⟩
  · exact ⟨_, _, fun_mk (st := s_Lcut) l40 c40 k40, PySem.W.mg_of X G a40, (fun_mk (st := s_Lcut) l40 c40 k40).binds (ps := ["_law_show_here", "_law_begin", "_law_end"]) fun _ _ _ _ _ _ us hl => match us, hl with | [_, _, _], _ => rfl⟩
  · exact ⟨_, _, fun_mk (st := s_Lwithin) l41 c41 k41, PySem.W.mg_of X G a41, (fun_mk (st := s_Lwithin) l41 c41 k41).binds (ps := ["_law_box", "_law_most"]) fun _ _ _ _ _ _ us hl => match us, hl with | [_, _], _ => rfl⟩
  · exact ⟨_, _, fun_mk (st := s_Lcue) l42 c42 k42, PySem.W.mg_of X G a42, (fun_mk (st := s_Lcue) l42 c42 k42).binds (ps := ["_law_box", "_law_number"]) fun _ _ _ _ _ _ us hl => match us, hl with | [_, _], _ => rfl⟩
  · exact ⟨_, _, fun_mk (st := s_Lcues) l43 c43 k43, PySem.W.mg_of X G a43, (fun_mk (st := s_Lcues) l43 c43 k43).binds (ps := ["_law_box"]) fun _ _ _ _ _ _ us hl => match us, hl with | [_], _ => rfl⟩
  · exact ⟨_, _, fun_mk (st := s_Lparts) l44 c44 k44, PySem.W.mg_of X G a44, (fun_mk (st := s_Lparts) l44 c44 k44).binds (ps := ["_law_show_here", "_law_cue_here"]) fun _ _ _ _ _ _ us hl => match us, hl with | [_, _], _ => rfl⟩
  · exact ⟨_, _, fun_mk (st := s_Lsooner) l45 c45 k45, PySem.W.mg_of X G a45, (fun_mk (st := s_Lsooner) l45 c45 k45).binds (ps := ["_law_one_here", "_law_two"]) fun _ _ _ _ _ _ us hl => match us, hl with | [_, _], _ => rfl⟩
  · exact ⟨_, _, fun_mk (st := s_Llisting) l46 c46 k46, PySem.W.mg_of X G a46, (fun_mk (st := s_Llisting) l46 c46 k46).binds (ps := ["_law_show_here", "_law_cues_here"]) fun _ _ _ _ _ _ us hl => match us, hl with | [_, _], _ => rfl⟩
  · exact ⟨_, _, fun_mk (st := s_Ldeed) l47 c47 k47, PySem.W.mg_of X G a47, (fun_mk (st := s_Ldeed) l47 c47 k47).binds (ps := ["_law_box", "_law_reel", "_law_show_here"]) fun _ _ _ _ _ _ us hl => match us, hl with | [_, _, _], _ => rfl⟩
  · exact ⟨_, _, fun_mk (st := s_law) l48 c48 k48, PySem.W.mg_of X G a48, (fun_mk (st := s_law) l48 c48 k48).binds (ps := ["_law_script"]) fun _ _ _ _ _ _ us hl => match us, hl with | [_], _ => rfl⟩
  · exact PySem.W.mg_none_of X G z_abs
  · exact PySem.W.mg_none_of X G z_sorted
  · exact PySem.W.mg_none_of X G z_list
  · exact PySem.W.mg_none_of X G z_int
  · exact PySem.W.mg_none_of X G z_len
  · exact PySem.W.mg_none_of X G z_isinstance
  · exact PySem.W.mg_none_of X G z_bool
  · exact PySem.W.mg_none_of X G z_str
  · exact PySem.W.mg_none_of X G z_tuple
  · exact PySem.W.mg_none_of X G z_range
  · exact ⟨C_OffReel, PySem.W.mg_of X G ag_OffReel, ax_OffReel, ak_OffReel, ab_OffReel, at_OffReel, exm_gen ab_OffReel ai_OffReel at_OffReel as_OffReel⟩
  · exact ⟨C_NoDeed, PySem.W.mg_of X G ag_NoDeed, ax_NoDeed, ak_NoDeed, ab_NoDeed, at_NoDeed, exm_gen ab_NoDeed ai_NoDeed at_NoDeed as_NoDeed⟩
  · exact ⟨C_Reel, ⟨PySem.W.mg_of X G ag_Reel, ⟨pg_Reel, hd_Reel, po_Reel, sa_Reel⟩, mk_Reel, kc_Reel⟩, n_Reel_current, n_Reel_earlier, n_Reel_undone, ⟨_, _, fun_mk (st := s_Reel___init__) lm0 cm0 km0, ⟨am0, im0, km0⟩, (fun_mk (st := s_Reel___init__) lm0 cm0 km0).binds (ps := ["self", "show"]) fun _ _ _ _ _ _ us hl => match us, hl with | [_, _], _ => rfl⟩, ⟨_, _, fun_mk (st := s_Reel_show) lm1 cm1 km1, ⟨am1, im1, km1⟩, (fun_mk (st := s_Reel_show) lm1 cm1 km1).binds (ps := ["self"]) fun _ _ _ _ _ _ us hl => match us, hl with | [_], _ => rfl⟩, ⟨_, _, fun_mk (st := s_Reel_out) lm2 cm2 km2, ⟨am2, im2, km2⟩, (fun_mk (st := s_Reel_out) lm2 cm2 km2).binds (ps := ["self", "begin", "end"]) fun _ _ _ _ _ _ us hl => match us, hl with | [_, _, _], _ => rfl⟩, ⟨_, _, fun_mk (st := s_Reel_into) lm3 cm3 km3, ⟨am3, im3, km3⟩, (fun_mk (st := s_Reel_into) lm3 cm3 km3).binds (ps := ["self", "time", "other"]) fun _ _ _ _ _ _ us hl => match us, hl with | [_, _, _], _ => rfl⟩, ⟨_, _, fun_mk (st := s_Reel_faster) lm4 cm4 km4, ⟨am4, im4, km4⟩, (fun_mk (st := s_Reel_faster) lm4 cm4 km4).binds (ps := ["self", "begin", "end", "factor"]) fun _ _ _ _ _ _ us hl => match us, hl with | [_, _, _, _], _ => rfl⟩, ⟨_, _, fun_mk (st := s_Reel_fill) lm5 cm5 km5, ⟨am5, im5, km5⟩, (fun_mk (st := s_Reel_fill) lm5 cm5 km5).binds (ps := ["self", "begin", "end", "stretches"]) fun _ _ _ _ _ _ us hl => match us, hl with | [_, _, _, _], _ => rfl⟩, ⟨_, _, fun_mk (st := s_Reel_back) lm6 cm6 km6, ⟨am6, im6, km6⟩, (fun_mk (st := s_Reel_back) lm6 cm6 km6).binds (ps := ["self"]) fun _ _ _ _ _ _ us hl => match us, hl with | [_], _ => rfl⟩⟩
  · exact ⟨p_NOUGHT, ⟨_, PySem.W.mg_of X G y_NOUGHT, rfl⟩, fun H => .inr ⟨_, _, _, w_NOUGHT, rfl, rfl, (show 2 ≤ sizeLine by decide), .cons ⟨_, rfl⟩ (.cons ⟨_, rfl⟩ .nil)⟩⟩
theorem law_mk {l : PySem.W.OpenLaw} {w : World} {K : PySem.W.Frag} {h : Heap} {mg : Str → Option Value} {fa f2 : Addr} (X : K.In h) (G : h.Ns mainGlobals mg) (hfa : mg "law" = some (.ref fa)) (T : Txt K mg)
    {od2 an2 : Option Addr} {sl2 : Array (Option Value)} {oc2 kV2 dc2 pm2 cd2 ct2 : Value}
    (a2 : PySem.W.nsIn K mainGlobals "law" = some (some (.ref f2))) (l2 : K.lookup f2 = some ⟨oc2, od2, .func (PySem.W.fnOf "law" "law" (defArgs s_law) (defBody s_law) (defScope s_law) .none kV2 dc2 pm2 an2 cd2 ct2), sl2⟩) (c2 : PySem.W.codeIn K cd2 "law" = true) (k2 : PySem.W.keepIn K (.ref f2) = true)
    (tabs : ∀ f, mg "in_order" = some (.ref f) → LamX.OwnTab K f h) {f3 c P0 : Addr} {od3 an3 : Option Addr} {sl3 : Array (Option Value)} {oc3 kV3 dc3 pm3 ct3 : Value}
    (a3 : PySem.W.nsIn K mainGlobals "in_order" = some (some (.ref f3))) (l3 : K.lookup f3 = some ⟨oc3, od3, .func (PySem.W.fnOf "in_order" "in_order" (defArgs s_in_order) (defBody s_in_order) (defScope s_in_order) .none kV3 dc3 pm3 an3 (.ref c) ct3), sl3⟩) (c3 : PySem.W.codeIn K (.ref c) "in_order" = true) (k3 : PySem.W.keepIn K (.ref f3) = true)
    {e3 : Value} {dd3 : Option Addr} {vs3 : Array Value} {sl4 : Array (Option Value)} (m3 : K.lookup c = some ⟨e3, dd3, .fields vs3, sl4⟩) (p3 : vs3[11]? = some (.ref P0)) (n3 : K.lookup P0 = none) (h3 : PySem.W.codeHdIn K c P0 = true) :
    LamX.LawAtS l w K CX0 10 63 "_law_script" mg fa h := by
  have e := hfa.symm.trans (PySem.W.mg_of X G a2)
  cases e
  have hf3 := PySem.W.mg_of X G a3
  have tP := tabs f3 hf3 c P0 _ _ _ _ _ _ l3 rfl rfl m3 p3
  have D : Dfc K mg "in_order" s_in_order ["rows"] c := ⟨⟨f3, oc3, od3, kV3, dc3, pm3, an3, ct3, sl3, l3, c3, k3, hf3, (fun_mk (st := s_in_order) l3 c3 k3).binds (ps := ["rows"]) fun _ _ _ _ _ _ us hl => match us, hl with | [_], _ => rfl⟩⟩
  refine ⟨PySem.W.fnOf "law" "law" (defArgs s_law) (defBody s_law) (defScope s_law) .none kV2 dc2 pm2 an2 cd2 ct2, [(c, P0)], spLaw K P0, fun p hp => ?_, fun p hp => ?_, fun p hp => ?_, fun s v => .of_eq rfl, fun H a ns hl hbits hT hS => ?_, fun base _ _ tb => ?_⟩
  · rw [List.mem_singleton.mp hp]
    exact tP
  · rw [List.mem_singleton.mp hp]
    exact n3
  · rw [List.mem_singleton.mp hp]
    exact PySem.W.codeHd_of_K X h3
  · exact ⟨a, ns, rfl, hS, hl, LamX.TabS.nil (hT _ (List.mem_singleton.mpr rfl)), fun _ => rfl⟩
  · have t := tb _ (List.mem_singleton.mpr rfl)
    exact ok_law (fun_mk (st := s_law) l2 c2 k2) T D ⟨t.code, t.bm, t.gP⟩
end R
open PySem PySem.W PyProof.Rows
set_option maxHeartbeats 0 in
theorem PySem.Challenge.cw_reels_k13_whole_one_again_holds : PySem.Challenge.rw_reels_k13_whole_one_again.Holds := by
  w_on; o_law; k_head; (case hw => w_witness2)
  k_fill
  refine R.walk_tab (l := PySem.Challenge.rw_reels_k13_whole_one_again) (n := 63) (k := 10) (x := "_law_script") (CX := fun _ => L2.CX0) "in_order" rfl (by decide) rfl ⟨rfl, by decide, by decide⟩ ?R (fun w h Y => PySem.W.km_in_of Y) ?F (fun _ _ _ _ _ h => h)
  case R => first | rfl | decide +kernel
  case F =>
    intro w mg fa h KX G hmg tabs
    refine' R.law_mk KX G hmg (R.txt_mk KX G ?a0 ?l0 ?c0 ?k0 ?a1 ?l1 ?c1 ?k1 ?a2 ?l2 ?c2 ?k2 ?a3 ?l3 ?c3 ?k3 ?a4 ?l4 ?c4 ?k4 ?a5 ?l5 ?c5 ?k5 ?a6 ?l6 ?c6 ?k6 ?a7 ?l7 ?c7 ?k7 ?a8 ?l8 ?c8 ?k8 ?a9 ?l9 ?c9 ?k9 ?a10 ?l10 ?c10 ?k10 ?a11 ?l11 ?c11 ?k11 ?a12 ?l12 ?c12 ?k12 ?a13 ?l13 ?c13 ?k13 ?a14 ?l14 ?c14 ?k14 ?a15 ?l15 ?c15 ?k15 ?a16 ?l16 ?c16 ?k16 ?a17 ?l17 ?c17 ?k17 ?a18 ?l18 ?c18 ?k18 ?a19 ?l19 ?c19 ?k19 ?a20 ?l20 ?c20 ?k20 ?a21 ?l21 ?c21 ?k21 ?a22 ?l22 ?c22 ?k22 ?a23 ?l23 ?c23 ?k23 ?a24 ?l24 ?c24 ?k24 ?a25 ?l25 ?c25 ?k25 ?a26 ?l26 ?c26 ?k26 ?a27 ?l27 ?c27 ?k27 ?a28 ?l28 ?c28 ?k28 ?a29 ?l29 ?c29 ?k29 ?a30 ?l30 ?c30 ?k30 ?a31 ?l31 ?c31 ?k31 ?a32 ?l32 ?c32 ?k32 ?a33 ?l33 ?c33 ?k33 ?a34 ?l34 ?c34 ?k34 ?a35 ?l35 ?c35 ?k35 ?a36 ?l36 ?c36 ?k36 ?a37 ?l37 ?c37 ?k37 ?a38 ?l38 ?c38 ?k38 ?a39 ?l39 ?c39 ?k39 ?a40 ?l40 ?c40 ?k40 ?a41 ?l41 ?c41 ?k41 ?a42 ?l42 ?c42 ?k42 ?a43 ?l43 ?c43 ?k43 ?a44 ?l44 ?c44 ?k44 ?a45 ?l45 ?c45 ?k45 ?a46 ?l46 ?c46 ?k46 ?a47 ?l47 ?c47 ?k47 ?a48 ?l48 ?c48 ?k48 ?z_abs ?z_sorted ?z_list ?z_int ?z_len ?z_isinstance ?z_bool ?z_str ?z_tuple ?z_range ?ag_OffReel ?ax_OffReel ?ak_OffReel ?ab_OffReel ?at_OffReel ?ai_OffReel ?as_OffReel ?ag_NoDeed ?ax_NoDeed ?ak_NoDeed ?ab_NoDeed ?at_NoDeed ?ai_NoDeed ?as_NoDeed ?ag_Reel ?pg_Reel ?hd_Reel ?po_Reel ?sa_Reel ?mk_Reel ?kc_Reel ?n_Reel_current ?n_Reel_earlier ?n_Reel_undone ?am0 ?im0 ?lm0 ?cm0 ?km0 ?am1 ?im1 ?lm1 ?cm1 ?km1 ?am2 ?im2 ?lm2 ?cm2 ?km2 ?am3 ?im3 ?lm3 ?cm3 ?km3 ?am4 ?im4 ?lm4 ?cm4 ?km4 ?am5 ?im5 ?lm5 ?cm5 ?km5 ?am6 ?im6 ?lm6 ?cm6 ?km6  ?y_NOUGHT ?w_NOUGHT) ?a48 ?l48 ?c48 ?k48 tabs ?ra ?rl ?rc ?rk ?rm ?rp ?rn ?rh
    (case ra => k_is); (case rl => k_is); (case rc => k_is); (case rk => k_is); (case rm => k_is); (case rp => rfl); (case rn => first | k_is | rfl); (case rh => first | k_is | rfl)
    (case a0 => k_is); (case l0 => k_is); (case c0 => k_is); (case k0 => k_is); (case a1 => k_is); (case l1 => k_is); (case c1 => k_is); (case k1 => k_is); (case a2 => k_is); (case l2 => k_is); (case c2 => k_is); (case k2 => k_is); (case a3 => k_is); (case l3 => k_is); (case c3 => k_is); (case k3 => k_is); (case a4 => k_is); (case l4 => k_is); (case c4 => k_is); (case k4 => k_is); (case a5 => k_is); (case l5 => k_is); (case c5 => k_is); (case k5 => k_is); (case a6 => k_is); (case l6 => k_is); (case c6 => k_is); (case k6 => k_is); (case a7 => k_is); (case l7 => k_is); (case c7 => k_is); (case k7 => k_is); (case a8 => k_is); (case l8 => k_is); (case c8 => k_is); (case k8 => k_is); (case a9 => k_is); (case l9 => k_is); (case c9 => k_is); (case k9 => k_is); (case a10 => k_is); (case l10 => k_is); (case c10 => k_is); (case k10 => k_is); (case a11 => k_is); (case l11 => k_is); (case c11 => k_is); (case k11 => k_is); (case a12 => k_is); (case l12 => k_is); (case c12 => k_is); (case k12 => k_is); (case a13 => k_is); (case l13 => k_is); (case c13 => k_is); (case k13 => k_is); (case a14 => k_is); (case l14 => k_is); (case c14 => k_is); (case k14 => k_is); (case a15 => k_is); (case l15 => k_is); (case c15 => k_is); (case k15 => k_is); (case a16 => k_is); (case l16 => k_is); (case c16 => k_is); (case k16 => k_is); (case a17 => k_is); (case l17 => k_is); (case c17 => k_is); (case k17 => k_is); (case a18 => k_is); (case l18 => k_is); (case c18 => k_is); (case k18 => k_is); (case a19 => k_is); (case l19 => k_is); (case c19 => k_is); (case k19 => k_is); (case a20 => k_is); (case l20 => k_is); (case c20 => k_is); (case k20 => k_is); (case a21 => k_is); (case l21 => k_is); (case c21 => k_is); (case k21 => k_is); (case a22 => k_is); (case l22 => k_is); (case c22 => k_is); (case k22 => k_is); (case a23 => k_is); (case l23 => k_is); (case c23 => k_is); (case k23 => k_is); (case a24 => k_is); (case l24 => k_is); (case c24 => k_is); (case k24 => k_is); (case a25 => k_is); (case l25 => k_is); (case c25 => k_is); (case k25 => k_is); (case a26 => k_is); (case l26 => k_is); (case c26 => k_is); (case k26 => k_is); (case a27 => k_is); (case l27 => k_is); (case c27 => k_is); (case k27 => k_is); (case a28 => k_is); (case l28 => k_is); (case c28 => k_is); (case k28 => k_is); (case a29 => k_is); (case l29 => k_is); (case c29 => k_is); (case k29 => k_is); (case a30 => k_is); (case l30 => k_is); (case c30 => k_is); (case k30 => k_is); (case a31 => k_is); (case l31 => k_is); (case c31 => k_is); (case k31 => k_is); (case a32 => k_is); (case l32 => k_is); (case c32 => k_is); (case k32 => k_is); (case a33 => k_is); (case l33 => k_is); (case c33 => k_is); (case k33 => k_is); (case a34 => k_is); (case l34 => k_is); (case c34 => k_is); (case k34 => k_is); (case a35 => k_is); (case l35 => k_is); (case c35 => k_is); (case k35 => k_is); (case a36 => k_is); (case l36 => k_is); (case c36 => k_is); (case k36 => k_is); (case a37 => k_is); (case l37 => k_is); (case c37 => k_is); (case k37 => k_is); (case a38 => k_is); (case l38 => k_is); (case c38 => k_is); (case k38 => k_is); (case a39 => k_is); (case l39 => k_is); (case c39 => k_is); (case k39 => k_is); (case a40 => k_is); (case l40 => k_is); (case c40 => k_is); (case k40 => k_is); (case a41 => k_is); (case l41 => k_is); (case c41 => k_is); (case k41 => k_is); (case a42 => k_is); (case l42 => k_is); (case c42 => k_is); (case k42 => k_is); (case a43 => k_is); (case l43 => k_is); (case c43 => k_is); (case k43 => k_is); (case a44 => k_is); (case l44 => k_is); (case c44 => k_is); (case k44 => k_is); (case a45 => k_is); (case l45 => k_is); (case c45 => k_is); (case k45 => k_is); (case a46 => k_is); (case l46 => k_is); (case c46 => k_is); (case k46 => k_is); (case a47 => k_is); (case l47 => k_is); (case c47 => k_is); (case k47 => k_is); (case a48 => k_is); (case l48 => k_is); (case c48 => k_is); (case k48 => k_is)
    (case z_abs => k_is); (case z_sorted => k_is); (case z_list => k_is); (case z_int => k_is); (case z_len => k_is); (case z_isinstance => k_is); (case z_bool => k_is); (case z_str => k_is); (case z_tuple => k_is); (case z_range => k_is)
    (case ag_OffReel => k_is); (case ax_OffReel => k_exc); (case ak_OffReel => k_is); (case ab_OffReel => k_is); (case at_OffReel => k_is); (case ai_OffReel => k_is); (case as_OffReel => first | rfl | k_is)
    (case ag_NoDeed => k_is); (case ax_NoDeed => k_exc); (case ak_NoDeed => k_is); (case ab_NoDeed => k_is); (case at_NoDeed => k_is); (case ai_NoDeed => k_is); (case as_NoDeed => first | rfl | k_is)
    (case ag_Reel => k_is); (case pg_Reel => k_is); (case hd_Reel => k_is); (case po_Reel => k_is); (case sa_Reel => k_is); (case mk_Reel => k_is); (case kc_Reel => k_is); (case n_Reel_current => k_is); (case n_Reel_earlier => k_is); (case n_Reel_undone => k_is); (case am0 => k_is); (case im0 => k_is); (case lm0 => k_is); (case cm0 => k_is); (case km0 => k_is); (case am1 => k_is); (case im1 => k_is); (case lm1 => k_is); (case cm1 => k_is); (case km1 => k_is); (case am2 => k_is); (case im2 => k_is); (case lm2 => k_is); (case cm2 => k_is); (case km2 => k_is); (case am3 => k_is); (case im3 => k_is); (case lm3 => k_is); (case cm3 => k_is); (case km3 => k_is); (case am4 => k_is); (case im4 => k_is); (case lm4 => k_is); (case cm4 => k_is); (case km4 => k_is); (case am5 => k_is); (case im5 => k_is); (case lm5 => k_is); (case cm5 => k_is); (case km5 => k_is); (case am6 => k_is); (case im6 => k_is); (case lm6 => k_is); (case cm6 => k_is); (case km6 => k_is)
    (case y_NOUGHT => k_is); (case w_NOUGHT => k_is)
