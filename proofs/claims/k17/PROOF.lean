import PyProof.Rows.All
import Wide.All
import OpenK.AllK
import Wide.FinOn
import HandS.ForMost
import HandS.IsInst
import HandS.Wide
import HandS.FStr
import PyProof.FString3
import PyProof.Rows.StrIntSpec
import HandS.Sort
import HandS.SortOrd
import KE.SortData
import KE.SortKeyHeap
import PyProof.StrLaws
import HandS.ForExc
import HandS.Evl
import PySem.Challenge.RW_reels_k17_cues_written
set_option Elab.async false
set_option linter.all false
set_option maxRecDepth 100000
set_option maxHeartbeats 4000000
namespace R
/-! the greatest common divisor as the loops reckon it, and fractions as Rat -/
theorem fmod_nat (a b : Nat) : ((a : Int).fmod (b : Int)) = ((a % b : Nat) : Int) := by
  rw [Int.fmod_eq_emod_of_nonneg _ (by omega)]
  rfl
theorem gcd_turn (a b : Nat) : Nat.gcd b (a % b) = Nat.gcd a b := by
  rw [Nat.gcd_comm a b, Nat.gcd_rec b a, Nat.gcd_comm]
theorem gcd_pos {t b : Int} (h : b ≠ 0) : 0 < Nat.gcd t.natAbs b.natAbs := Nat.gcd_pos_of_pos_right _ (by omega)
theorem abs_nat (i : Int) : (if i < 0 then -i else i) = (i.natAbs : Int) := by
  split <;> omega
def frI (t b : Int) : Int := if b < 0 then -(Nat.gcd t.natAbs b.natAbs : Int) else (Nat.gcd t.natAbs b.natAbs : Int)
theorem frI_ne {t b : Int} (h : b ≠ 0) : frI t b ≠ 0 := by
  have := gcd_pos (t := t) h
  unfold frI
  split <;> omega
theorem frI_dt (t b : Int) : frI t b ∣ t := by
  have h : ((Nat.gcd t.natAbs b.natAbs : Nat) : Int) ∣ t := Int.ofNat_dvd_left.mpr (Nat.gcd_dvd_left _ _)
  unfold frI
  split
  · exact Int.neg_dvd.mpr h
  · exact h
theorem frI_db (t b : Int) : frI t b ∣ b := by
  have h : ((Nat.gcd t.natAbs b.natAbs : Nat) : Int) ∣ b := Int.ofNat_dvd_left.mpr (Nat.gcd_dvd_right _ _)
  unfold frI
  split
  · exact Int.neg_dvd.mpr h
  · exact h
theorem gcd_eq (t b : Int) : (b.gcd t) = Nat.gcd t.natAbs b.natAbs := by
  unfold Int.gcd
  exact Nat.gcd_comm _ _
theorem fdiv_exact {t d : Int} (hd : d ≠ 0) (h : d ∣ t) : t.fdiv d = t / d := by
  obtain ⟨k, rfl⟩ := h
  rw [Int.mul_fdiv_cancel_left _ hd, Int.mul_ediv_cancel_left _ hd]
theorem fr_num {t b : Int} (h : b ≠ 0) : t.fdiv (frI t b) = (Rat.divInt t b).num := by
  rw [fdiv_exact (frI_ne h) (frI_dt t b), Rat.num_divInt, gcd_eq]
  unfold frI
  split
  · rename_i h0
    rw [Int.sign_eq_neg_one_of_neg h0, Int.ediv_neg, Int.neg_one_mul]
    have hd : ((Nat.gcd t.natAbs b.natAbs : Nat) : Int) ∣ t := Int.ofNat_dvd_left.mpr (Nat.gcd_dvd_left _ _)
    rw [Int.neg_ediv_of_dvd hd]
  · rename_i h0
    rw [Int.sign_eq_one_of_pos (by omega), Int.one_mul]
theorem fr_den {t b : Int} (h : b ≠ 0) : b.fdiv (frI t b) = ((Rat.divInt t b).den : Int) := by
  rw [fdiv_exact (frI_ne h) (frI_db t b), Rat.den_divInt, gcd_eq, if_neg h]
  unfold frI
  split
  · rename_i h0
    rw [Int.ediv_neg]
    have hd : ((Nat.gcd t.natAbs b.natAbs : Nat) : Int) ∣ b := Int.ofNat_dvd_left.mpr (Nat.gcd_dvd_right _ _)
    rw [← Int.neg_ediv_of_dvd hd, show -b = ((b.natAbs : Nat) : Int) by omega, ← Int.natCast_ediv]
  · rename_i h0
    rw [show (b / ((Nat.gcd t.natAbs b.natAbs : Nat) : Int)) = (((b.natAbs : Nat) : Int) / ((Nat.gcd t.natAbs b.natAbs : Nat) : Int)) by
      rw [show ((b.natAbs : Nat) : Int) = b by omega], ← Int.natCast_ediv]
theorem frI_natAbs {t b : Int} (h : b ≠ 0) : (frI t b).natAbs ≤ b.natAbs := by
  have h1 : Nat.gcd t.natAbs b.natAbs ≤ b.natAbs := Nat.gcd_le_right _ (by omega)
  unfold frI
  split <;> omega
/-! sums and products of fractions by their parts -/
theorem den_ne (x : Rat) : ((x.den : Nat) : Int) ≠ 0 := by
  have := x.den_nz
  omega
theorem den_pos (x : Rat) : (0 : Int) < ((x.den : Nat) : Int) := by
  have := x.den_nz
  omega
theorem add_parts (x y : Rat) : Rat.divInt (x.num * y.den + y.num * x.den) ((x.den : Int) * y.den) = x + y := by
  conv => rhs; rw [← Rat.num_divInt_den x, ← Rat.num_divInt_den y]
  rw [Rat.divInt_add_divInt _ _ (den_ne x) (den_ne y)]
theorem sub_parts (x y : Rat) : Rat.divInt (x.num * y.den - y.num * x.den) ((x.den : Int) * y.den) = x - y := by
  conv => rhs; rw [← Rat.num_divInt_den x, ← Rat.num_divInt_den y]
  rw [Rat.divInt_sub_divInt _ _ (den_ne x) (den_ne y)]
theorem mul_parts (x y : Rat) : Rat.divInt (x.num * y.num) ((x.den : Int) * y.den) = x * y := by
  conv => rhs; rw [← Rat.num_divInt_den x, ← Rat.num_divInt_den y]
  rw [Rat.divInt_mul_divInt]
theorem div_parts (x y : Rat) : Rat.divInt (x.num * y.den) ((x.den : Int) * y.num) = x / y := by
  rw [Rat.div_def, Rat.inv_def]
  conv => rhs; rw [← Rat.num_divInt_den x]
  rw [Rat.divInt_mul_divInt]
theorem lt_parts (x y : Rat) : decide (x.num * y.den < y.num * x.den) = decide (x < y) := by
  rw [decide_eq_decide, Rat.lt_iff]
/-! sizes -/
structure Sz (n : Nat) (x : Rat) : Prop where
  num : x.num.natAbs < 2 ^ n
  den : x.den < 2 ^ n
theorem Sz.mono {n m : Nat} {x : Rat} (h : Sz n x) (k : n ≤ m) : Sz m x :=
  ⟨Nat.lt_of_lt_of_le h.num (Nat.pow_le_pow_right (by decide) k), Nat.lt_of_lt_of_le h.den (Nat.pow_le_pow_right (by decide) k)⟩
theorem divInt_num_le (t b : Int) : (Rat.divInt t b).num.natAbs ≤ t.natAbs := by
  by_cases h : b = 0
  · subst h
    rw [Rat.divInt_zero]
    exact Nat.zero_le _
  · rw [← fr_num h, fdiv_exact (frI_ne h) (frI_dt t b)]
    exact Int.natAbs_ediv_le_natAbs _ _
theorem divInt_den_le {t b : Int} (h : b ≠ 0) : (Rat.divInt t b).den ≤ b.natAbs := by
  rw [Rat.den_divInt, if_neg h]
  exact Nat.div_le_self _ _
theorem sz_divInt {n : Nat} {t b : Int} (ht : t.natAbs < 2 ^ n) (hb : b.natAbs < 2 ^ n) (h : b ≠ 0) : Sz n (Rat.divInt t b) :=
  ⟨Nat.lt_of_le_of_lt (divInt_num_le t b) ht, Nat.lt_of_le_of_lt (divInt_den_le h) hb⟩
theorem mul_bits {i j : Int} {a b : Nat} (ha : i.natAbs < 2 ^ a) (hb : j.natAbs < 2 ^ b) : (i * j).natAbs < 2 ^ (a + b) := by
  rw [Int.natAbs_mul, Nat.pow_add]
  exact Nat.mul_lt_mul'' ha hb
theorem add_bits {i j : Int} {a : Nat} (ha : i.natAbs < 2 ^ a) (hb : j.natAbs < 2 ^ a) : (i + j).natAbs < 2 ^ (a + 1) := by
  have : (i + j).natAbs ≤ i.natAbs + j.natAbs := Int.natAbs_add_le _ _
  rw [Nat.pow_succ]
  omega
theorem sub_bits {i j : Int} {a : Nat} (ha : i.natAbs < 2 ^ a) (hb : j.natAbs < 2 ^ a) : (i - j).natAbs < 2 ^ (a + 1) := by
  rw [Int.sub_eq_add_neg]
  exact add_bits ha (by omega)
theorem Sz.den' {n : Nat} {x : Rat} (h : Sz n x) : ((x.den : Nat) : Int).natAbs < 2 ^ n := h.den
theorem den_mul_ne (x y : Rat) : ((x.den : Int) * y.den) ≠ 0 := Int.mul_ne_zero (den_ne x) (den_ne y)
theorem up1 {i : Int} {a : Nat} (h : i.natAbs < 2 ^ a) : i.natAbs < 2 ^ (a + 1) := Nat.lt_of_lt_of_le h (Nat.pow_le_pow_right (by decide) (by omega))
theorem sz_add {n m : Nat} {x y : Rat} (hx : Sz n x) (hy : Sz m y) : Sz (n + m + 1) (x + y) := by
  rw [← add_parts]
  refine sz_divInt (add_bits (mul_bits hx.num hy.den') ?_) (up1 (mul_bits hx.den' hy.den')) (den_mul_ne x y)
  rw [Nat.add_comm n m]
  exact mul_bits hy.num hx.den'
theorem sz_sub {n m : Nat} {x y : Rat} (hx : Sz n x) (hy : Sz m y) : Sz (n + m + 1) (x - y) := by
  rw [← sub_parts]
  refine sz_divInt (sub_bits (mul_bits hx.num hy.den') ?_) (up1 (mul_bits hx.den' hy.den')) (den_mul_ne x y)
  rw [Nat.add_comm n m]
  exact mul_bits hy.num hx.den'
theorem sz_mul {n m : Nat} {x y : Rat} (hx : Sz n x) (hy : Sz m y) : Sz (n + m) (x * y) := by
  rw [← mul_parts]
  exact sz_divInt (mul_bits hx.num hy.num) (mul_bits hx.den' hy.den') (den_mul_ne x y)
theorem num_ne {y : Rat} (h : y ≠ 0) : y.num ≠ 0 := fun e => h (Rat.num_eq_zero.mp e)
theorem sz_div {n m : Nat} {x y : Rat} (hx : Sz n x) (hy : Sz m y) (h : y ≠ 0) : Sz (n + m) (x / y) := by
  rw [← div_parts]
  exact sz_divInt (mul_bits hx.num hy.den') (mul_bits hx.den' hy.num) (Int.mul_ne_zero (den_ne x) (num_ne h))
theorem sz_int {n : Nat} {i : Int} (hn : 0 < n) (h : i.natAbs < 2 ^ n) : Sz n (i : Rat) :=
  ⟨h, by
    show 1 < 2 ^ n
    exact Nat.one_lt_two_pow (by omega)⟩
/-! the sum as it is reckoned by what the bottoms have in common -/
theorem add_split (x y : Rat) : (x + y).num = (x.num * ((y.den / (x.den.gcd y.den) : Nat) : Int) + y.num * ((x.den / (x.den.gcd y.den) : Nat) : Int)) / (((x.num * ((y.den / (x.den.gcd y.den) : Nat) : Int) + y.num * ((x.den / (x.den.gcd y.den) : Nat) : Int)).natAbs.gcd (x.den.gcd y.den) : Nat) : Int) ∧
   (x + y).den = x.den / (x.den.gcd y.den) * (y.den / ((x.num * ((y.den / (x.den.gcd y.den) : Nat) : Int) + y.num * ((x.den / (x.den.gcd y.den) : Nat) : Int)).natAbs.gcd (x.den.gcd y.den))) := by
  have e : x + y = Rat.add x y := rfl
  rw [e]
  unfold Rat.add
  dsimp only
  by_cases hg : x.den.gcd y.den = 1
  · rw [dif_pos hg]
    constructor
    · show x.num * (y.den : Int) + y.num * (x.den : Int) = _
      rw [hg, Nat.div_one, Nat.div_one, Nat.gcd_one_right]
      exact (Int.ediv_one _).symm
    · show x.den * y.den = _
      rw [hg, Nat.div_one, Nat.div_one, Nat.gcd_one_right, Nat.div_one]
  · rw [dif_neg hg]
    unfold Rat.maybeNormalize
    split
    · rename_i h1
      refine ⟨?_, ?_⟩
      · show x.num * ((y.den / (x.den.gcd y.den) : Nat) : Int) + y.num * ((x.den / (x.den.gcd y.den) : Nat) : Int) = _
        rw [h1]
        exact (Int.ediv_one _).symm
      · show x.den / (x.den.gcd y.den) * y.den = _
        rw [h1, Nat.div_one]
    · refine ⟨?_, ?_⟩
      · exact Int.divExact_eq_ediv (Int.ofNat_dvd_left.mpr (Nat.gcd_dvd_left _ _))
      · show _ / _ = _
        rw [Nat.mul_div_assoc]
        exact Nat.dvd_trans (Nat.gcd_dvd_right _ _) (Nat.gcd_dvd_right _ _)
theorem fdiv_nat (a b : Nat) : ((a : Int).fdiv (b : Int)) = ((a / b : Nat) : Int) := by
  rw [Int.fdiv_eq_ediv_of_nonneg _ (by omega)]
  rfl
theorem fdiv_natR (a : Int) (b : Nat) : (a.fdiv (b : Int)) = a / (b : Int) := Int.fdiv_eq_ediv_of_nonneg _ (by omega)
def sG (x y : Rat) : Nat := x.den.gcd y.den
def sT (x y : Rat) : Int := x.num * ((y.den / sG x y : Nat) : Int) + y.num * ((x.den / sG x y : Nat) : Int)
def sD (x y : Rat) : Nat := (sT x y).natAbs.gcd (sG x y)
theorem sum_num (x y : Rat) : (sT x y).fdiv (sD x y : Int) = (x + y).num := by
  rw [fdiv_natR]
  exact (add_split x y).1.symm
theorem sum_den (x y : Rat) : (((x.den / sG x y : Nat) : Int) * ((y.den / sD x y : Nat) : Int)) = (((x + y).den : Nat) : Int) := by
  rw [show (x + y).den = x.den / sG x y * (y.den / sD x y) from (add_split x y).2]
  rfl
theorem sG_pos (x y : Rat) : 0 < sG x y := Nat.gcd_pos_of_pos_left _ x.den_pos
theorem sD_pos (x y : Rat) : 0 < sD x y := Nat.gcd_pos_of_pos_right _ (sG_pos x y)
theorem sG_le (x y : Rat) : sG x y ≤ x.den := Nat.gcd_le_left _ x.den_pos
theorem sD_le (x y : Rat) : sD x y ≤ x.den := Nat.le_trans (Nat.gcd_le_right _ (sG_pos x y)) (sG_le x y)
end R
namespace R
/-! ### what a fraction becomes whole by -/
def Iz (D : Nat) (x : Rat) : Prop := ∃ k : Int, x * (D : Rat) = (k : Rat)
theorem Iz.add {D : Nat} {x y : Rat} (hx : Iz D x) (hy : Iz D y) : Iz D (x + y) := by
  obtain ⟨k, h⟩ := hx
  obtain ⟨m, g⟩ := hy
  exact ⟨k + m, by rw [Rat.intCast_add, ← h, ← g]; grind⟩
theorem Iz.sub {D : Nat} {x y : Rat} (hx : Iz D x) (hy : Iz D y) : Iz D (x - y) := by
  obtain ⟨k, h⟩ := hx
  obtain ⟨m, g⟩ := hy
  exact ⟨k - m, by rw [Rat.intCast_sub, ← h, ← g]; grind⟩
theorem Iz.mul {D E : Nat} {x y : Rat} (hx : Iz D x) (hy : Iz E y) : Iz (D * E) (x * y) := by
  obtain ⟨k, h⟩ := hx
  obtain ⟨m, g⟩ := hy
  exact ⟨k * m, by rw [Rat.intCast_mul, ← h, ← g, Rat.natCast_mul]; grind⟩
theorem Iz.up {D : Nat} {x : Rat} (hx : Iz D x) (E : Nat) : Iz (D * E) x := by
  obtain ⟨k, h⟩ := hx
  exact ⟨k * E, by rw [Rat.intCast_mul, ← h, Rat.natCast_mul]; show x * ((D : Rat) * (E : Rat)) = x * (D : Rat) * ((E : Int) : Rat); rw [Rat.intCast_natCast]; grind⟩
theorem Iz.dvd {D E : Nat} {x : Rat} (hx : Iz D x) (h : D ∣ E) : Iz E x := by
  obtain ⟨c, rfl⟩ := h
  exact hx.up c
theorem iz_zero (D : Nat) : Iz D 0 := ⟨0, by grind⟩
theorem iz_int (D : Nat) (i : Int) : Iz D (i : Rat) := by
  refine ⟨i * D, ?_⟩
  rw [Rat.intCast_mul]
  rfl
theorem iz_divInt {t c : Int} {D : Nat} (hc : 0 < c) (h : c ∣ (D : Int)) : Iz D (Rat.divInt t c) := by
  obtain ⟨k, e⟩ := h
  refine ⟨t * k, ?_⟩
  have hc' : (c : Rat) ≠ 0 := fun z => by
    have := Rat.intCast_inj.mp (show (c : Rat) = ((0 : Int) : Rat) from z)
    omega
  have e2 : (D : Rat) = (c : Rat) * (k : Rat) := by
    rw [← Rat.intCast_mul, ← e]
    rfl
  rw [Rat.divInt_eq_div, e2, Rat.intCast_mul, Rat.div_def]
  have := Rat.mul_inv_cancel _ hc'
  grind
theorem Iz.eq {D : Nat} {x : Rat} (hD : 0 < D) (h : Iz D x) : ∃ k : Int, x = Rat.divInt k D ∧ x * (D : Rat) = (k : Rat) := by
  obtain ⟨k, h⟩ := h
  refine ⟨k, ?_, h⟩
  have hD' : (D : Rat) ≠ 0 := fun z => by
    have := Rat.natCast_inj.mp (show (D : Rat) = ((0 : Nat) : Rat) from z)
    omega
  rw [Rat.divInt_eq_div, ← h]
  show x = x * (D : Rat) / (((D : Nat) : Int) : Rat)
  rw [Rat.intCast_natCast, Rat.div_def]
  have := Rat.mul_inv_cancel _ hD'
  grind
/-- the size, by what it becomes whole by and how far it is from nought -/
theorem Iz.sz {D M n : Nat} {x : Rat} (hD : 0 < D) (h : Iz D x) (h1 : -(M : Rat) ≤ x) (h2 : x ≤ (M : Rat)) (hn : M * D < 2 ^ n) (hm : D < 2 ^ n) : Sz n x := by
  obtain ⟨k, e, g⟩ := h.eq hD
  rw [e]
  refine sz_divInt ?_ hm (by omega)
  have d0 : (0 : Rat) ≤ (D : Rat) := Rat.natCast_nonneg
  have a1 : (k : Rat) ≤ (((M * D : Nat) : Int) : Rat) := by
    rw [← g, Rat.intCast_natCast, Rat.natCast_mul]
    exact Rat.mul_le_mul_of_nonneg_right h2 d0
  have a2 : ((-((M * D : Nat) : Int) : Int) : Rat) ≤ (k : Rat) := by
    rw [← g, Rat.intCast_neg, Rat.intCast_natCast, Rat.natCast_mul, ← Rat.neg_mul]
    exact Rat.mul_le_mul_of_nonneg_right h1 d0
  have b1 := Rat.intCast_le_intCast.mp a1
  have b2 := Rat.intCast_le_intCast.mp a2
  omega
end R
namespace R
open PySem PySem.Spec PyProof.Rows L2
/-! ### a def of the text, and what it promises -/
structure Df (K : PySem.W.Frag) (mg : Str → Option Value) (x : Str) (st : Stmt) (ps : List Str) : Prop where
  ex : ∃ (f : Addr) (fd : FuncData), Fun K x x st f fd ∧ mg x = some (.ref f) ∧ Binds K fd ps []
structure Cl (P : Program) (w : World) (K : PySem.W.Frag) (mg : Str → Option Value) (base : Heap) (CX : CXT) (k : Nat) (x : Str) (sp : Sp) : Prop where
  ex : ∃ (f : Addr) (fd : FuncData) (ps : List Str), FnOk P w K mg base CX k f fd ps sp ∧ mg x = some (.ref f) ∧ PySem.W.keepIn K (.ref f) = true ∧ Binds K fd ps []
section
variable {P : Program} {w : World} {K : PySem.W.Frag} {mg : Str → Option Value} {base : Heap}
theorem Df.cl {x : Str} {st : Stmt} {N ps : List Str} {k : Nat} {sp : Sp} (D : Df K mg x st ps) (S : FnScope N ps (defScope st)) (len : ∀ vs H Q E, sp vs H Q E → vs.length = ps.length)
    (hbody : ∀ (f : Addr) (cdv : Value) (A : Around) (outer : List Env) (s : Shared) (H : Hp) (vs : List V) (Q : VK) (E : XK), Room k (A.deeper (envOfC x (defScope st) s.heap.objs.size f cdv)) → sp vs H Q E →
      ∃ t, PSs (cxOf CX0 P w K mg base N x (defScope st) f cdv A outer s H E).nox (defBody st) t ∧ t { nx := fun _ H' => Q .non H', rt := Q } (start N vs) H) : Cl P w K mg base CX0 (k + 1) x sp := by
  obtain ⟨f, fd, F, g, b⟩ := D.ex
  exact ⟨f, fd, ps, F.ok S len (hbody f), g, F.kp, b⟩
end
section
variable {X : Cx}
theorem pe_cl {k j : Nat} {x : Str} {sp : Sp} {p pos : Pos} {e : Expr} {es : List Expr} {t : TA} (c : Cl X.prog X.w X.K X.mg X.base CX0 k x sp) (hr : Room j X.A) (hk : k ≤ j) (hg : Gl X x) (ha : PA X (e :: es) t)
    (hdb : (x == ("__debug__" : Str)) = false := by decide) (he : starEach (e :: es) X.env = (false, eval e X.env) :: starEach es X.env := by rfl) (hpl : (backTo pos (starEach es X.env)).any (·.1) = false := by rfl) :
    PE X (.Call (.Name x p) (e :: es) [] pos) (tCall sp [] E0 t) := by
  obtain ⟨f, fd, ps, F, hm, kp, b⟩ := c.ex
  exact pe_call F (hr.mono hk) hg hm kp b .nil pass0 ha hdb he hpl
/-- // by any divisor but 0, below 2 ^ 9000 -/
def CDivX (_ j : Int) : Prop := j ≠ 0 ∧ j.natAbs.log2 < 9000
theorem op_fdivX : OpR X (binaryOp .FloorDiv) (rI CDivX fun i j => .int (i.fdiv j)) := opI fun i j _ _ _ _ _ hc q =>
  floordiv_int hc.1 q (.inl (PyProof.noPylong_of_log2 hc.2))
end
theorem cdiv {i j : Int} {b : Nat} (h : j ≠ 0) (hb : j.natAbs < 2 ^ b) (h0 : 0 < b) (h9 : b ≤ 9000) : CDivX i j := ⟨h, Nat.lt_of_lt_of_le (PySem.Flt.log2_lt_of h0 hb) h9⟩
/-! ### data at a heap -/
theorem Same.tup {K : PySem.W.Frag} {H H' : Hp} {a : Addr} {xs : List V} (e : Same H H') (h : SqT K H a xs) : SqT K H' a xs := by
  rcases h with (h | ⟨o, h⟩) | h
  · exact .inl (.inl (e _ _ h))
  · exact .inl (.inr ⟨o, e _ _ h⟩)
  · exact .inr h
theorem Same.new {H : Hp} {p : Addr} {o : HO} (h : H p = none) : Same H (upd H p o) := fun b x e => by
  rw [upd_ne (ne_of_none e h)]
  exact e
mutual
theorem dp_mono {K : PySem.W.Frag} {H H' : Hp} (s : Same H H') : ∀ (d : PyData) (v : V), Dp K H v d → Dp K H' v d
  | .none, _, h => by cases h; exact .non
  | .bool _, _, h => by cases h; exact .bl _
  | .int _, _, h => by cases h; exact .int _
  | .str _, _, h => by cases h; exact .str _
  | .list ds, _, h => by
    cases h with
    | lst hs ha => exact .lst (s.seq hs) (dpa_mono s ds _ ha)
  | .tuple ds, _, h => by
    cases h with
    | tup hs ha => exact .tup (Same.tup s hs) (dpa_mono s ds _ ha)
  | .dict _, _, h => by cases h
theorem dpa_mono {K : PySem.W.Frag} {H H' : Hp} (s : Same H H') : ∀ (ds : List PyData) (vs : List V), DpAll K H vs ds → DpAll K H' vs ds
  | [], _, h => by cases h; exact .nil
  | d :: ds, _, h => by
    cases h with
    | cons h1 h2 => exact .cons (dp_mono s d _ h1) (dpa_mono s ds _ h2)
end
end R
namespace R
section
open PySem PySem.Spec PyProof.Rows L2 Builtin Builtin.Str Builtin.Int Builtin.Float
/-! ### the field {x:02d} of an int that is not negative -/
def f02 : FormatSpec := { fill := 48, align := 61, width := some 2, type := some 100 }
theorem p02 : parseFormatSpec [48, 50, 100] "int" 62 = .ok f02 := rfl
theorem gives_02d (a : Int) (t u : Tok) (hs : a.natAbs.log2 < 1920) : Gives («int.__format__» ⟨[.int a t, .str "02d" u], []⟩) (.str (intSpecText f02 a)) := by
  intro prog w A R s hq
  unfold Builtin.«int.__format__»
  simp only [selfAndOne, noKeywords, Int.intOfSelf, asInt?, asStr?, List.isEmpty_nil, if_true, pure_bind, bind_pure, bind_assoc]
  rw [show (Value.str (Str.ofString "02d") u == Value.none) = false from rfl]
  simp only [Bool.false_eq_true, if_false]
  refine wpAny_bind (wpAny_typeNameOf (T := "str") (typeIs_str _ _ _) (by decide) fun _ => ?_)
  rw [show ((Str.ofString "02d").length == 0) = false by decide +kernel]
  simp only [Bool.false_eq_true, if_false, pure_bind]
  rw [show (((Str.ofString "02d").cps.toList.drop 1).any (fun x => decide (x ≥ 128)) || (decide ((Str.ofString "02d").cps.getD 0 0 ≥ 128) && !([60, 62, 61, 94] : List Nat).contains ((Str.ofString "02d").cps.getD 1 0))) = false by decide +kernel]
  simp only [Bool.false_eq_true, if_false, pure_bind]
  refine wpAny_bind (wpAny_typeNameOfCut_int ?_)
  rw [show (Str.ofString "02d").cps.toList = [48, 50, 100] by decide +kernel, p02]
  dsimp only
  rw [if_pos (by decide +kernel)]
  show wpAny _ _ (do let r ← Builtin.overDigitLimit? a; _) _ _ _
  rw [PySem.overDigitLimit_small hs, pure_bind]
  show wpAny _ _ (retStr _) _ _ _
  refine Gives.of_eq (m := .str (intSpecText f02 a)) ?_ prog w A R s hq
  unfold intSpecText
  rfl
end
open PySem PySem.Spec PyProof.Rows L2
/-! ### texts of numbers -/
def sI (i : Int) : Str := Str.ofString (toString i)
def pad2 (i : Int) : Str := if i < 10 then (⟨#[48]⟩ : Str) ++ sI i else sI i
theorem sapp (a b c : Str) : (a ++ b) ++ c = a ++ (b ++ c) := by
  refine Str.ext' ?_
  rw [Str.cps_append, Str.cps_append, Str.cps_append, Str.cps_append, Array.append_assoc]
theorem sapp_nil (a : Str) : a ++ Str.empty = a := Str.append_right_empty rfl
theorem nil_sapp (a : Str) : Str.empty ++ a = a := Str.append_left_empty rfl
theorem slen (a b : Str) : (a ++ b).length = a.length + b.length := by
  unfold Str.length
  rw [Str.cps_append, Array.size_append]
theorem sI_nat (m : Nat) : sI (m : Int) = ⟨((Nat.toDigits 10 m).map Char.toNat).toArray⟩ := text_ofNat m
theorem sI_len {i : Int} (h0 : 0 ≤ i) (h : i < 10 ^ 30) : (sI i).length ≤ 30 := by
  obtain ⟨m, rfl⟩ := Int.eq_ofNat_of_zero_le h0
  rw [sI_nat]
  show ((Nat.toDigits 10 m).map Char.toNat).toArray.size ≤ 30
  rw [List.size_toArray, List.length_map]
  exact digits10_le (by decide) (by
    have : ((m : Nat) : Int) < ((10 ^ 30 : Nat) : Int) := h
    omega)
theorem lg {i : Int} (h0 : 0 ≤ i) (h : i < 10 ^ 30) : i.natAbs.log2 < 1920 :=
  PySem.Flt.log2_lt_of (by decide) (Nat.lt_of_lt_of_le (show i.natAbs < 2 ^ 128 by omega) (Nat.pow_le_pow_right (by decide) (by decide)))
theorem pad2_len {i : Int} (h0 : 0 ≤ i) (h : i < 10 ^ 30) : (pad2 i).length ≤ 31 := by
  have := sI_len h0 h
  unfold pad2
  split
  · rw [slen]
    show 1 + _ ≤ 31
    omega
  · omega
theorem f02_text {a : Int} (h0 : 0 ≤ a) : intSpecText f02 a = pad2 a := by
  rw [intSpecText_zero (f := f02) rfl rfl rfl rfl h0]
  have D := digitsFacts10 a.natAbs
  unfold pad2
  split
  · rename_i h
    rw [D.lt10 (by omega)]
    rfl
  · rename_i h
    have := D.ge10 (by omega)
    rw [show f02.width.getD 0 - (Nat.toDigits 10 a.natAbs).length = 0 by
      show 2 - _ = 0
      omega]
    exact nil_sapp _
section
variable {X : Cx}
def tFmt02 (te : TE) : TE := fun σ H Q => te σ H fun x H1 => ∃ i : Int, x = .int i ∧ 0 ≤ i ∧ i < 10 ^ 30 ∧ Q (.str (pad2 i)) H1
theorem pe_fmt02 {e : Expr} {te : TE} {k : Nat} {p1 p2 pos : Pos} (he : PE X e te) : PE X (.FormattedValue e (-1) (some (.JoinedStr [.Constant (.str "02d") k p1] p2)) pos) (tFmt02 te) := by
  refine ⟨fun pins s σ H Q I h => ?_⟩
  refine wpAny_FormattedValue_spec (thn (he.run pins s σ H _ I h) fun v s1 hv => ?_)
  obtain ⟨x, H1, I1, r1, i, rfl, h0, h1, q⟩ := hv
  obtain ⟨t, rfl⟩ := r1
  refine thn ((pe_joined1 (pe_str (x := "02d"))).run pins s1 σ H1 (fun v H' => v = .str "02d" ∧ H' = H1) I1 ⟨rfl, rfl⟩) fun u s2 hu => ?_
  obtain ⟨y, H2, I2, r2, rfl, rfl⟩ := hu
  obtain ⟨t2, rfl⟩ := r2
  refine ⟨"02d", t2, rfl, ?_⟩
  refine wpAny_formatField_spec (by decide +kernel) (fun s' => typeIs_int s' i t) F.slot_int_format F.entry_int_format F.args_int_format_2 (fun u => gives_02d i t u (lg h0 h1)) ?_ (by decide +kernel) ?_
  · rw [f02_text h0]
    exact ⟨.str (pad2 i), H2, I2.tok _, ⟨_, rfl⟩, q⟩
  · rw [f02_text h0]
    exact Nat.le_trans (pad2_len h0 h1) (by decide)
theorem pe_gl {x : Str} {pos : Pos} {v : V} (hg : Gl X x) (h : ∃ u, X.mg x = some u ∧ RelV v u) (hd : (x == ("__debug__" : Str)) = false := by decide) : PE X (.Name x pos) (tC v) := by
  obtain ⟨u, h1, h2⟩ := h
  exact pe_glob hg h1 h2 hd
end
end R
namespace R
/-! ### shows, as plain data: the mathematics -/
abbrev St3 := Rat × Rat × Rat
def lst3 (s : St3) : Rat := (s.2.1 - s.1) / s.2.2
def lenS : List St3 → Rat
  | [] => 0
  | s :: r => lst3 s + lenS r
theorem lenS_app : ∀ (a b : List St3), lenS (a ++ b) = lenS a + lenS b
  | [], b => by
    show lenS b = 0 + lenS b
    rw [Rat.zero_add]
  | s :: r, b => by
    show lst3 s + lenS (r ++ b) = lst3 s + lenS r + lenS b
    rw [lenS_app r b, Rat.add_assoc]
theorem take_more {α : Type} : ∀ {l : List α} {i : Nat} {x : α}, l[i]? = some x → l.take (i + 1) = l.take i ++ [x]
  | [], i, x, h => by simp at h
  | a :: l, 0, x, h => by
    have e : a = x := Option.some.inj h
    subst e
    rfl
  | a :: l, i + 1, x, h => by
    have ih := take_more (l := l) (i := i) (x := x) h
    show a :: l.take (i + 1) = a :: l.take i ++ [x]
    rw [ih]
    rfl
theorem drop_more {α : Type} : ∀ {l : List α} {i : Nat} {x : α}, l[i]? = some x → l.drop i = x :: l.drop (i + 1)
  | [], i, x, h => by simp at h
  | a :: l, 0, x, h => by
    have e : a = x := Option.some.inj h
    subst e
    rfl
  | a :: l, i + 1, x, h => drop_more (l := l) (i := i) (x := x) h
theorem lenS_more {l : List St3} {i : Nat} {x : St3} (h : l[i]? = some x) : lenS (l.take (i + 1)) = lenS (l.take i) + lst3 x := by
  rw [take_more h, lenS_app]
  show lenS (l.take i) + (lst3 x + 0) = _
  rw [Rat.add_zero]
structure StOk (N : Nat) (s : St3) : Prop where
  b : Sz N s.1
  e : Sz N s.2.1
  p : Sz N s.2.2
  pos : 0 < s.2.2
structure ShOk (N : Nat) (xs : List St3) : Prop where
  each : ∀ s ∈ xs, StOk N s
  sums : ∀ k, Sz N (lenS (xs.take k))
  lasts : ∀ s ∈ xs, Sz N (lst3 s)
theorem ne_of_pos {x : Rat} (h : 0 < x) : x ≠ 0 := fun e => by
  rw [e] at h
  exact Rat.lt_irrefl h
theorem sz_lst {N : Nat} {s : St3} (h : StOk N s) : Sz (3 * N + 1) (lst3 s) := by
  have := sz_div (sz_sub h.e h.b) h.p (ne_of_pos h.pos)
  exact this.mono (by omega)
/-- what is shown at a time -/
def seen : List St3 → Rat → Option Rat
  | [], _ => none
  | s :: r, t => if t < lst3 s then some (s.1 + t * s.2.2) else seen r (t - lst3 s)
/-- the rows of a timetable -/
def tabF (t0 : Rat) : List St3 → List (Rat × Rat × St3)
  | [] => []
  | s :: r => (t0, t0 + lst3 s, s) :: tabF (t0 + lst3 s) r
theorem tabF_get : ∀ (t0 : Rat) (xs : List St3) (i : Nat), (tabF t0 xs)[i]? = (xs[i]?).map fun s => (t0 + lenS (xs.take i), t0 + lenS (xs.take (i + 1)), s)
  | _, [], i => by simp [tabF]
  | t0, s :: r, 0 => by
    show some (t0, t0 + lst3 s, s) = some (t0 + 0, t0 + (lst3 s + 0), s)
    rw [Rat.add_zero, Rat.add_zero]
  | t0, s :: r, i + 1 => by
    show (tabF (t0 + lst3 s) r)[i]? = _
    rw [tabF_get (t0 + lst3 s) r i]
    show (r[i]?).map _ = (r[i]?).map _
    congr 1
    funext z
    show (t0 + lst3 s + lenS (r.take i), t0 + lst3 s + lenS (r.take (i + 1)), z) = (t0 + (lst3 s + lenS (r.take i)), t0 + (lst3 s + lenS (r.take (i + 1))), z)
    rw [Rat.add_assoc, Rat.add_assoc]
theorem tabF_len : ∀ (t0 : Rat) (xs : List St3), (tabF t0 xs).length = xs.length
  | _, [] => rfl
  | t0, s :: r => by
    show (tabF (t0 + lst3 s) r).length + 1 = r.length + 1
    rw [tabF_len]
theorem seen_turn {xs : List St3} {i : Nat} {s : St3} {t : Rat} (h : xs[i]? = some s) : seen (xs.drop i) (t - lenS (xs.take i)) =
    if t < lenS (xs.take (i + 1)) then some (s.1 + (t - lenS (xs.take i)) * s.2.2) else seen (xs.drop (i + 1)) (t - lenS (xs.take (i + 1))) := by
  rw [drop_more h, lenS_more h]
  show (if t - lenS (xs.take i) < lst3 s then _ else _) = _
  by_cases c : t - lenS (xs.take i) < lst3 s
  · rw [if_pos c, if_pos (by grind)]
  · rw [if_neg c, if_neg (by grind), show t - lenS (xs.take i) - lst3 s = t - (lenS (xs.take i) + lst3 s) by grind]
/-- stretches that go on are made one -/
def nstep (acc : List St3) (s : St3) : List St3 := match acc.getLast? with
  | some l => if l.2.1 = s.1 ∧ l.2.2 = s.2.2 then acc.dropLast ++ [(l.1, s.2.1, s.2.2)] else acc ++ [s]
  | none => [s]
def normM (xs : List St3) : List St3 := xs.foldl nstep []
theorem normM_more {xs : List St3} {i : Nat} {s : St3} (h : xs[i]? = some s) : normM (xs.take (i + 1)) = nstep (normM (xs.take i)) s := by
  unfold normM
  rw [take_more h, List.foldl_append]
  rfl
/-- what lies between two times, from the show's start -/
def piece (s : St3) (b e : Rat) : List St3 :=
  if (if 0 < b then b else 0) < (if e < lst3 s then e else lst3 s) then [(s.1 + (if 0 < b then b else 0) * s.2.2, s.1 + (if e < lst3 s then e else lst3 s) * s.2.2, s.2.2)] else []
def cutM : List St3 → Rat → Rat → List St3
  | [], _, _ => []
  | s :: r, b, e => piece s b e ++ cutM r (b - lst3 s) (e - lst3 s)
theorem cutM_turn {xs : List St3} {i : Nat} {s : St3} {b e : Rat} (h : xs[i]? = some s) : cutM (xs.drop i) (b - lenS (xs.take i)) (e - lenS (xs.take i)) =
    piece s (b - lenS (xs.take i)) (e - lenS (xs.take i)) ++ cutM (xs.drop (i + 1)) (b - lenS (xs.take (i + 1))) (e - lenS (xs.take (i + 1))) := by
  rw [drop_more h, lenS_more h]
  show _ ++ cutM (xs.drop (i + 1)) (b - lenS (xs.take i) - lst3 s) (e - lenS (xs.take i) - lst3 s) = _
  rw [show b - lenS (xs.take i) - lst3 s = b - (lenS (xs.take i) + lst3 s) by grind, show e - lenS (xs.take i) - lst3 s = e - (lenS (xs.take i) + lst3 s) by grind]
end R
namespace R
theorem divInt_pos {t b : Int} (ht : 0 < t) (hb : 0 < b) : 0 < Rat.divInt t b := by
  rw [Rat.divInt_eq_div, Rat.div_def]
  exact Rat.mul_pos (Rat.intCast_pos.mpr ht) (Rat.inv_pos.mpr (Rat.intCast_pos.mpr hb))
theorem piece_eq (s : St3) (b e st : Rat) : piece s (b - st) (e - st) =
    if (if b < st then st else b) < (if st + lst3 s < e then st + lst3 s else e) then
      [(s.1 + ((if b < st then st else b) - st) * s.2.2, s.1 + ((if st + lst3 s < e then st + lst3 s else e) - st) * s.2.2, s.2.2)] else [] := by
  have e1 : (if 0 < b - st then b - st else 0) = (if b < st then st else b) - st := by
    split <;> split <;> grind
  have e2 : (if e - st < lst3 s then e - st else lst3 s) = (if st + lst3 s < e then st + lst3 s else e) - st := by
    split <;> split <;> grind
  unfold piece
  rw [e1, e2]
  by_cases c : (if b < st then st else b) < (if st + lst3 s < e then st + lst3 s else e)
  · rw [if_pos c, if_pos (by grind)]
  · rw [if_neg c, if_neg (by grind)]
theorem piece_len (s : St3) (b e : Rat) : (piece s b e).length ≤ 1 := by
  unfold piece
  generalize (if 0 < b then b else 0) = f
  generalize (if e < lst3 s then e else lst3 s) = g
  by_cases c : f < g
  · rw [if_pos c]
    exact Nat.le_refl _
  · rw [if_neg c]
    exact Nat.zero_le _
/-- one turn of making stretches one: the part that stays, and what stands last -/
theorem nstep_cases (acc : List St3) (s : St3) : (acc = [] ∧ nstep acc s = [] ++ [(s.1, s.2.1, s.2.2)]) ∨ ∃ pre l, acc = pre ++ [l] ∧
    ((l.2.1 = s.1 ∧ l.2.2 = s.2.2 ∧ nstep acc s = pre ++ [(l.1, s.2.1, s.2.2)]) ∨ (¬ (l.2.1 = s.1 ∧ l.2.2 = s.2.2) ∧ nstep acc s = acc ++ [(s.1, s.2.1, s.2.2)])) := by
  unfold nstep
  cases h : acc.getLast? with
  | none => exact .inl ⟨List.getLast?_eq_none_iff.mp h, rfl⟩
  | some l =>
    obtain ⟨pre, rfl⟩ := List.getLast?_eq_some_iff.mp h
    refine .inr ⟨pre, l, rfl, ?_⟩
    dsimp only
    by_cases c : l.2.1 = s.1 ∧ l.2.2 = s.2.2
    · rw [if_pos c, List.dropLast_concat]
      exact .inl ⟨c.1, c.2, rfl⟩
    · rw [if_neg c]
      exact .inr ⟨c, rfl⟩
theorem nstep_len (acc : List St3) (s : St3) : (nstep acc s).length ≤ acc.length + 1 := by
  rcases nstep_cases acc s with ⟨h, e⟩ | ⟨pre, l, h, (⟨_, _, e⟩ | ⟨_, e⟩)⟩
  · rw [e]
    simp
  · rw [e, h]
    simp
  · rw [e]
    simp
end R
namespace R
/-! ### normal shows: making one is a way of reading -/
theorem nstep_join (acc : List St3) (s t : St3) (h1 : s.2.1 = t.1) (h2 : s.2.2 = t.2.2) : nstep (nstep acc s) t = nstep acc (s.1, t.2.1, t.2.2) := by
  have key : ∀ (pre : List St3) (f : Rat), nstep (pre ++ [(f, s.2.1, s.2.2)]) t = pre ++ [(f, t.2.1, t.2.2)] := by
    intro pre f
    unfold nstep
    rw [List.getLast?_append, List.getLast?_singleton]
    dsimp only [Option.some_or]
    rw [if_pos ⟨h1, h2⟩, List.dropLast_concat]
  rcases nstep_cases acc s with ⟨e0, e1⟩ | ⟨pre, l, e0, (⟨c1, c2, e1⟩ | ⟨c, e1⟩)⟩
  · rw [e1, key, e0]
    rfl
  · rw [e1, key, e0]
    unfold nstep
    rw [List.getLast?_append, List.getLast?_singleton]
    dsimp only [Option.some_or]
    rw [if_pos ⟨c1, by rw [← h2]; exact c2⟩, List.dropLast_concat]
  · rw [e1, key, e0]
    unfold nstep
    rw [List.getLast?_append, List.getLast?_singleton]
    dsimp only [Option.some_or]
    rw [if_neg (fun z => c ⟨z.1, by rw [h2]; exact z.2⟩)]
theorem snoc_ind {α : Type} {P : List α → Prop} (h0 : P []) (h1 : ∀ b s, P b → P (b ++ [s])) (b : List α) : P b := by
  have : ∀ l : List α, P l.reverse := by
    intro l
    induction l with
    | nil => exact h0
    | cons x l ih =>
      rw [List.reverse_cons]
      exact h1 _ _ ih
  have h := this b.reverse
  rw [List.reverse_reverse] at h
  exact h
/-- behind anything, a show and its normal one come to the same -/
theorem fold_norm (acc0 : List St3) : ∀ (b : List St3), (normM b).foldl nstep acc0 = b.foldl nstep acc0 := by
  intro b
  refine snoc_ind (P := fun b => (normM b).foldl nstep acc0 = b.foldl nstep acc0) rfl (fun b s ih => ?_) b
  · have e : normM (b ++ [s]) = nstep (normM b) s := by
      unfold normM
      rw [List.foldl_append]
      rfl
    rw [e, List.foldl_append, ← ih]
    show _ = nstep ((normM b).foldl nstep acc0) s
    rcases nstep_cases (normM b) s with ⟨e0, e1⟩ | ⟨pre, l, e0, (⟨c1, c2, e1⟩ | ⟨c, e1⟩)⟩
    · rw [e1, e0]
      rfl
    · rw [e1, e0, List.foldl_append, List.foldl_append]
      show nstep (pre.foldl nstep acc0) (l.1, s.2.1, s.2.2) = nstep (nstep (pre.foldl nstep acc0) l) s
      rw [nstep_join _ _ _ c1 c2]
    · rw [e1, List.foldl_append]
      rfl
theorem norm_app (a b : List St3) : normM (a ++ b) = b.foldl nstep (normM a) := by
  unfold normM
  rw [List.foldl_append]
theorem norm_norm (b : List St3) : normM (normM b) = normM b := fold_norm [] b
theorem norm_left (a b : List St3) : normM (normM a ++ b) = normM (a ++ b) := by
  rw [norm_app, norm_app, norm_norm]
theorem norm_right (a b : List St3) : normM (a ++ normM b) = normM (a ++ b) := by
  rw [norm_app, norm_app, fold_norm]
theorem norm_congr {a a' b b' : List St3} (h1 : normM a = normM a') (h2 : normM b = normM b') : normM (a ++ b) = normM (a' ++ b') := by
  rw [← norm_left, h1, norm_left, ← norm_right, h2, norm_right]
/-! ### what is cut out of a show and of its normal one -/
def Pos3 (xs : List St3) : Prop := ∀ s ∈ xs, 0 < s.2.2
theorem lst_join {s t : St3} (h1 : s.2.1 = t.1) (h2 : s.2.2 = t.2.2) : lst3 (s.1, t.2.1, t.2.2) = lst3 s + lst3 t := by
  unfold lst3
  dsimp only
  rw [h2, Rat.div_def, Rat.div_def, Rat.div_def, ← Rat.add_mul, h1]
  congr 1
  grind
theorem lst_mul {s : St3} (h : 0 < s.2.2) : lst3 s * s.2.2 = s.2.1 - s.1 := by
  unfold lst3
  rw [Rat.div_mul_cancel (ne_of_pos h)]
theorem cutM_app : ∀ (xs ys : List St3) (b e : Rat), cutM (xs ++ ys) b e = cutM xs b e ++ cutM ys (b - lenS xs) (e - lenS xs)
  | [], ys, b, e => by
    show cutM ys b e = cutM ys (b - 0) (e - 0)
    rw [show b - 0 = b by grind, show e - 0 = e by grind]
  | s :: r, ys, b, e => by
    show piece s b e ++ cutM (r ++ ys) (b - lst3 s) (e - lst3 s) = (piece s b e ++ cutM r (b - lst3 s) (e - lst3 s)) ++ cutM ys (b - (lst3 s + lenS r)) (e - (lst3 s + lenS r))
    rw [cutM_app r ys, List.append_assoc, show b - lst3 s - lenS r = b - (lst3 s + lenS r) by grind, show e - lst3 s - lenS r = e - (lst3 s + lenS r) by grind]
theorem cutM_one (s : St3) (b e : Rat) : cutM [s] b e = piece s b e := by
  show piece s b e ++ [] = _
  rw [List.append_nil]
/-- the first and the last time of a piece -/
def pf (b : Rat) : Rat := if 0 < b then b else 0
def pg (l e : Rat) : Rat := if e < l then e else l
theorem piece_pf (s : St3) (b e : Rat) : piece s b e = if pf b < pg (lst3 s) e then [(s.1 + pf b * s.2.2, s.1 + pg (lst3 s) e * s.2.2, s.2.2)] else [] := rfl
theorem norm_two (x y : St3) (h1 : x.2.1 = y.1) (h2 : x.2.2 = y.2.2) : normM [x, y] = normM [(x.1, y.2.1, y.2.2)] := by
  show nstep (nstep [] x) y = nstep [] _
  exact nstep_join [] x y h1 h2
theorem pg_shift (u v e : Rat) : pg (u + v) e = u + pg v (e - u) := by
  unfold pg
  grind
theorem pf0 (b : Rat) : 0 ≤ pf b := by
  unfold pf
  grind
theorem pfb (b : Rat) : b ≤ pf b := by
  unfold pf
  grind
theorem pf_neg {b : Rat} (h : b ≤ 0) : pf b = 0 := by
  unfold pf
  grind
theorem pf_pos {b : Rat} (h : 0 ≤ b) : pf b = b := by
  unfold pf
  grind
theorem pge (l e : Rat) : pg l e ≤ e := by
  unfold pg
  grind
theorem pgl (l e : Rat) : pg l e ≤ l := by
  unfold pg
  grind
theorem pg_l {l e : Rat} (h : l ≤ e) : pg l e = l := by
  unfold pg
  grind
theorem pg_e {l e : Rat} (h : e ≤ l) : pg l e = e := by
  unfold pg
  grind
theorem pfg1 {u v b e : Rat} (c1 : pf b < pg u e) (c2 : pf (b - u) < pg v (e - u)) : pf (b - u) = 0 ∧ pg u e = u := by
  have h1 := pf0 (b - u)
  have h2 := pge v (e - u)
  have h3 := pgl u e
  have h4 := pfb b
  have h5 : u ≤ e := by grind
  have h6 : b - u ≤ 0 := by grind
  exact ⟨pf_neg h6, pg_l h5⟩
theorem pfg2 {u v b e : Rat} (l1 : 0 ≤ u) (l2 : 0 ≤ v) (c1 : pf b < pg u e) (c2 : ¬ pf (b - u) < pg v (e - u)) : pg (u + v) e = pg u e := by
  by_cases h : e ≤ u
  · rw [pg_e h, pg_e (by grind)]
  · have h3 := pgl u e
    have h4 := pfb b
    have h5 : pf (b - u) = 0 := pf_neg (by grind)
    rw [pg_l (show u ≤ e by grind), pg_shift]
    rw [h5] at c2
    by_cases h6 : e - u ≤ v
    · rw [pg_e h6] at c2
      grind
    · rw [pg_l (show v ≤ e - u by grind)] at c2 ⊢
      grind
theorem pfg3 {u v b e : Rat} (l1 : 0 ≤ u) (c1 : ¬ pf b < pg u e) (c2 : pf (b - u) < pg v (e - u)) : pf (b - u) = pf b - u := by
  have h1 := pf0 (b - u)
  have h2 := pge v (e - u)
  have h5 : pg u e = u := pg_l (by grind)
  rw [h5] at c1
  by_cases h6 : b ≤ 0
  · have h7 := pf_neg h6
    rw [h7] at c1 ⊢
    rw [pf_neg (show b - u ≤ 0 by grind)]
    grind
  · have h7 := pf_pos (show 0 ≤ b by grind)
    rw [h7] at c1 ⊢
    rw [pf_pos (show 0 ≤ b - u by grind)]
theorem pfg4 {u v b e : Rat} (l1 : 0 ≤ u) (l2 : 0 ≤ v) (c1 : ¬ pf b < pg u e) (c2 : ¬ pf (b - u) < pg v (e - u)) : ¬ pf b < pg (u + v) e := by
  by_cases h : e ≤ u
  · rw [pg_e h] at c1
    rw [pg_e (by grind)]
    exact c1
  · rw [pg_l (show u ≤ e by grind)] at c1
    rw [pg_shift]
    by_cases h6 : b - u ≤ 0
    · rw [pf_neg h6] at c2
      grind
    · rw [pf_pos (show 0 ≤ b - u by grind)] at c2
      rw [pf_pos (show 0 ≤ b by grind)] at c1 ⊢
      grind
theorem piece_join {s t : St3} (h1 : s.2.1 = t.1) (h2 : s.2.2 = t.2.2) (hp : 0 < s.2.2) (l1 : 0 ≤ lst3 s) (l2 : 0 ≤ lst3 t) (b e : Rat) :
    normM (piece s b e ++ piece t (b - lst3 s) (e - lst3 s)) = normM (piece (s.1, t.2.1, t.2.2) b e) := by
  have m1 := lst_mul hp
  have hm : s.2.1 = s.1 + lst3 s * s.2.2 := by grind
  rw [piece_pf, piece_pf, piece_pf, lst_join h1 h2]
  dsimp only
  rw [← h2, ← h1, hm]
  clear hm m1 h1 h2 hp
  generalize lst3 s = u at *
  generalize lst3 t = v at *
  generalize s.2.2 = p at *
  generalize s.1 = a at *
  by_cases c1 : pf b < pg u e
  · by_cases c2 : pf (b - u) < pg v (e - u)
    · obtain ⟨e1, e2⟩ := pfg1 c1 c2
      have e3 := pg_shift u v e
      have c3 : pf b < pg (u + v) e := by
        rw [e3]
        rw [e2] at c1
        rw [e1] at c2
        grind
      rw [if_pos c1, if_pos c2, if_pos c3, e1, e2, e3]
      generalize pg v (e - u) = w
      generalize pf b = z
      refine (norm_two (a + z * p, a + u * p, p) (a + u * p + 0 * p, a + u * p + w * p, p) ?_ rfl).trans ?_
      · show a + u * p = a + u * p + 0 * p
        grind
      · show normM [(a + z * p, a + u * p + w * p, p)] = _
        rw [show a + u * p + w * p = a + (u + w) * p by grind]
    · rw [if_pos c1, if_neg c2, pfg2 l1 l2 c1 c2, if_pos c1]
      rfl
  · by_cases c2 : pf (b - u) < pg v (e - u)
    · have e1 := pfg3 l1 c1 c2
      have e3 := pg_shift u v e
      have c3 : pf b < pg (u + v) e := by
        rw [e3]
        rw [e1] at c2
        generalize pg v (e - u) = w at *
        generalize pf b = z at *
        clear c1 e1 e3
        grind
      rw [if_neg c1, if_pos c2, if_pos c3, e1, e3]
      generalize pg v (e - u) = w
      generalize pf b = z
      rw [show a + u * p + (z - u) * p = a + z * p by grind, show a + u * p + w * p = a + (u + w) * p by grind]
      rfl
    · rw [if_neg c1, if_neg c2, if_neg (pfg4 l1 l2 c1 c2)]
      rfl
structure Gd3 (s : St3) : Prop where
  p : 0 < s.2.2
  l : 0 ≤ lst3 s
theorem nstep_all {P : St3 → Prop} (hj : ∀ s t : St3, s.2.1 = t.1 → s.2.2 = t.2.2 → P s → P t → P (s.1, t.2.1, t.2.2)) {acc : List St3} {s : St3} (h : ∀ x ∈ acc, P x) (hs : P s) : ∀ x ∈ nstep acc s, P x := by
  intro x hx
  rcases nstep_cases acc s with ⟨e0, e1⟩ | ⟨pre, l, e0, (⟨c1, c2, e1⟩ | ⟨c, e1⟩)⟩
  · rw [e1] at hx
    have : x = s := List.mem_singleton.mp hx
    rw [this]
    exact hs
  · rw [e1] at hx
    rcases List.mem_append.mp hx with h1 | h1
    · exact h x (by rw [e0]; exact List.mem_append_left _ h1)
    · rw [List.mem_singleton.mp h1]
      exact hj l s c1 c2 (h l (by rw [e0]; exact List.mem_append_right _ (List.mem_singleton.mpr rfl))) hs
  · rw [e1] at hx
    rcases List.mem_append.mp hx with h1 | h1
    · exact h x h1
    · have : x = s := List.mem_singleton.mp h1
      rw [this]
      exact hs
theorem norm_snoc (b : List St3) (s : St3) : normM (b ++ [s]) = nstep (normM b) s := by
  unfold normM
  rw [List.foldl_append]
  rfl
theorem norm_all {P : St3 → Prop} (hj : ∀ s t : St3, s.2.1 = t.1 → s.2.2 = t.2.2 → P s → P t → P (s.1, t.2.1, t.2.2)) (xs : List St3) : (∀ x ∈ xs, P x) → ∀ x ∈ normM xs, P x := by
  refine snoc_ind (P := fun xs => (∀ x ∈ xs, P x) → ∀ x ∈ normM xs, P x) (fun h => h) (fun b s ih h => ?_) xs
  rw [norm_snoc]
  exact nstep_all hj (ih fun x hx => h x (List.mem_append_left _ hx)) (h s (List.mem_append_right _ (List.mem_singleton.mpr rfl)))
theorem gd_join (s t : St3) (h1 : s.2.1 = t.1) (h2 : s.2.2 = t.2.2) (a : Gd3 s) (b : Gd3 t) : Gd3 (s.1, t.2.1, t.2.2) := ⟨b.p, by rw [lst_join h1 h2]; have := a.l; have := b.l; grind⟩
theorem lenS_one (s : St3) : lenS [s] = lst3 s := by
  show lst3 s + 0 = _
  rw [Rat.add_zero]
theorem lenS_norm (xs : List St3) : lenS (normM xs) = lenS xs := by
  refine snoc_ind (P := fun xs => lenS (normM xs) = lenS xs) rfl (fun b s ih => ?_) xs
  rw [norm_snoc, lenS_app, ← ih]
  rcases nstep_cases (normM b) s with ⟨e0, e1⟩ | ⟨pre, l, e0, (⟨c1, c2, e1⟩ | ⟨c, e1⟩)⟩
  · rw [e1, e0]
    show lenS [(s.1, s.2.1, s.2.2)] = 0 + lenS [s]
    rw [Rat.zero_add]
  · rw [e1, e0, lenS_app, lenS_app, lenS_one, lenS_one, lenS_one, lst_join c1 c2]
    grind
  · rw [e1, lenS_app]
theorem cut_norm (xs : List St3) (b e : Rat) : (∀ s ∈ xs, Gd3 s) → normM (cutM (normM xs) b e) = normM (cutM xs b e) := by
  refine snoc_ind (P := fun xs => (∀ s ∈ xs, Gd3 s) → normM (cutM (normM xs) b e) = normM (cutM xs b e)) (fun _ => rfl) (fun ys s ih h => ?_) xs
  have hy : ∀ s ∈ ys, Gd3 s := fun x hx => h x (List.mem_append_left _ hx)
  have hs : Gd3 s := h s (List.mem_append_right _ (List.mem_singleton.mpr rfl))
  have ih := ih hy
  have gn := norm_all gd_join ys hy
  rw [norm_snoc, cutM_app, cutM_one, ← norm_left, ← ih, norm_left, ← lenS_norm ys]
  rcases nstep_cases (normM ys) s with ⟨e0, e1⟩ | ⟨pre, l, e0, (⟨c1, c2, e1⟩ | ⟨c, e1⟩)⟩
  · rw [e1, e0]
    show normM (piece (s.1, s.2.1, s.2.2) b e ++ []) = normM ([] ++ piece s (b - 0) (e - 0))
    rw [List.append_nil, List.nil_append, show b - 0 = b by grind, show e - 0 = e by grind]
  · rw [e1, e0]
    have hl : Gd3 l := gn l (by rw [e0]; exact List.mem_append_right _ (List.mem_singleton.mpr rfl))
    rw [cutM_app, cutM_app, cutM_one, cutM_one, lenS_app, lenS_one, List.append_assoc]
    refine norm_congr rfl ?_
    rw [show b - (lenS pre + lst3 l) = b - lenS pre - lst3 l by grind, show e - (lenS pre + lst3 l) = e - lenS pre - lst3 l by grind]
    exact (piece_join c1 c2 hl.p hl.l hs.l _ _).symm
  · rw [e1, cutM_app, cutM_one]
/-! ### the deeds -/
theorem fill_norm (xs st : List St3) (b e : Rat) (h : ∀ s ∈ xs, Gd3 s) :
    normM (normM (cutM (normM xs) 0 b) ++ st ++ normM (cutM (normM xs) e (lenS (normM xs)))) = normM (cutM xs 0 b ++ st ++ cutM xs e (lenS xs)) := by
  refine norm_congr (norm_congr ?_ rfl) ?_
  · rw [norm_norm, cut_norm xs 0 b h]
  · rw [norm_norm, cut_norm xs e _ h, lenS_norm]
def fastM (f : Rat) (zs : List St3) : List St3 := zs.map fun s => (s.1, s.2.1, s.2.2 * f)
theorem fast_norm {f : Rat} (hf : 0 < f) (zs : List St3) : fastM f (normM zs) = normM (fastM f zs) := by
  refine snoc_ind (P := fun zs => fastM f (normM zs) = normM (fastM f zs)) rfl (fun b s ih => ?_) zs
  have e : fastM f (b ++ [s]) = fastM f b ++ [(s.1, s.2.1, s.2.2 * f)] := by
    unfold fastM
    rw [List.map_append]
    rfl
  have hi : ∀ p q : Rat, p * f = q * f ↔ p = q := fun p q => ⟨fun h => by
    have h1 : (p - q) * f = 0 := by grind
    rcases Rat.mul_eq_zero.mp h1 with h2 | h2
    · grind
    · exact absurd h2 (ne_of_pos hf), fun h => by rw [h]⟩
  rw [norm_snoc, e, norm_snoc, ← ih]
  generalize normM b = acc
  have em : ∀ (pre : List St3) (l : St3), fastM f (pre ++ [l]) = fastM f pre ++ [(l.1, l.2.1, l.2.2 * f)] := fun pre l => by
    unfold fastM
    rw [List.map_append]
    rfl
  rcases nstep_cases acc s with ⟨e0, e1⟩ | ⟨pre, l, e0, (⟨c1, c2, e1⟩ | ⟨c, e1⟩)⟩
  · rw [e1, e0]
    rfl
  · rw [e1, e0, em, em]
    unfold nstep
    rw [List.getLast?_append, List.getLast?_singleton]
    dsimp only [Option.some_or]
    rw [if_pos ⟨c1, (hi _ _).mpr c2⟩, List.dropLast_concat]
  · rw [e1, em, e0, em]
    unfold nstep
    rw [List.getLast?_append, List.getLast?_singleton]
    dsimp only [Option.some_or]
    rw [if_neg (fun z => c ⟨z.1, (hi _ _).mp z.2⟩)]
end R
namespace R
def L30 : Nat := 2329089562800
theorem l30_dvd : ∀ c : Nat, c < 31 → 0 < c → c ∣ L30 := by decide
theorem t2520_dvd : ∀ c : Nat, c < 10 → 0 < c → c ∣ 2520 := by decide
/-! ### paces as they are drawn -/
structure Pc (p : Rat) : Prop where
  pos : 0 < p
  n9 : p.num.natAbs ≤ 9
  d9 : p.den ≤ 9
theorem num_pos' {p : Rat} (h : 0 < p) : 0 < p.num := by
  have h1 := (Rat.lt_iff 0 p).mp h
  have e1 : (0 : Rat).num = 0 := rfl
  have e2 : (0 : Rat).den = 1 := rfl
  rw [e1, e2, Int.zero_mul] at h1
  omega
theorem mul_den (p : Rat) : p * (p.den : Rat) = (p.num : Rat) := by
  have h := Rat.num_divInt_den p
  rw [Rat.divInt_eq_div, Rat.intCast_natCast] at h
  have hd : (p.den : Rat) ≠ 0 := fun z => p.den_nz (Rat.natCast_inj.mp (show (p.den : Rat) = ((0 : Nat) : Rat) from z))
  have hc := Rat.inv_mul_cancel _ hd
  rw [Rat.div_def] at h
  generalize (p.den : Rat) = d at *
  generalize (p.num : Rat) = n at *
  rw [← h]
  grind
theorem iz_den (p : Rat) : Iz p.den p := ⟨p.num, mul_den p⟩
theorem iz_num {p : Rat} (h : 0 < p) : Iz p.num.natAbs p⁻¹ := by
  have h1 := num_pos' h
  refine ⟨(p.den : Int), ?_⟩
  have e : ((p.num.natAbs : Nat) : Rat) = (p.num : Rat) := by
    rw [← Rat.intCast_natCast]
    congr 1
    omega
  rw [e, ← mul_den p, Rat.intCast_natCast]
  have h2 := Rat.inv_mul_cancel p (ne_of_pos h)
  grind
theorem Pc.iz {p : Rat} (h : Pc p) : Iz 2520 p := (iz_den p).dvd (t2520_dvd _ (by have := h.d9; omega) p.den_pos)
theorem Pc.iv {p : Rat} (h : Pc p) : Iz 2520 p⁻¹ := (iz_num h.pos).dvd (t2520_dvd _ (by have := h.n9; omega) (by have := num_pos' h.pos; omega))
def gm (p : Rat) : Nat := p.num.natAbs * p.den
theorem Pc.gm_le {p : Rat} (h : Pc p) : gm p ≤ 81 := Nat.mul_le_mul h.n9 h.d9
theorem Pc.gm_pos {p : Rat} (h : Pc p) : 0 < gm p := Nat.mul_pos (by have := num_pos' h.pos; omega) p.den_pos
theorem Pc.izg {p : Rat} (h : Pc p) : Iz (gm p) p := (iz_den p).dvd (Nat.dvd_mul_left _ _)
theorem Pc.ivg {p : Rat} (h : Pc p) : Iz (gm p) p⁻¹ := (iz_num h.pos).dvd (Nat.dvd_mul_right _ _)
theorem den_pos_q (p : Rat) : (1 : Rat) ≤ (p.den : Rat) := by
  have : ((1 : Nat) : Rat) ≤ (p.den : Rat) := Rat.natCast_le_natCast.mpr p.den_pos
  exact this
theorem Pc.hi {p : Rat} (h : Pc p) : p ≤ 9 := by
  have h1 : (p.num : Rat) ≤ ((9 : Int) : Rat) := Rat.intCast_le_intCast.mpr (by have := h.n9; omega)
  rw [← mul_den p] at h1
  have h2 := den_pos_q p
  have h3 : p * 1 ≤ p * (p.den : Rat) := Rat.mul_le_mul_of_nonneg_left h2 (by have := h.pos; grind)
  have h4 : ((9 : Int) : Rat) = 9 := rfl
  grind
theorem Pc.lo {p : Rat} (h : Pc p) : p⁻¹ ≤ 9 := by
  have n1 : ((1 : Int) : Rat) ≤ (p.num : Rat) := Rat.intCast_le_intCast.mpr (by have := num_pos' h.pos; omega)
  have h1 : (p.den : Rat) ≤ ((9 : Nat) : Rat) := Rat.natCast_le_natCast.mpr h.d9
  have h2 := mul_den p
  have hi := Rat.inv_pos.mpr h.pos
  have hc := Rat.inv_mul_cancel p (ne_of_pos h.pos)
  have e : p⁻¹ * (p.num : Rat) = (p.den : Rat) := by
    rw [← h2]
    grind
  have h5 : p⁻¹ * 1 ≤ p⁻¹ * (p.num : Rat) := Rat.mul_le_mul_of_nonneg_left n1 (by grind)
  have h4 : ((9 : Nat) : Rat) = 9 := rfl
  grind
/-! ### products of some of the factors -/
inductive Fx : List Rat → Rat → Prop
  | nil : Fx [] 1
  | skip {f : Rat} {fs : List Rat} {x : Rat} : Fx fs x → Fx (f :: fs) x
  | take {f : Rat} {fs : List Rat} {x : Rat} : Fx fs x → Fx (f :: fs) (x * f)
def Gam : List Rat → Nat
  | [] => 1
  | f :: fs => Gam fs * gm f
theorem fx_one : ∀ fs : List Rat, Fx fs 1
  | [] => .nil
  | _ :: fs => .skip (fx_one fs)
theorem Gam_pos : ∀ fs : List Rat, (∀ f ∈ fs, Pc f) → 0 < Gam fs
  | [], _ => Nat.one_pos
  | f :: fs, h => Nat.mul_pos (Gam_pos fs fun g hg => h g (List.mem_cons_of_mem _ hg)) (h f List.mem_cons_self).gm_pos
theorem Gam_le : ∀ fs : List Rat, (∀ f ∈ fs, Pc f) → Gam fs ≤ 81 ^ fs.length
  | [], _ => Nat.le_refl _
  | f :: fs, h => by
    show Gam fs * gm f ≤ 81 ^ (fs.length + 1)
    rw [Nat.pow_succ]
    exact Nat.mul_le_mul (Gam_le fs fun g hg => h g (List.mem_cons_of_mem _ hg)) (h f List.mem_cons_self).gm_le
theorem fx_pos : ∀ {fs : List Rat} {x : Rat}, (∀ f ∈ fs, Pc f) → Fx fs x → 0 < x
  | [], _, _, .nil => by decide
  | f :: fs, _, h, .skip g => fx_pos (fun a ha => h a (List.mem_cons_of_mem _ ha)) g
  | f :: fs, _, h, .take g => Rat.mul_pos (fx_pos (fun a ha => h a (List.mem_cons_of_mem _ ha)) g) (h f List.mem_cons_self).pos
theorem inv_mul2 {x y : Rat} (hx : 0 < x) (hy : 0 < y) : (x * y)⁻¹ = x⁻¹ * y⁻¹ := by
  have h1 := Rat.inv_mul_cancel x (ne_of_pos hx)
  have h2 := Rat.inv_mul_cancel y (ne_of_pos hy)
  have h3 := Rat.inv_mul_cancel (x * y) (ne_of_pos (Rat.mul_pos hx hy))
  have : (x * y)⁻¹ * ((x * y) * (x⁻¹ * y⁻¹)) = x⁻¹ * y⁻¹ := by grind
  have h4 : (x * y) * (x⁻¹ * y⁻¹) = 1 := by grind
  rw [h4] at this
  grind
theorem fx_ratio : ∀ {fs : List Rat} {x y : Rat}, (∀ f ∈ fs, Pc f) → Fx fs x → Fx fs y → Iz (Gam fs) (x * y⁻¹)
  | [], _, _, _, .nil, .nil => ⟨1, by show (1 : Rat) * 1⁻¹ * ((1 : Nat) : Rat) = ((1 : Int) : Rat); grind⟩
  | f :: fs, _, _, h, .skip a, .skip b => (fx_ratio (fun c hc => h c (List.mem_cons_of_mem _ hc)) a b).up _
  | f :: fs, _, _, h, @Fx.take _ _ x a, .skip b => by
    have ih := fx_ratio (fun c hc => h c (List.mem_cons_of_mem _ hc)) a b
    have := ih.mul (h f List.mem_cons_self).izg
    rename_i y
    rw [show x * f * y⁻¹ = x * y⁻¹ * f by grind]
    exact this
  | f :: fs, _, _, h, @Fx.skip _ _ x a, @Fx.take _ _ y b => by
    have h' : ∀ c ∈ fs, Pc c := fun c hc => h c (List.mem_cons_of_mem _ hc)
    have ih := fx_ratio h' a b
    have := ih.mul (h f List.mem_cons_self).ivg
    rw [inv_mul2 (fx_pos h' b) (h f List.mem_cons_self).pos, show x * (y⁻¹ * f⁻¹) = x * y⁻¹ * f⁻¹ by grind]
    exact this
  | f :: fs, _, _, h, @Fx.take _ _ x a, @Fx.take _ _ y b => by
    have h' : ∀ c ∈ fs, Pc c := fun c hc => h c (List.mem_cons_of_mem _ hc)
    have ih := fx_ratio h' a b
    have hf := (h f List.mem_cons_self).pos
    have h2 := Rat.inv_mul_cancel f (ne_of_pos hf)
    rw [inv_mul2 (fx_pos h' b) hf, show x * f * (y⁻¹ * f⁻¹) = x * y⁻¹ by grind]
    exact ih.up _
def p9 : Nat → Rat
  | 0 => 1
  | n + 1 => p9 n * 9
theorem p9_pos : ∀ n, 0 < p9 n
  | 0 => by decide
  | n + 1 => Rat.mul_pos (p9_pos n) (by decide)
theorem mul_le2 {a b c d : Rat} (ha : 0 ≤ a) (hc : 0 ≤ c) (h1 : a ≤ b) (h2 : c ≤ d) : a * c ≤ b * d := by
  have e1 := Rat.mul_le_mul_of_nonneg_right h1 hc
  have e2 := Rat.mul_le_mul_of_nonneg_left h2 (show 0 ≤ b by grind)
  grind
theorem fx_le : ∀ {fs : List Rat} {x : Rat}, (∀ f ∈ fs, Pc f) → Fx fs x → x ≤ p9 fs.length ∧ x⁻¹ ≤ p9 fs.length
  | [], _, _, .nil => ⟨by decide, by show (1 : Rat)⁻¹ ≤ 1; grind⟩
  | f :: fs, _, h, .skip g => by
    have h' : ∀ c ∈ fs, Pc c := fun c hc => h c (List.mem_cons_of_mem _ hc)
    obtain ⟨h1, h2⟩ := fx_le h' g
    have := p9_pos fs.length
    show _ ≤ p9 fs.length * 9 ∧ _ ≤ p9 fs.length * 9
    grind
  | f :: fs, _, h, @Fx.take _ _ x g => by
    have h' : ∀ c ∈ fs, Pc c := fun c hc => h c (List.mem_cons_of_mem _ hc)
    obtain ⟨h1, h2⟩ := fx_le h' g
    have hf := h f List.mem_cons_self
    have hx := fx_pos h' g
    have hi := Rat.inv_pos.mpr hf.pos
    have hj := Rat.inv_pos.mpr hx
    have l1 := hf.hi
    have l2 := hf.lo
    have l3 := hf.pos
    show _ ≤ p9 fs.length * 9 ∧ _ ≤ p9 fs.length * 9
    rw [inv_mul2 hx hf.pos]
    exact ⟨mul_le2 (by grind) (by grind) h1 l1, mul_le2 (by grind) (by grind) h2 l2⟩
end R
namespace R
/-! ### stretches: what they become whole by, their paces -/
structure Fs (D : Nat) (fs : List Rat) (s : St3) : Prop where
  b0 : 0 ≤ s.1
  lt : s.1 < s.2.1
  hi : s.2.1 ≤ 300
  zb : Iz D s.1
  ze : Iz D s.2.1
  pc : ∃ p x, s.2.2 = p * x ∧ Pc p ∧ Fx fs x
section
variable {D : Nat} {fs : List Rat}
theorem fs_join (s t : St3) (h1 : s.2.1 = t.1) (h2 : s.2.2 = t.2.2) (a : Fs D fs s) (b : Fs D fs t) : Fs D fs (s.1, t.2.1, t.2.2) :=
  ⟨a.b0, by have := a.lt; have := b.lt; show s.1 < t.2.1; grind, b.hi, a.zb, b.ze, b.pc⟩
theorem Fs.pos {s : St3} (hf : ∀ f ∈ fs, Pc f) (a : Fs D fs s) : 0 < s.2.2 := by
  obtain ⟨p, x, e, h1, h2⟩ := a.pc
  rw [e]
  exact Rat.mul_pos h1.pos (fx_pos hf h2)
theorem Fs.inv {s : St3} (hf : ∀ f ∈ fs, Pc f) (a : Fs D fs s) : Iz (2520 * Gam fs) s.2.2⁻¹ ∧ s.2.2⁻¹ ≤ 9 * p9 fs.length ∧ Iz (2520 * Gam fs) s.2.2 ∧ s.2.2 ≤ 9 * p9 fs.length := by
  obtain ⟨p, x, e, h1, h2⟩ := a.pc
  have hx := fx_pos hf h2
  have r := fx_ratio hf (fx_one fs) h2
  rw [Rat.one_mul] at r
  have r2 := fx_ratio hf h2 (fx_one fs)
  rw [show x * (1 : Rat)⁻¹ = x by grind] at r2
  obtain ⟨l1, l2⟩ := fx_le hf h2
  have q1 := Rat.inv_pos.mpr h1.pos
  have q2 := Rat.inv_pos.mpr hx
  have q3 := h1.pos
  rw [e, inv_mul2 h1.pos hx]
  exact ⟨h1.iv.mul r, mul_le2 (by grind) (by grind) h1.lo l2, h1.iz.mul r2, mul_le2 (by grind) (by grind) h1.hi l1⟩
theorem Fs.gd {s : St3} (hf : ∀ f ∈ fs, Pc f) (a : Fs D fs s) : Gd3 s := by
  have hp := a.pos hf
  refine ⟨hp, ?_⟩
  unfold lst3
  rw [Rat.div_def]
  have h1 := a.lt
  have h2 := Rat.inv_pos.mpr hp
  have := Rat.mul_nonneg (show 0 ≤ s.2.1 - s.1 by grind) (show 0 ≤ s.2.2⁻¹ by grind)
  exact this
theorem Fs.lst {s : St3} (hf : ∀ f ∈ fs, Pc f) (a : Fs D fs s) : Iz (D * (2520 * Gam fs)) (lst3 s) ∧ 0 ≤ lst3 s ∧ lst3 s ≤ 300 * (9 * p9 fs.length) := by
  refine ⟨?_, (a.gd hf).l, ?_⟩
  · unfold lst3
    rw [Rat.div_def]
    exact (a.ze.sub a.zb).mul (a.inv hf).1
  · unfold lst3
    rw [Rat.div_def]
    have h1 := a.lt
    have h2 := Rat.inv_pos.mpr (a.pos hf)
    have h3 := a.hi
    have h4 := a.b0
    exact mul_le2 (by grind) (by grind) (by grind) (a.inv hf).2.1
def G9 (fs : List Rat) : Nat := 2520 * 2520 * Gam fs
theorem Fs.ratio {s t : St3} (hf : ∀ f ∈ fs, Pc f) (a : Fs D fs s) (b : Fs D fs t) : Iz (G9 fs) (s.2.2⁻¹ * t.2.2) := by
  obtain ⟨p, x, e, h1, h2⟩ := a.pc
  obtain ⟨q, y, e2, h3, h4⟩ := b.pc
  rw [e, e2, inv_mul2 h1.pos (fx_pos hf h2), show p⁻¹ * x⁻¹ * (q * y) = p⁻¹ * q * (y * x⁻¹) by grind]
  exact (h1.iv.mul h3.iz).mul (fx_ratio hf h4 h2)
/-- times of the show: by each pace places of the reel -/
def Tz (D E : Nat) (fs : List Rat) (t : Rat) : Prop := ∀ s, Fs D fs s → Iz E (t * s.2.2)
theorem tz_lst {s : St3} (hf : ∀ f ∈ fs, Pc f) (a : Fs D fs s) : Tz D (D * G9 fs) fs (lst3 s) := by
  intro t ht
  unfold lst3
  rw [Rat.div_def, Rat.mul_assoc]
  exact (a.ze.sub a.zb).mul (a.ratio hf ht)
theorem tz_sub {E : Nat} {x y : Rat} (hx : Tz D E fs x) (hy : Tz D E fs y) : Tz D E fs (x - y) := fun s hs => by
  rw [show (x - y) * s.2.2 = x * s.2.2 - y * s.2.2 by grind]
  exact (hx s hs).sub (hy s hs)
theorem tz_add {E : Nat} {x y : Rat} (hx : Tz D E fs x) (hy : Tz D E fs y) : Tz D E fs (x + y) := fun s hs => by
  rw [Rat.add_mul]
  exact (hx s hs).add (hy s hs)
theorem tz_zero {E : Nat} : Tz D E fs 0 := fun s _ => by
  rw [Rat.zero_mul]
  exact iz_zero _
theorem tz_len (hf : ∀ f ∈ fs, Pc f) : ∀ (xs : List St3), (∀ s ∈ xs, Fs D fs s) → Tz D (D * G9 fs) fs (lenS xs)
  | [], _ => tz_zero
  | s :: r, h => tz_add (tz_lst hf (h s List.mem_cons_self)) (tz_len hf r fun z hz => h z (List.mem_cons_of_mem _ hz))
theorem Tz.part {E : Nat} {x q : Rat} (hx : Tz D E fs x) (hq : Iz 1100 q) : Tz D (E * 1100) fs (x * q) := fun s hs => by
  rw [show x * q * s.2.2 = x * s.2.2 * q by grind]
  exact (hx s hs).mul hq
theorem Tz.up {E : Nat} {x : Rat} (hx : Tz D E fs x) (n : Nat) : Tz D (E * n) fs x := fun s hs => (hx s hs).up n
theorem pf_cases (b : Rat) : pf b = b ∨ pf b = 0 := by
  unfold pf
  split
  · exact .inl rfl
  · exact .inr rfl
theorem pg_cases (l e : Rat) : pg l e = e ∨ pg l e = l := by
  unfold pg
  split
  · exact .inl rfl
  · exact .inr rfl
theorem piece_fs {E : Nat} {s : St3} {b e : Rat} (hf : ∀ f ∈ fs, Pc f) (a : Fs D fs s) (hE : D ∣ E) (hl : Tz D E fs (lst3 s)) (hb : Tz D E fs b) (he : Tz D E fs e) : ∀ t ∈ piece s b e, Fs E fs t := by
  intro t ht
  rw [piece_pf] at ht
  have hp := a.pos hf
  split at ht
  · rename_i c
    rw [List.mem_singleton.mp ht]
    have f0 := pf0 b
    have g0 := pgl (lst3 s) e
    have m := lst_mul hp
    have h1 : 0 ≤ pf b * s.2.2 := Rat.mul_nonneg f0 (by grind)
    have h2 : pf b * s.2.2 < pg (lst3 s) e * s.2.2 := Rat.mul_lt_mul_of_pos_right c hp
    have h3 : pg (lst3 s) e * s.2.2 ≤ lst3 s * s.2.2 := Rat.mul_le_mul_of_nonneg_right g0 (by grind)
    have h4 := a.b0
    have h5 := a.hi
    have zf : Iz E (pf b * s.2.2) := by
      rcases pf_cases b with z | z
      · rw [z]
        exact hb s a
      · rw [z]
        exact tz_zero (E := E) s a
    have zg : Iz E (pg (lst3 s) e * s.2.2) := by
      rcases pg_cases (lst3 s) e with z | z
      · rw [z]
        exact he s a
      · rw [z]
        exact hl s a
    refine ⟨?_, ?_, ?_, (a.zb.dvd hE).add zf, (a.zb.dvd hE).add zg, a.pc⟩
    · show 0 ≤ s.1 + pf b * s.2.2
      grind
    · show s.1 + pf b * s.2.2 < s.1 + pg (lst3 s) e * s.2.2
      grind
    · show s.1 + pg (lst3 s) e * s.2.2 ≤ 300
      grind
  · cases ht
theorem cut_fs {E : Nat} (hf : ∀ f ∈ fs, Pc f) (hE : D * G9 fs ∣ E) : ∀ (xs : List St3) (b e : Rat), (∀ s ∈ xs, Fs D fs s) → Tz D E fs b → Tz D E fs e → ∀ t ∈ cutM xs b e, Fs E fs t
  | [], _, _, _, _, _, t, ht => by cases ht
  | s :: r, b, e, h, hb, he, t, ht => by
    have a := h s List.mem_cons_self
    have hl : Tz D E fs (lst3 s) := fun u hu => (tz_lst hf a u hu).dvd hE
    rcases List.mem_append.mp (show t ∈ piece s b e ++ cutM r (b - lst3 s) (e - lst3 s) from ht) with h1 | h1
    · exact piece_fs hf a (Nat.dvd_trans (Nat.dvd_mul_right _ _) hE) hl hb he t h1
    · exact cut_fs hf hE r _ _ (fun z hz => h z (List.mem_cons_of_mem _ hz)) (tz_sub hb hl) (tz_sub he hl) t h1
theorem Fs.dvd {E : Nat} {s : St3} (a : Fs D fs s) (h : D ∣ E) : Fs E fs s := ⟨a.b0, a.lt, a.hi, a.zb.dvd h, a.ze.dvd h, a.pc⟩
theorem Fs.more {f : Rat} {s : St3} (a : Fs D fs s) : Fs D (f :: fs) s := by
  obtain ⟨p, x, e, h1, h2⟩ := a.pc
  exact ⟨a.b0, a.lt, a.hi, a.zb, a.ze, p, x, e, h1, .skip h2⟩
theorem Fs.fast {f : Rat} {s : St3} (a : Fs D fs s) : Fs D (f :: fs) (s.1, s.2.1, s.2.2 * f) := by
  obtain ⟨p, x, e, h1, h2⟩ := a.pc
  exact ⟨a.b0, a.lt, a.hi, a.zb, a.ze, p, x * f, by show s.2.2 * f = p * (x * f); rw [e]; grind, h1, .take h2⟩
end
/-! how many pieces there are -/
theorem cut_none : ∀ (xs : List St3) (lo b : Rat), (∀ s ∈ xs, Gd3 s) → b ≤ 0 → cutM xs lo b = []
  | [], _, _, _, _ => rfl
  | s :: r, lo, b, h, hb => by
    have hs := (h s List.mem_cons_self).l
    have e : piece s lo b = [] := by
      rw [piece_pf]
      have h1 := pf0 lo
      have h2 := pge (lst3 s) b
      rw [if_neg (by grind)]
    show piece s lo b ++ cutM r (lo - lst3 s) (b - lst3 s) = []
    rw [e, cut_none r _ _ (fun z hz => h z (List.mem_cons_of_mem _ hz)) (by grind)]
    rfl
theorem piece_lt {s : St3} {b e : Rat} (h : (piece s b e).length ≠ 0) : b < lst3 s ∧ 0 < e := by
  rw [piece_pf] at h
  split at h
  · rename_i c
    have h1 := pfb b
    have h2 := pf0 b
    have h3 := pge (lst3 s) e
    have h4 := pgl (lst3 s) e
    grind
  · exact absurd rfl h
theorem cut_len1 (xs : List St3) (b e : Rat) : (cutM xs b e).length ≤ xs.length := by
  induction xs generalizing b e with
  | nil => exact Nat.le_refl _
  | cons s r ih =>
    have h1 := piece_len s b e
    have h2 := ih (b - lst3 s) (e - lst3 s)
    show (piece s b e ++ cutM r (b - lst3 s) (e - lst3 s)).length ≤ r.length + 1
    rw [List.length_append]
    omega
theorem cut_len2 : ∀ (xs : List St3) (lo b e hi : Rat), (∀ s ∈ xs, Gd3 s) → b ≤ e → (cutM xs lo b).length + (cutM xs e hi).length ≤ xs.length + 1
  | [], _, _, _, _, _, _ => by show 0 + 0 ≤ 0 + 1; omega
  | s :: r, lo, b, e, hi, h, hbe => by
    have hr : ∀ z ∈ r, Gd3 z := fun z hz => h z (List.mem_cons_of_mem _ hz)
    have ih := cut_len2 r (lo - lst3 s) (b - lst3 s) (e - lst3 s) (hi - lst3 s) hr (by grind)
    have p1 := piece_len s lo b
    have p2 := piece_len s e hi
    have c2 := cut_len1 r (e - lst3 s) (hi - lst3 s)
    show (piece s lo b ++ cutM r (lo - lst3 s) (b - lst3 s)).length + (piece s e hi ++ cutM r (e - lst3 s) (hi - lst3 s)).length ≤ r.length + 1 + 1
    rw [List.length_append, List.length_append]
    by_cases c : (piece s e hi).length = 0
    · omega
    · have := (piece_lt c).1
      rw [cut_none r (lo - lst3 s) (b - lst3 s) hr (by grind)]
      show _ + 0 + _ ≤ _
      omega
theorem cut_len3 : ∀ (xs : List St3) (lo b e hi : Rat), (∀ s ∈ xs, Gd3 s) → b ≤ e → (cutM xs lo b).length + (cutM xs b e).length + (cutM xs e hi).length ≤ xs.length + 2
  | [], _, _, _, _, _, _ => by show 0 + 0 + 0 ≤ 0 + 2; omega
  | s :: r, lo, b, e, hi, h, hbe => by
    have hr : ∀ z ∈ r, Gd3 z := fun z hz => h z (List.mem_cons_of_mem _ hz)
    have ih := cut_len3 r (lo - lst3 s) (b - lst3 s) (e - lst3 s) (hi - lst3 s) hr (by grind)
    have ih2 := cut_len2 r (b - lst3 s) (e - lst3 s) (e - lst3 s) (hi - lst3 s) hr (Rat.le_refl)
    have p1 := piece_len s lo b
    have p2 := piece_len s e hi
    have p3 := piece_len s b e
    have c2 := cut_len1 r (e - lst3 s) (hi - lst3 s)
    show (piece s lo b ++ cutM r (lo - lst3 s) (b - lst3 s)).length + (piece s b e ++ cutM r (b - lst3 s) (e - lst3 s)).length + (piece s e hi ++ cutM r (e - lst3 s) (hi - lst3 s)).length ≤ r.length + 1 + 2
    rw [List.length_append, List.length_append, List.length_append]
    by_cases c : (piece s e hi).length = 0
    · by_cases c' : (piece s b e).length = 0
      · omega
      · have := (piece_lt c').1
        rw [cut_none r (lo - lst3 s) (b - lst3 s) hr (by grind)]
        show _ + 0 + _ + _ ≤ _
        omega
    · have := (piece_lt c).1
      rw [cut_none r (lo - lst3 s) (b - lst3 s) hr (by grind), cut_none r (b - lst3 s) (e - lst3 s) hr (by grind)]
      show _ + 0 + (_ + 0) + _ ≤ _
      omega
end R
namespace R
/-! ### shows behind so many deeds -/
def gB (i : Nat) : Nat := 2520 * 2520 * 81 ^ i
def dB : Nat → Nat
  | 0 => L30
  | i + 1 => dB i * gB i * 1100
structure SdX (i D : Nat) (fs : List Rat) (xs : List St3) : Prop where
  d0 : 0 < D
  dl : L30 ∣ D
  db : D ≤ dB i
  fl : fs.length ≤ i
  pf : ∀ f ∈ fs, Pc f
  each : ∀ s ∈ xs, Fs D fs s
  len : xs.length ≤ 6 + 4 * i
def Sd (i : Nat) (xs : List St3) : Prop := ∃ D fs, SdX i D fs xs
theorem dB_pos : ∀ i, 0 < dB i
  | 0 => by decide
  | i + 1 => Nat.mul_pos (Nat.mul_pos (dB_pos i) (Nat.mul_pos (by decide) (Nat.pow_pos (by decide)))) (by decide)
theorem dB_step (i : Nat) : dB i ≤ dB (i + 1) := by
  show dB i ≤ dB i * gB i * 1100
  have h1 : 0 < gB i := Nat.mul_pos (by decide) (Nat.pow_pos (by decide))
  calc dB i = dB i * 1 * 1 := by omega
    _ ≤ dB i * gB i * 1100 := Nat.mul_le_mul (Nat.mul_le_mul (Nat.le_refl _) h1) (by decide)
theorem dB_mono {i j : Nat} (h : i ≤ j) : dB i ≤ dB j := by
  induction h with
  | refl => exact Nat.le_refl _
  | step _ ih => exact Nat.le_trans ih (dB_step _)
theorem p9_nat : ∀ n : Nat, p9 n = ((9 ^ n : Nat) : Rat)
  | 0 => rfl
  | n + 1 => by
    show p9 n * 9 = _
    rw [p9_nat n, Nat.pow_succ, Rat.natCast_mul]
    rfl
theorem len_le {D : Nat} {fs : List Rat} (hf : ∀ f ∈ fs, Pc f) : ∀ (xs : List St3), (∀ s ∈ xs, Fs D fs s) → Iz (D * (2520 * Gam fs)) (lenS xs) ∧ 0 ≤ lenS xs ∧ lenS xs ≤ ((xs.length * (300 * (9 * 9 ^ fs.length)) : Nat) : Rat)
  | [], _ => ⟨iz_zero _, Rat.le_refl, by show (0 : Rat) ≤ _; exact Rat.natCast_nonneg⟩
  | s :: r, h => by
    obtain ⟨h1, h2, h3⟩ := (h s List.mem_cons_self).lst hf
    obtain ⟨g1, g2, g3⟩ := len_le hf r fun z hz => h z (List.mem_cons_of_mem _ hz)
    refine ⟨h1.add g1, Rat.add_nonneg h2 g2, ?_⟩
    rw [p9_nat] at h3
    have e : (((s :: r).length * (300 * (9 * 9 ^ fs.length)) : Nat) : Rat) = ((r.length * (300 * (9 * 9 ^ fs.length)) : Nat) : Rat) + 300 * (9 * ((9 ^ fs.length : Nat) : Rat)) := by
      rw [List.length_cons, Nat.add_mul, Nat.one_mul, Rat.natCast_add, Rat.natCast_mul 300, Rat.natCast_mul 9]
      rfl
    rw [e]
    show lst3 s + lenS r ≤ _
    grind
theorem big1 : 76400 * (9 * 9 ^ 19) * (dB 19 * (2520 * 81 ^ 19) * 1100) < 2 ^ 2240 := by decide +kernel
theorem big {M E : Nat} (hM : M ≤ 76400 * (9 * 9 ^ 19)) (hE : E ≤ dB 19 * (2520 * 81 ^ 19) * 1100) : M * E < 2 ^ 2240 := Nat.lt_of_le_of_lt (Nat.mul_le_mul hM hE) big1
theorem big' {E : Nat} (hE : E ≤ dB 19 * (2520 * 81 ^ 19) * 1100) : E < 2 ^ 2240 := by
  have := big (M := 1) (by decide +kernel) hE
  omega
theorem szB {E M : Nat} {x : Rat} (h0 : 0 < E) (hE : E ≤ dB 19 * (2520 * 81 ^ 19) * 1100) (hz : Iz E x) (h1 : 0 ≤ x) (h2 : x ≤ (M : Rat)) (hM : M ≤ 76400 * (9 * 9 ^ 19)) : Sz 2240 x := by
  refine hz.sz h0 (M := M) ?_ h2 (big hM hE) (big' hE)
  have : (0 : Rat) ≤ (M : Rat) := Rat.natCast_nonneg
  grind
section
variable {i D : Nat} {fs : List Rat} {xs : List St3}
theorem SdX.gam (h : SdX i D fs xs) (hi : i ≤ 19) : 0 < Gam fs ∧ Gam fs ≤ 81 ^ 19 := ⟨Gam_pos fs h.pf, Nat.le_trans (Gam_le fs h.pf) (Nat.pow_le_pow_right (by decide) (Nat.le_trans h.fl hi))⟩
theorem SdX.E1 (h : SdX i D fs xs) (hi : i ≤ 19) : D * (2520 * Gam fs) * 1100 ≤ dB 19 * (2520 * 81 ^ 19) * 1100 :=
  Nat.mul_le_mul (Nat.mul_le_mul (Nat.le_trans h.db (dB_mono hi)) (Nat.mul_le_mul (Nat.le_refl _) (h.gam hi).2)) (Nat.le_refl _)
theorem SdX.E1p (h : SdX i D fs xs) (hi : i ≤ 19) : 0 < D * (2520 * Gam fs) * 1100 := Nat.mul_pos (Nat.mul_pos h.d0 (Nat.mul_pos (by decide) (h.gam hi).1)) (by decide)
theorem SdX.M1 (h : SdX i D fs xs) (hi : i ≤ 19) {n : Nat} (hn : n ≤ 82) : n * (300 * (9 * 9 ^ fs.length)) ≤ 76400 * (9 * 9 ^ 19) := by
  have h1 : 9 ^ fs.length ≤ 9 ^ 19 := Nat.pow_le_pow_right (by decide) (Nat.le_trans h.fl hi)
  calc n * (300 * (9 * 9 ^ fs.length)) ≤ 82 * (300 * (9 * 9 ^ 19)) := Nat.mul_le_mul hn (Nat.mul_le_mul (Nat.le_refl _) (Nat.mul_le_mul (Nat.le_refl _) h1))
    _ ≤ 76400 * (9 * 9 ^ 19) := by decide +kernel
theorem SdX.ok (h : SdX i D fs xs) (hi : i ≤ 19) : ShOk 2240 xs := by
  have hl : ∀ ys : List St3, (∀ s ∈ ys, s ∈ xs) → ys.length ≤ 82 → Sz 2240 (lenS ys) := by
    intro ys hy hn
    obtain ⟨h1, h2, h3⟩ := len_le h.pf ys fun s hs => h.each s (hy s hs)
    exact szB (h.E1p hi) (h.E1 hi) (h1.up 1100) h2 h3 (h.M1 hi hn)
  have hD : ∀ s ∈ xs, Iz (D * (2520 * Gam fs) * 1100) s.1 ∧ Iz (D * (2520 * Gam fs) * 1100) s.2.1 ∧ Iz (D * (2520 * Gam fs) * 1100) s.2.2 := by
    intro s hs
    have a := h.each s hs
    refine ⟨(a.zb.up _).up _, (a.ze.up _).up _, ?_⟩
    rw [Nat.mul_comm D]
    exact ((a.inv h.pf).2.2.1.up D).up _
  refine ⟨fun s hs => ?_, fun k => ?_, fun s hs => ?_⟩
  · have a := h.each s hs
    obtain ⟨z1, z2, z3⟩ := hD s hs
    have hp := a.pos h.pf
    have b1 := a.b0
    have b2 := a.lt
    have b3 := a.hi
    have m3 : ((300 : Nat) : Rat) = 300 := rfl
    refine ⟨szB (M := 300) (h.E1p hi) (h.E1 hi) z1 b1 (by grind) (by decide +kernel), szB (M := 300) (h.E1p hi) (h.E1 hi) z2 (by grind) (by grind) (by decide +kernel), szB (M := 1 * (300 * (9 * 9 ^ fs.length))) (h.E1p hi) (h.E1 hi) z3 (by grind) ?_ (h.M1 hi (by decide)), hp⟩
    have := (a.inv h.pf).2.2.2
    rw [p9_nat] at this
    rw [Nat.one_mul, Rat.natCast_mul 300, Rat.natCast_mul 9]
    have q : (0 : Rat) ≤ ((9 ^ fs.length : Nat) : Rat) := Rat.natCast_nonneg
    show s.2.2 ≤ 300 * (9 * ((9 ^ fs.length : Nat) : Rat))
    grind
  · refine hl _ (fun s hs => List.mem_of_mem_take hs) ?_
    have := h.len
    rw [List.length_take]
    omega
  · have := hl [s] (fun t ht => by rw [List.mem_singleton.mp ht]; exact hs) (by show 1 ≤ 82; decide)
    rw [lenS_one] at this
    exact this
theorem SdX.gd (h : SdX i D fs xs) : ∀ s ∈ xs, Gd3 s := fun s hs => (h.each s hs).gd h.pf
/-- a time of a show -/
def Tq (xs : List St3) (t : Rat) : Prop := ∃ q, Iz 1100 q ∧ 0 ≤ q ∧ q ≤ 1 ∧ t = lenS xs * q
theorem SdX.time (h : SdX i D fs xs) (hi : i ≤ 19) {t : Rat} (ht : Tq xs t) : Sz 2240 t ∧ 0 ≤ t ∧ t ≤ lenS xs := by
  obtain ⟨q, h1, h2, h3, rfl⟩ := ht
  obtain ⟨g1, g2, g3⟩ := len_le h.pf xs h.each
  have p1 : lenS xs * q ≤ lenS xs * 1 := Rat.mul_le_mul_of_nonneg_left h3 g2
  have p0 := Rat.mul_nonneg g2 h2
  refine ⟨szB (h.E1p hi) (h.E1 hi) (g1.mul h1) p0 ?_ (h.M1 hi (n := xs.length) (by have := h.len; omega)), p0, by grind⟩
  grind
theorem tq_zero (xs : List St3) : Tq xs 0 := ⟨0, iz_zero _, Rat.le_refl, by decide, by grind⟩
theorem tq_all (xs : List St3) : Tq xs (lenS xs) := ⟨1, iz_int 1100 1, by decide, Rat.le_refl, by grind⟩
theorem Tq.tz (h : SdX i D fs xs) {t : Rat} (ht : Tq xs t) : Tz D (D * G9 fs * 1100) fs t := by
  obtain ⟨q, h1, _, _, rfl⟩ := ht
  exact (tz_len h.pf xs h.each).part h1
theorem SdX.cut (h : SdX i D fs xs) {b e : Rat} (hb : Tq xs b) (he : Tq xs e) : ∀ s ∈ cutM xs b e, Fs (D * G9 fs * 1100) fs s :=
  cut_fs h.pf (Nat.dvd_mul_right _ _) xs b e h.each (hb.tz h) (he.tz h)
theorem SdX.next (h : SdX i D fs xs) {ys : List St3} {gs : List Rat} (hg : gs.length ≤ i + 1) (pg : ∀ f ∈ gs, Pc f) (he : ∀ s ∈ ys, Fs (D * G9 fs * 1100) gs s) (hl : ys.length ≤ xs.length + 4) : SdX (i + 1) (D * G9 fs * 1100) gs ys := by
  refine ⟨Nat.mul_pos (Nat.mul_pos h.d0 (Nat.mul_pos (by decide) (Gam_pos fs h.pf))) (by decide), Nat.dvd_trans h.dl (Nat.dvd_trans (Nat.dvd_mul_right _ _) (Nat.dvd_mul_right _ _)), ?_, hg, pg, he, by have := h.len; omega⟩
  refine Nat.mul_le_mul (Nat.mul_le_mul h.db ?_) (Nat.le_refl _)
  exact Nat.mul_le_mul (Nat.le_refl _) (Nat.le_trans (Gam_le fs h.pf) (Nat.pow_le_pow_right (by decide) h.fl))
theorem mem_app {P : St3 → Prop} {a b : List St3} (ha : ∀ s ∈ a, P s) (hb : ∀ s ∈ b, P s) : ∀ s ∈ a ++ b, P s := fun s hs => (List.mem_append.mp hs).elim (ha s) (hb s)
theorem Sd.out (h : Sd i xs) {b e : Rat} (hb : Tq xs b) (he : Tq xs e) (hbe : b ≤ e) : Sd (i + 1) (cutM xs 0 b ++ cutM xs e (lenS xs)) := by
  obtain ⟨D, fs, h⟩ := h
  refine ⟨_, fs, h.next (by have := h.fl; omega) h.pf (mem_app (h.cut (tq_zero xs) hb) (h.cut he (tq_all xs))) ?_⟩
  rw [List.length_append]
  have := cut_len2 xs 0 b e (lenS xs) h.gd hbe
  omega
theorem fs_new {E : Nat} {gs : List Rat} {s : St3} (a : Fs L30 [] s) (h : L30 ∣ E) : Fs E gs s := by
  obtain ⟨p, x, e, h1, h2⟩ := a.pc
  cases h2
  exact ⟨a.b0, a.lt, a.hi, a.zb.dvd h, a.ze.dvd h, p, 1, e, h1, fx_one gs⟩
theorem Sd.into (h : Sd i xs) {b e : Rat} (hb : Tq xs b) (he : Tq xs e) (hbe : b ≤ e) {ys : List St3} (hy : ∀ s ∈ ys, Fs L30 [] s) (ly : ys.length ≤ 2) : Sd (i + 1) (cutM xs 0 b ++ ys ++ cutM xs b e ++ cutM xs e (lenS xs)) := by
  obtain ⟨D, fs, h⟩ := h
  refine ⟨_, fs, h.next (by have := h.fl; omega) h.pf (mem_app (mem_app (mem_app (h.cut (tq_zero xs) hb) fun s hs => fs_new (hy s hs) (Nat.dvd_trans h.dl (Nat.dvd_trans (Nat.dvd_mul_right _ _) (Nat.dvd_mul_right _ _)))) (h.cut hb he)) (h.cut he (tq_all xs))) ?_⟩
  rw [List.length_append, List.length_append, List.length_append]
  have := cut_len3 xs 0 b e (lenS xs) h.gd hbe
  omega
theorem Sd.faster (h : Sd i xs) {b e f : Rat} (hb : Tq xs b) (he : Tq xs e) (hbe : b ≤ e) (hf : Pc f) : Sd (i + 1) (cutM xs 0 b ++ fastM f (cutM xs b e) ++ cutM xs e (lenS xs)) := by
  obtain ⟨D, fs, h⟩ := h
  refine ⟨_, f :: fs, h.next (by have := h.fl; show fs.length + 1 ≤ _; omega) ?_ (mem_app (mem_app (fun s hs => (h.cut (tq_zero xs) hb s hs).more) ?_) (fun s hs => (h.cut he (tq_all xs) s hs).more)) ?_⟩
  · intro g hg
    rcases List.mem_cons.mp hg with z | z
    · rw [z]
      exact hf
    · exact h.pf g z
  · intro s hs
    obtain ⟨t, ht, rfl⟩ := List.mem_map.mp hs
    exact (h.cut hb he t ht).fast
  · rw [List.length_append, List.length_append, show (fastM f (cutM xs b e)).length = (cutM xs b e).length from List.length_map ..]
    have := cut_len3 xs 0 b e (lenS xs) h.gd hbe
    omega
theorem norm_le (xs : List St3) : (normM xs).length ≤ xs.length := by
  refine snoc_ind (P := fun xs => (normM xs).length ≤ xs.length) (Nat.le_refl _) (fun b s ih => ?_) xs
  rw [norm_snoc, List.length_append]
  have := nstep_len (normM b) s
  show _ ≤ _ + 1
  omega
theorem Sd.norm (h : Sd i xs) : Sd i (normM xs) := by
  obtain ⟨D, fs, h⟩ := h
  exact ⟨D, fs, h.d0, h.dl, h.db, h.fl, h.pf, norm_all fs_join xs h.each, Nat.le_trans (norm_le xs) h.len⟩
theorem Sd.start (hy : ∀ s ∈ xs, Fs L30 [] s) (ly : xs.length ≤ 6) : Sd 0 xs := ⟨L30, [], by decide, Nat.dvd_refl _, Nat.le_refl _, Nat.le_refl _, (fun f hf => nomatch hf), hy, by omega⟩
theorem Sd.ok (h : Sd i xs) (hi : i ≤ 19) : ShOk 2240 xs := let ⟨_, _, h⟩ := h; h.ok hi
theorem Sd.gd (h : Sd i xs) : ∀ s ∈ xs, Gd3 s := let ⟨_, _, h⟩ := h; h.gd
theorem Sd.time (h : Sd i xs) (hi : i ≤ 19) {t : Rat} (ht : Tq xs t) : Sz 2240 t ∧ 0 ≤ t ∧ t ≤ lenS xs := let ⟨_, _, h⟩ := h; h.time hi ht
theorem Sd.len (h : Sd i xs) : xs.length ≤ 6 + 4 * i := let ⟨_, _, h⟩ := h; h.len
end
end R
namespace R
/-! ### what is drawn -/
structure Tm (m : Int) (x : Rat) : Prop where
  iz : Iz L30 x
  lo : 0 ≤ x
  hi : x ≤ (m : Rat)
  sz : Sz 17 x
  s6 : m ≤ 60 → Sz 6 x
  dn : x.den ≤ 30
theorem l30_int {c : Int} (h0 : 0 < c) (h1 : c ≤ 30) : c ∣ (L30 : Int) := by
  have := l30_dvd c.natAbs (by omega) (by omega)
  exact Int.natAbs_dvd_natAbs.mp this
theorem div_le {r c : Int} (h0 : 0 ≤ r) (c0 : 0 < c) : 0 ≤ Rat.divInt r c ∧ Rat.divInt r c ≤ (r : Rat) := by
  have hr : (0 : Rat) ≤ (r : Rat) := Rat.intCast_nonneg.mpr h0
  have hc : (0 : Rat) < (c : Rat) := Rat.intCast_pos.mpr c0
  have h1 : ((1 : Int) : Rat) ≤ (c : Rat) := Rat.intCast_le_intCast.mpr (by omega)
  have hi := Rat.inv_pos.mpr hc
  have hm := Rat.inv_mul_cancel _ (ne_of_pos hc)
  have e1 : ((1 : Int) : Rat) = 1 := rfl
  rw [Rat.divInt_eq_div, Rat.div_def]
  refine ⟨Rat.mul_nonneg hr (by grind), ?_⟩
  have h2 : (c : Rat)⁻¹ * 1 ≤ (c : Rat)⁻¹ * (c : Rat) := Rat.mul_le_mul_of_nonneg_left (by grind) (by grind)
  have h3 : (r : Rat) * (c : Rat)⁻¹ ≤ (r : Rat) * 1 := Rat.mul_le_mul_of_nonneg_left (by grind) hr
  grind
theorem tm_frac {m r c : Int} (h0 : 0 ≤ r) (h1 : r < m) (hm : m ≤ 100000) (c0 : 0 < c) (c1 : c ≤ 30) : Tm m (Rat.divInt r c) := by
  obtain ⟨a1, a2⟩ := div_le h0 c0
  have h2 : (r : Rat) ≤ (m : Rat) := Rat.intCast_le_intCast.mpr (by omega)
  refine ⟨iz_divInt c0 (l30_int c0 c1), a1, Rat.le_trans a2 h2, sz_divInt (by omega) (by omega) (by omega), fun hh => sz_divInt (by omega) (by omega) (by omega), ?_⟩
  have := divInt_den_le (t := r) (b := c) (by omega)
  omega
theorem tm_int {m r : Int} (h0 : 0 ≤ r) (h1 : r < m) (hm : m ≤ 100000) : Tm m (r : Rat) := by
  refine ⟨iz_int _ _, Rat.intCast_nonneg.mpr h0, Rat.intCast_le_intCast.mpr (by omega), sz_int (by decide) (by omega), fun hh => sz_int (by decide) (by omega), by show 1 ≤ 30; decide⟩
theorem pc_frac {a b : Int} (a0 : 1 ≤ a) (a9 : a ≤ 9) (b0 : 1 ≤ b) (b9 : b ≤ 9) : Pc (Rat.divInt a b) := by
  refine ⟨?_, ?_, ?_⟩
  · rw [Rat.divInt_eq_div, Rat.div_def]
    exact Rat.mul_pos (Rat.intCast_pos.mpr (by omega)) (Rat.inv_pos.mpr (Rat.intCast_pos.mpr (by omega)))
  · have := divInt_num_le a b
    omega
  · have := divInt_den_le (t := a) (b := b) (by omega)
    omega
structure Wq (q : Rat) : Prop where
  iz : Iz 1100 q
  lo : 0 ≤ q
  hi : q ≤ 1
  sz : Sz 7 q
theorem wq_frac {r c : Int} (h0 : 0 ≤ r) (h1 : r ≤ c) (c0 : 0 < c) (hc : c ∣ 1100) (h7 : c ≤ 100) : Wq (Rat.divInt r c) := by
  refine ⟨iz_divInt c0 hc, (div_le h0 c0).1, ?_, sz_divInt (by omega) (by omega) (by omega)⟩
  have hp : (0 : Rat) < (c : Rat) := Rat.intCast_pos.mpr c0
  have hi := Rat.inv_pos.mpr hp
  have hm := Rat.mul_inv_cancel _ (ne_of_pos hp)
  have h2 : (r : Rat) ≤ (c : Rat) := Rat.intCast_le_intCast.mpr h1
  rw [Rat.divInt_eq_div, Rat.div_def]
  have := Rat.mul_le_mul_of_nonneg_right h2 (show 0 ≤ (c : Rat)⁻¹ by grind)
  grind
def bnd : Nat → Rat
  | 0 => 60
  | n + 1 => bnd n + 31
theorem bnd_le : ∀ n, 60 ≤ bnd n
  | 0 => by decide
  | n + 1 => by
    have := bnd_le n
    show 60 ≤ bnd n + 31
    grind
theorem bnd_step (n : Nat) : bnd n ≤ bnd (n + 1) := by
  show bnd n ≤ bnd n + 31
  grind
theorem bnd_300 : ∀ n, n ≤ 6 → bnd n ≤ 300
  | 0, _ => by decide
  | 1, _ => by show (60 : Rat) + 31 ≤ (300 : Rat); grind
  | 2, _ => by show (60 : Rat) + 31 + 31 ≤ (300 : Rat); grind
  | 3, _ => by show (60 : Rat) + 31 + 31 + 31 ≤ (300 : Rat); grind
  | 4, _ => by show (60 : Rat) + 31 + 31 + 31 + 31 ≤ (300 : Rat); grind
  | 5, _ => by show (60 : Rat) + 31 + 31 + 31 + 31 + 31 ≤ (300 : Rat); grind
  | 6, _ => by show (60 : Rat) + 31 + 31 + 31 + 31 + 31 + 31 ≤ (300 : Rat); grind
  | n + 7, h => absurd h (by omega)
/-- a stretch as it is drawn -/
theorem fs_drawn {i : Nat} (hi : i ≤ 5) {b t p : Rat} (zb : Iz L30 b) (b0 : 0 ≤ b) (bb : b ≤ bnd i) (ht : Tm 30 t) (hp : Pc p) : Fs L30 [] (b, b + (Rat.divInt 1 2 + t), p) ∧ b + (Rat.divInt 1 2 + t) ≤ bnd (i + 1) := by
  have h1 : (0 : Rat) < Rat.divInt 1 2 := by decide
  have h2 : Rat.divInt 1 2 ≤ 1 := by decide
  have h3 := ht.lo
  have h4 := ht.hi
  have e30 : ((30 : Int) : Rat) = 30 := rfl
  rw [e30] at h4
  have h5 : b + (Rat.divInt 1 2 + t) ≤ bnd (i + 1) := by
    show _ ≤ bnd i + 31
    grind
  have h6 := bnd_300 (i + 1) (by omega)
  refine ⟨⟨b0, ?_, Rat.le_trans h5 h6, zb, zb.add ((iz_divInt (by decide) (l30_int (by decide) (by decide))).add ht.iz), p, 1, by show p = p * 1; grind, hp, .nil⟩, h5⟩
  show b < b + (Rat.divInt 1 2 + t)
  grind
end R
namespace R
/-! ### cues, as plain data -/
structure TB (x : Rat) : Prop where
  lo : 0 ≤ x
  hi : x ≤ 100100
  dn : x.den ≤ 29700
theorem den_add_le (x y : Rat) : (x + y).den ≤ x.den * y.den := by
  rw [← add_parts]
  exact divInt_den_le (den_mul_ne x y)
theorem den_mul_le (x y : Rat) : (x * y).den ≤ x.den * y.den := by
  rw [← mul_parts]
  exact divInt_den_le (den_mul_ne x y)
theorem num_nonneg {x : Rat} (h : 0 ≤ x) : 0 ≤ x.num := by
  have h1 := (Rat.le_iff 0 x).mp h
  have e1 : (0 : Rat).num = 0 := rfl
  have e2 : (0 : Rat).den = 1 := rfl
  rw [e1, e2, Int.zero_mul] at h1
  omega
theorem TB.num {x : Rat} (h : TB x) : 0 ≤ x.num ∧ x.num ≤ 2972970000 := by
  refine ⟨num_nonneg h.lo, ?_⟩
  have h1 := mul_den x
  have h2 : x * (x.den : Rat) ≤ 100100 * (x.den : Rat) := Rat.mul_le_mul_of_nonneg_right h.hi Rat.natCast_nonneg
  have h3 : (x.den : Rat) ≤ ((29700 : Nat) : Rat) := Rat.natCast_le_natCast.mpr h.dn
  have e3 : ((29700 : Nat) : Rat) = 29700 := rfl
  have h4 : (x.num : Rat) ≤ ((2972970000 : Int) : Rat) := by
    rw [← h1]
    have e4 : ((2972970000 : Int) : Rat) = 2972970000 := rfl
    rw [e4]
    grind
  exact Rat.intCast_le_intCast.mp h4
theorem TB.sz {x : Rat} (h : TB x) : Sz 32 x := ⟨by have := h.num; omega, by have := h.dn; omega⟩
theorem dn3 : (Rat.divInt 1 3).den ≤ 3 := divInt_den_le (by decide)
structure CueB (b t : Rat) : Prop where
  b : Tm 99999 b
  t : Tm 25 t
section
variable {b t : Rat}
def cEnd (b t : Rat) : Rat := b + (Rat.divInt 1 3 + t)
theorem third : (0 : Rat) < Rat.divInt 1 3 ∧ Rat.divInt 1 3 ≤ 1 := by decide
theorem CueB.lt (h : CueB b t) : b < cEnd b t := by
  have := h.t.lo
  have := third.1
  unfold cEnd
  grind
theorem e25 : ((25 : Int) : Rat) = 25 := rfl
theorem e99 : ((99999 : Int) : Rat) = 99999 := rfl
theorem CueB.end_le (h : CueB b t) : cEnd b t ≤ 100100 := by
  have h1 := h.t.hi
  have h2 := third.2
  have h3 := h.b.hi
  rw [e25] at h1
  rw [e99] at h3
  unfold cEnd
  grind
theorem CueB.tb (h : CueB b t) : TB b := ⟨h.b.lo, by have h3 := h.b.hi; rw [e99] at h3; grind, by have := h.b.dn; omega⟩
theorem far_dn (h : CueB b t) : (Rat.divInt 1 3 + t).den ≤ 90 := by
  have h1 := den_add_le (Rat.divInt 1 3) t
  have h2 : (Rat.divInt 1 3).den * t.den ≤ 3 * 30 := Nat.mul_le_mul dn3 h.t.dn
  omega
theorem CueB.te (h : CueB b t) : TB (cEnd b t) := by
  refine ⟨?_, h.end_le, ?_⟩
  · have := h.lt
    have := h.b.lo
    grind
  · have h1 := den_add_le b (Rat.divInt 1 3 + t)
    have h2 : b.den * (Rat.divInt 1 3 + t).den ≤ 30 * 90 := Nat.mul_le_mul h.b.dn (far_dn h)
    unfold cEnd
    omega
theorem inv11 : (0 : Rat) ≤ ((11 : Int) : Rat)⁻¹ := Rat.le_of_lt (Rat.inv_pos.mpr (Rat.intCast_pos.mpr (by decide)))
/-- the time of a word -/
def cAt (b t : Rat) (a : Int) : Rat := b + (cEnd b t - b) * Rat.divInt a 11
theorem far_eq (b t : Rat) : cEnd b t - b = Rat.divInt 1 3 + t := by
  unfold cEnd
  grind
theorem cAt_le {a c : Int} (h : CueB b t) (hac : a ≤ c) : cAt b t a ≤ cAt b t c := by
  have hf : 0 ≤ cEnd b t - b := by have := h.lt; grind
  have hq : Rat.divInt a 11 ≤ Rat.divInt c 11 := by
    rw [Rat.divInt_eq_div, Rat.divInt_eq_div, Rat.div_def, Rat.div_def]
    exact Rat.mul_le_mul_of_nonneg_right (Rat.intCast_le_intCast.mpr hac) inv11
  have := Rat.mul_le_mul_of_nonneg_left hq hf
  unfold cAt
  grind
theorem cAt_rg {a : Int} (h : CueB b t) (h0 : 0 ≤ a) (h1 : a ≤ 10) : b ≤ cAt b t a ∧ cAt b t a < cEnd b t ∧ TB (cAt b t a) := by
  have hl := h.lt
  have hf : 0 < cEnd b t - b := by grind
  have q0 := (div_le (r := a) (c := 11) h0 (by decide)).1
  have q1 : Rat.divInt a 11 < 1 := by
    have e : Rat.divInt a 11 ≤ Rat.divInt 10 11 := by
      rw [Rat.divInt_eq_div, Rat.divInt_eq_div, Rat.div_def, Rat.div_def]
      exact Rat.mul_le_mul_of_nonneg_right (Rat.intCast_le_intCast.mpr h1) inv11
    have e2 : Rat.divInt 10 11 < 1 := by decide
    grind
  have m0 := Rat.mul_nonneg (Rat.le_of_lt hf) q0
  have m1 : (cEnd b t - b) * Rat.divInt a 11 < (cEnd b t - b) * 1 := Rat.mul_lt_mul_of_pos_left q1 hf
  have r0 : b ≤ cAt b t a := by
    unfold cAt
    grind
  have r1 : cAt b t a < cEnd b t := by
    unfold cAt
    grind
  refine ⟨r0, r1, ?_, ?_, ?_⟩
  · have := h.b.lo
    grind
  · have := h.end_le
    grind
  · have d1 := den_mul_le (cEnd b t - b) (Rat.divInt a 11)
    rw [far_eq] at d1
    have d2 : (Rat.divInt a 11).den ≤ 11 := divInt_den_le (by decide)
    have d3 : (Rat.divInt 1 3 + t).den * (Rat.divInt a 11).den ≤ 90 * 11 := Nat.mul_le_mul (far_dn h) d2
    have d4 := den_add_le b ((cEnd b t - b) * Rat.divInt a 11)
    have d5 : b.den * ((cEnd b t - b) * Rat.divInt a 11).den ≤ 30 * 990 := Nat.mul_le_mul h.b.dn (by rw [far_eq]; omega)
    unfold cAt
    omega
end
end R
namespace R
open PySem PySem.Spec PyProof.Rows L2
/-! ### sorted(xs), xs a list of like data -/
def rSortedD (K : PySem.W.Frag) {β : Type} (enc : β → PyData) : List V → Hp → VK → Prop := fun vs H Q => ∃ (a : Addr) (xs : List V) (bs : List β), vs = [V.ref a] ∧ SqL K H a xs ∧ DpAll K H xs (bs.map enc) ∧ PySem.W.AllAlike (bs.map enc) ∧ PySem.W.Sortable (bs.map enc) ∧ (∀ b ∈ bs, (enc b).depth ≤ 60) ∧
  ∀ ys p, H p = none → DpAll K H ys ((bs.mergeSort (PySem.W.dataLe false enc)).map enc) → Q (.ref p) (upd H p (.lst ys))
theorem dpl {K : PySem.W.Frag} {H : Hp} : ∀ {vs : List V} {ds : List PyData}, DpAll K H vs ds → vs.length = ds.length
  | _, _, .nil => rfl
  | _, _, .cons _ h => by rw [List.length_cons, List.length_cons, dpl h]
section
variable {X : Cx}
theorem dpa_each {K : PySem.W.Frag} {H : Hp} {β : Type} {enc : β → PyData} : ∀ {xs : List V} {us : List Value} {bs : List β}, Vals xs us → DpAll K H xs (bs.map enc) → PySem.W.EachIs (fun u b => ∃ v, RelV v u ∧ Dp K H v (enc b)) us bs
  | [], _, [], .nil, _ => .nil
  | [], _, _ :: _, .nil, h => by cases h
  | _ :: _, _, [], .cons _ _, h => by cases h
  | v :: xs, _, b :: bs, .cons r rs, h => by
    cases h with
    | cons h1 h2 => exact .cons ⟨v, r, h1⟩ (dpa_each rs h2)
theorem each_dpa {K : PySem.W.Frag} {H : Hp} {β : Type} {enc : β → PyData} : ∀ {us : List Value} {bs : List β}, PySem.W.EachIs (fun u b => ∃ v, RelV v u ∧ Dp K H v (enc b)) us bs → ∃ xs, Vals xs us ∧ DpAll K H xs (bs.map enc)
  | _, _, .nil => ⟨[], .nil, .nil⟩
  | _, _, .cons ⟨v, r, h1⟩ h2 => by
    obtain ⟨xs, rs, hs⟩ := each_dpa h2
    exact ⟨v :: xs, .cons r rs, .cons h1 hs⟩
theorem cr_sortedD {β : Type} (enc : β → PyData) (hu : X.A.units + 64 < cLine) : CallR X (.builtin "sorted") (rSortedD X.K enc) := by
  intro pins s σ H vs us Q I r h
  obtain ⟨a, xs, bs, rfl, hs, hx, hal, hso, hdp, q⟩ := h
  obtain ⟨its, rv, hl, hz⟩ := I.list hs
  obtain ⟨u, rfl, ru⟩ := vals1 r
  obtain rfl : u = Value.ref a := ru
  have e := dpa_each rv hx
  have lb : xs.length = bs.length := by rw [dpl hx, List.length_map]
  have er : PySem.W.EachIs (fun v b => ∃ as, Reads s.heap v (enc b) as) its bs := e.mono fun u b ⟨v, rv, hv⟩ => Dp.reads I _ _ _ hv rv
  refine PySem.W.sorted_data hl.isList e er hal hso (by rw [← lb]; exact hz) (fun b hb => ?_) fun out hlen eo => ?_
  · have := hdp b hb
    omega
  · obtain ⟨ys, ry, dy⟩ := each_dpa eo
    obtain ⟨n, hn⟩ := sortedAll_at s.heap its (List.toArray out)
    have hd : s.heap.objs.size ≤ s.heap.objs.size + 1 := Nat.le_succ _
    refine ⟨.ref (s.heap.objs.size + 1), upd H (s.heap.objs.size + 1) (.lst ys), I.laid (t' := s.toks) (fun b o e => sortedAll_old e) hd ⟨?_, out, n, ry, hn⟩, rfl, q _ _ (I.hok.fresh hd) dy⟩
    rw [ry.length, hlen, ← lb]
    exact hz
end
end R
namespace R
open PySem PySem.Spec PyProof.Rows L2
/-! ### the texts of times -/
def qw (q : Rat) : Int := q.num / (q.den : Int)
def qr (q : Rat) : Int := q.num % (q.den : Int)
structure Bd (n : Int) (q : Rat) : Prop where
  pos : 0 ≤ q.num
  num : q.num < n
  den : (q.den : Int) < n
def rs (t b : Int) : Str := if t = 0 then Str.empty else (" " : Str) ++ (sI t ++ (("/" : Str) ++ sI b))
def mixT (q : Rat) : Str := sI (qw q) ++ rs (qr q) (q.den : Int)
def framesT (q : Rat) : Str := mixT q ++ ("f" : Str)
def secondsT (q : Rat) (r : Int) : Str := mixT (q / (r : Rat)) ++ ("s" : Str)
def clockT (q : Rat) (r : Int) : Str := (sI (qw q / r / 3600) ++ ((":" : Str) ++ (pad2 (qw q / r / 60 % 60) ++ ((":" : Str) ++ (pad2 (qw q / r % 60) ++ ((":" : Str) ++ pad2 (qw q % r))))))) ++ rs (qr q) (q.den : Int)
theorem qf {q : Rat} : q.num.fdiv (q.den : Int) = qw q := Int.fdiv_eq_ediv_of_nonneg _ (by omega)
theorem qm {q : Rat} : q.num.fmod (q.den : Int) = qr q := Int.fmod_eq_emod_of_nonneg _ (by omega)
theorem qw_rg {q : Rat} {n : Int} (h : Bd n q) : 0 ≤ qw q ∧ qw q < n := by
  have h1 := den_pos q
  have h2 := h.pos
  have h3 := h.num
  have h4 : q.num / (q.den : Int) ≤ q.num := Int.ediv_le_self _ h2
  exact ⟨Int.ediv_nonneg h2 (by omega), by unfold qw; omega⟩
theorem qr_rg {q : Rat} {n : Int} (h : Bd n q) : 0 ≤ qr q ∧ qr q < n := by
  have h1 := den_pos q
  have h3 := h.den
  have := Int.emod_lt_of_pos q.num h1
  exact ⟨Int.emod_nonneg _ (by omega), by unfold qr; omega⟩
theorem cdq {q : Rat} {i : Int} (h : Bd (10 ^ 30) q) : CDivX i (q.den : Int) := cdiv (b := 100) (den_ne q) (by have := h.den; omega) (by decide) (by decide)
theorem rs_len {t b : Int} (t0 : 0 ≤ t) (t1 : t < 10 ^ 30) (b0 : 0 ≤ b) (b1 : b < 10 ^ 30) : (rs t b).length ≤ 62 := by
  unfold rs
  split
  · exact Nat.zero_le _
  · have := sI_len t0 t1
    have := sI_len b0 b1
    rw [slen, slen, slen]
    show 1 + (_ + (1 + _)) ≤ 62
    omega
theorem mix_len {q : Rat} (h : Bd (10 ^ 30) q) : (mixT q).length ≤ 92 := by
  have := sI_len (qw_rg h).1 (qw_rg h).2
  have := rs_len (qr_rg h).1 (qr_rg h).2 (show 0 ≤ (q.den : Int) by omega) h.den
  unfold mixT
  rw [slen]
  omega
theorem Bd.mono {n m : Int} {q : Rat} (h : Bd n q) (k : n ≤ m) : Bd m q := ⟨h.pos, by have := h.num; omega, by have := h.den; omega⟩
theorem div_rate (q : Rat) (r : Int) : Rat.divInt q.num ((q.den : Int) * r) = q / (r : Rat) := by
  rw [← div_parts q (r : Rat)]
  show _ = Rat.divInt (q.num * ((1 : Nat) : Int)) ((q.den : Int) * r)
  rw [show ((1 : Nat) : Int) = 1 from rfl, Int.mul_one]
theorem bd_rate {q : Rat} {r : Int} (h : Bd (10 ^ 27) q) (r0 : 0 < r) (r1 : r ≤ 120) : Bd (10 ^ 30) (q / (r : Rat)) := by
  have hd := den_pos q
  have hne : (q.den : Int) * r ≠ 0 := Int.mul_ne_zero (den_ne q) (by omega)
  rw [← div_rate]
  have h1 := divInt_num_le q.num ((q.den : Int) * r)
  have h2 := divInt_den_le (t := q.num) hne
  have h3 := h.num
  have h4 := h.den
  have h5 := h.pos
  have h7 : (q.den : Int) * r ≤ (q.den : Int) * 120 := Int.mul_le_mul_of_nonneg_left r1 (by omega)
  have h8 : 0 < (q.den : Int) * r := Int.mul_pos hd r0
  refine ⟨?_, by omega, by omega⟩
  rw [← fr_num hne]
  unfold frI
  rw [if_neg (by omega), Int.fdiv_eq_ediv_of_nonneg _ (by omega)]
  exact Int.ediv_nonneg h5 (by omega)
theorem sz_of_bd {n : Nat} {q : Rat} (h : Bd (2 ^ n : Nat) q) : Sz n q := ⟨by have := h.pos; have := h.num; omega, by have := h.den; omega⟩
theorem bd100 {q : Rat} (h : Bd (10 ^ 30) q) : Sz 100 q := ⟨by have := h.pos; have := h.num; omega, by have := h.den; omega⟩
theorem sz60 {n : Nat} (h : n ≤ 1000) : n ≤ sizeLine := Nat.le_trans h (by decide)
end R
namespace R
open PySem TL
/-! ### numbers in texts -/
def dig (c : Nat) : Bool := decide (48 ≤ c) && decide (c ≤ 57)
def numOk (w : List Nat) : Bool := w.all dig && !w.isEmpty && decide (w.length ≤ 9) && !(w.head? == some 48 && w != [48])
theorem val_snoc (w : List Nat) (c : Nat) : NumText.digitsVal (w ++ [c]) = NumText.digitsVal w * 10 + (c - 48) := by
  unfold NumText.digitsVal
  rw [List.foldl_append]
  rfl
theorem num_back : ∀ (n : Nat) (w : List Nat), w.length = n → w.all dig = true → w ≠ [] → (w.head? = some 48 → w = [48]) → numL (NumText.digitsVal w) = w
  | 0, w, hn, _, h, _ => absurd (List.eq_nil_of_length_eq_zero hn) h
  | n + 1, w, hn, hd, _, hz => by
    rcases List.eq_nil_or_concat w with e | ⟨v, c, e⟩
    · rw [e] at hn
      cases hn
    · have e : w = v ++ [c] := by rw [e]; simp
      subst e
      rw [List.all_append, Bool.and_eq_true] at hd
      have hc : 48 ≤ c ∧ c ≤ 57 := by
        have := hd.2
        simpa [dig] using this
      rw [val_snoc]
      cases v with
      | nil =>
        show numL (0 * 10 + (c - 48)) = [c]
        rw [numL_lt (by omega)]
        congr 1
        omega
      | cons d r =>
        have hd0 : d ≠ 48 := fun e => by
          have := hz (by rw [e]; rfl)
          simp at this
        have ih := num_back n (d :: r) (by simpa using hn) hd.1 (by simp) (fun h => absurd (Option.some.inj h) hd0)
        have h1 : 1 ≤ NumText.digitsVal (d :: r) := by
          refine Nat.pos_of_ne_zero fun e => ?_
          rw [e, numL_lt (by decide)] at ih
          exact hd0 (List.cons.inj ih).1.symm
        rw [numL_step (by omega), show (NumText.digitsVal (d :: r) * 10 + (c - 48)) / 10 = NumText.digitsVal (d :: r) by omega, ih]
        congr 2
        omega
theorem numL_head {n : Nat} (h : (numL n).head? = some 48) : n = 0 := by
  induction n using Nat.strongRecOn with
  | _ n ih =>
    by_cases h1 : n < 10
    · rw [numL_lt h1] at h
      have := Option.some.inj h
      omega
    · rw [numL_step (by omega)] at h
      have ne := numL_ne (n / 10)
      cases e : numL (n / 10) with
      | nil => exact absurd e ne
      | cons a r =>
        rw [e] at h
        have := ih (n / 10) (by omega) (by rw [e]; exact h)
        omega
theorem numL_nine {n : Nat} (h : (numL n).length ≤ 9) : n < 10 ^ 9 := by
  refine Nat.lt_of_not_le fun c => ?_
  have := PyProof.Rows.digits10_ge (k := 9) c
  unfold numL at h
  rw [List.length_map] at h
  omega
theorem numOk_num {n : Nat} (h : n < 10 ^ 9) : numOk (numL n) = true := by
  have h1 : (numL n).all dig = true := by
    rw [List.all_eq_true]
    intro c hc
    have := numL_digits n c hc
    simp [dig, this]
  have h2 : (numL n).length ≤ 9 := numL_len (by decide) h
  unfold numOk
  rw [h1, decide_eq_true h2]
  cases e : (numL n).head? with
  | none => exact absurd (List.head?_eq_none_iff.mp e) (numL_ne n)
  | some a =>
    have ne : (numL n).isEmpty = false := by
      cases e2 : numL n with
      | nil => exact absurd e2 (numL_ne n)
      | cons _ _ => rfl
    rw [ne]
    by_cases ha : a = 48
    · subst ha
      have := numL_head e
      subst this
      rfl
    · rw [show (some a == some 48) = false by simpa using ha]
      rfl
theorem num_of {w : List Nat} (h : numOk w = true) : ∃ n, w = numL n ∧ n < 10 ^ 9 ∧ NumText.digitsVal w = n := by
  unfold numOk at h
  simp only [Bool.and_eq_true, Bool.not_eq_true', decide_eq_true_eq] at h
  obtain ⟨⟨⟨h1, h2⟩, h3⟩, h4⟩ := h
  have ne : w ≠ [] := fun e => by
    rw [e] at h2
    cases h2
  have e := num_back w.length w rfl h1 ne (fun hh => by
    rw [hh] at h4
    simpa using h4)
  refine ⟨_, e.symm, ?_, rfl⟩
  rw [← e] at h3
  exact numL_nine h3
theorem tl_sI (n : Nat) : tl (sI (n : Int)) = numL n := tl_num n
theorem str_ext {a b : Str} (h : tl a = tl b) : a = b := by
  cases a
  cases b
  congr 1
  exact Array.toList_inj.mp h
theorem tl_app (a b : Str) : tl (a ++ b) = tl a ++ tl b := by
  show (a ++ b).cps.toList = _
  rw [Str.cps_append, Array.toList_append]
theorem len_tl' (a : Str) : a.length = (tl a).length := by
  show a.cps.size = _
  simp
/-! ### the first place of a sign -/
theorem first_split {s : Nat} : ∀ {l : List Nat}, s ∈ l → ∃ a b, l = a ++ s :: b ∧ s ∉ a
  | [], h => by cases h
  | c :: r, h => by
    by_cases e : c = s
    · exact ⟨[], r, by rw [e]; rfl, by simp⟩
    · obtain ⟨a, b, e1, e2⟩ := first_split (l := r) ((List.mem_cons.mp h).resolve_left (fun z => e z.symm))
      exact ⟨c :: a, b, by rw [e1]; rfl, by simp [e2, Ne.symm e]⟩
theorem part_cases (x y : Str) {s : Nat} (ey : tl y = [s]) : (s ∉ tl x ∧ Txt.partition x y = (x, Str.empty, Str.empty)) ∨ ∃ a b, x = a ++ y ++ b ∧ s ∉ tl a ∧ Txt.partition x y = (a, y, b) := by
  by_cases h : s ∈ tl x
  · obtain ⟨a, b, e, ha⟩ := first_split h
    refine .inr ⟨⟨a.toArray⟩, ⟨b.toArray⟩, ?_, ?_, ?_⟩
    · refine str_ext ?_
      rw [tl_app, tl_app, ey, e]
      simp [tl]
    · simpa [tl] using ha
    · have ex : x = (⟨a.toArray⟩ : Str) ++ y ++ ⟨b.toArray⟩ := by
        refine str_ext ?_
        rw [tl_app, tl_app, ey, e]
        simp [tl]
      rw [ex]
      exact partition_app ey (by simpa [tl] using ha)
  · exact .inl ⟨h, partition_none ey h⟩
theorem parts_of (s : Nat) : ∀ (n : Nat) (l : List Nat), l.length ≤ n → ∃ ps : List (List Nat), ps ≠ [] ∧ (∀ p ∈ ps, s ∉ p) ∧ l = joinL [s] ps
  | 0, l, h => ⟨[l], by simp, by
      have e : l = [] := List.eq_nil_of_length_eq_zero (by omega)
      simp [e], rfl⟩
  | n + 1, l, h => by
    by_cases hs : s ∈ l
    · obtain ⟨a, b, e, ha⟩ := first_split hs
      obtain ⟨ps, h1, h2, h3⟩ := parts_of s n b (by rw [e] at h; simp at h; omega)
      cases ps with
      | nil => exact absurd rfl h1
      | cons p r =>
        refine ⟨a :: p :: r, by simp, ?_, ?_⟩
        · intro q hq
          rcases List.mem_cons.mp hq with z | z
          · rw [z]
            exact ha
          · exact h2 q z
        · rw [e, h3]
          rfl
    · exact ⟨[l], by simp, by simpa using hs, rfl⟩
theorem split_parts (x y : Str) {s : Nat} (ey : tl y = [s]) (hk : y.cps.all (· < 256) = true) : ∃ ps : List Str, ps ≠ [] ∧ (∀ p ∈ ps, s ∉ tl p) ∧ x = Str.join y ps ∧ Txt.split x y = ps := by
  obtain ⟨ps, h1, h2, h3⟩ := parts_of s _ (tl x) (Nat.le_refl _)
  have e1 : (ps.map fun l => (⟨l.toArray⟩ : Str)).map tl = ps := by
    rw [List.map_map]
    conv => rhs; rw [← List.map_id ps]
    congr 1
  have hx : x = Str.join y (ps.map fun l => (⟨l.toArray⟩ : Str)) := by
    refine str_ext ?_
    rw [tl_join, e1, ey]
    exact h3
  have hp : ∀ p ∈ ps.map (fun l => (⟨l.toArray⟩ : Str)), s ∉ tl p := by
    intro p hp
    obtain ⟨l, hl, rfl⟩ := List.mem_map.mp hp
    simpa [tl] using h2 l hl
  refine ⟨_, by simpa using h1, hp, hx, ?_⟩
  conv => lhs; rw [hx, ← join_eq]
  exact split_join ey hk (by simpa using h1) hp
end R
namespace R
open PySem TL
open L2 (cutS)
/-! ### the reading of times, as plain functions -/
def rdNum (w : Str) : Option Int := if numOk (tl w) = true then some (NumText.digitsVal (tl w) : Int) else none
theorem rdNum_sI {i : Int} (h0 : 0 ≤ i) (h : i < 10 ^ 9) : rdNum (sI i) = some i := by
  obtain ⟨n, rfl⟩ := Int.eq_ofNat_of_zero_le h0
  unfold rdNum
  rw [show tl (sI ((n : Nat) : Int)) = numL n from tl_sI n, if_pos (numOk_num (by omega)), numL_val]
theorem rdNum_some {w : Str} {i : Int} (h : rdNum w = some i) : w = sI i ∧ 0 ≤ i ∧ i < 10 ^ 9 := by
  unfold rdNum at h
  split at h
  · rename_i c
    obtain ⟨n, e1, e2, e3⟩ := num_of c
    rw [e3] at h
    have e4 : (n : Int) = i := Option.some.inj h
    subst e4
    exact ⟨str_ext (by rw [e1, show tl (sI ((n : Nat) : Int)) = numL n from tl_sI n]), by omega, by omega⟩
  · cases h
theorem rdNum_empty : rdNum Str.empty = none := rfl
def rdRest (bl rt : Str) : Option Rat := if bl = Str.empty then some 0 else
  match rdNum (Txt.partition rt "/").1, rdNum (Txt.partition rt "/").2.2 with
  | some t, some b => if t = 0 ∨ b ≤ t then none else if (Rat.divInt t b).num = t ∧ ((Rat.divInt t b).den : Int) = b then some (Rat.divInt t b) else none
  | _, _ => none
def rdMixed (x : Str) : Option Rat := match rdNum (Txt.partition x " ").1 with
  | none => none
  | some n => (rdRest (Txt.partition x " ").2.1 (Txt.partition x " ").2.2).map fun y => (n : Rat) + y
def rdField (w : Str) (b : Int) : Option Int := if w.length < 2 then none else
  match rdNum (if (tl w).length = 2 ∧ (tl w).head? = some 48 then cutS w (some 1) none else w) with
  | none => none
  | some n => if b ≤ n then none else some n
def rdClock (x : Str) (r : Int) : Option Rat := match Txt.split (Txt.partition x " ").1 ":" with
  | [f0, f1, f2, f3] => match rdNum f0, rdField f1 60, rdField f2 60, rdField f3 r with
    | some h, some m, some s, some f => (rdRest (Txt.partition x " ").2.1 (Txt.partition x " ").2.2).map fun y => ((((h * 60 + m) * 60 + s) * r + f : Int) : Rat) + y
    | _, _, _, _ => none
  | _ => none
def rdTime (x : Str) (r : Int) : Option Rat := if Txt.endswith x "f" = true then rdMixed (cutS x none (some (-1))) else
  if Txt.endswith x "s" = true then (rdMixed (cutS x none (some (-1)))).map (· * (r : Rat)) else rdClock x r
/-! ### fractions by whole and rest -/
theorem divInt_lowest {t : Int} {b : Nat} (hb : b ≠ 0) (h : t.natAbs.Coprime b) : (Rat.divInt t b).num = t ∧ (Rat.divInt t b).den = b := by
  rw [← Rat.mk_eq_divInt (nz := hb) (c := h)]
  exact ⟨rfl, rfl⟩
theorem divInt_cop {t b : Int} (hb : 0 < b) (h1 : (Rat.divInt t b).num = t) (h2 : ((Rat.divInt t b).den : Int) = b) : t.natAbs.Coprime b.toNat := by
  have := (Rat.divInt t b).reduced
  rw [h1] at this
  rw [show b.toNat = (Rat.divInt t b).den by omega]
  exact this
theorem mixed_eq (n t : Int) {b : Int} (hb : 0 < b) : (n : Rat) + Rat.divInt t b = Rat.divInt (n * b + t) b := by
  have hb2 : b ≠ 0 := by omega
  rw [show (n : Rat) = Rat.divInt n 1 by rw [Rat.divInt_eq_div]; grind, Rat.divInt_add_divInt _ _ (by decide) hb2, Int.one_mul, Int.mul_one]
theorem mixed_parts {n t b : Int} (n0 : 0 ≤ n) (t0 : 0 ≤ t) (tb : t < b) (h : t.natAbs.Coprime b.toNat) : ((n : Rat) + Rat.divInt t b).num = n * b + t ∧ (((n : Rat) + Rat.divInt t b).den : Int) = b := by
  have hb : 0 < b := by omega
  rw [mixed_eq n t hb]
  obtain ⟨c, rfl⟩ := Int.eq_ofNat_of_zero_le (show 0 ≤ b by omega)
  obtain ⟨m, rfl⟩ := Int.eq_ofNat_of_zero_le n0
  obtain ⟨u, rfl⟩ := Int.eq_ofNat_of_zero_le t0
  have cop : ((m : Int) * (c : Int) + (u : Int)).natAbs.Coprime c := by
    have e : ((m : Int) * (c : Int) + (u : Int)).natAbs = m * c + u := by
      rw [show (m : Int) * (c : Int) + (u : Int) = ((m * c + u : Nat) : Int) by rw [Int.natCast_add, Int.natCast_mul]]
      exact Int.natAbs_natCast _
    rw [e]
    unfold Nat.Coprime
    rw [Nat.gcd_comm, ← gcd_turn, show ((c : Nat) % (m * c + u)) = c % (m * c + u) from rfl]
    rw [gcd_turn, Nat.gcd_comm, ← gcd_turn, Nat.mul_comm m c, Nat.mul_add_mod, gcd_turn]
    have : u.gcd c = 1 := h
    exact this
  have := divInt_lowest (t := (m : Int) * (c : Int) + (u : Int)) (b := c) (by omega) cop
  exact ⟨this.1, by rw [this.2]⟩
theorem q_cop (q : Rat) (h : 0 ≤ q.num) : (q.num % (q.den : Int)).natAbs.Coprime q.den := by
  obtain ⟨m, hm⟩ := Int.eq_ofNat_of_zero_le h
  have r := q.reduced
  rw [hm] at r ⊢
  rw [show ((m : Int) % (q.den : Int)) = ((m % q.den : Nat) : Int) from rfl, Int.natAbs_natCast]
  unfold Nat.Coprime
  rw [Nat.gcd_comm, gcd_turn]
  exact r
theorem q_split (q : Rat) : ((q.num / (q.den : Int) : Int) : Rat) + Rat.divInt (q.num % (q.den : Int)) (q.den : Int) = q := by
  rw [mixed_eq _ _ (den_pos q), show q.num / (q.den : Int) * (q.den : Int) + q.num % (q.den : Int) = q.num by
    have := Int.mul_ediv_add_emod q.num (q.den : Int)
    rw [Int.mul_comm]
    exact this]
  exact Rat.num_divInt_den q
theorem q_whole (q : Rat) (h : 0 ≤ q.num) (hr : q.num % (q.den : Int) = 0) : q.den = 1 := by
  have := q_cop q h
  rw [hr] at this
  simpa [Nat.Coprime] using this
/-! ### what is written is read -/
theorem tl_sign (c : Nat) : tl (⟨#[c]⟩ : Str) = [c] := rfl
theorem not_sI {s : Nat} {i : Int} (h0 : 0 ≤ i) (hs : s < 48 ∨ 57 < s) : s ∉ tl (sI i) := by
  obtain ⟨n, rfl⟩ := Int.eq_ofNat_of_zero_le h0
  rw [show tl (sI ((n : Nat) : Int)) = numL n from tl_sI n]
  exact numL_free hs
theorem blank_ne : (" " : Str) ≠ Str.empty := by decide
/-- the reading of a rest that was written -/
theorem rest_back {x : Str} {t b : Int} (hx : 32 ∉ tl x) (t0 : 0 ≤ t) (tb : t < b) (b1 : b < 10 ^ 9) (cop : t.natAbs.Coprime b.toNat) (hz : t = 0 → b = 1) :
    (Txt.partition (x ++ rs t b) " ").1 = x ∧ rdRest (Txt.partition (x ++ rs t b) " ").2.1 (Txt.partition (x ++ rs t b) " ").2.2 = some (Rat.divInt t b) := by
  unfold rs
  by_cases h : t = 0
  · rw [if_pos h, sapp_nil, partition_none (s := 32) (S := []) rfl hx]
    refine ⟨rfl, ?_⟩
    unfold rdRest
    rw [if_pos rfl, h, hz h]
    rfl
  · rw [if_neg h, show x ++ ((" " : Str) ++ (sI t ++ (("/" : Str) ++ sI b))) = x ++ (" " : Str) ++ (sI t ++ (("/" : Str) ++ sI b)) from (sapp _ _ _).symm]
    rw [partition_app (s := 32) (S := []) rfl hx]
    refine ⟨rfl, ?_⟩
    unfold rdRest
    dsimp only
    rw [if_neg blank_ne, show sI t ++ (("/" : Str) ++ sI b) = sI t ++ ("/" : Str) ++ sI b from (sapp _ _ _).symm, partition_app (s := 47) (S := []) rfl (not_sI t0 (by decide))]
    dsimp only
    rw [rdNum_sI t0 (by omega), rdNum_sI (by omega) b1]
    dsimp only
    have hl := divInt_lowest (t := t) (b := b.toNat) (by omega) cop
    rw [show ((b.toNat : Nat) : Int) = b by omega] at hl
    rw [if_neg (by omega), if_pos ⟨hl.1, by omega⟩]
theorem mix_back {q : Rat} (h0 : 0 ≤ q.num) (hw : qw q < 10 ^ 9) (hd : (q.den : Int) < 10 ^ 9) : rdMixed (mixT q) = some q := by
  have hp := den_pos q
  have w0 : 0 ≤ qw q := Int.ediv_nonneg h0 (by omega)
  have r0 : 0 ≤ qr q := Int.emod_nonneg _ (by omega)
  have r1 : qr q < (q.den : Int) := Int.emod_lt_of_pos _ hp
  have rb := rest_back (x := sI (qw q)) (not_sI w0 (by decide)) r0 r1 hd (by
    rw [show ((q.den : Int)).toNat = q.den by omega]
    exact q_cop q h0) (fun e => by
    have := q_whole q h0 e
    omega)
  unfold rdMixed mixT
  rw [rb.1, rdNum_sI w0 hw]
  dsimp only
  rw [rb.2]
  show some _ = some _
  congr 1
  exact q_split q
/-- what is read was written so -/
theorem rest_some {bl rt : Str} {y : Rat} (h : rdRest bl rt = some y) : (bl = Str.empty ∧ y = 0) ∨ ∃ t b : Int, rt = sI t ++ (("/" : Str) ++ sI b) ∧ 0 < t ∧ t < b ∧ b < 10 ^ 9 ∧ t.natAbs.Coprime b.toNat ∧ y = Rat.divInt t b := by
  unfold rdRest at h
  by_cases hb : bl = Str.empty
  · rw [if_pos hb] at h
    exact .inl ⟨hb, (Option.some.inj h).symm⟩
  · rw [if_neg hb] at h
    right
    rcases part_cases rt "/" (s := 47) rfl with ⟨_, e⟩ | ⟨a, b, e1, e2, e⟩
    · rw [e] at h
      dsimp only at h
      rw [rdNum_empty] at h
      split at h
      · rename_i z
        cases z
      · cases h
    · rw [e] at h
      dsimp only at h
      cases ha : rdNum a with
      | none => rw [ha] at h; cases h
      | some t =>
        cases hb2 : rdNum b with
        | none => rw [ha, hb2] at h; cases h
        | some u =>
          rw [ha, hb2] at h
          dsimp only at h
          obtain ⟨ea, t0, t1⟩ := rdNum_some ha
          obtain ⟨eb, u0, u1⟩ := rdNum_some hb2
          by_cases c1 : t = 0 ∨ u ≤ t
          · rw [if_pos c1] at h
            cases h
          · rw [if_neg c1] at h
            by_cases c2 : (Rat.divInt t u).num = t ∧ ((Rat.divInt t u).den : Int) = u
            · rw [if_pos c2] at h
              refine ⟨t, u, ?_, by omega, by omega, u1, divInt_cop (by omega) c2.1 c2.2, (Option.some.inj h).symm⟩
              rw [e1, ea, eb, sapp]
            · rw [if_neg c2] at h
              cases h
/-- a text of a number and a rest: by its parts -/
theorem whole_rest {x w : Str} {y : Rat} (hw : (Txt.partition x " ").1 = w) (h : rdRest (Txt.partition x " ").2.1 (Txt.partition x " ").2.2 = some y) :
    ∃ t b : Int, x = w ++ rs t b ∧ 0 ≤ t ∧ t < b ∧ b < 10 ^ 9 ∧ t.natAbs.Coprime b.toNat ∧ y = Rat.divInt t b := by
  rcases part_cases x " " (s := 32) rfl with ⟨_, e⟩ | ⟨a, b, e1, e2, e⟩
  · rw [e] at hw h
    dsimp only at hw h
    refine ⟨0, 1, ?_, by decide, by decide, by decide, by decide, ?_⟩
    · rw [hw]
      exact (sapp_nil _).symm
    · unfold rdRest at h
      rw [if_pos rfl] at h
      rw [← Option.some.inj h]
      rfl
  · rw [e] at hw h
    dsimp only at hw h
    rcases rest_some h with ⟨z, _⟩ | ⟨t, u, e3, h1, h2, h3, h4, h5⟩
    · exact absurd z blank_ne
    · refine ⟨t, u, ?_, by omega, h2, h3, h4, h5⟩
      unfold rs
      rw [if_neg (by omega), e1, hw, e3, sapp]
theorem mix_of {x : Str} {m : Rat} (h : rdMixed x = some m) : x = mixT m ∧ 0 ≤ m.num ∧ qw m < 10 ^ 9 ∧ (m.den : Int) < 10 ^ 9 := by
  unfold rdMixed at h
  cases hn : rdNum (Txt.partition x " ").1 with
  | none => rw [hn] at h; cases h
  | some n =>
    rw [hn] at h
    dsimp only at h
    obtain ⟨en, n0, n1⟩ := rdNum_some hn
    cases hy : rdRest (Txt.partition x " ").2.1 (Txt.partition x " ").2.2 with
    | none => rw [hy] at h; cases h
    | some y =>
      rw [hy] at h
      obtain ⟨t, b, e1, t0, tb, b1, cop, ey⟩ := whole_rest en hy
      have em : (n : Rat) + y = m := Option.some.inj h
      rw [ey] at em
      obtain ⟨p1, p2⟩ := mixed_parts n0 t0 tb cop
      rw [em] at p1 p2
      have hb : 0 < b := by omega
      have eqw : qw m = n := by
        unfold qw
        rw [p1, p2, Int.add_comm, Int.add_mul_ediv_right _ _ (by omega), Int.ediv_eq_zero_of_lt t0 tb, Int.zero_add]
      have eqr : qr m = t := by
        unfold qr
        rw [p1, p2, Int.add_comm, Int.add_mul_emod_self_right, Int.emod_eq_of_lt t0 tb]
      refine ⟨?_, ?_, by rw [eqw]; exact n1, by rw [p2]; exact b1⟩
      · unfold mixT
        rw [eqw, eqr, p2]
        exact e1
      · rw [p1]
        have := Int.mul_nonneg n0 (show 0 ≤ b by omega)
        omega
end R
namespace R
open PySem TL
open L2 (cutS)
/-! ### the last sign -/
theorem ends_one (x : Str) (c : Nat) : Txt.endswith x ⟨#[c]⟩ = ((tl x).getLast? == some c) := by
  show (decide (0 + 1 ≤ x.length) && Builtin.Str.subAt x ⟨#[c]⟩ (x.length - 1)) = _
  rw [PySem.StrLaws.subAt_eq, len_tl']
  show (decide (0 + 1 ≤ (tl x).length) && (((tl x).drop ((tl x).length - 1)).take 1 == [c])) = _
  rcases List.eq_nil_or_concat (tl x) with e | ⟨a, d, e⟩
  · rw [e]
    rfl
  · have e : tl x = a ++ [d] := by rw [e]; simp
    rw [e, List.getLast?_concat, List.length_append, decide_eq_true (by simp)]
    show (true && ((a ++ [d]).drop (a.length + 1 - 1)).take 1 == [c]) = _
    rw [Nat.add_sub_cancel, List.drop_left]
    show (true && ([d] == [c])) = (some d == some c)
    by_cases h : d = c
    · rw [h]
      simp
    · simp [h]
theorem cut_last (x : Str) : tl (cutS x none (some (-1))) = (tl x).dropLast := by
  show ((((tl x).drop (HT.sIx x.length 0 none)).take (HT.sIx x.length x.length (some (-1)) - HT.sIx x.length 0 none)).toArray).toList = _
  rw [HT.sIx_none]
  show ((((tl x).drop 0).take (((-1 : Int) + (x.length : Int)).toNat - 0)).toArray).toList = _
  rw [List.drop_zero, len_tl', List.dropLast_eq_take]
  simp
  congr 1
  omega
theorem cut_first (x : Str) : tl (cutS x (some 1) none) = (tl x).drop 1 := by
  show ((((tl x).drop (HT.sIx x.length 0 (some ((1 : Nat) : Int)))).take (HT.sIx x.length x.length none - HT.sIx x.length 0 (some ((1 : Nat) : Int)))).toArray).toList = _
  rw [HT.sIx_none, HT.sIx_nat, len_tl']
  show (((tl x).drop (min 1 (tl x).length)).take ((tl x).length - min 1 (tl x).length)) = _
  cases tl x with
  | nil => rfl
  | cons a r =>
    rw [show min 1 (a :: r).length = 1 by simp]
    show r.take (r.length + 1 - 1) = r
    rw [Nat.add_sub_cancel]
    exact List.take_length
theorem ends_app1 (a : Str) (c : Nat) : Txt.endswith (a ++ ⟨#[c]⟩) ⟨#[c]⟩ = true ∧ cutS (a ++ ⟨#[c]⟩) none (some (-1)) = a := by
  refine ⟨?_, str_ext ?_⟩
  · rw [ends_one, tl_app]
    show ((tl a ++ [c]).getLast? == some c) = true
    rw [List.getLast?_concat]
    simp
  · rw [cut_last, tl_app]
    exact List.dropLast_concat
theorem ends_not {x : Str} {c : Nat} (h : c ∉ tl x) : Txt.endswith x ⟨#[c]⟩ = false := by
  rw [ends_one]
  cases e : (tl x).getLast? with
  | none => rfl
  | some d =>
    have := List.mem_of_getLast? e
    by_cases hd : d = c
    · rw [hd] at this
      exact absurd this h
    · simpa using hd
theorem ends_cut {x : Str} {c : Nat} (h : Txt.endswith x ⟨#[c]⟩ = true) : x = cutS x none (some (-1)) ++ ⟨#[c]⟩ := by
  rw [ends_one] at h
  have e : (tl x).getLast? = some c := by simpa using h
  obtain ⟨pre, e⟩ := List.getLast?_eq_some_iff.mp e
  refine str_ext ?_
  rw [tl_app, cut_last, e, List.dropLast_concat]
/-! ### fields of a clock -/
theorem tl_pad2 (n : Nat) : tl (pad2 (n : Int)) = if n < 10 then [48, 48 + n] else numL n := by
  unfold pad2
  by_cases h : n < 10
  · rw [if_pos (by omega), if_pos h, tl_app, show tl (sI ((n : Nat) : Int)) = numL n from tl_sI n, numL_lt h]
    rfl
  · rw [if_neg (by omega), if_neg h]
    exact tl_sI n
theorem field_back {i b : Int} (h0 : 0 ≤ i) (hb : i < b) (h9 : i < 10 ^ 9) : rdField (pad2 i) b = some i := by
  obtain ⟨n, rfl⟩ := Int.eq_ofNat_of_zero_le h0
  have hl : ¬ (pad2 (n : Int)).length < 2 := by
    rw [len_tl', tl_pad2]
    by_cases h : n < 10
    · rw [if_pos h]
      exact (show ¬ 2 < 2 by decide)
    · rw [if_neg h, numL_step (by omega), List.length_append]
      have := numL_ne (n / 10)
      cases e : numL (n / 10) with
      | nil => exact absurd e this
      | cons _ _ => simp
  unfold rdField
  rw [if_neg hl]
  have hw : (if (tl (pad2 (n : Int))).length = 2 ∧ (tl (pad2 (n : Int))).head? = some 48 then cutS (pad2 (n : Int)) (some 1) none else pad2 (n : Int)) = sI (n : Int) := by
    by_cases h : n < 10
    · have e : tl (pad2 (n : Int)) = [48, 48 + n] := by rw [tl_pad2, if_pos h]
      rw [if_pos (by rw [e]; exact ⟨rfl, rfl⟩)]
      refine str_ext ?_
      rw [cut_first, e, show tl (sI ((n : Nat) : Int)) = numL n from tl_sI n, numL_lt h]
      rfl
    · have e : tl (pad2 (n : Int)) = numL n := by rw [tl_pad2, if_neg h]
      rw [if_neg (by
        rw [e]
        intro z
        have := numL_head z.2
        omega)]
      unfold pad2
      rw [if_neg (by omega)]
  rw [hw, rdNum_sI h0 h9]
  dsimp only
  rw [if_neg (by omega)]
theorem field_of {w : Str} {b i : Int} (h : rdField w b = some i) : w = pad2 i ∧ 0 ≤ i ∧ i < b ∧ i < 10 ^ 9 := by
  unfold rdField at h
  by_cases hl : w.length < 2
  · rw [if_pos hl] at h
    cases h
  · rw [if_neg hl] at h
    generalize hg : (if (tl w).length = 2 ∧ (tl w).head? = some 48 then cutS w (some 1) none else w) = g at h
    cases hn : rdNum g with
    | none => rw [hn] at h; cases h
    | some n =>
      rw [hn] at h
      dsimp only at h
      by_cases hb : b ≤ n
      · rw [if_pos hb] at h
        cases h
      · rw [if_neg hb] at h
        have e : n = i := Option.some.inj h
        subst e
        obtain ⟨eg, n0, n9⟩ := rdNum_some hn
        obtain ⟨k, rfl⟩ := Int.eq_ofNat_of_zero_le n0
        refine ⟨?_, n0, by omega, n9⟩
        refine str_ext ?_
        rw [tl_pad2]
        rw [len_tl'] at hl
        by_cases c : (tl w).length = 2 ∧ (tl w).head? = some 48
        · rw [if_pos c] at hg
          have e2 : (tl w).drop 1 = numL k := by rw [← cut_first, hg, eg]; exact tl_sI k
          match hw : tl w, c with
          | [x, y], c =>
            have hx : x = 48 := Option.some.inj c.2
            rw [hw] at e2
            have hk : k < 10 := by
              refine Nat.lt_of_not_le fun z => ?_
              have e3 : [y] = numL k := e2
              rw [numL_step z] at e3
              have := numL_ne (k / 10)
              cases e4 : numL (k / 10) with
              | nil => exact absurd e4 this
              | cons _ _ =>
                rw [e4] at e3
                simp at e3
            rw [if_pos hk, hx]
            have e3 : [y] = numL k := e2
            rw [numL_lt hk] at e3
            rw [(List.cons.inj e3).1]
        · rw [if_neg c] at hg
          subst hg
          have ew : tl w = numL k := by rw [eg]; exact tl_sI k
          by_cases hk : k < 10
          · rw [ew, numL_lt hk] at hl
            exact absurd (show 1 < 2 by decide) hl
          · rw [if_neg hk, ew]
theorem not_pad2 {s : Nat} {i : Int} (h0 : 0 ≤ i) (hs : s < 48 ∨ 57 < s) : s ∉ tl (pad2 i) := by
  unfold pad2
  split
  · rw [tl_app]
    intro h
    rcases List.mem_append.mp h with z | z
    · have : s = 48 := by simpa [tl] using z
      omega
    · exact not_sI h0 hs z
  · exact not_sI h0 hs
end R
namespace R
open PySem TL
open L2 (cutS)
/-! ### the three texts of a time are read to it, and nothing else is read -/
theorem frames_back {q : Rat} {r : Int} (h0 : 0 ≤ q.num) (hw : qw q < 10 ^ 9) (hd : (q.den : Int) < 10 ^ 9) : rdTime (framesT q) r = some q := by
  unfold rdTime framesT
  have e := ends_app1 (mixT q) 102
  rw [show Txt.endswith (mixT q ++ ("f" : Str)) ("f" : Str) = true from e.1, if_pos rfl, show cutS (mixT q ++ ("f" : Str)) none (some (-1)) = mixT q from e.2]
  exact mix_back h0 hw hd
theorem seconds_back {q : Rat} {r : Int} (hr : r ≠ 0) (h0 : 0 ≤ (q / (r : Rat)).num) (hw : qw (q / (r : Rat)) < 10 ^ 9) (hd : ((q / (r : Rat)).den : Int) < 10 ^ 9) : rdTime (secondsT q r) r = some q := by
  unfold rdTime secondsT
  have e := ends_app1 (mixT (q / (r : Rat))) 115
  have ef : Txt.endswith (mixT (q / (r : Rat)) ++ ("s" : Str)) ("f" : Str) = false := by
    show Txt.endswith (mixT (q / (r : Rat)) ++ (⟨#[115]⟩ : Str)) ⟨#[102]⟩ = false
    rw [ends_one, tl_app]
    show ((tl _ ++ [115]).getLast? == some 102) = false
    rw [List.getLast?_concat]
    rfl
  rw [ef, if_neg Bool.false_ne_true, show Txt.endswith (mixT (q / (r : Rat)) ++ ("s" : Str)) ("s" : Str) = true from e.1, if_pos rfl, show cutS (mixT (q / (r : Rat)) ++ ("s" : Str)) none (some (-1)) = mixT (q / (r : Rat)) from e.2, mix_back h0 hw hd]
  show some (q / (r : Rat) * (r : Rat)) = some q
  have hr2 : (r : Rat) ≠ 0 := fun e => hr (by
    have := congrArg Rat.num e
    exact this)
  rw [Rat.div_mul_cancel hr2]
theorem clock_join (a b c d : Str) : a ++ ((":" : Str) ++ (b ++ ((":" : Str) ++ (c ++ ((":" : Str) ++ d))))) = Str.join ":" [a, b, c, d] := by
  show _ = a ++ (":" : Str) ++ (b ++ (":" : Str) ++ (c ++ (":" : Str) ++ d))
  simp only [sapp]
theorem not_app {s : Nat} {a b : Str} (ha : s ∉ tl a) (hb : s ∉ tl b) : s ∉ tl (a ++ b) := by
  rw [tl_app]
  exact fun h => (List.mem_append.mp h).elim ha hb
theorem not_clk {s : Nat} {h m c f : Int} (h0 : 0 ≤ h) (m0 : 0 ≤ m) (c0 : 0 ≤ c) (f0 : 0 ≤ f) (hs : s < 48 ∨ 57 < s) (hc : s ≠ 58) : s ∉ tl (sI h ++ ((":" : Str) ++ (pad2 m ++ ((":" : Str) ++ (pad2 c ++ ((":" : Str) ++ pad2 f)))))) := by
  have hk : s ∉ tl (":" : Str) := by
    show s ∉ [58]
    simpa using hc
  exact not_app (not_sI h0 hs) (not_app hk (not_app (not_pad2 m0 hs) (not_app hk (not_app (not_pad2 c0 hs) (not_app hk (not_pad2 f0 hs))))))
theorem not_rs {s : Nat} {t b : Int} (t0 : 0 ≤ t) (b0 : 0 ≤ b) (hs : s < 48 ∨ 57 < s) (h1 : s ≠ 32) (h2 : s ≠ 47) : s ∉ tl (rs t b) := by
  unfold rs
  split
  · exact fun h => by cases h
  · refine not_app ?_ (not_app (not_sI t0 hs) (not_app ?_ (not_sI b0 hs)))
    · show s ∉ [32]
      simpa using h1
    · show s ∉ [47]
      simpa using h2
theorem clock_back {q : Rat} {r : Int} (r0 : 0 < r) (r1 : r ≤ 120) (h0 : 0 ≤ q.num) (hw : qw q < 10 ^ 9) (hd : (q.den : Int) < 10 ^ 9) : rdTime (clockT q r) r = some q := by
  have hp := den_pos q
  have w0 : 0 ≤ qw q := Int.ediv_nonneg h0 (by omega)
  have t0 : 0 ≤ qr q := Int.emod_nonneg _ (by omega)
  have t1 : qr q < (q.den : Int) := Int.emod_lt_of_pos _ hp
  have s0 : 0 ≤ qw q / r := Int.ediv_nonneg w0 (by omega)
  have s1 : qw q / r ≤ qw q := Int.ediv_le_self _ w0
  have f0 : 0 ≤ qw q % r := Int.emod_nonneg _ (by omega)
  have f1 : qw q % r < r := Int.emod_lt_of_pos _ r0
  have cop : (qr q).natAbs.Coprime ((q.den : Int)).toNat := by
    rw [show ((q.den : Int)).toNat = q.den by omega]
    exact q_cop q h0
  have hz : qr q = 0 → (q.den : Int) = 1 := fun e => by
    have := q_whole q h0 e
    omega
  have sum : (((qw q / r / 3600 * 60 + qw q / r / 60 % 60) * 60 + qw q / r % 60) * r + qw q % r) = qw q := by
    rw [show (qw q / r / 3600 * 60 + qw q / r / 60 % 60) * 60 + qw q / r % 60 = qw q / r by omega]
    have := Int.mul_ediv_add_emod (qw q) r
    rw [Int.mul_comm] at this
    exact this
  unfold clockT
  generalize eS : qw q / r = S at *
  generalize eF : qw q % r = F0 at *
  have rb := rest_back (x := sI (S / 3600) ++ ((":" : Str) ++ (pad2 (S / 60 % 60) ++ ((":" : Str) ++ (pad2 (S % 60) ++ ((":" : Str) ++ pad2 F0)))))) (not_clk (by omega) (by omega) (by omega) f0 (by decide) (by decide)) t0 t1 hd cop hz
  unfold rdTime
  have nf : ∀ s : Nat, 57 < s → s ≠ 58 → s ∉ tl (sI (S / 3600) ++ ((":" : Str) ++ (pad2 (S / 60 % 60) ++ ((":" : Str) ++ (pad2 (S % 60) ++ ((":" : Str) ++ pad2 F0))))) ++ rs (qr q) (q.den : Int)) := fun s h1 h2 =>
    not_app (not_clk (by omega) (by omega) (by omega) f0 (.inr h1) h2) (not_rs t0 (by omega) (.inr h1) (by omega) (by omega))
  rw [show Txt.endswith _ ("f" : Str) = false from ends_not (nf 102 (by decide) (by decide)), if_neg Bool.false_ne_true, show Txt.endswith _ ("s" : Str) = false from ends_not (nf 115 (by decide) (by decide)), if_neg Bool.false_ne_true]
  unfold rdClock
  rw [rb.1, rb.2, clock_join]
  have sp : Txt.split (Str.join ":" [sI (S / 3600), pad2 (S / 60 % 60), pad2 (S % 60), pad2 F0]) ":" = [sI (S / 3600), pad2 (S / 60 % 60), pad2 (S % 60), pad2 F0] := by
    rw [← join_eq]
    refine split_join (s := 58) (S := []) rfl (by decide +kernel) (by simp) (fun p hp => ?_)
    simp only [List.mem_cons, List.not_mem_nil, or_false] at hp
    rcases hp with e | e | e | e <;> subst e
    · exact not_sI (by omega) (by decide)
    · exact not_pad2 (by omega) (by decide)
    · exact not_pad2 (by omega) (by decide)
    · exact not_pad2 f0 (by decide)
  rw [sp]
  dsimp only
  rw [rdNum_sI (by omega) (by omega), field_back (by omega) (by omega) (by omega), field_back (by omega) (by omega) (by omega), field_back f0 f1 (by omega)]
  dsimp only
  show some _ = some _
  congr 1
  rw [sum]
  exact q_split q
theorem frames_of {x : Str} {r : Int} {q : Rat} (h : rdTime x r = some q) (hf : Txt.endswith x "f" = true) : x = framesT q ∧ 0 ≤ q.num ∧ qw q < 10 ^ 9 ∧ (q.den : Int) < 10 ^ 9 := by
  unfold rdTime at h
  rw [hf, if_pos rfl] at h
  obtain ⟨e, h1, h2, h3⟩ := mix_of h
  refine ⟨?_, h1, h2, h3⟩
  unfold framesT
  rw [← e]
  exact ends_cut hf
theorem seconds_of {x : Str} {r : Int} {q : Rat} (hr : r ≠ 0) (h : rdTime x r = some q) (hf : Txt.endswith x "f" = false) (hs : Txt.endswith x "s" = true) : ∃ m : Rat, q = m * (r : Rat) ∧ q / (r : Rat) = m ∧ x = secondsT q r ∧ 0 ≤ m.num ∧ qw m < 10 ^ 9 ∧ (m.den : Int) < 10 ^ 9 := by
  unfold rdTime at h
  rw [hf, if_neg Bool.false_ne_true, hs, if_pos rfl] at h
  cases hm : rdMixed (cutS x none (some (-1))) with
  | none => rw [hm] at h; cases h
  | some m =>
    rw [hm] at h
    have eq : m * (r : Rat) = q := Option.some.inj h
    obtain ⟨e, h1, h2, h3⟩ := mix_of hm
    have hr2 : (r : Rat) ≠ 0 := fun e => hr (by
      have := congrArg Rat.num e
      exact this)
    have ed : q / (r : Rat) = m := by rw [← eq, Rat.mul_div_cancel hr2]
    refine ⟨m, eq.symm, ed, ?_, h1, h2, h3⟩
    unfold secondsT
    rw [ed, ← e]
    exact ends_cut hs
theorem clock_of {x : Str} {r : Int} {q : Rat} (r0 : 0 < r) (r1 : r ≤ 120) (h : rdTime x r = some q) (hf : Txt.endswith x "f" = false) (hs : Txt.endswith x "s" = false) : x = clockT q r ∧ 0 ≤ q.num ∧ qw q < 10 ^ 15 ∧ (q.den : Int) < 10 ^ 9 := by
  unfold rdTime at h
  rw [hf, if_neg Bool.false_ne_true, hs, if_neg Bool.false_ne_true] at h
  unfold rdClock at h
  obtain ⟨ps, _, _, ej, es⟩ := split_parts (Txt.partition x " ").1 ":" (s := 58) rfl (by decide +kernel)
  rw [es] at h
  match ps, ej, h with
  | [f0, f1, f2, f3], ej, h =>
    dsimp only at h
    cases h0 : rdNum f0 with
    | none => rw [h0] at h; cases h
    | some hh =>
      cases h1 : rdField f1 60 with
      | none => rw [h0, h1] at h; cases h
      | some m =>
        cases h2 : rdField f2 60 with
        | none => rw [h0, h1, h2] at h; cases h
        | some s =>
          cases h3 : rdField f3 r with
          | none => rw [h0, h1, h2, h3] at h; cases h
          | some f =>
            rw [h0, h1, h2, h3] at h
            dsimp only at h
            cases hy : rdRest (Txt.partition x " ").2.1 (Txt.partition x " ").2.2 with
            | none => rw [hy] at h; cases h
            | some y =>
              rw [hy] at h
              obtain ⟨e0, a0, a1⟩ := rdNum_some h0
              obtain ⟨e1, b0, b1, b2⟩ := field_of h1
              obtain ⟨e2, c0, c1, c2⟩ := field_of h2
              obtain ⟨e3, d0, d1, d2⟩ := field_of h3
              obtain ⟨t, b, ex, t0, tb, bb, cop, ey⟩ := whole_rest rfl hy
              generalize eN : ((hh * 60 + m) * 60 + s) * r + f = N at h
              have n0 : 0 ≤ N := by
                have := Int.mul_nonneg (show 0 ≤ (hh * 60 + m) * 60 + s by omega) (show 0 ≤ r by omega)
                omega
              have n1 : N < 10 ^ 15 := by
                have := Int.mul_le_mul_of_nonneg_left r1 (show 0 ≤ (hh * 60 + m) * 60 + s by omega)
                omega
              have em : (N : Rat) + y = q := Option.some.inj h
              rw [ey] at em
              obtain ⟨p1, p2⟩ := mixed_parts n0 t0 tb cop
              rw [em] at p1 p2
              have eqw : qw q = N := by
                unfold qw
                rw [p1, p2, Int.add_comm, Int.add_mul_ediv_right _ _ (by omega), Int.ediv_eq_zero_of_lt t0 tb, Int.zero_add]
              have eqr : qr q = t := by
                unfold qr
                rw [p1, p2, Int.add_comm, Int.add_mul_emod_self_right, Int.emod_eq_of_lt t0 tb]
              have dv : N / r = (hh * 60 + m) * 60 + s := by
                rw [← eN, Int.add_comm, Int.add_mul_ediv_right _ _ (by omega), Int.ediv_eq_zero_of_lt d0 d1, Int.zero_add]
              have md : N % r = f := by
                rw [← eN, Int.add_comm, Int.add_mul_emod_self_right, Int.emod_eq_of_lt d0 d1]
              refine ⟨?_, ?_, by rw [eqw]; exact n1, by rw [p2]; exact bb⟩
              · unfold clockT
                rw [eqw, eqr, p2, dv, md, show ((hh * 60 + m) * 60 + s) / 3600 = hh by omega, show ((hh * 60 + m) * 60 + s) / 60 % 60 = m by omega, show ((hh * 60 + m) * 60 + s) % 60 = s by omega, clock_join, ex, ej, e0, e1, e2, e3]
              · rw [p1]
                have := Int.mul_nonneg n0 (show 0 ≤ b by omega)
                omega
  | [], _, h => cases h
  | [_], _, h => cases h
  | [_, _], _, h => cases h
  | [_, _, _], _, h => cases h
  | _ :: _ :: _ :: _ :: _ :: _, _, h => cases h
end R
namespace R
open PySem PySem.Spec PyProof.Rows L2
/-! ### defs that raise; classes of errors over ValueError, without methods of their own -/
structure ExcT (K : PySem.W.Frag) (mg : Str → Option Value) (x : Str) (C : Addr) : Prop where
  g : mg x = some (.ref C)
  x : PySem.W.excIn K C [.type "ValueError", .type "Exception", .type "BaseException", .type "object"] "ValueError.__new__" = true
  k : PySem.W.keepIn K (.ref C) = true
  b : PySem.W.subIn K (.ref C) (.type "BaseException") = some true
  t : PySem.W.typeIn K (.ref C) = some (.type "type")
  e : PySem.W.exmOne K (.ref C) (.ref C) = some true
theorem exm_gen {K : PySem.W.Frag} {S C : Addr} {r : Bool} (h1 : PySem.W.subIn K (.ref C) (.type "BaseException") = some true) (h2 : PySem.W.isClsIn K C = true)
    (h3 : PySem.W.typeIn K (.ref C) = some (.type "type")) (h4 : PySem.W.subIn K (.ref S) (.ref C) = some r) : PySem.W.exmOne K (.ref S) (.ref C) = some r := by
  unfold PySem.W.exmOne
  rw [if_pos (by rw [h1]; rfl)]
  unfold PySem.W.kitCls
  dsimp only
  rw [if_pos (by rw [show (PySem.W.clsIn K C).isSome = true from h2, h3]; rfl)]
  exact h4
section
variable {P : Program} {w : World} {K : PySem.W.Frag} {mg : Str → Option Value} {base : Heap}
theorem Df.clX {x : Str} {st : Stmt} {N ps : List Str} {k : Nat} {sp : Sp} (D : Df K mg x st ps) (S : FnScope N ps (defScope st)) (len : ∀ vs H Q E, sp vs H Q E → vs.length = ps.length)
    (hbody : ∀ (f : Addr) (cdv : Value) (A : Around) (outer : List Env) (s : Shared) (H : Hp) (vs : List V) (Q : VK) (E : XK), Room k (A.deeper (envOfC x (defScope st) s.heap.objs.size f cdv)) → sp vs H Q E →
      ∃ t, PSs (cxOf (L2.CX P w) P w K mg base N x (defScope st) f cdv A outer s H E) (defBody st) t ∧ t { nx := fun _ H' => Q .non H', rt := Q } (start N vs) H) : Cl P w K mg base (L2.CX P w) (k + 1) x sp := by
  obtain ⟨f, fd, F, g, b⟩ := D.ex
  exact ⟨f, fd, ps, F.okX S len (hbody f), g, F.kp, b⟩
end
section
variable {X : Cx}
theorem pe_clS {W : WX} {k j : Nat} {x : Str} {sp : Sp} {p pos : Pos} {e : Expr} {es : List Expr} {t : TA} (c : Cl X.prog X.w X.K X.mg X.base (L2.CX X.prog X.w) k x sp) (hr : Room j X.A) (hk : k ≤ j) (hg : Gl X x) (tk : Takes X W) (ha : PA X (e :: es) t)
    (hdb : (x == ("__debug__" : Str)) = false := by decide) (he : starEach (e :: es) X.env = (false, eval e X.env) :: starEach es X.env := by rfl) (hpl : (backTo pos (starEach es X.env)).any (·.1) = false := by rfl) :
    PE X (.Call (.Name x p) (e :: es) [] pos) (tCallS sp (WE W) t) := by
  obtain ⟨f, fd, ps, F, hm, kp, b⟩ := c.ex
  exact pe_callS F (hr.mono hk) hg hm kp b (fun σ => passAt tk σ) ha hdb he hpl
theorem pe_clN {k j : Nat} {x : Str} {sp : Sp} {p pos : Pos} {e : Expr} {es : List Expr} {t : TA} (c : Cl X.prog X.w X.K X.mg X.base (L2.CX X.prog X.w) k x sp) (hr : Room j X.A) (hk : k ≤ j) (hg : Gl X x) (ha : PA X (e :: es) t)
    (hdb : (x == ("__debug__" : Str)) = false := by decide) (he : starEach (e :: es) X.env = (false, eval e X.env) :: starEach es X.env := by rfl) (hpl : (backTo pos (starEach es X.env)).any (·.1) = false := by rfl) :
    PE X (.Call (.Name x p) (e :: es) [] pos) (tCall sp [] E0 t) := by
  obtain ⟨f, fd, ps, F, hm, kp, b⟩ := c.ex
  exact pe_call F (hr.mono hk) hg hm kp b .nil passL ha hdb he hpl
end
end R
namespace R
open PySem PySem.Spec PyProof.Rows L2
open TL (tl)
def topS (i : Nat) : Stmt := PySem.Challenge.pw_reels_k17_cues_written.main.body.getD i (.Pass ⟨0, 0, 0, 0⟩)
abbrev s_with_rest : Stmt := topS 1
theorem sc_with_rest : FnScope ["whole", "top", "bottom"] ["whole", "top", "bottom"] (defScope s_with_rest) := ⟨rfl, rfl, rfl, by decide +kernel, rfl, by decide +kernel, by decide +kernel⟩
abbrev s_as_mixed : Stmt := topS 2
theorem sc_as_mixed : FnScope ["fraction", "top", "bottom"] ["fraction"] (defScope s_as_mixed) := ⟨rfl, rfl, rfl, by decide +kernel, rfl, by decide +kernel, by decide +kernel⟩
abbrev s_as_frames : Stmt := topS 3
theorem sc_as_frames : FnScope ["time"] ["time"] (defScope s_as_frames) := ⟨rfl, rfl, rfl, by decide +kernel, rfl, by decide +kernel, by decide +kernel⟩
abbrev s_written : Stmt := topS 7
theorem sc_written : FnScope ["cues", "lines", "number", "begin", "end", "words", "word", "time"] ["cues"] (defScope s_written) := ⟨rfl, rfl, rfl, by decide +kernel, rfl, by decide +kernel, by decide +kernel⟩
abbrev s_Lbegun : Stmt := topS 9
theorem sc_Lbegun : FnScope ["_law_script", "_law_stirred", "_law_cell"] ["_law_script"] (defScope s_Lbegun) := ⟨rfl, rfl, rfl, by decide +kernel, rfl, by decide +kernel, by decide +kernel⟩
abbrev s_Ltake : Stmt := topS 10
theorem sc_Ltake : FnScope ["_law_box", "_law_many", "_law_number"] ["_law_box", "_law_many"] (defScope s_Ltake) := ⟨rfl, rfl, rfl, by decide +kernel, rfl, by decide +kernel, by decide +kernel⟩
abbrev s_Lalike : Stmt := topS 11
theorem sc_Lalike : FnScope ["_law_found", "_law_due", "_law_k"] ["_law_found", "_law_due"] (defScope s_Lalike) := ⟨rfl, rfl, rfl, by decide +kernel, rfl, by decide +kernel, by decide +kernel⟩
abbrev s_Lfr : Stmt := topS 12
theorem sc_Lfr : FnScope ["_law_top", "_law_bottom", "_law_one", "_law_two", "_law_rest"] ["_law_top", "_law_bottom"] (defScope s_Lfr) := ⟨rfl, rfl, rfl, by decide +kernel, rfl, by decide +kernel, by decide +kernel⟩
abbrev s_Lsum : Stmt := topS 13
theorem sc_Lsum : FnScope ["_law_one", "_law_two"] ["_law_one", "_law_two"] (defScope s_Lsum) := ⟨rfl, rfl, rfl, by decide +kernel, rfl, by decide +kernel, by decide +kernel⟩
abbrev s_Lminus : Stmt := topS 14
theorem sc_Lminus : FnScope ["_law_one", "_law_two"] ["_law_one", "_law_two"] (defScope s_Lminus) := ⟨rfl, rfl, rfl, by decide +kernel, rfl, by decide +kernel, by decide +kernel⟩
abbrev s_Ltimes : Stmt := topS 15
theorem sc_Ltimes : FnScope ["_law_one", "_law_two"] ["_law_one", "_law_two"] (defScope s_Ltimes) := ⟨rfl, rfl, rfl, by decide +kernel, rfl, by decide +kernel, by decide +kernel⟩
abbrev s_Ltime : Stmt := topS 18
theorem sc_Ltime : FnScope ["_law_box", "_law_most", "_law_top", "_law_bottom"] ["_law_box", "_law_most"] (defScope s_Ltime) := ⟨rfl, rfl, rfl, by decide +kernel, rfl, by decide +kernel, by decide +kernel⟩
abbrev s_Lcue : Stmt := topS 19
theorem sc_Lcue : FnScope ["_law_box", "_law_number", "_law_some", "_law_signs", "_law_k", "_law_begin", "_law_end", "_law_many", "_law_word", "_law_far", "_law_words", "_law_at", "_law_j"] ["_law_box", "_law_number"] (defScope s_Lcue) := ⟨rfl, rfl, rfl, by decide +kernel, rfl, by decide +kernel, by decide +kernel⟩
abbrev s_Lcues : Stmt := topS 20
theorem sc_Lcues : FnScope ["_law_box", "_law_cues_here", "_law_number", "_law_k"] ["_law_box"] (defScope s_Lcues) := ⟨rfl, rfl, rfl, by decide +kernel, rfl, by decide +kernel, by decide +kernel⟩
abbrev s_Lmixed : Stmt := topS 21
theorem sc_Lmixed : FnScope ["_law_time_here", "_law_whole", "_law_rest"] ["_law_time_here"] (defScope s_Lmixed) := ⟨rfl, rfl, rfl, by decide +kernel, rfl, by decide +kernel, by decide +kernel⟩
abbrev s_Llines : Stmt := topS 22
theorem sc_Llines : FnScope ["_law_cues_here", "_law_lines_here", "_law_number", "_law_begin", "_law_end", "_law_words", "_law_head", "_law_time_here", "_law_word"] ["_law_cues_here"] (defScope s_Llines) := ⟨rfl, rfl, rfl, by decide +kernel, rfl, by decide +kernel, by decide +kernel⟩
abbrev s_law : Stmt := topS 23
theorem sc_law : FnScope ["_law_script", "_law_box", "_law_cues_here"] ["_law_script"] (defScope s_law) := ⟨rfl, rfl, rfl, by decide +kernel, rfl, by decide +kernel, by decide +kernel⟩
structure Txt (K : PySem.W.Frag) (mg : Str → Option Value) : Prop where
  d_with_rest : Df K mg "with_rest" s_with_rest ["whole", "top", "bottom"]
  d_as_mixed : Df K mg "as_mixed" s_as_mixed ["fraction"]
  d_as_frames : Df K mg "as_frames" s_as_frames ["time"]
  d_written : Df K mg "written" s_written ["cues"]
  d_Lbegun : Df K mg "_law_begun" s_Lbegun ["_law_script"]
  d_Ltake : Df K mg "_law_take" s_Ltake ["_law_box", "_law_many"]
  d_Lalike : Df K mg "_law_alike" s_Lalike ["_law_found", "_law_due"]
  d_Lfr : Df K mg "_law_fr" s_Lfr ["_law_top", "_law_bottom"]
  d_Lsum : Df K mg "_law_sum" s_Lsum ["_law_one", "_law_two"]
  d_Lminus : Df K mg "_law_minus" s_Lminus ["_law_one", "_law_two"]
  d_Ltimes : Df K mg "_law_times" s_Ltimes ["_law_one", "_law_two"]
  d_Ltime : Df K mg "_law_time" s_Ltime ["_law_box", "_law_most"]
  d_Lcue : Df K mg "_law_cue" s_Lcue ["_law_box", "_law_number"]
  d_Lcues : Df K mg "_law_cues" s_Lcues ["_law_box"]
  d_Lmixed : Df K mg "_law_mixed" s_Lmixed ["_law_time_here"]
  d_Llines : Df K mg "_law_lines" s_Llines ["_law_cues_here"]
  d_law : Df K mg "law" s_law ["_law_script"]
  m_list : mg "list" = none
  m_int : mg "int" = none
  m_len : mg "len" = none
  m_isinstance : mg "isinstance" = none
  m_bool : mg "bool" = none
  m_str : mg "str" = none
  m_tuple : mg "tuple" = none
  m_range : mg "range" = none
  m_abs : mg "abs" = none
  m_sorted : mg "sorted" = none
  c_CUE : ∃ u, mg "CUE" = some u ∧ RelV (.str "cue ") u
  c_WORD : ∃ u, mg "WORD" = some u ∧ RelV (.str "  ") u
/-! ### fractions on the heap -/
def dF (q : Rat) : PyData := .tuple [.int q.num, .int (q.den : Int)]
theorem dF_at {K : PySem.W.Frag} {H : Hp} {v : V} {q : Rat} (h : Dp K H v (dF q)) : ∃ a, v = .ref a ∧ SqT K H a [.int q.num, .int (q.den : Int)] := by
  unfold dF at h
  cases h with
  | tup hs ha =>
    cases ha with
    | cons h1 h2 =>
      cases h1
      cases h2 with
      | cons h3 h4 =>
        cases h3
        cases h4
        exact ⟨_, rfl, hs⟩
theorem dF_mk {K : PySem.W.Frag} {H : Hp} {p : Addr} {q : Rat} (h : SqT K H p [.int q.num, .int (q.den : Int)]) : Dp K H (.ref p) (dF q) := .tup h (.cons (.int _) (.cons (.int _) .nil))
def spGcd : Sp := fun vs H Q _ => ∃ i j : Int, vs = [.int i, .int j] ∧ Q (.int (Nat.gcd i.natAbs j.natAbs : Nat)) H
def spMade (K : PySem.W.Frag) : Sp := fun vs H Q _ => ∃ t b : Int, vs = [.int t, .int b] ∧ b ≠ 0 ∧ b.natAbs < 2 ^ 9000 ∧ ∀ H' v, Same H H' → Dp K H' v (dF (Rat.divInt t b)) → Q v H'
def spF2 (K : PySem.W.Frag) (f : Rat → Rat → Rat) (C : Rat → Rat → Prop) : Sp := fun vs H Q _ => ∃ (u v : V) (x y : Rat) (n m : Nat), vs = [u, v] ∧ Dp K H u (dF x) ∧ Dp K H v (dF y) ∧ Sz n x ∧ Sz m y ∧ n + m ≤ 9000 ∧ C x y ∧
  ∀ H' z, Same H H' → Dp K H' z (dF (f x y)) → Q z H'
def spLow (K : PySem.W.Frag) : Sp := fun vs H Q _ => ∃ (u v : V) (x y : Rat) (n m : Nat), vs = [u, v] ∧ Dp K H u (dF x) ∧ Dp K H v (dF y) ∧ Sz n x ∧ Sz m y ∧ n + m ≤ 9000 ∧ Q (.bl (decide (x < y))) H
theorem Sz.pos {n : Nat} {x : Rat} (h : Sz n x) : 0 < n := by
  have h1 := h.den
  have h2 := x.den_nz
  cases n with
  | zero =>
    have : x.den < 1 := h1
    omega
  | succ n => exact Nat.succ_pos n
theorem mnd {n m : Nat} {x y : Rat} (hx : Sz n x) (hy : Sz m y) (h : n + m ≤ 9000) : CMulW x.num (y.den : Int) := wide_mul hx.num hy.den' hx.pos hy.pos (by omega)
theorem mnd' {n m : Nat} {x y : Rat} (hx : Sz n x) (hy : Sz m y) (h : n + m ≤ 9000) : CMulW y.num (x.den : Int) := wide_mul hy.num hx.den' hy.pos hx.pos (by omega)
theorem mdd {n m : Nat} {x y : Rat} (hx : Sz n x) (hy : Sz m y) (h : n + m ≤ 9000) : CMulW (x.den : Int) (y.den : Int) := wide_mul hx.den' hy.den' hx.pos hy.pos (by omega)
theorem mnn {n m : Nat} {x y : Rat} (hx : Sz n x) (hy : Sz m y) (h : n + m ≤ 9000) : CMulW x.num y.num := wide_mul hx.num hy.num hx.pos hy.pos (by omega)
theorem mdn {n m : Nat} {x y : Rat} (hx : Sz n x) (hy : Sz m y) (h : n + m ≤ 9000) : CMulW (x.den : Int) y.num := wide_mul hx.den' hy.num hx.pos hy.pos (by omega)
theorem up9 {i : Int} {n : Nat} (h : i.natAbs < 2 ^ n) (k : n ≤ 9000) : i.natAbs < 2 ^ 9000 := Nat.lt_of_lt_of_le h (Nat.pow_le_pow_right (by decide) k)
theorem num_zero {y : Rat} (h : y.num ≠ 0) : y ≠ 0 := fun e => h (by rw [e]; rfl)
theorem p20 {i : Int} (h : i.natAbs < 2 ^ 20) : i.natAbs < 2 ^ 9000 := Nat.lt_of_lt_of_le h (Nat.pow_le_pow_right (by decide) (by decide))
/-! ### the box of draws: a list of ints and a number, at b and l -/
def hid (b l : Addr) (H : Hp) : Hp := fun a => if a = b ∨ a = l then none else H a
structure Bx (H : Hp) (b l : Addr) : Prop where
  ne : b ≠ l
  ex : ∃ (xs : List Int) (st : Int), H b = some (.lst [.ref l, .int st]) ∧ H l = some (.lst (xs.map V.int))
theorem hid_b {b l : Addr} {H : Hp} {o : HO} : hid b l (upd H b o) = hid b l H := by
  funext a
  unfold hid upd
  split
  · rfl
  · rename_i h
    rw [if_neg (fun e => h (.inl e))]
theorem hid_l {b l : Addr} {H : Hp} {o : HO} : hid b l (upd H l o) = hid b l H := by
  funext a
  unfold hid upd
  split
  · rfl
  · rename_i h
    rw [if_neg (fun e => h (.inr e))]
theorem Same.hid {b l : Addr} {H H' : Hp} (s : Same H H') : Same (hid b l H) (hid b l H') := fun a o h => by
  unfold R.hid at h ⊢
  split at h
  · cases h
  · rename_i k
    rw [if_neg k]
    exact s _ _ h
theorem hid_same {b l : Addr} {H : Hp} : Same (hid b l H) H := fun a o h => by
  unfold hid at h
  split at h
  · cases h
  · exact h
theorem Bx.mono {b l : Addr} {H H' : Hp} (B : Bx H b l) (s : Same H H') : Bx H' b l := by
  obtain ⟨xs, st, h1, h2⟩ := B.ex
  exact ⟨B.ne, xs, st, s _ _ h1, s _ _ h2⟩
theorem dpa_ints {K : PySem.W.Frag} {H : Hp} : ∀ xs : List Int, DpAll K H (xs.map V.int) (xs.map PyData.int)
  | [] => .nil
  | _ :: r => .cons (.int _) (dpa_ints r)
theorem lay_ints : ∀ xs : List Int, PyData.canLayAll0 (xs.map PyData.int) = true
  | [] => rfl
  | _ :: r => by
    show (PyData.canLay0 _ && PyData.canLayAll0 (r.map PyData.int)) = true
    rw [lay_ints r]
    rfl
theorem depth_ints : ∀ xs : List Int, PyData.depthAll (xs.map PyData.int) = 0
  | [] => rfl
  | _ :: r => by
    show max (PyData.depth _) (PyData.depthAll (r.map PyData.int)) = 0
    rw [depth_ints r]
    rfl
theorem shaped_ints (xs : List Int) : SeqAt.shaped (.list (xs.map PyData.int)) = true := by
  unfold SeqAt.shaped
  rw [show PyData.canLay0 (.list (xs.map PyData.int)) = true from lay_ints xs, show PyData.depth (.list (xs.map PyData.int)) = 1 by
    show PyData.depthAll (xs.map PyData.int) + 1 = 1
    rw [depth_ints]]
  rfl
theorem fmod_rg {x m : Int} (h : 0 < m) : 0 ≤ x.fmod m ∧ x.fmod m < m := by
  rw [Int.fmod_eq_emod_of_nonneg _ (by omega)]
  exact ⟨Int.emod_nonneg _ (by omega), Int.emod_lt_of_pos _ h⟩
def spBegun (K : PySem.W.Frag) : Sp := fun vs H Q _ => ∃ (a : Addr) (ns : List Int), vs = [.ref a] ∧ SqL K H a (ns.map V.int) ∧ ∀ H' b l, Same H H' → H b = none → H l = none → Bx H' b l → Q (.ref b) H'
def spTake (K : PySem.W.Frag) : Sp := fun vs H Q _ => ∃ (b l : Addr) (m : Int), vs = [.ref b, .int m] ∧ Bx H b l ∧ 0 < m ∧ m < 1073741824 ∧ ∀ H' (r : Int), Same (hid b l H) (hid b l H') → Bx H' b l → 0 ≤ r → r < m → Q (.int r) H'
theorem ixN0 {n : Nat} : ixN (n + 1) 0 = some 0 := by
  unfold ixN
  rw [if_pos (by decide), if_pos (by omega)]
  rfl
theorem hid_at {b l p : Addr} {H : Hp} {o : HO} (B : Bx H b l) (hp : H p = none) : hid b l (upd H p o) p = some o := by
  obtain ⟨xs, st, h1, h2⟩ := B.ex
  unfold hid
  rw [if_neg, upd_same]
  rintro (e | e)
  · rw [e, h1] at hp
    cases hp
  · rw [e, h2] at hp
    cases hp
theorem hid_tup {K : PySem.W.Frag} {b l a : Addr} {H : Hp} {xs : List V} (B : Bx H b l) (h : SqT K H a xs) : SqT K (hid b l H) a xs := by
  obtain ⟨ys, st, h1, h2⟩ := B.ex
  have key : ∀ u : HO, H a = some u → (∀ zs, u ≠ .lst zs) → hid b l H a = some u := by
    intro u hu hn
    unfold hid
    rw [if_neg, hu]
    rintro (e | e)
    · rw [e, h1] at hu
      exact hn _ (Option.some.inj hu).symm
    · rw [e, h2] at hu
      exact hn _ (Option.some.inj hu).symm
  rcases h with (h | ⟨o, h⟩) | h
  · exact .inl (.inl (key _ h (fun _ z => nomatch z)))
  · exact .inl (.inr ⟨o, key _ h (fun _ z => nomatch z)⟩)
  · exact .inr h
theorem frac_hid {K : PySem.W.Frag} {b l : Addr} {H : Hp} {v : V} {q : Rat} (B : Bx H b l) (h : Dp K H v (dF q)) : Dp K (hid b l H) v (dF q) := by
  obtain ⟨a, rfl, h2⟩ := dF_at h
  exact dF_mk (hid_tup B h2)
theorem frac_keep {K : PySem.W.Frag} {b l : Addr} {H H' : Hp} {v : V} {q : Rat} (h : Dp K H v (dF q)) (B : Bx H b l) (s : Same (hid b l H) (hid b l H')) : Dp K H' v (dF q) := dp_mono hid_same _ _ (dp_mono s _ _ (frac_hid B h))
/-! ### alike: the same data -/
theorem iteY {c : Bool} {A B : Prop} (h : c = true) (a : A) : if c = true then A else B := by
  rw [if_pos h]
  exact a
theorem iteN {c : Bool} {A B : Prop} (h : c = false) (b : B) : if c = true then A else B := by
  rw [if_neg (by rw [h]; exact Bool.false_ne_true)]
  exact b
theorem tyL {K : PySem.W.Frag} {H : Hp} {a : Addr} {xs : List V} (h : SqL K H a xs) : TyX K H (.ref a) (.type "list") := by
  rcases h with (h | ⟨o, h⟩) | ⟨o, its, n, h1, h2, _⟩
  · exact .base (.lst h)
  · exact .base (.frz h)
  · exact .kList h1 h2
theorem tyT {K : PySem.W.Frag} {H : Hp} {a : Addr} {xs : List V} (h : SqT K H a xs) : TyX K H (.ref a) (.type "tuple") := by
  rcases h with (h | ⟨o, h⟩) | ⟨o, its, n, h1, h2, _⟩
  · exact .base (.tup h)
  · exact .fTuple h
  · exact .kTuple h1 h2
theorem rIx_of {K : PySem.W.Frag} {H : Hp} {a : Addr} {xs : List V} {j : Nat} {v : V} {Q : VK} (h : SqL K H a xs ∨ SqT K H a xs) (hv : xs[j]? = some v) (q : Q v H) : rIx K (.ref a) (.int (j : Int)) H Q := by
  rcases h with h | h
  · exact .inl ⟨_, _, _, _, rfl, rfl, h, atI_nat hv, q⟩
  · exact .inr (.inl ⟨_, _, _, _, rfl, rfl, h, atI_nat hv, q⟩)
mutual
def szOk : PyData → Bool
  | .list xs | .tuple xs => decide (xs.length < 2 ^ 62) && szAll xs
  | _ => true
def szAll : List PyData → Bool
  | [] => true
  | x :: xs => szOk x && szAll xs
end
theorem szAll_at : ∀ {ds : List PyData} {i : Nat} {d : PyData}, szAll ds = true → ds[i]? = some d → szOk d = true
  | [], _, _, _, h => by simp at h
  | x :: r, 0, d, a, h => by
    have e : x = d := Option.some.inj h
    have := Bool.and_eq_true_iff.mp (show (szOk x && szAll r) = true from a)
    rw [← e]
    exact this.1
  | x :: r, i + 1, d, a, h => szAll_at (ds := r) (i := i) (Bool.and_eq_true_iff.mp (show (szOk x && szAll r) = true from a)).2 h
theorem depth_at : ∀ {ds : List PyData} {i : Nat} {d : PyData}, ds[i]? = some d → d.depth ≤ PyData.depthAll ds
  | [], _, _, h => by simp at h
  | x :: r, 0, d, h => by
    have e : x = d := Option.some.inj h
    rw [← e]
    exact Nat.le_max_left _ _
  | x :: r, i + 1, d, h => Nat.le_trans (depth_at (ds := r) (i := i) h) (Nat.le_max_right _ _)
theorem dpa_at {K : PySem.W.Frag} {H : Hp} : ∀ {vs : List V} {ds : List PyData} {i : Nat} {v : V}, DpAll K H vs ds → vs[i]? = some v → ∃ d, ds[i]? = some d ∧ Dp K H v d
  | [], _, _, _, _, h => by simp at h
  | x :: r, _, 0, v, .cons h1 h2, h => by
    have e : x = v := Option.some.inj h
    rw [← e]
    exact ⟨_, rfl, h1⟩
  | x :: r, _, i + 1, v, .cons h1 h2, h => dpa_at (vs := r) (i := i) h2 h
theorem dpa_len {K : PySem.W.Frag} {H : Hp} : ∀ {vs : List V} {ds : List PyData}, DpAll K H vs ds → vs.length = ds.length
  | _, _, .nil => rfl
  | _, _, .cons _ h => by rw [List.length_cons, List.length_cons, dpa_len h]
def spAlike (K : PySem.W.Frag) (n : Nat) : Sp := fun vs H Q _ => ∃ (u v : V) (d : PyData), vs = [u, v] ∧ Dp K H u d ∧ Dp K H v d ∧ d.depth < n ∧ szOk d = true ∧ Q (.bl true) H
/-! ### shows on the heap -/
def dS (s : St3) : PyData := .tuple [dF s.1, dF s.2.1, dF s.2.2]
def dSh (xs : List St3) : PyData := .list (xs.map dS)
def dRow (x : Rat × Rat × St3) : PyData := .tuple [dF x.1, dF x.2.1, dS x.2.2]
mutual
def tupD : PyData → Bool
  | .list _ | .dict _ => false
  | .tuple xs => tupA xs
  | _ => true
def tupA : List PyData → Bool
  | [] => true
  | x :: xs => tupD x && tupA xs
end
def IsL (H : Hp) (a : Addr) : Prop := ∃ xs, H a = some (.lst xs)
theorem hid_tupL {K : PySem.W.Frag} {b l a : Addr} {H : Hp} {xs : List V} (Lb : IsL H b) (Ll : IsL H l) (h : SqT K H a xs) : SqT K (hid b l H) a xs := by
  obtain ⟨x1, h1⟩ := Lb
  obtain ⟨x2, h2⟩ := Ll
  have key : ∀ u : HO, H a = some u → (∀ zs, u ≠ .lst zs) → hid b l H a = some u := by
    intro u hu hn
    unfold hid
    rw [if_neg, hu]
    rintro (e | e)
    · rw [e, h1] at hu
      exact hn _ (Option.some.inj hu).symm
    · rw [e, h2] at hu
      exact hn _ (Option.some.inj hu).symm
  rcases h with (h | ⟨o, h⟩) | h
  · exact .inl (.inl (key _ h (fun _ z => nomatch z)))
  · exact .inl (.inr ⟨o, key _ h (fun _ z => nomatch z)⟩)
  · exact .inr h
mutual
theorem dp_hid {K : PySem.W.Frag} {b l : Addr} {H : Hp} (Lb : IsL H b) (Ll : IsL H l) : ∀ (d : PyData) (v : V), tupD d = true → Dp K H v d → Dp K (hid b l H) v d
  | .none, _, _, h => by cases h; exact .non
  | .bool _, _, _, h => by cases h; exact .bl _
  | .int _, _, _, h => by cases h; exact .int _
  | .str _, _, _, h => by cases h; exact .str _
  | .list ds, _, z, _ => by cases z
  | .tuple ds, _, z, h => by
    cases h with
    | tup hs ha => exact .tup (hid_tupL Lb Ll hs) (dpa_hid Lb Ll ds _ z ha)
  | .dict _, _, z, _ => by cases z
theorem dpa_hid {K : PySem.W.Frag} {b l : Addr} {H : Hp} (Lb : IsL H b) (Ll : IsL H l) : ∀ (ds : List PyData) (vs : List V), tupA ds = true → DpAll K H vs ds → DpAll K (hid b l H) vs ds
  | [], _, _, h => by cases h; exact .nil
  | d :: ds, _, z, h => by
    have z2 := Bool.and_eq_true_iff.mp (show (tupD d && tupA ds) = true from z)
    cases h with
    | cons h1 h2 => exact .cons (dp_hid Lb Ll d _ z2.1 h1) (dpa_hid Lb Ll ds _ z2.2 h2)
end
theorem tupD_dF (q : Rat) : tupD (dF q) = true := rfl
theorem tupD_dS (s : St3) : tupD (dS s) = true := rfl
theorem tupA_dS : ∀ xs : List St3, tupA (xs.map dS) = true
  | [] => rfl
  | s :: r => by
    show (tupD (dS s) && tupA (r.map dS)) = true
    rw [tupA_dS r]
    rfl
theorem dS_at {K : PySem.W.Frag} {H : Hp} {v : V} {s : St3} (h : Dp K H v (dS s)) : ∃ a v1 v2 v3, v = .ref a ∧ SqT K H a [v1, v2, v3] ∧ Dp K H v1 (dF s.1) ∧ Dp K H v2 (dF s.2.1) ∧ Dp K H v3 (dF s.2.2) := by
  unfold dS at h
  cases h with
  | tup hs ha =>
    cases ha with
    | cons h1 h2 =>
      cases h2 with
      | cons h3 h4 =>
        cases h4 with
        | cons h5 h6 =>
          cases h6
          exact ⟨_, _, _, _, rfl, hs, h1, h3, h5⟩
theorem dS_mk {K : PySem.W.Frag} {H : Hp} {p : Addr} {v1 v2 v3 : V} {s : St3} (h : SqT K H p [v1, v2, v3]) (h1 : Dp K H v1 (dF s.1)) (h2 : Dp K H v2 (dF s.2.1)) (h3 : Dp K H v3 (dF s.2.2)) : Dp K H (.ref p) (dS s) := .tup h (.cons h1 (.cons h2 (.cons h3 .nil)))
theorem dRow_at {K : PySem.W.Frag} {H : Hp} {v : V} {x : Rat × Rat × St3} (h : Dp K H v (dRow x)) : ∃ a v1 v2 v3, v = .ref a ∧ SqT K H a [v1, v2, v3] ∧ Dp K H v1 (dF x.1) ∧ Dp K H v2 (dF x.2.1) ∧ Dp K H v3 (dS x.2.2) := by
  unfold dRow at h
  cases h with
  | tup hs ha =>
    cases ha with
    | cons h1 h2 =>
      cases h2 with
      | cons h3 h4 =>
        cases h4 with
        | cons h5 h6 =>
          cases h6
          exact ⟨_, _, _, _, rfl, hs, h1, h3, h5⟩
theorem dRow_mk {K : PySem.W.Frag} {H : Hp} {p : Addr} {v1 v2 v3 : V} {x : Rat × Rat × St3} (h : SqT K H p [v1, v2, v3]) (h1 : Dp K H v1 (dF x.1)) (h2 : Dp K H v2 (dF x.2.1)) (h3 : Dp K H v3 (dS x.2.2)) : Dp K H (.ref p) (dRow x) := .tup h (.cons h1 (.cons h2 (.cons h3 .nil)))
theorem dSh_at {K : PySem.W.Frag} {H : Hp} {v : V} {xs : List St3} (h : Dp K H v (dSh xs)) : ∃ a vs, v = .ref a ∧ SqL K H a vs ∧ DpAll K H vs (xs.map dS) := by
  unfold dSh at h
  cases h with
  | lst hs ha => exact ⟨_, _, rfl, hs, ha⟩
theorem dpa_map {α : Type} {K : PySem.W.Frag} {H : Hp} {f : α → PyData} {vs : List V} {xs : List α} {i : Nat} {v : V} (h : DpAll K H vs (xs.map f)) (hv : vs[i]? = some v) : ∃ s, xs[i]? = some s ∧ Dp K H v (f s) := by
  obtain ⟨d, h1, h2⟩ := dpa_at h hv
  rw [List.getElem?_map] at h1
  cases e : xs[i]? with
  | none =>
    rw [e] at h1
    cases h1
  | some s =>
    rw [e] at h1
    exact ⟨s, rfl, by rw [show d = f s from (Option.some.inj h1).symm] at h2; exact h2⟩
theorem dpa_snoc {K : PySem.W.Frag} {H : Hp} : ∀ {vs : List V} {ds : List PyData} {v : V} {d : PyData}, DpAll K H vs ds → Dp K H v d → DpAll K H (vs ++ [v]) (ds ++ [d])
  | _, _, _, _, .nil, h => .cons h .nil
  | _, _, _, _, .cons h1 h2, h => .cons h1 (dpa_snoc h2 h)
/-- what stood at the entry stands beside a list r that was made since -/
theorem hid_old {H H' : Hp} {r : Addr} (s : Same H H') (hr : H r = none) : Same H (hid r r H') := fun a o h => by
  unfold hid
  rw [if_neg, s _ _ h]
  rintro (e | e)
  · rw [e, hr] at h
    cases h
  · rw [e, hr] at h
    cases h
def spSt (K : PySem.W.Frag) (g : St3 → Rat) : Sp := fun vs H Q _ => ∃ (v : V) (s : St3) (N : Nat), vs = [v] ∧ Dp K H v (dS s) ∧ StOk N s ∧ N ≤ 2240 ∧ ∀ H' z, Same H H' → Dp K H' z (dF (g s)) → Q z H'
def spLen (K : PySem.W.Frag) : Sp := fun vs H Q _ => ∃ (v : V) (xs : List St3) (N : Nat), vs = [v] ∧ Dp K H v (dSh xs) ∧ ShOk N xs ∧ N ≤ 2240 ∧ ∀ H' z, Same H H' → Dp K H' z (dF (lenS xs)) → Q z H'
def spTab (K : PySem.W.Frag) : Sp := fun vs H Q _ => ∃ (v : V) (xs : List St3) (N : Nat), vs = [v] ∧ Dp K H v (dSh xs) ∧ ShOk N xs ∧ N ≤ 2240 ∧ xs.length ≤ 1000 ∧ ∀ H' p ys, Same H H' → H p = none → H' p = some (.lst ys) → DpAll K H' ys ((tabF 0 xs).map dRow) → Q (.ref p) H'
def spNorm (K : PySem.W.Frag) : Sp := fun vs H Q _ => ∃ (v : V) (xs : List St3), vs = [v] ∧ Dp K H v (dSh xs) ∧ xs.length ≤ 1000 ∧ ∀ H' p ys, Same H H' → H p = none → H' p = some (.lst ys) → DpAll K H' ys ((normM xs).map dS) → Q (.ref p) H'
def spPlace (K : PySem.W.Frag) : Sp := fun vs H Q _ => ∃ (v u : V) (s : St3) (t : Rat) (N : Nat), vs = [v, u] ∧ Dp K H v (dS s) ∧ Dp K H u (dF t) ∧ StOk N s ∧ Sz (2 * N + 1) t ∧ N ≤ 2240 ∧ ∀ H' z, Same H H' → Dp K H' z (dF (s.1 + t * s.2.2)) → Q z H'
/-! ### data of tuples alone stays, whatever is done to lists -/
theorem keepT {K : PySem.W.Frag} {b l : Addr} {H H' : Hp} {v : V} {d : PyData} (h : Dp K H v d) (hd : tupD d = true) (Lb : IsL H b) (Ll : IsL H l) (s : Same (hid b l H) (hid b l H')) : Dp K H' v d := dp_mono hid_same _ _ (dp_mono s _ _ (dp_hid Lb Ll _ _ hd h))
theorem keepA {K : PySem.W.Frag} {b l : Addr} {H H' : Hp} {vs : List V} {ds : List PyData} (h : DpAll K H vs ds) (hd : tupA ds = true) (Lb : IsL H b) (Ll : IsL H l) (s : Same (hid b l H) (hid b l H')) : DpAll K H' vs ds := dpa_mono hid_same _ _ (dpa_mono s _ _ (dpa_hid Lb Ll _ _ hd h))
theorem keepU {K : PySem.W.Frag} {r : Addr} {H : Hp} {o : HO} {v : V} {d : PyData} (h : Dp K H v d) (hd : tupD d = true) (Lr : IsL H r) : Dp K (upd H r o) v d := keepT h hd Lr Lr (by rw [hid_b]; exact Same.refl _)
theorem keepAU {K : PySem.W.Frag} {r : Addr} {H : Hp} {o : HO} {vs : List V} {ds : List PyData} (h : DpAll K H vs ds) (hd : tupA ds = true) (Lr : IsL H r) : DpAll K (upd H r o) vs ds := keepA h hd Lr Lr (by rw [hid_b]; exact Same.refl _)
theorem Bx.lb {H : Hp} {b l : Addr} (B : Bx H b l) : IsL H b := let ⟨_, _, h, _⟩ := B.ex; ⟨_, h⟩
theorem Bx.ll {H : Hp} {b l : Addr} (B : Bx H b l) : IsL H l := let ⟨_, _, _, h⟩ := B.ex; ⟨_, h⟩
theorem dpa_split {K : PySem.W.Frag} {H : Hp} : ∀ {ds : List PyData} {vs : List V} {d : PyData}, DpAll K H vs (ds ++ [d]) → ∃ vs' v, vs = vs' ++ [v] ∧ DpAll K H vs' ds ∧ Dp K H v d
  | [], _, _, .cons h .nil => ⟨[], _, rfl, .nil, h⟩
  | _ :: ds, _, _, .cons h1 h2 => by
    obtain ⟨vs', v, rfl, h3, h4⟩ := dpa_split (ds := ds) h2
    exact ⟨_ :: vs', v, rfl, .cons h1 h3, h4⟩
theorem rat_eq {x y : Rat} (h1 : x.num = y.num) (h2 : (x.den : Int) = (y.den : Int)) : x = y := Rat.ext h1 (by omega)
theorem eqv_dF (x y : Rat) : PyData.eqv (dF x) (dF y) = decide (x = y) := by
  show ((x.num == y.num) && (((x.den : Int) == (y.den : Int)) && true)) = _
  by_cases h : x = y
  · rw [h, decide_eq_true rfl, beq_self_eq_true, beq_self_eq_true]
    rfl
  · rw [decide_eq_false h]
    cases c1 : (x.num == y.num) with
    | false => rfl
    | true =>
      cases c2 : ((x.den : Int) == (y.den : Int)) with
      | false => rfl
      | true => exact absurd (rat_eq (eq_of_beq c1) (eq_of_beq c2)) h
theorem shaped_dF (x : Rat) : SeqAt.shaped (dF x) = true := rfl
theorem lay_dS : ∀ xs : List St3, PyData.canLayAll0 (xs.map dS) = true
  | [] => rfl
  | s :: r => by
    show (PyData.canLay0 (dS s) && PyData.canLayAll0 (r.map dS)) = true
    rw [lay_dS r]
    rfl
theorem depth_dS : ∀ xs : List St3, PyData.depthAll (xs.map dS) ≤ 2
  | [] => Nat.zero_le _
  | s :: r => Nat.max_le.mpr ⟨Nat.le_refl 2, depth_dS r⟩
theorem shaped_dSh (xs : List St3) : SeqAt.shaped (dSh xs) = true := by
  unfold SeqAt.shaped
  rw [show PyData.canLay0 (dSh xs) = true from lay_dS xs]
  have : PyData.depth (dSh xs) ≤ 64 := by
    show PyData.depthAll (xs.map dS) + 1 ≤ 64
    have := depth_dS xs
    omega
  rw [decide_eq_true this]
  rfl
theorem sz_dS : ∀ xs : List St3, szAll (xs.map dS) = true
  | [] => rfl
  | s :: r => by
    show (szOk (dS s) && szAll (r.map dS)) = true
    rw [sz_dS r]
    rfl
theorem sz_dSh (xs : List St3) (h : xs.length < 2 ^ 62) : szOk (dSh xs) = true := by
  show (decide ((xs.map dS).length < 2 ^ 62) && szAll (xs.map dS)) = true
  rw [sz_dS, List.length_map, decide_eq_true h]
  rfl
theorem dep_dSh (xs : List St3) : (dSh xs).depth < 4 := by
  show PyData.depthAll (xs.map dS) + 1 < 4
  have := depth_dS xs
  omega
def spPick (K : PySem.W.Frag) (g : Rat → Rat → Bool) : Sp := fun vs H Q _ => ∃ (u v : V) (x y : Rat) (n m : Nat), vs = [u, v] ∧ Dp K H u (dF x) ∧ Dp K H v (dF y) ∧ Sz n x ∧ Sz m y ∧ n + m ≤ 9000 ∧ Q (if g x y = true then v else u) H
def spPiece (K : PySem.W.Frag) : Sp := fun vs H Q _ => ∃ (v u1 u2 : V) (s : St3) (t1 t2 : Rat) (N : Nat), vs = [v, u1, u2] ∧ Dp K H v (dS s) ∧ Dp K H u1 (dF t1) ∧ Dp K H u2 (dF t2) ∧ StOk N s ∧ Sz (2 * N + 1) t1 ∧ Sz (2 * N + 1) t2 ∧ N ≤ 2240 ∧
  ∀ H' z, Same H H' → Dp K H' z (dS (s.1 + t1 * s.2.2, s.1 + t2 * s.2.2, s.2.2)) → Q z H'
def refused (xs : List St3) (b e : Rat) : Prop := e < b ∨ lenS xs < e
def spTaken (K : PySem.W.Frag) (C : Addr) : Sp := fun vs H Q E => ∃ (v u1 u2 : V) (xs : List St3) (b e : Rat) (N : Nat), vs = [v, u1, u2] ∧ Dp K H v (dSh xs) ∧ Dp K H u1 (dF b) ∧ Dp K H u2 (dF e) ∧ ShOk N xs ∧ Sz N b ∧ Sz N e ∧ N ≤ 2240 ∧ xs.length ≤ 900 ∧
  (refused xs b e → ∀ H', Same H H' → E (.ref C) none H') ∧
  (¬ refused xs b e → ∀ H' p ys, Same H H' → H p = none → H' p = some (.lst ys) → DpAll K H' ys ((normM (cutM xs b e)).map dS) → Q (.ref p) H')
def spRest : Sp := fun vs H Q _ => ∃ (x : Str) (t b : Int), vs = [.str x, .int t, .int b] ∧ x.length ≤ 500 ∧ 0 ≤ t ∧ t < 10 ^ 30 ∧ 0 ≤ b ∧ b < 10 ^ 30 ∧ Q (.str (x ++ rs t b)) H
def spMix (K : PySem.W.Frag) (n : Int) (g : Rat → Str) : Sp := fun vs H Q _ => ∃ (v : V) (q : Rat), vs = [v] ∧ Dp K H v (dF q) ∧ Bd n q ∧ Q (.str (g q)) H
def spTxt2 (K : PySem.W.Frag) (g : Rat → Int → Str) : Sp := fun vs H Q _ => ∃ (v : V) (q : Rat) (r : Int), vs = [v, .int r] ∧ Dp K H v (dF q) ∧ Bd (10 ^ 27) q ∧ 0 < r ∧ r ≤ 120 ∧ ∀ H', Same H H' → Q (.str (g q r)) H'
section
variable {P : Program} {w : World} {K : PySem.W.Frag} {mg : Str → Option Value} {base : Heap}
theorem cl_Lbegun (T : Txt K mg) : Cl P w K mg base CX0 1 "_law_begun" (spBegun K) := by
  refine T.d_Lbegun.cl sc_Lbegun (fun vs H Q E h => ?_) (fun f cdv A outer s H vs Q E hr h => ?_)
  · obtain ⟨i, j, rfl, _⟩ := h
    rfl
  · obtain ⟨a, ns, rfl, hS, q⟩ := h
    refine ⟨_, (pss_cons (ps_set (i := 1) sc_Lbegun.nd rfl (.inl rfl) pe_int)
      (pss_cons (ps_for PassesOwn.never rfl (pi_list (pv 0)) (pg_name (i := 2) sc_Lbegun.nd rfl (.inl rfl))
        (pss_one (ps_set (i := 1) sc_Lbegun.nd rfl (.inl rfl) (pe_op op_mod (pe_op op_add (pe_op op_add (pe_op op_mul (pv 1) pe_int) (pe_op op_mul (pv 2) pe_int)) pe_int) pe_int))))
      (pss_one (ps_ret (pe_lst (pa_cons (pe_callTy call_list_of (by rfl) T.m_list (by decide +kernel) (pa_cons (pv 0) pa_nil)) (pa_cons (pe_op op_mul (pv 1) (pe_callTy call_int1 (by rfl) T.m_int (by decide +kernel) (pa_cons (pe_cmpR op_gt (pe_callB call_len_seq (by rfl) T.m_len (by decide +kernel) (pa_cons (pv 0) pa_nil)) pe_int (nomark _)) pa_nil))) pa_nil))))))), ?_⟩
    refine ⟨_, rfl, a, rfl, ⟨_, hS⟩, for_list (K := K) (a := a) (xs := ns.map V.int) (fun i σ H' => ∃ (x : Int) (c : Option V), σ = [some (.ref a), some (.int x), c] ∧ H' = H) ⟨0, none, rfl, rfl⟩ (fun i σ H' _ h => ?_) (fun i x σ H' hx h => ?_) (fun σ H' h => ?_)⟩
    · obtain ⟨x, c, rfl, rfl⟩ := h
      exact hS
    · obtain ⟨y, c, rfl, rfl⟩ := h
      obtain ⟨z, hz, rfl⟩ : ∃ z : Int, z ∈ ns ∧ V.int z = x := by
        have := List.mem_of_getElem? hx
        exact List.mem_map.mp this
      refine ⟨_, rfl, _, _, rfl, rfl, .inr ⟨by decide, by decide⟩, _, rfl, _, _, rfl, rfl, .inr ⟨by decide, by decide⟩, _, _, rfl, rfl, _, _, rfl, rfl, _, _, rfl, rfl, (show (0 : Int) < 2147483647 by decide), _, _, rfl, rfl⟩
    · obtain ⟨y, c, rfl, rfl⟩ := h
      refine ⟨_, rfl, a, _, rfl, .inl hS, fun l hl => ?_⟩
      have hS2 : SqL K (upd H' l (.lst (ns.map V.int))) a (ns.map V.int) := (Same.new hl).seq hS
      refine ⟨_, rfl, _, rfl, a, _, rfl, .inl hS2, _, _, rfl, rfl, .inr ⟨_, rfl, _, _, rfl, rfl, .inr ?_, (show 2 ≤ sizeLine by decide), fun b hb => ?_⟩⟩
      · split <;> exact ⟨by decide, by decide⟩
      · refine q _ b l ((Same.new hl).trans (Same.new hb)) ((Same.new hl).free hb) hl ⟨fun e => ?_, ns, _, upd_same, ?_⟩
        · rw [e, upd_same] at hb
          cases hb
        · rw [upd_ne (fun e => ?_), upd_same]
          rw [← e, upd_same] at hb
          cases hb
theorem cl_Ltake (T : Txt K mg) : Cl P w K mg base CX0 1 "_law_take" (spTake K) := by
  refine T.d_Ltake.cl sc_Ltake (fun vs H Q E h => ?_) (fun f cdv A outer s H vs Q E hr h => ?_)
  · obtain ⟨b, l, m, rfl, _⟩ := h
    rfl
  · obtain ⟨b, l, m, rfl, B, m0, m1, q⟩ := h
    obtain ⟨xs, st, hb, hl⟩ := B.ex
    have ne := B.ne
    refine ⟨_, (pss_cons (ps_if (pt_cmpR (op_eqD hr.units) (pe_ix ix_list (pv 0) pe_int (fun _ _ => rfl)) (pe_lst pa_nil) (nomark _))
        (pss_cons (ps_asg (pe_op op_mod (pe_op op_mul (pe_ix ix_list (pv 0) pe_int (fun _ _ => rfl)) pe_int) pe_int) (pg_sub (pv 0) pe_int set_list))
      (pss_one (ps_ret (pe_op op_modN (pe_op op_fdiv (pe_ix ix_list (pv 0) pe_int (fun _ _ => rfl)) pe_int) (pv 1)))))
        pss_nil)
      (pss_cons (ps_set (i := 2) sc_Ltake.nd rfl (.inl rfl) (pe_ix ix_list (pe_ix ix_list (pv 0) pe_int (fun _ _ => rfl)) pe_int (fun _ _ => rfl)))
      (pss_cons (ps_asg (pe_op op_fdivX (pv 2) (pv 1)) (pg_sub (pe_ix ix_list (pv 0) pe_int (fun _ _ => rfl)) pe_int set_list))
      (pss_cons (ps_if (PW.pt (pw_or (pt_cmpR op_eq (pe_ix ix_list (pe_ix ix_list (pv 0) pe_int (fun _ _ => rfl)) pe_int (fun _ _ => rfl)) pe_int (nomark _)) (pw_or1 (pt_cmpR op_eq (pe_ix ix_list (pe_ix ix_list (pv 0) pe_int (fun _ _ => rfl)) pe_int (fun _ _ => rfl)) (pe_un un_neg pe_int) (nomark _)))))
        (pss_one (ps_expr (pe_bm PySem.F.plainAttrs_list PySem.F.slot_list_pop PySem.F.type_list_pop mt_popAt (pe_ix ix_list (pv 0) pe_int (fun _ _ => rfl)) (pa_cons pe_int pa_nil))))
        pss_nil)
      (pss_one (ps_ret (pe_op op_modN (pv 2) (pv 1)))))))), ?_⟩
    refine ⟨_, rfl, _, _, _, _, rfl, rfl, .inl (.inl hb), atI_nat (j := 0) rfl, Nat.zero_le _, fun o no => ?_⟩
    have sH : Same H (upd H o (.lst [])) := Same.new no
    have hb1 := sH _ _ hb
    have hl1 := sH _ _ hl
    have s0 : Same (hid b l H) (hid b l (upd H o (.lst []))) := Same.hid sH
    have he : SqL K (upd H o (.lst [])) o [] := .inl (.inl upd_same)
    generalize upd H o (.lst []) = H1 at hb1 hl1 s0 he ⊢
    refine ⟨.list (xs.map PyData.int), .list [], .lst (.inl (.inl hl1)) (dpa_ints xs), .lst he .nil, shaped_ints xs, rfl, _, rfl, ite2 (fun z => ?_) (fun z => ?_)⟩
    · refine ⟨_, rfl, _, _, _, _, rfl, rfl, .inl (.inl hb1), atI_nat (j := 1) rfl, _, _, rfl, rfl, .inr ⟨by decide, by decide⟩, _, _, rfl, rfl, (show (0 : Int) < 2147483647 by decide), _, rfl, _, _, _, 1, rfl, rfl, hb1, rfl, ?_⟩
      refine ⟨_, rfl, _, _, _, _, rfl, rfl, .inl (.inl upd_same), atI_nat (j := 1) rfl, _, _, rfl, rfl, ⟨by decide, by decide⟩, _, rfl, _, _, rfl, rfl, (by omega), ?_⟩
      refine q _ _ ?_ ⟨ne, xs, _, upd_same, ?_⟩ (fmod_rg m0).1 (fmod_rg m0).2
      · rw [hid_b]
        exact s0
      · rw [upd_ne ne.symm]
        exact hl1
    · cases xs with
      | nil => exact absurd rfl z
      | cons x r =>
        have fin : ∀ H', Same (hid b l H) (hid b l H') → Bx H' b l → Q (.int (x.fmod m)) H' := fun H' s1 B1 => q _ _ s1 B1 (fmod_rg m0).1 (fmod_rg m0).2
        refine ⟨_, rfl, _, _, _, _, rfl, rfl, .inl (.inl hb1), atI_nat (j := 0) rfl, _, _, _, _, rfl, rfl, .inl (.inl hl1), atI_nat (j := 0) rfl, ?_⟩
        refine ⟨_, rfl, _, rfl, _, _, rfl, rfl, cdiv (b := 30) (by omega) (by omega) (by decide) (by decide), _, rfl, _, _, _, _, rfl, rfl, .inl (.inl hb1), atI_nat (j := 0) rfl, _, _, _, 0, rfl, rfl, hl1, ixN0, ?_⟩
        have hb2 : (upd H1 l (.lst ((V.int (x.fdiv m)) :: r.map V.int))) b = some (.lst [.ref l, .int st]) := by
          rw [upd_ne ne]
          exact hb1
        have hl2 : (upd H1 l (.lst ((V.int (x.fdiv m)) :: r.map V.int))) l = some (.lst ((V.int (x.fdiv m)) :: r.map V.int)) := upd_same
        have s2 : Same (hid b l H) (hid b l (upd H1 l (.lst ((V.int (x.fdiv m)) :: r.map V.int)))) := by
          rw [hid_l]
          exact s0
        change tSeq _ _ _ _ (upd H1 l (.lst ((V.int (x.fdiv m)) :: r.map V.int)))
        generalize upd H1 l (.lst ((V.int (x.fdiv m)) :: r.map V.int)) = H2 at hb2 hl2 s2 ⊢
        have pop : ∀ D : Ends, D.nx [some (.ref b), some (.int m), some (.int x)] (upd H2 l (.lst (r.map V.int))) → tDrop (tBM K "list" rPopAt (tOp (rIxL K) (tVar 0) (tC (.int 0))) (tCons (tC (.int 0)) tNil)) D [some (.ref b), some (.int m), some (.int x)] H2 := by
          intro D hD
          exact ⟨_, rfl, _, _, _, _, rfl, rfl, .inl (.inl hb2), atI_nat (j := 0) rfl, .inl ⟨rfl, _, .inl (.inl hl2)⟩, l, _, 0, 0, _, rfl, rfl, hl2, by decide, by decide, (ixN_seq ixN0).1, rfl, hD⟩
        have fin2 : Q (.int (x.fmod m)) (upd H2 l (.lst (r.map V.int))) := by
          refine fin _ ?_ ⟨ne, r, st, ?_, upd_same⟩
          · rw [hid_l]
            exact s2
          · rw [upd_ne ne]
            exact hb2
        refine ⟨_, rfl, _, _, _, _, rfl, rfl, .inl (.inl hb2), atI_nat (j := 0) rfl, _, _, _, _, rfl, rfl, .inl (.inl hl2), atI_nat (j := 0) rfl, rfl, _, rfl, ite2 (fun z => ?_) (fun z => ?_)⟩
        · refine iteT (pop _ ?_)
          exact ⟨_, rfl, _, rfl, _, _, rfl, rfl, (by omega), fin2⟩
        · refine ⟨_, rfl, _, _, _, _, rfl, rfl, .inl (.inl hb2), atI_nat (j := 0) rfl, _, _, _, _, rfl, rfl, .inl (.inl hl2), atI_nat (j := 0) rfl, _, rfl, rfl, _, rfl, ite2 (fun z => ?_) (fun z => ?_)⟩
          · refine pop _ ?_
            exact ⟨_, rfl, _, rfl, _, _, rfl, rfl, (by omega), fin2⟩
          · exact ⟨_, rfl, _, rfl, _, _, rfl, rfl, (by omega), fin _ s2 ⟨ne, x.fdiv m :: r, st, hb2, hl2⟩⟩
theorem cl_Lalike (T : Txt K mg) : ∀ n : Nat, Cl P w K mg base CX0 (n + 1) "_law_alike" (spAlike K n)
  | 0 => by
    refine T.d_Lalike.cl sc_Lalike (fun vs H Q E h => ?_) (fun f cdv A outer s H vs Q E hr h => ?_)
    · obtain ⟨u, v, d, rfl, _⟩ := h
      rfl
    · obtain ⟨u, v, d, rfl, _, _, h, _⟩ := h
      exact absurd h (Nat.not_lt_zero _)
  | n + 1 => by
    have c_Lalike := cl_Lalike T n
    refine T.d_Lalike.cl sc_Lalike (fun vs H Q E h => ?_) (fun f cdv A outer s H vs Q E hr h => ?_)
    · obtain ⟨u, v, d, rfl, _⟩ := h
      rfl
    · obtain ⟨u, v, d, rfl, hu, hv, hd, hz, q⟩ := h
      refine ⟨_, (pss_cons (ps_if (pt_cmpR op_isN (pv 1) pe_non (nomark _))
        (pss_one (ps_ret (pe_cmpR op_isN (pv 0) pe_non (nomark _))))
        pss_nil)
      (pss_cons (ps_if (pt_val (pe_callB call_isi (by rfl) T.m_isinstance (by decide +kernel) (pa_cons (pv 1) (pa_cons (pe_bltn (v := .ty "bool") (by rfl) T.m_bool (by decide +kernel) rfl) pa_nil))))
        (pss_one (ps_ret (pe_and (pe_callB call_isi (by rfl) T.m_isinstance (by decide +kernel) (pa_cons (pv 0) (pa_cons (pe_bltn (v := .ty "bool") (by rfl) T.m_bool (by decide +kernel) rfl) pa_nil))) (pe_one (pe_cmpR op_eq (pv 0) (pv 1) (nomark _))))))
        pss_nil)
      (pss_cons (ps_if (pt_val (pe_callB call_isi (by rfl) T.m_isinstance (by decide +kernel) (pa_cons (pv 1) (pa_cons (pe_bltn (v := .ty "int") (by rfl) T.m_int (by decide +kernel) rfl) pa_nil))))
        (pss_one (ps_ret (pe_and (pe_callB call_isi (by rfl) T.m_isinstance (by decide +kernel) (pa_cons (pv 0) (pa_cons (pe_bltn (v := .ty "int") (by rfl) T.m_int (by decide +kernel) rfl) pa_nil))) (pe_and (pe_not (pe_callB call_isi (by rfl) T.m_isinstance (by decide +kernel) (pa_cons (pv 0) (pa_cons (pe_bltn (v := .ty "bool") (by rfl) T.m_bool (by decide +kernel) rfl) pa_nil)))) (pe_one (pe_cmpR op_eq (pv 0) (pv 1) (nomark _)))))))
        pss_nil)
      (pss_cons (ps_if (pt_val (pe_callB call_isi (by rfl) T.m_isinstance (by decide +kernel) (pa_cons (pv 1) (pa_cons (pe_bltn (v := .ty "str") (by rfl) T.m_str (by decide +kernel) rfl) pa_nil))))
        (pss_one (ps_ret (pe_and (pe_callB call_isi (by rfl) T.m_isinstance (by decide +kernel) (pa_cons (pv 0) (pa_cons (pe_bltn (v := .ty "str") (by rfl) T.m_str (by decide +kernel) rfl) pa_nil))) (pe_one (pe_cmpR op_eq (pv 0) (pv 1) (nomark _))))))
        pss_nil)
      (pss_cons (ps_if (PW.pt (pw_or (pt_cmpR op_ne (pe_callB call_isi (by rfl) T.m_isinstance (by decide +kernel) (pa_cons (pv 1) (pa_cons (pe_bltn (v := .ty "tuple") (by rfl) T.m_tuple (by decide +kernel) rfl) pa_nil))) (pe_callB call_isi (by rfl) T.m_isinstance (by decide +kernel) (pa_cons (pv 0) (pa_cons (pe_bltn (v := .ty "tuple") (by rfl) T.m_tuple (by decide +kernel) rfl) pa_nil))) (nomark _)) (pw_or1 (pt_cmpR op_ne (pe_callB call_isi (by rfl) T.m_isinstance (by decide +kernel) (pa_cons (pv 1) (pa_cons (pe_bltn (v := .ty "list") (by rfl) T.m_list (by decide +kernel) rfl) pa_nil))) (pe_callB call_isi (by rfl) T.m_isinstance (by decide +kernel) (pa_cons (pv 0) (pa_cons (pe_bltn (v := .ty "list") (by rfl) T.m_list (by decide +kernel) rfl) pa_nil))) (nomark _)))))
        (pss_one (ps_ret pe_bl))
        pss_nil)
      (pss_cons (ps_if (pt_cmpR op_ne (pe_callB call_len_seq (by rfl) T.m_len (by decide +kernel) (pa_cons (pv 0) pa_nil)) (pe_callB call_len_seq (by rfl) T.m_len (by decide +kernel) (pa_cons (pv 1) pa_nil)) (nomark _))
        (pss_one (ps_ret pe_bl))
        pss_nil)
      (pss_cons (ps_for PassesOwn.never rfl (pi_range1 (by rfl) T.m_range (pa_cons (pe_callB call_len_seq (by rfl) T.m_len (by decide +kernel) (pa_cons (pv 1) pa_nil)) pa_nil)) (pg_name (i := 2) sc_Lalike.nd rfl (.inl rfl))
        (pss_one (ps_if (pt_not (pt_val (pe_cl c_Lalike hr (Nat.le_refl _) (by rfl) (pa_cons (pe_ix ix_seq (pv 0) (pv 2) (fun _ _ => rfl)) (pa_cons (pe_ix ix_seq (pv 1) (pv 2) (fun _ _ => rfl)) pa_nil)))))
        (pss_one (ps_ret pe_bl))
        pss_nil)))
      (pss_one (ps_ret pe_bl))))))))), ?_⟩
      cases d with
      | none =>
        cases hu
        cases hv
        exact ⟨_, rfl, rfl, _, rfl, iteY rfl ⟨_, rfl, rfl, q⟩⟩
      | bool b =>
        cases hu
        cases hv
        refine ⟨_, rfl, rfl, _, rfl, iteN rfl ?_⟩
        refine ⟨_, rfl, _, _, _, _, _, rfl, .ty _, .base (.bl b), kit_ty (r := true) (by decide +kernel), _, rfl, iteY rfl ?_⟩
        exact ⟨_, rfl, _, _, _, _, _, rfl, .ty _, .base (.bl b), kit_ty (r := true) (by decide +kernel), _, rfl, iteY rfl ⟨_, rfl, _, rfl, rfl, by rw [decide_eq_true rfl]; exact q⟩⟩
      | int i =>
        cases hu
        cases hv
        refine ⟨_, rfl, rfl, _, rfl, iteN rfl ?_⟩
        refine ⟨_, rfl, _, _, _, _, _, rfl, .ty _, .base (.int i), kit_ty (r := false) (by decide +kernel), _, rfl, iteN rfl ?_⟩
        refine ⟨_, rfl, _, _, _, _, _, rfl, .ty _, .base (.int i), kit_ty (r := true) (by decide +kernel), _, rfl, iteY rfl ?_⟩
        refine ⟨_, rfl, _, _, _, _, _, rfl, .ty _, .base (.int i), kit_ty (r := true) (by decide +kernel), _, rfl, iteY rfl ?_⟩
        exact ⟨_, rfl, _, _, _, _, _, rfl, .ty _, .base (.int i), kit_ty (r := false) (by decide +kernel), _, rfl, _, rfl, iteY rfl ⟨_, rfl, _, rfl, rfl, by rw [decide_eq_true rfl]; exact q⟩⟩
      | str x =>
        cases hu
        cases hv
        refine ⟨_, rfl, rfl, _, rfl, iteN rfl ?_⟩
        refine ⟨_, rfl, _, _, _, _, _, rfl, .ty _, .base (.str x), kit_ty (r := false) (by decide +kernel), _, rfl, iteN rfl ?_⟩
        refine ⟨_, rfl, _, _, _, _, _, rfl, .ty _, .base (.str x), kit_ty (r := false) (by decide +kernel), _, rfl, iteN rfl ?_⟩
        refine ⟨_, rfl, _, _, _, _, _, rfl, .ty _, .base (.str x), kit_ty (r := true) (by decide +kernel), _, rfl, iteY rfl ?_⟩
        exact ⟨_, rfl, _, _, _, _, _, rfl, .ty _, .base (.str x), kit_ty (r := true) (by decide +kernel), _, rfl, iteY rfl ⟨_, rfl, _, rfl, rfl, by rw [decide_eq_true rfl]; exact q⟩⟩
      | list ds =>
        cases hu with
        | lst s1 a1 =>
          rename_i a xs
          cases hv with
          | lst s2 a2 =>
            rename_i b ys
            have t1 := tyL s1
            have t2 := tyL s2
            have w1 : SqL K H a xs ∨ SqT K H a xs := .inl s1
            have w2 : SqL K H b ys ∨ SqT K H b ys := .inl s2
            have e1 := dpa_len a1
            have e2 := dpa_len a2
            have hl : ds.length < 2 ^ 62 := of_decide_eq_true (Bool.and_eq_true_iff.mp (show (decide (ds.length < 2 ^ 62) && szAll ds) = true from hz)).1
            have hz2 : szAll ds = true := (Bool.and_eq_true_iff.mp (show (decide (ds.length < 2 ^ 62) && szAll ds) = true from hz)).2
            have hd2 : PyData.depthAll ds < n := Nat.lt_of_succ_lt_succ (show PyData.depthAll ds + 1 < n + 1 from hd)
            refine ⟨_, rfl, rfl, _, rfl, iteN rfl ?_⟩
            refine ⟨_, rfl, _, _, _, _, _, rfl, .ty _, t2, kit_ty (r := false) (by decide +kernel), _, rfl, iteN rfl ?_⟩
            refine ⟨_, rfl, _, _, _, _, _, rfl, .ty _, t2, kit_ty (r := false) (by decide +kernel), _, rfl, iteN rfl ?_⟩
            refine ⟨_, rfl, _, _, _, _, _, rfl, .ty _, t2, kit_ty (r := false) (by decide +kernel), _, rfl, iteN rfl ?_⟩
            refine ⟨_, rfl, _, _, _, _, _, rfl, .ty _, t2, kit_ty (r := false) (by decide +kernel), _, rfl, _, _, _, _, _, rfl, .ty _, t1, kit_ty (r := false) (by decide +kernel), rfl, _, rfl, iteN rfl ?_⟩
            refine ⟨_, rfl, _, _, _, _, _, rfl, .ty _, t2, kit_ty (r := true) (by decide +kernel), _, rfl, _, _, _, _, _, rfl, .ty _, t1, kit_ty (r := true) (by decide +kernel), rfl, _, rfl, iteN rfl ?_⟩
            refine ⟨_, rfl, _, _, rfl, w1, _, rfl, _, _, rfl, w2, rfl, _, rfl, iteN (by rw [e1, e2, decide_eq_true rfl]; rfl) ?_⟩
            refine ⟨_, rfl, _, _, rfl, w2, (ys.length : Int), rfl, (by omega), (by omega), for_range (lo := 0) (n := ys.length) (fun i σ H' => H' = H ∧ ∃ o, σ = [some (.ref a), some (.ref b), o]) ⟨rfl, none, rfl⟩ (fun i σ H' hi h => ?_) (fun σ H' h => ?_)⟩
            · obtain ⟨rfl, o, rfl⟩ := h
              obtain ⟨v1, g1⟩ : ∃ v1, xs[i]? = some v1 := ⟨_, List.getElem?_eq_getElem (show i < xs.length by omega)⟩
              obtain ⟨v2, g2⟩ : ∃ v2, ys[i]? = some v2 := ⟨_, List.getElem?_eq_getElem hi⟩
              obtain ⟨d1, k1, p1⟩ := dpa_at a1 g1
              obtain ⟨d2, k2, p2⟩ := dpa_at a2 g2
              have ed : d1 = d2 := Option.some.inj (k1.symm.trans k2)
              subst ed
              have ei : (0 : Int) + (i : Int) = (i : Int) := Int.zero_add _
              rw [ei]
              refine ⟨_, rfl, _, rfl, rIx_of w1 g1 ?_⟩
              refine ⟨_, rfl, _, rfl, rIx_of w2 g2 ?_⟩
              refine ⟨_, _, d1, rfl, p1, p2, Nat.lt_of_le_of_lt (depth_at k1) hd2, szAll_at hz2 k1, _, rfl, iteN rfl ⟨rfl, _, rfl⟩⟩
            · obtain ⟨rfl, o, rfl⟩ := h
              exact q
      | tuple ds =>
        cases hu with
        | tup s1 a1 =>
          rename_i a xs
          cases hv with
          | tup s2 a2 =>
            rename_i b ys
            have t1 := tyT s1
            have t2 := tyT s2
            have w1 : SqL K H a xs ∨ SqT K H a xs := .inr s1
            have w2 : SqL K H b ys ∨ SqT K H b ys := .inr s2
            have e1 := dpa_len a1
            have e2 := dpa_len a2
            have hl : ds.length < 2 ^ 62 := of_decide_eq_true (Bool.and_eq_true_iff.mp (show (decide (ds.length < 2 ^ 62) && szAll ds) = true from hz)).1
            have hz2 : szAll ds = true := (Bool.and_eq_true_iff.mp (show (decide (ds.length < 2 ^ 62) && szAll ds) = true from hz)).2
            have hd2 : PyData.depthAll ds < n := Nat.lt_of_succ_lt_succ (show PyData.depthAll ds + 1 < n + 1 from hd)
            refine ⟨_, rfl, rfl, _, rfl, iteN rfl ?_⟩
            refine ⟨_, rfl, _, _, _, _, _, rfl, .ty _, t2, kit_ty (r := false) (by decide +kernel), _, rfl, iteN rfl ?_⟩
            refine ⟨_, rfl, _, _, _, _, _, rfl, .ty _, t2, kit_ty (r := false) (by decide +kernel), _, rfl, iteN rfl ?_⟩
            refine ⟨_, rfl, _, _, _, _, _, rfl, .ty _, t2, kit_ty (r := false) (by decide +kernel), _, rfl, iteN rfl ?_⟩
            refine ⟨_, rfl, _, _, _, _, _, rfl, .ty _, t2, kit_ty (r := true) (by decide +kernel), _, rfl, _, _, _, _, _, rfl, .ty _, t1, kit_ty (r := true) (by decide +kernel), rfl, _, rfl, iteN rfl ?_⟩
            refine ⟨_, rfl, _, _, _, _, _, rfl, .ty _, t2, kit_ty (r := false) (by decide +kernel), _, rfl, _, _, _, _, _, rfl, .ty _, t1, kit_ty (r := false) (by decide +kernel), rfl, _, rfl, iteN rfl ?_⟩
            refine ⟨_, rfl, _, _, rfl, w1, _, rfl, _, _, rfl, w2, rfl, _, rfl, iteN (by rw [e1, e2, decide_eq_true rfl]; rfl) ?_⟩
            refine ⟨_, rfl, _, _, rfl, w2, (ys.length : Int), rfl, (by omega), (by omega), for_range (lo := 0) (n := ys.length) (fun i σ H' => H' = H ∧ ∃ o, σ = [some (.ref a), some (.ref b), o]) ⟨rfl, none, rfl⟩ (fun i σ H' hi h => ?_) (fun σ H' h => ?_)⟩
            · obtain ⟨rfl, o, rfl⟩ := h
              obtain ⟨v1, g1⟩ : ∃ v1, xs[i]? = some v1 := ⟨_, List.getElem?_eq_getElem (show i < xs.length by omega)⟩
              obtain ⟨v2, g2⟩ : ∃ v2, ys[i]? = some v2 := ⟨_, List.getElem?_eq_getElem hi⟩
              obtain ⟨d1, k1, p1⟩ := dpa_at a1 g1
              obtain ⟨d2, k2, p2⟩ := dpa_at a2 g2
              have ed : d1 = d2 := Option.some.inj (k1.symm.trans k2)
              subst ed
              have ei : (0 : Int) + (i : Int) = (i : Int) := Int.zero_add _
              rw [ei]
              refine ⟨_, rfl, _, rfl, rIx_of w1 g1 ?_⟩
              refine ⟨_, rfl, _, rfl, rIx_of w2 g2 ?_⟩
              refine ⟨_, _, d1, rfl, p1, p2, Nat.lt_of_le_of_lt (depth_at k1) hd2, szAll_at hz2 k1, _, rfl, iteN rfl ⟨rfl, _, rfl⟩⟩
            · obtain ⟨rfl, o, rfl⟩ := h
              exact q
      | dict _ => cases hu
theorem cl_Lfr (T : Txt K mg) : Cl P w K mg base CX0 1 "_law_fr" (spMade K) := by
  refine T.d_Lfr.cl sc_Lfr (fun vs H Q E h => ?_) (fun f cdv A outer s H vs Q E hr h => ?_)
  · obtain ⟨i, j, rfl, _⟩ := h
    rfl
  · obtain ⟨t, b, rfl, hb, hs, q⟩ := h
    refine ⟨_, (pss_cons (ps_set (i := 2) sc_Lfr.nd rfl (.inl rfl) (pe_callB call_abs (by rfl) T.m_abs (by decide +kernel) (pa_cons (pv 0) pa_nil)))
      (pss_cons (ps_set (i := 3) sc_Lfr.nd rfl (.inl rfl) (pe_callB call_abs (by rfl) T.m_abs (by decide +kernel) (pa_cons (pv 1) pa_nil)))
      (pss_cons (ps_while PassesOwn.never (pt_cmpR op_gt (pv 3) pe_int (nomark _))
        (pss_cons (ps_set (i := 4) sc_Lfr.nd rfl (.inl rfl) (pe_op op_modN (pv 2) (pv 3)))
      (pss_cons (ps_set (i := 2) sc_Lfr.nd rfl (.inl rfl) (pv 3))
      (pss_one (ps_set (i := 3) sc_Lfr.nd rfl (.inl rfl) (pv 4))))))
      (pss_cons (ps_if (pt_cmpR op_lt (pv 1) pe_int (nomark _))
        (pss_one (ps_set (i := 2) sc_Lfr.nd rfl (.inl rfl) (pe_op op_sub pe_int (pv 2))))
        pss_nil)
      (pss_one (ps_ret (pe_tup (pa_cons (pe_op op_fdivX (pv 0) (pv 2)) (pa_cons (pe_op op_fdivX (pv 1) (pv 2)) pa_nil))))))))), ?_⟩
    have last : ∀ d : Int, d = frI t b → ∀ p, H p = none → Q (.ref p) (upd H p (.tup [.int (t.fdiv d), .int (b.fdiv d)])) := by
      intro d e p hp
      subst e
      refine q _ _ (Same.new hp) (dF_mk ?_)
      rw [fr_num hb, fr_den hb]
      exact .inl (.inl upd_same)
    have hd : ∀ d : Int, d = frI t b → CDivX t d ∧ CDivX b d := by
      intro d e
      subst e
      have h1 := Nat.lt_of_le_of_lt (frI_natAbs (t := t) hb) hs
      exact ⟨cdiv (frI_ne hb) h1 (by decide) (by decide), cdiv (frI_ne hb) h1 (by decide) (by decide)⟩
    refine ⟨_, rfl, _, rfl, _, rfl, _, rfl, ?_⟩
    refine while_by (fun σ H' => ∃ (a c : Nat) (o : Option V), σ = [some (.int t), some (.int b), some (.int (a : Int)), some (.int (c : Int)), o] ∧ H' = H ∧ Nat.gcd a c = Nat.gcd t.natAbs b.natAbs) (fun σ _ => match σ with | [_, _, _, some (.int b), _] => b.natAbs | _ => 0) ?_ ?_ ?_
    · refine ⟨t.natAbs, b.natAbs, none, ?_, rfl, rfl⟩
      show [some (V.int t), some (V.int b), some (V.int (if t < 0 then -t else t)), some (V.int (if b < 0 then -b else b)), none] = _
      rw [abs_nat, abs_nat]
    · intro σ H' h
      obtain ⟨a, c, o, rfl, rfl, e⟩ := h
      refine ⟨_, rfl, _, _, rfl, rfl, _, rfl, ite2 (fun z => ?_) (fun z => ?_)⟩
      · have hc : 0 < c := by
          have := of_decide_eq_true z
          omega
        refine ⟨_, rfl, _, rfl, _, _, rfl, rfl, (by omega), _, rfl, _, rfl, ⟨c, a % c, some (V.int ((a : Int).fmod (c : Int))), ?_, rfl, ?_⟩, ?_⟩
        · show [some (V.int t), some (V.int b), some (V.int (c : Int)), some (V.int ((a : Int).fmod (c : Int))), some (V.int ((a : Int).fmod (c : Int)))] = _
          rw [fmod_nat]
        · rw [gcd_turn]
          exact e
        · show Int.natAbs (Int.fmod (a : Int) (c : Int)) < Int.natAbs (c : Int)
          rw [fmod_nat]
          have := Nat.mod_lt a hc
          omega
      · have hc : c = 0 := by
          have z2 : ¬ ((0 : Int) < (c : Int)) := fun y => z (decide_eq_true y)
          omega
        subst hc
        rw [Nat.gcd_zero_right] at e
        refine ⟨_, rfl, _, _, rfl, rfl, _, rfl, ite2 (fun z => ?_) (fun z => ?_)⟩
        · have z1 : b < 0 := of_decide_eq_true z
          have e : 0 - (a : Int) = frI t b := by
            unfold frI
            rw [if_pos z1, ← e]
            omega
          refine ⟨_, rfl, _, _, rfl, rfl, _, rfl, _, rfl, _, _, rfl, rfl, (hd _ e).1, _, rfl, _, rfl, _, _, rfl, rfl, (hd _ e).2, (show 2 ≤ sizeLine by decide), fun p hp => last _ e p hp⟩
        · have z1 : ¬ b < 0 := fun y => z (decide_eq_true y)
          have e : (a : Int) = frI t b := by
            unfold frI
            rw [if_neg z1, ← e]
          refine ⟨_, rfl, _, rfl, _, _, rfl, rfl, (hd _ e).1, _, rfl, _, rfl, _, _, rfl, rfl, (hd _ e).2, (show 2 ≤ sizeLine by decide), fun p hp => last _ e p hp⟩
    · intro σ H' Q1 Q2 h12 h
      obtain ⟨v, e, i, j, e1, e2, k, e3, h⟩ := h
      exact ⟨v, e, i, j, e1, e2, k, e3, h12 _ _ h⟩
theorem cl_Lsum (T : Txt K mg) : Cl P w K mg base CX0 2 "_law_sum" (spF2 K (fun x y => x + y) (fun x y => True)) := by
  have c_Lfr := cl_Lfr (P := P) (w := w) (base := base) T
  refine T.d_Lsum.cl sc_Lsum (fun vs H Q E h => ?_) (fun f cdv A outer s H vs Q E hr h => ?_)
  · obtain ⟨u, v, x, y, n, m, rfl, _⟩ := h
    rfl
  · obtain ⟨u, v, x, y, n, m, rfl, hu, hv, sx, sy, hnm, hc, q⟩ := h
    obtain ⟨a, rfl, h0⟩ := dF_at hu
    obtain ⟨b, rfl, h1⟩ := dF_at hv
    refine ⟨_, (pss_one (ps_ret (pe_cl c_Lfr hr (by decide) (by rfl) (pa_cons (pe_op op_add (pe_op op_mulW (pe_ix ix_tup (pv 0) pe_int (fun _ _ => rfl)) (pe_ix ix_tup (pv 1) pe_int (fun _ _ => rfl))) (pe_op op_mulW (pe_ix ix_tup (pv 1) pe_int (fun _ _ => rfl)) (pe_ix ix_tup (pv 0) pe_int (fun _ _ => rfl)))) (pa_cons (pe_op op_mulW (pe_ix ix_tup (pv 0) pe_int (fun _ _ => rfl)) (pe_ix ix_tup (pv 1) pe_int (fun _ _ => rfl))) pa_nil))))), ?_⟩
    refine ⟨_, rfl, _, _, _, _, rfl, rfl, h0, atI_nat (j := 0) rfl, _, rfl, _, _, _, _, rfl, rfl, h1, atI_nat (j := 1) rfl, _, _, rfl, rfl, mnd sx sy hnm, _, rfl, _, _, _, _, rfl, rfl, h1, atI_nat (j := 0) rfl, _, rfl, _, _, _, _, rfl, rfl, h0, atI_nat (j := 1) rfl, _, _, rfl, rfl, mnd' sx sy hnm, _, _, rfl, rfl, _, rfl, _, _, _, _, rfl, rfl, h0, atI_nat (j := 1) rfl, _, rfl, _, _, _, _, rfl, rfl, h1, atI_nat (j := 1) rfl, _, _, rfl, rfl, mdd sx sy hnm, _, _, rfl, ?_, ?_, fun H2 z s2 r2 => ?_⟩
    · exact den_mul_ne x y
    · exact up9 (mul_bits sx.den' sy.den') hnm
    · change Dp K H2 z (dF (Rat.divInt (x.num * (y.den : Int) + y.num * (x.den : Int)) ((x.den : Int) * (y.den : Int)))) at r2
      rw [add_parts] at r2
      exact q _ _ s2 r2
theorem cl_Lminus (T : Txt K mg) : Cl P w K mg base CX0 2 "_law_minus" (spF2 K (fun x y => x - y) (fun x y => True)) := by
  have c_Lfr := cl_Lfr (P := P) (w := w) (base := base) T
  refine T.d_Lminus.cl sc_Lminus (fun vs H Q E h => ?_) (fun f cdv A outer s H vs Q E hr h => ?_)
  · obtain ⟨u, v, x, y, n, m, rfl, _⟩ := h
    rfl
  · obtain ⟨u, v, x, y, n, m, rfl, hu, hv, sx, sy, hnm, hc, q⟩ := h
    obtain ⟨a, rfl, h0⟩ := dF_at hu
    obtain ⟨b, rfl, h1⟩ := dF_at hv
    refine ⟨_, (pss_one (ps_ret (pe_cl c_Lfr hr (by decide) (by rfl) (pa_cons (pe_op op_sub (pe_op op_mulW (pe_ix ix_tup (pv 0) pe_int (fun _ _ => rfl)) (pe_ix ix_tup (pv 1) pe_int (fun _ _ => rfl))) (pe_op op_mulW (pe_ix ix_tup (pv 1) pe_int (fun _ _ => rfl)) (pe_ix ix_tup (pv 0) pe_int (fun _ _ => rfl)))) (pa_cons (pe_op op_mulW (pe_ix ix_tup (pv 0) pe_int (fun _ _ => rfl)) (pe_ix ix_tup (pv 1) pe_int (fun _ _ => rfl))) pa_nil))))), ?_⟩
    refine ⟨_, rfl, _, _, _, _, rfl, rfl, h0, atI_nat (j := 0) rfl, _, rfl, _, _, _, _, rfl, rfl, h1, atI_nat (j := 1) rfl, _, _, rfl, rfl, mnd sx sy hnm, _, rfl, _, _, _, _, rfl, rfl, h1, atI_nat (j := 0) rfl, _, rfl, _, _, _, _, rfl, rfl, h0, atI_nat (j := 1) rfl, _, _, rfl, rfl, mnd' sx sy hnm, _, _, rfl, rfl, _, rfl, _, _, _, _, rfl, rfl, h0, atI_nat (j := 1) rfl, _, rfl, _, _, _, _, rfl, rfl, h1, atI_nat (j := 1) rfl, _, _, rfl, rfl, mdd sx sy hnm, _, _, rfl, ?_, ?_, fun H2 z s2 r2 => ?_⟩
    · exact den_mul_ne x y
    · exact up9 (mul_bits sx.den' sy.den') hnm
    · change Dp K H2 z (dF (Rat.divInt (x.num * (y.den : Int) - y.num * (x.den : Int)) ((x.den : Int) * (y.den : Int)))) at r2
      rw [sub_parts] at r2
      exact q _ _ s2 r2
theorem cl_Ltimes (T : Txt K mg) : Cl P w K mg base CX0 2 "_law_times" (spF2 K (fun x y => x * y) (fun x y => True)) := by
  have c_Lfr := cl_Lfr (P := P) (w := w) (base := base) T
  refine T.d_Ltimes.cl sc_Ltimes (fun vs H Q E h => ?_) (fun f cdv A outer s H vs Q E hr h => ?_)
  · obtain ⟨u, v, x, y, n, m, rfl, _⟩ := h
    rfl
  · obtain ⟨u, v, x, y, n, m, rfl, hu, hv, sx, sy, hnm, hc, q⟩ := h
    obtain ⟨a, rfl, h0⟩ := dF_at hu
    obtain ⟨b, rfl, h1⟩ := dF_at hv
    refine ⟨_, (pss_one (ps_ret (pe_cl c_Lfr hr (by decide) (by rfl) (pa_cons (pe_op op_mulW (pe_ix ix_tup (pv 0) pe_int (fun _ _ => rfl)) (pe_ix ix_tup (pv 1) pe_int (fun _ _ => rfl))) (pa_cons (pe_op op_mulW (pe_ix ix_tup (pv 0) pe_int (fun _ _ => rfl)) (pe_ix ix_tup (pv 1) pe_int (fun _ _ => rfl))) pa_nil))))), ?_⟩
    refine ⟨_, rfl, _, _, _, _, rfl, rfl, h0, atI_nat (j := 0) rfl, _, rfl, _, _, _, _, rfl, rfl, h1, atI_nat (j := 0) rfl, _, _, rfl, rfl, mnn sx sy hnm, _, rfl, _, _, _, _, rfl, rfl, h0, atI_nat (j := 1) rfl, _, rfl, _, _, _, _, rfl, rfl, h1, atI_nat (j := 1) rfl, _, _, rfl, rfl, mdd sx sy hnm, _, _, rfl, ?_, ?_, fun H2 z s2 r2 => ?_⟩
    · exact den_mul_ne x y
    · exact up9 (mul_bits sx.den' sy.den') hnm
    · change Dp K H2 z (dF (Rat.divInt (x.num * y.num) ((x.den : Int) * (y.den : Int)))) at r2
      rw [mul_parts] at r2
      exact q _ _ s2 r2
def spTime (K : PySem.W.Frag) : Sp := fun vs H Q _ => ∃ (b l : Addr) (m : Int), vs = [.ref b, .int m] ∧ Bx H b l ∧ 0 < m ∧ m ≤ 100000 ∧ ∀ H' v (x : Rat), Same (hid b l H) (hid b l H') → Bx H' b l → Dp K H' v (dF x) → Tm m x → Q v H'
theorem cl_Ltime (T : Txt K mg) : Cl P w K mg base CX0 2 "_law_time" (spTime K) := by
  have c_Ltake := cl_Ltake (P := P) (w := w) (base := base) T
  have c_Lfr := cl_Lfr (P := P) (w := w) (base := base) T
  refine T.d_Ltime.cl sc_Ltime (fun vs H Q E h => ?_) (fun f cdv A outer s H vs Q E hr h => ?_)
  · obtain ⟨b, l, m, rfl, _⟩ := h
    rfl
  · obtain ⟨b, l, m, rfl, B, m0, m1, q⟩ := h
    refine ⟨_, (pss_cons (ps_set (i := 2) sc_Ltime.nd rfl (.inl rfl) (pe_cl c_Ltake hr (by decide) (by rfl) (pa_cons (pv 0) (pa_cons (pv 1) pa_nil))))
      (pss_cons (ps_if (pt_cmpR op_eq (pe_cl c_Ltake hr (by decide) (by rfl) (pa_cons (pv 0) (pa_cons pe_int pa_nil))) pe_int (nomark _))
        (pss_one (ps_ret (pe_tup (pa_cons (pv 2) (pa_cons pe_int pa_nil)))))
        pss_nil)
      (pss_cons (ps_set (i := 3) sc_Ltime.nd rfl (.inl rfl) (pe_op op_add pe_int (pe_cl c_Ltake hr (by decide) (by rfl) (pa_cons (pv 0) (pa_cons (pe_ix ix_list (pe_lst (pa_cons pe_int (pa_cons pe_int pa_nil))) (pe_callTy call_int1 (by rfl) T.m_int (by decide +kernel) (pa_cons (pe_cmpR op_eq (pe_cl c_Ltake hr (by decide) (by rfl) (pa_cons (pv 0) (pa_cons pe_int pa_nil))) pe_int (nomark _)) pa_nil)) (fun _ _ => rfl)) pa_nil)))))
      (pss_one (ps_ret (pe_cl c_Lfr hr (by decide) (by rfl) (pa_cons (pv 2) (pa_cons (pv 3) pa_nil)))))))), ?_⟩
    refine ⟨_, rfl, _, rfl, _, l, _, rfl, B, m0, by omega, fun H1 r1 s1 B1 a1 b1 => ?_⟩
    refine ⟨_, rfl, _, l, _, rfl, B1, by decide, by decide, fun H2 r2 s2 B2 a2 b2 => ?_⟩
    refine ⟨rfl, _, rfl, ite2 (fun z => ?_) (fun z => ?_)⟩
    · refine ⟨_, rfl, (show 2 ≤ sizeLine by decide), fun p hp => ?_⟩
      have s3 := Same.new (o := .tup [.int r1, .int 1]) hp
      exact q _ _ (r1 : Rat) ((s1.trans s2).trans (Same.hid s3)) (B2.mono s3) (dF_mk (.inl (.inl upd_same))) (tm_int a1 b1 m1)
    · refine ⟨_, rfl, (show 2 ≤ sizeLine by decide), fun p hp => ?_⟩
      have s3 := Same.new (o := .lst [.int 6, .int 30]) hp
      have B3 := B2.mono s3
      have hP : hid b l (upd H2 p (.lst [.int 6, .int 30])) p = some (.lst [.int 6, .int 30]) := hid_at B2 hp
      refine ⟨_, rfl, _, l, _, rfl, B3, by decide, by decide, fun H4 r4 s4 B4 a4 b4 => ?_⟩
      have hP4 : SqL K H4 p [.int 6, .int 30] := .inl (.inl (hid_same _ _ (s4 _ _ hP)))
      refine ⟨rfl, .inr ⟨_, rfl, p, _, _, .int (if decide (V.int r4 = V.int 1) = true then 30 else 6), rfl, rfl, hP4, ?_, ?_⟩⟩
      · by_cases c : decide (V.int r4 = V.int 1) = true
        · rw [if_pos c, if_pos c]
          exact atI_nat (j := 1) rfl
        · rw [if_neg c, if_neg c]
          exact atI_nat (j := 0) rfl
      have hk : (if decide (V.int r4 = V.int 1) = true then (30 : Int) else 6) = 30 ∨ (if decide (V.int r4 = V.int 1) = true then (30 : Int) else 6) = 6 := by
        by_cases c : decide (V.int r4 = V.int 1) = true
        · rw [if_pos c]
          exact .inl rfl
        · rw [if_neg c]
          exact .inr rfl
      generalize (if decide (V.int r4 = V.int 1) = true then (30 : Int) else 6) = k at hk ⊢
      refine ⟨_, l, _, rfl, B4, by omega, by omega, fun H5 r5 s5 B5 a5 b5 => ?_⟩
      refine ⟨_, _, rfl, rfl, _, rfl, _, rfl, _, _, rfl, (by omega), p20 (by omega), fun H6 z6 s6 d6 => ?_⟩
      exact q _ _ _ ((((s1.trans s2).trans (Same.hid s3)).trans s4).trans (s5.trans (Same.hid s6))) (B5.mono s6) d6 (tm_frac a1 b1 m1 (by omega) (by omega))
theorem le1000 {n : Nat} (h : n ≤ 1000) : n ≤ sizeLine := Nat.le_trans h (by decide)
theorem mem_snoc {α : Type} {P : α → Prop} {xs : List α} {x : α} (h : ∀ s ∈ xs, P s) (hx : P x) : ∀ s ∈ xs ++ [x], P s := by
  intro s hs
  rcases List.mem_append.mp hs with h1 | h1
  · exact h s h1
  · rw [List.mem_singleton.mp h1]
    exact hx
theorem hid_upd {b l r : Addr} {H : Hp} {o : HO} {ys : List V} (h : hid b l H r = some (.lst ys)) : hid b l (upd H r o) r = some o ∧ ∀ G, (∀ a x, a ≠ r → hid b l G a = some x → hid b l H a = some x) → G r = none → Same (hid b l G) (hid b l (upd H r o)) := by
  have hr : ¬ (r = b ∨ r = l) := fun z => by
    unfold hid at h
    rw [if_pos z] at h
    cases h
  refine ⟨by unfold hid; rw [if_neg hr, upd_same], fun G k hG a x ha => ?_⟩
  have har : a ≠ r := fun e => by
    unfold hid at ha
    rw [e, if_neg hr, hG] at ha
    cases ha
  have := k a x har ha
  unfold hid at this ⊢
  split
  · rename_i z
    rw [if_pos z] at this
    cases this
  · rename_i z
    rw [if_neg z] at this
    rw [upd_ne har]
    exact this
theorem bx_upd {b l r : Addr} {H : Hp} {o : HO} {ys : List V} (B : Bx H b l) (h : hid b l H r = some (.lst ys)) : Bx (upd H r o) b l := by
  have hr : ¬ (r = b ∨ r = l) := fun z => by
    unfold hid at h
    rw [if_pos z] at h
    cases h
  obtain ⟨xs, st, h1, h2⟩ := B.ex
  exact ⟨B.ne, xs, st, by rw [upd_ne (fun e => hr (.inl e.symm))]; exact h1, by rw [upd_ne (fun e => hr (.inr e.symm))]; exact h2⟩
/-! ### heaps with some addresses left out -/
def hidL (S : List Addr) (H : Hp) : Hp := fun a => if a ∈ S then none else H a
theorem hidL_same {S : List Addr} {H : Hp} : Same (hidL S H) H := fun a o h => by
  unfold hidL at h
  split at h
  · cases h
  · exact h
theorem hidL_at {S : List Addr} {H : Hp} {a : Addr} {o : HO} (h : a ∉ S) (e : H a = some o) : hidL S H a = some o := by
  unfold hidL
  rw [if_neg h]
  exact e
theorem hidL_ne {S : List Addr} {H : Hp} {a : Addr} {o : HO} (e : hidL S H a = some o) : a ∉ S ∧ H a = some o := by
  unfold hidL at e
  split at e
  · cases e
  · rename_i h
    exact ⟨h, e⟩
theorem Same.hidL {S : List Addr} {H H' : Hp} (s : Same H H') : Same (hidL S H) (hidL S H') := fun a o h => by
  obtain ⟨h1, h2⟩ := hidL_ne h
  exact hidL_at h1 (s _ _ h2)
theorem hidL_upd {S : List Addr} {H : Hp} {a : Addr} {o : HO} (h : a ∈ S) : R.hidL S (upd H a o) = R.hidL S H := by
  funext c
  unfold R.hidL
  by_cases e : c ∈ S
  · rw [if_pos e, if_pos e]
  · rw [if_neg e, if_neg e, upd_ne (fun z => e (by rw [z]; exact h))]
theorem hidL_more {S S' : List Addr} {H : Hp} (h : ∀ a ∈ S, a ∈ S') : Same (R.hidL S' H) (R.hidL S H) := fun a o e => by
  obtain ⟨h1, h2⟩ := hidL_ne e
  exact hidL_at (fun z => h1 (h _ z)) h2
theorem sub_hidL {S S' : List Addr} {H H' : Hp} (h : ∀ a ∈ S, a ∈ S') (s : Same (R.hidL S H) (R.hidL S H')) : Same (R.hidL S' H) (R.hidL S' H') := fun a o e => by
  obtain ⟨h1, h2⟩ := hidL_ne e
  exact hidL_at h1 (hidL_same _ _ (s _ _ (hidL_at (fun z => h1 (h _ z)) h2)))
theorem hid_hidL {S : List Addr} {b l : Addr} {H H' : Hp} (hb : b ∈ S) (hl : l ∈ S) (s : Same (hid b l H) (hid b l H')) : Same (R.hidL S H) (R.hidL S H') := fun a o e => by
  obtain ⟨h1, h2⟩ := hidL_ne e
  refine hidL_at h1 (hid_same _ _ (s a o ?_))
  unfold hid
  rw [if_neg, h2]
  rintro (z | z)
  · exact h1 (by rw [z]; exact hb)
  · exact h1 (by rw [z]; exact hl)
/-- what stands at an address is no tuple -/
def NoT (H : Hp) (a : Addr) : Prop := ∃ u, H a = some u ∧ (∀ zs, u ≠ .tup zs) ∧ ∀ o zs, u ≠ .frz o (.tup zs)
theorem NoT.lst {H : Hp} {a : Addr} {xs : List V} (h : H a = some (.lst xs)) : NoT H a := ⟨_, h, fun _ z => (nomatch z), fun _ _ z => (nomatch z)⟩
theorem NoT.ins {H : Hp} {a C dx : Addr} {fs : List (Str × V)} (h : H a = some (.ins C dx fs)) : NoT H a := ⟨_, h, fun _ z => (nomatch z), fun _ _ z => (nomatch z)⟩
theorem NoT.mono {H H' : Hp} {a : Addr} (h : NoT H a) (s : Same H H') : NoT H' a := let ⟨u, h1, h2, h3⟩ := h; ⟨u, s _ _ h1, h2, h3⟩
theorem hidL_tup {K : PySem.W.Frag} {S : List Addr} {a : Addr} {H : Hp} {xs : List V} (n : ∀ b ∈ S, NoT H b) (h : SqT K H a xs) : SqT K (R.hidL S H) a xs := by
  have key : ∀ o : HO, H a = some o → (∀ b, b ∈ S → a = b → False) → R.hidL S H a = some o := fun o ho hn => hidL_at (fun z => hn a z rfl) ho
  rcases h with (h | ⟨o, h⟩) | h
  · refine .inl (.inl (key _ h fun b hb e => ?_))
    obtain ⟨u, h1, h2, h3⟩ := n b hb
    rw [← e, h] at h1
    exact h2 xs (Option.some.inj h1).symm
  · refine .inl (.inr ⟨o, key _ h fun b hb e => ?_⟩)
    obtain ⟨u, h1, h2, h3⟩ := n b hb
    rw [← e, h] at h1
    exact h3 o xs (Option.some.inj h1).symm
  · exact .inr h
mutual
theorem dp_hidL {K : PySem.W.Frag} {S : List Addr} {H : Hp} (n : ∀ b ∈ S, NoT H b) : ∀ (d : PyData) (v : V), tupD d = true → Dp K H v d → Dp K (R.hidL S H) v d
  | .none, _, _, h => by cases h; exact .non
  | .bool _, _, _, h => by cases h; exact .bl _
  | .int _, _, _, h => by cases h; exact .int _
  | .str _, _, _, h => by cases h; exact .str _
  | .list ds, _, z, _ => by cases z
  | .tuple ds, _, z, h => by
    cases h with
    | tup hs ha => exact .tup (hidL_tup n hs) (dpa_hidL n ds _ z ha)
  | .dict _, _, z, _ => by cases z
theorem dpa_hidL {K : PySem.W.Frag} {S : List Addr} {H : Hp} (n : ∀ b ∈ S, NoT H b) : ∀ (ds : List PyData) (vs : List V), tupA ds = true → DpAll K H vs ds → DpAll K (R.hidL S H) vs ds
  | [], _, _, h => by cases h; exact .nil
  | d :: ds, _, z, h => by
    have z2 := Bool.and_eq_true_iff.mp (show (tupD d && tupA ds) = true from z)
    cases h with
    | cons h1 h2 => exact .cons (dp_hidL n d _ z2.1 h1) (dpa_hidL n ds _ z2.2 h2)
end
/-- a list of stretches beside what is left out -/
theorem show_hidL {K : PySem.W.Frag} {S : List Addr} {H : Hp} {p : Addr} {ys : List V} {xs : List St3} (n : ∀ b ∈ S, NoT H b) (np : p ∉ S) (hp : H p = some (.lst ys)) (da : DpAll K H ys (xs.map dS)) : Dp K (R.hidL S H) (.ref p) (dSh xs) :=
  .lst (.inl (.inl (hidL_at np hp))) (dpa_hidL n _ _ (tupA_dS _) da)
/-! ### cues on the heap -/
abbrev Wd := Str × Rat
abbrev Cue := Int × Rat × Rat × List Wd
def dW (w : Wd) : PyData := .tuple [.str w.1, dF w.2]
def dWs (ws : List Wd) : PyData := .list (ws.map dW)
def dC (c : Cue) : PyData := .tuple [.int c.1, dF c.2.1, dF c.2.2.1, dWs c.2.2.2]
def dCs (cs : List Cue) : PyData := .list (cs.map dC)
def dIS (x : Int × Str) : PyData := .tuple [.int x.1, .str x.2]
structure WordOk (s : Str) : Prop where
  l0 : 0 < s.length
  l20 : s.length ≤ 20
  abc : ∀ x ∈ s.cps.toList, 97 ≤ x ∧ x ≤ 122
structure CueOk (c : Cue) : Prop where
  tb : TB c.2.1
  te : TB c.2.2.1
  lt : c.2.1 < c.2.2.1
  wn : c.2.2.2.length ≤ 11
  ws : ∀ x ∈ c.2.2.2, WordOk x.1 ∧ TB x.2 ∧ c.2.1 ≤ x.2 ∧ x.2 < c.2.2.1
  ord : c.2.2.2.Pairwise fun x y => x.2 ≤ y.2
theorem dIS_le {x y : Int × Str} (h : PySem.W.dataLe false dIS x y = true) : x.1 ≤ y.1 := by
  rw [PySem.W.dataLe_eq] at h
  have h : (!PySem.W.dataLt (dIS y) (dIS x)) = true := h
  unfold dIS at h
  rw [PySem.W.dataLt_pair (by simp [PySem.W.alike]) (by simp [PySem.W.alike])] at h
  by_cases c : x.1 ≤ y.1
  · exact c
  · exfalso
    have n : ¬ (y.1 = x.1) := by omega
    have e : PyData.eqv (.int y.1) (.int x.1) = false := by
      show (y.1 == x.1) = false
      exact beq_eq_false_iff_ne.mpr n
    rw [e, if_neg (by decide)] at h
    have e2 : PySem.W.dataLt (.int y.1) (.int x.1) = decide (y.1 < x.1) := by
      have := congrFun (congrFun (PySem.W.dataLe_int (β := Int) id) x.1) y.1
      rw [PySem.W.dataLe_eq] at this
      have this : (!PySem.W.dataLt (.int y.1) (.int x.1)) = decide (x.1 ≤ y.1) := this
      rw [decide_eq_false c] at this
      rw [decide_eq_true (by omega)]
      cases hh : PySem.W.dataLt (.int y.1) (.int x.1) with
      | true => rfl
      | false =>
        rw [hh] at this
        cases this
    rw [e2, decide_eq_true (by omega)] at h
    cases h
theorem dIS_alike (bs : List (Int × Str)) : PySem.W.AllAlike (bs.map dIS) := PySem.W.AllAlike.of fun _ _ => by simp [PySem.W.alike, PySem.W.alikeAll, dIS]
theorem dIS_sortable (bs : List (Int × Str)) : PySem.W.Sortable (bs.map dIS) := PySem.W.Sortable.tuples fun _ => ⟨_, _, rfl⟩
theorem dIS_total : PySem.W.TotalLe (PySem.W.dataLe false dIS) := PySem.W.sortLe_total _ _ _
/-- the words of a drawn cue -/
def cWords (b t : Rat) (bs : List (Int × Str)) : List Wd := (bs.mergeSort (PySem.W.dataLe false dIS)).map fun x => (x.2, cAt b t x.1)
theorem cue_ok {n : Int} {b t : Rat} {bs : List (Int × Str)} (h : CueB b t) (hb : ∀ x ∈ bs, 0 ≤ x.1 ∧ x.1 ≤ 10 ∧ WordOk x.2) (hl : bs.length ≤ 11) : CueOk (n, b, cEnd b t, cWords b t bs) := by
  have pm := List.mergeSort_perm bs (PySem.W.dataLe false dIS)
  refine ⟨h.tb, h.te, h.lt, ?_, fun x hx => ?_, ?_⟩
  · show (cWords b t bs).length ≤ 11
    unfold cWords
    rw [List.length_map, pm.length_eq]
    exact hl
  · obtain ⟨y, hy, rfl⟩ := List.mem_map.mp hx
    obtain ⟨h0, h1, h2⟩ := hb y (pm.mem_iff.mp hy)
    obtain ⟨r0, r1, r2⟩ := cAt_rg h h0 h1
    exact ⟨h2, r2, r0, r1⟩
  · show (cWords b t bs).Pairwise _
    unfold cWords
    rw [List.pairwise_map]
    exact (PySem.W.sort_pairwise dIS_total bs).imp fun hxy => cAt_le h (dIS_le hxy)
/-! parts of what stands on the heap -/
theorem dW_at {K : PySem.W.Frag} {H : Hp} {v : V} {x : Wd} (h : Dp K H v (dW x)) : ∃ a v2, v = .ref a ∧ SqT K H a [.str x.1, v2] ∧ Dp K H v2 (dF x.2) := by
  unfold dW at h
  cases h with
  | tup hs ha =>
    cases ha with
    | cons h1 h2 =>
      cases h1
      cases h2 with
      | cons h3 h4 =>
        cases h4
        exact ⟨_, _, rfl, hs, h3⟩
theorem dIS_at {K : PySem.W.Frag} {H : Hp} {v : V} {x : Int × Str} (h : Dp K H v (dIS x)) : ∃ a, v = .ref a ∧ SqT K H a [.int x.1, .str x.2] := by
  unfold dIS at h
  cases h with
  | tup hs ha =>
    cases ha with
    | cons h1 h2 =>
      cases h1
      cases h2 with
      | cons h3 h4 =>
        cases h3
        cases h4
        exact ⟨_, rfl, hs⟩
theorem dC_at {K : PySem.W.Frag} {H : Hp} {v : V} {c : Cue} (h : Dp K H v (dC c)) : ∃ a v1 v2 al vs, v = .ref a ∧ SqT K H a [.int c.1, v1, v2, .ref al] ∧ Dp K H v1 (dF c.2.1) ∧ Dp K H v2 (dF c.2.2.1) ∧ SqL K H al vs ∧ DpAll K H vs (c.2.2.2.map dW) := by
  unfold dC dWs at h
  cases h with
  | tup hs ha =>
    cases ha with
    | cons h1 h2 =>
      cases h1
      cases h2 with
      | cons h3 h4 =>
        cases h4 with
        | cons h5 h6 =>
          cases h6 with
          | cons h7 h8 =>
            cases h8
            cases h7 with
            | lst hl hd => exact ⟨_, _, _, _, _, rfl, hs, h3, h5, hl, hd⟩
theorem dW_mk {K : PySem.W.Frag} {H : Hp} {p : Addr} {v2 : V} {x : Wd} (h : SqT K H p [.str x.1, v2]) (h2 : Dp K H v2 (dF x.2)) : Dp K H (.ref p) (dW x) := .tup h (.cons (.str _) (.cons h2 .nil))
theorem dC_mk {K : PySem.W.Frag} {H : Hp} {p al : Addr} {v1 v2 : V} {vs : List V} {c : Cue} (h : SqT K H p [.int c.1, v1, v2, .ref al]) (h1 : Dp K H v1 (dF c.2.1)) (h2 : Dp K H v2 (dF c.2.2.1)) (hl : SqL K H al vs) (hd : DpAll K H vs (c.2.2.2.map dW)) : Dp K H (.ref p) (dC c) :=
  .tup h (.cons (.int _) (.cons h1 (.cons h2 (.cons (.lst hl hd) .nil))))
theorem dCs_at {K : PySem.W.Frag} {H : Hp} {v : V} {cs : List Cue} (h : Dp K H v (dCs cs)) : ∃ a vs, v = .ref a ∧ SqL K H a vs ∧ DpAll K H vs (cs.map dC) := by
  unfold dCs at h
  cases h with
  | lst hs ha => exact ⟨_, _, rfl, hs, ha⟩
theorem tupA_dW : ∀ ws : List Wd, tupA (ws.map dW) = true
  | [] => rfl
  | x :: r => by
    show (tupD (dW x) && tupA (r.map dW)) = true
    rw [tupA_dW r]
    rfl
theorem tupA_dIS : ∀ ws : List (Int × Str), tupA (ws.map dIS) = true
  | [] => rfl
  | x :: r => by
    show (tupD (dIS x) && tupA (r.map dIS)) = true
    rw [tupA_dIS r]
    rfl
theorem sgn_mem {xs : List Nat} {r : Int} (h0 : 0 ≤ r) (h1 : r < (xs.length : Int)) : ∃ c, atI xs r = some c ∧ c ∈ xs := by
  obtain ⟨n, rfl⟩ : ∃ n : Nat, r = (n : Int) := ⟨r.toNat, by omega⟩
  have hn : n < xs.length := by omega
  exact ⟨xs[n], atI_nat (List.getElem?_eq_getElem hn), List.getElem_mem hn⟩
/-- texts of one sign each -/
def ones (cs : List Nat) : List Str := cs.map fun c => (⟨#[c]⟩ : Str)
theorem join_ones : ∀ cs : List Nat, (Str.join "" (ones cs)).cps.toList = cs
  | [] => rfl
  | [c] => rfl
  | c :: d :: r => by
    have ih := join_ones (d :: r)
    show ((((⟨#[c]⟩ : Str) ++ ("" : Str)) ++ Str.join "" (ones (d :: r))).cps).toList = _
    rw [Str.cps_append, Array.toList_append, ih, Str.cps_append, Array.toList_append]
    rfl
theorem ones_sum : ∀ cs : List Nat, ((ones cs).map (·.length)).sum = cs.length
  | [] => rfl
  | c :: r => by
    show (1 : Nat) + ((ones r).map (·.length)).sum = r.length + 1
    rw [ones_sum r]
    omega
theorem slen_list (z : Str) : z.length = z.cps.toList.length := rfl
structure SgOk (z : Str) : Prop where
  l0 : 0 < z.length
  l10 : z.length ≤ 10
  abc : ∀ x ∈ z.cps.toList, 97 ≤ x ∧ x ≤ 122
theorem sg_six : SgOk "abcxyz" := ⟨by decide +kernel, by decide +kernel, by decide +kernel⟩
theorem abc26 : ∀ x ∈ ("abcdefghijklmnopqrstuvwxyz" : Str).cps.toList, 97 ≤ x ∧ x ≤ 122 := by decide +kernel
/-- a cue stands at v, its words' list at al -/
def CueAt (K : PySem.W.Frag) (H : Hp) (v : V) (c : Cue) (al : Addr) : Prop := ∃ a v1 v2 vs, v = .ref a ∧ SqT K H a [.int c.1, v1, v2, .ref al] ∧ Dp K H v1 (dF c.2.1) ∧ Dp K H v2 (dF c.2.2.1) ∧ H al = some (.lst vs) ∧ DpAll K H vs (c.2.2.2.map dW)
theorem CueAt.dp {K : PySem.W.Frag} {H : Hp} {v : V} {c : Cue} {al : Addr} {S : List Addr} (h : CueAt K H v c al) (nt : ∀ a ∈ S, NoT H a) (n : al ∉ S) : Dp K (R.hidL S H) v (dC c) := by
  obtain ⟨a, v1, v2, vs, rfl, h1, h2, h3, h4, h5⟩ := h
  exact dC_mk (hidL_tup nt h1) (dp_hidL nt _ _ rfl h2) (dp_hidL nt _ _ rfl h3) (.inl (.inl (hidL_at n h4))) (dpa_hidL nt _ _ (tupA_dW _) h5)
def spCue (K : PySem.W.Frag) : Sp := fun vs H Q _ => ∃ (b l : Addr) (n : Int), vs = [.ref b, .int n] ∧ Bx H b l ∧ ∀ H' v (c : Cue) al, Same (hid b l H) (hid b l H') → Bx H' b l → H al = none → CueAt K H' v c al → c.1 = n → CueOk c → Q v H'
theorem hid_ne {b l a : Addr} {H : Hp} {o : HO} (h : hid b l H a = some o) : a ≠ b ∧ a ≠ l := by
  unfold hid at h
  split at h
  · cases h
  · rename_i z
    exact ⟨fun y => z (.inl y), fun y => z (.inr y)⟩
theorem hid_new {b l a : Addr} {H H' : Hp} {o : HO} (B : Bx H b l) (n : H a = none) (h : H' a = some o) : hid b l H' a = some o := by
  obtain ⟨xs, st, h1, h2⟩ := B.ex
  unfold hid
  rw [if_neg, h]
  rintro (z | z)
  · rw [z, h1] at n
    cases n
  · rw [z, h2] at n
    cases n
theorem cl_Lcue (T : Txt K mg) : Cl P w K mg base CX0 3 "_law_cue" (spCue K) := by
  have c_Ltake := cl_Ltake (P := P) (w := w) (base := base) T
  have c_Ltime := cl_Ltime (P := P) (w := w) (base := base) T
  have c_Lsum := cl_Lsum (P := P) (w := w) (base := base) T
  have c_Lminus := cl_Lminus (P := P) (w := w) (base := base) T
  have c_Ltimes := cl_Ltimes (P := P) (w := w) (base := base) T
  have c_Lfr := cl_Lfr (P := P) (w := w) (base := base) T
  refine T.d_Lcue.cl sc_Lcue (fun vs H Q E h => ?_) (fun f cdv A outer s H vs Q E hr h => ?_)
  · obtain ⟨b, l, n, rfl, _⟩ := h
    rfl
  · obtain ⟨b, l, n, rfl, B, q⟩ := h
    refine ⟨_, (pss_cons (ps_set (i := 2) sc_Lcue.nd rfl (.inl rfl) (pe_lst pa_nil))
      (pss_cons (ps_set (i := 3) sc_Lcue.nd rfl (.inr rfl) pe_str)
      (Evl.pss_cut (ps_if (pt_cmpR op_eq (pe_cl c_Ltake hr (by decide) (by rfl) (pa_cons (pv 0) (pa_cons pe_int pa_nil))) pe_int (nomark _))
        (pss_one (ps_set (i := 3) sc_Lcue.nd rfl (.inr rfl) (pe_join pe_str (pe_lc (own := [("_law_k", 4)]) (g := (gName 4)) (tt := tYes) (by rfl) sc_Lcue.nd (pi_range1 (by rfl) T.m_range (pa_cons pe_int pa_nil)) (blkOk_by (N := ["_law_box", "_law_number", "_law_some", "_law_signs", "_law_k", "_law_begin", "_law_end", "_law_many", "_law_word", "_law_far", "_law_words", "_law_at", "_law_j"]) (sc := defScope s_Lcue) (by decide +kernel)) (fun _ _ _ _ _ => (pg_name (i := 4) sc_Lcue.nd rfl (Or.inl rfl))) (fun _ _ _ _ _ => pts_nil) (fun _ _ _ _ _ => (pe_ix ix_str pe_str (pe_cl c_Ltake hr (by decide) (by rfl) (pa_cons (pv 0) (pa_cons pe_int pa_nil))) (fun _ _ => rfl)))))))
        pss_nil)
      (pss_cons (ps_set (i := 5) sc_Lcue.nd rfl (.inr rfl) (pe_cl c_Ltime hr (by decide) (by rfl) (pa_cons (pv 0) (pa_cons (pe_ix ix_list (pe_lst (pa_cons pe_int (pa_cons pe_int pa_nil))) (pe_callTy call_int1 (by rfl) T.m_int (by decide +kernel) (pa_cons (pe_cmpR op_eq (pe_cl c_Ltake hr (by decide) (by rfl) (pa_cons (pv 0) (pa_cons pe_int pa_nil))) pe_int (nomark _)) pa_nil)) (fun _ _ => rfl)) pa_nil))))
      (pss_cons (ps_set (i := 6) sc_Lcue.nd rfl (.inl rfl) (pe_cl c_Lsum hr (by decide) (by rfl) (pa_cons (pv 5) (pa_cons (pe_cl c_Lsum hr (by decide) (by rfl) (pa_cons (pe_tup (pa_cons pe_int (pa_cons pe_int pa_nil))) (pa_cons (pe_cl c_Ltime hr (by decide) (by rfl) (pa_cons (pv 0) (pa_cons pe_int pa_nil))) pa_nil))) pa_nil))))
      (pss_cons (ps_for PassesOwn.never rfl (pi_range1 (by rfl) T.m_range (pa_cons (pe_ix ix_list (pe_lst (pa_cons (pe_cl c_Ltake hr (by decide) (by rfl) (pa_cons (pv 0) (pa_cons pe_int pa_nil))) (pa_cons (pe_cl c_Ltake hr (by decide) (by rfl) (pa_cons (pv 0) (pa_cons pe_int pa_nil))) pa_nil))) (pe_callTy call_int1 (by rfl) T.m_int (by decide +kernel) (pa_cons (pe_cmpR op_eq (pe_cl c_Ltake hr (by decide) (by rfl) (pa_cons (pv 0) (pa_cons pe_int pa_nil))) pe_int (nomark _)) pa_nil)) (fun _ _ => rfl)) pa_nil)) (pg_name (i := 4) sc_Lcue.nd rfl (.inl rfl))
        (pss_cons (ps_set (i := 7) sc_Lcue.nd rfl (.inl rfl) (pe_op op_add pe_int (pe_cl c_Ltake hr (by decide) (by rfl) (pa_cons (pv 0) (pa_cons (pe_ix ix_list (pe_lst (pa_cons pe_int (pa_cons pe_int pa_nil))) (pe_callTy call_int1 (by rfl) T.m_int (by decide +kernel) (pa_cons (pe_cmpR op_eq (pe_cl c_Ltake hr (by decide) (by rfl) (pa_cons (pv 0) (pa_cons pe_int pa_nil))) pe_int (nomark _)) pa_nil)) (fun _ _ => rfl)) pa_nil)))))
      (pss_cons (ps_set (i := 8) sc_Lcue.nd rfl (.inl rfl) (pe_join pe_str (pe_lc (own := [("_law_j", 12)]) (g := (gName 12)) (tt := tYes) (by rfl) sc_Lcue.nd (pi_range1 (by rfl) T.m_range (pa_cons (pv 7) pa_nil)) (blkOk_by (N := ["_law_box", "_law_number", "_law_some", "_law_signs", "_law_k", "_law_begin", "_law_end", "_law_many", "_law_word", "_law_far", "_law_words", "_law_at", "_law_j"]) (sc := defScope s_Lcue) (by decide +kernel)) (fun _ _ _ _ _ => (pg_name (i := 12) sc_Lcue.nd rfl (Or.inl rfl))) (fun _ _ _ _ _ => pts_nil) (fun _ _ _ _ _ => (pe_ix ix_str (pv 3) (pe_cl c_Ltake hr (by decide) (by rfl) (pa_cons (pv 0) (pa_cons (pe_callB call_len_str (by rfl) T.m_len (by decide +kernel) (pa_cons (pv 3) pa_nil)) pa_nil))) (fun _ _ => rfl))))))
      (pss_one (ps_expr (pe_bm PySem.F.plainAttrs_list PySem.F.slot_list_append PySem.F.type_list_append mt_append (pv 2) (pa_cons (pe_tup (pa_cons (pe_cl c_Ltake hr (by decide) (by rfl) (pa_cons (pv 0) (pa_cons pe_int pa_nil))) (pa_cons (pv 8) pa_nil))) pa_nil)))))))
      (pss_cons (ps_set (i := 9) sc_Lcue.nd rfl (.inr rfl) (pe_cl c_Lminus hr (by decide) (by rfl) (pa_cons (pv 6) (pa_cons (pv 5) pa_nil))))
      (pss_cons (ps_setLc (i := 10) (own := [("_law_at", 11), ("_law_word", 8)]) (g := (gTup K 2 (gCons (gName 11) (gCons (gName 8) gNil)))) (tt := tYes) (by rfl) sc_Lcue.nd rfl rfl (sw_true rfl rfl rfl (by decide +kernel)) (pi_list (pe_callB (cr_sortedD dIS hr.units) (by rfl) T.m_sorted (by decide +kernel) (pa_cons (pv 2) pa_nil))) (blkOk_by (N := ["_law_box", "_law_number", "_law_some", "_law_signs", "_law_k", "_law_begin", "_law_end", "_law_many", "_law_word", "_law_far", "_law_words", "_law_at", "_law_j"]) (sc := defScope s_Lcue) (by decide +kernel)) (fun _ _ _ _ _ => (pg_tup rfl (pgs_cons (pg_name (i := 11) sc_Lcue.nd rfl (Or.inl rfl)) (pgs_cons (pg_name (i := 8) sc_Lcue.nd rfl (Or.inl rfl)) pgs_nil)))) (fun _ _ _ _ _ => pts_nil) (fun _ _ _ _ _ => (pe_tup (pa_cons (pv 8) (pa_cons (pe_cl c_Lsum hr (by decide) (by rfl) (pa_cons (pv 5) (pa_cons (pe_cl c_Ltimes hr (by decide) (by rfl) (pa_cons (pv 9) (pa_cons (pe_cl c_Lfr hr (by decide) (by rfl) (pa_cons (pv 11) (pa_cons pe_int pa_nil))) pa_nil))) pa_nil))) pa_nil)))))
      (pss_one (ps_ret (pe_tup (pa_cons (pv 1) (pa_cons (pv 5) (pa_cons (pv 6) (pa_cons (pv 10) pa_nil))))))))))))))), ?_⟩
    refine ⟨Nat.zero_le _, fun r hr0 => ?_⟩
    have s0' := Same.new (o := .lst []) hr0
    have B0 := B.mono s0'
    have hr1 : hid b l (upd H r (.lst [])) r = some (.lst []) := hid_at B hr0
    have s0 : Same (hid b l H) (hid b l (upd H r (.lst []))) := Same.hid s0'
    generalize upd H r (.lst []) = H0 at s0 B0 hr1 ⊢
    clear s0'
    refine ⟨fun σ' H' => ∃ z : Str, σ' = [some (.ref b), some (.int n), some (.ref r), some (.str z), none, none, none, none, none, none, none, none, none] ∧ Same (hid b l H) (hid b l H') ∧ Bx H' b l ∧ hid b l H' r = some (.lst []) ∧ SgOk z, ?_, fun σ' H2 hM => ?_⟩
    · refine ⟨_, rfl, _, l, _, rfl, B0, by decide, by decide, fun H1 r1 s1 B1 a1 b1 => ?_⟩
      refine ⟨rfl, _, rfl, ite2 (fun z => ?_) (fun z => ?_)⟩
      · refine ⟨⟨_, rfl⟩, 3, rfl, by decide, by decide, fun D hD => ?_⟩
        refine lc_range (lo := 0) (n := 3) (fun i H' => Same (hid b l H1) (hid b l H') ∧ Bx H' b l ∧ ∃ cs : List Nat, hid b l H' D = some (.lst ((ones cs).map V.str)) ∧ cs.length = i ∧ ∀ x ∈ cs, 97 ≤ x ∧ x ≤ 122) ⟨Same.hid (Same.new hD), B1.mono (Same.new hD), [], hid_at B1 hD, rfl, fun y hy => by cases hy⟩ (fun i H' hi h => ?_) (fun H' h => ?_)
        · obtain ⟨s3, B3, cs, hz, lc, oc⟩ := h
          refine ⟨rfl, ?_⟩
          refine ⟨_, rfl, b, l, _, rfl, B3, by decide, by decide, fun H4 sg s4 B4 g0 g1 => ?_⟩
          obtain ⟨c, hc, mc⟩ := sgn_mem (xs := ("abcdefghijklmnopqrstuvwxyz" : Str).cps.toList) g0 g1
          have hz4 := s4 _ _ hz
          refine ⟨_, _, c, rfl, rfl, (show 26 ≤ sizeLine by decide), hc, _, hid_same _ _ hz4, le1000 (by rw [List.length_map]; unfold ones; rw [List.length_map]; omega), ?_⟩
          refine ⟨(hid_upd hz4).2 H1 (fun a x _ ha => s4 _ _ (s3 _ _ ha)) hD, bx_upd B4 hz4, cs ++ [c], ?_, by rw [List.length_append, lc]; rfl, mem_snoc oc (abc26 c mc)⟩
          unfold ones
          rw [List.map_append, List.map_append]
          exact (hid_upd hz4).1
        · obtain ⟨s3, B3, cs, hz, lc, oc⟩ := h
          refine ⟨_, D, ones cs, rfl, rfl, .inl (.inl (.inl (hid_same _ _ hz))), ?_, ?_⟩
          · rw [ones_sum]
            show cs.length + (ones cs).length * 0 ≤ 16777216
            omega
          · rw [TL.join_eq]
            have e := join_ones cs
            refine ⟨_, rfl, (s0.trans s1).trans s3, B3, s3 _ _ (s1 _ _ hr1), ⟨?_, ?_, ?_⟩⟩
            · rw [slen_list, show Str.join "" (ones cs) = Str.join "" (ones cs) from rfl, e, lc]
              decide
            · rw [slen_list, e, lc]
              decide
            · rw [e]
              exact oc
      · exact ⟨_, rfl, s0.trans s1, B1, s1 _ _ hr1, sg_six⟩
    obtain ⟨z, rfl, s2, B2, hr2, sg⟩ := hM
    -- begin
    refine ⟨_, rfl, (show 2 ≤ sizeLine by decide), fun p hp => ?_⟩
    have s3' := Same.new (o := .lst [.int 50, .int 99999]) hp
    have B3 := B2.mono s3'
    have hP : hid b l (upd H2 p (.lst [.int 50, .int 99999])) p = some (.lst [.int 50, .int 99999]) := hid_at B2 hp
    have s3 := s2.trans (Same.hid s3')
    have hr3 := Same.hid (b := b) (l := l) s3' _ _ hr2
    generalize upd H2 p (.lst [.int 50, .int 99999]) = H3 at B3 hP s3 hr3 ⊢
    refine ⟨_, rfl, _, l, _, rfl, B3, by decide, by decide, fun H4 r4 s4 B4 a4 b4 => ?_⟩
    have hP4 : SqL K H4 p [.int 50, .int 99999] := .inl (.inl (hid_same _ _ (s4 _ _ hP)))
    refine ⟨rfl, .inr ⟨_, rfl, p, _, _, .int (if decide (V.int r4 = V.int 1) = true then 99999 else 50), rfl, rfl, hP4, ?_, ?_⟩⟩
    · by_cases c : decide (V.int r4 = V.int 1) = true
      · rw [if_pos c, if_pos c]
        exact atI_nat (j := 1) rfl
      · rw [if_neg c, if_neg c]
        exact atI_nat (j := 0) rfl
    have hk : (if decide (V.int r4 = V.int 1) = true then (99999 : Int) else 50) = 99999 ∨ (if decide (V.int r4 = V.int 1) = true then (99999 : Int) else 50) = 50 := by
      by_cases c : decide (V.int r4 = V.int 1) = true
      · rw [if_pos c]
        exact .inl rfl
      · rw [if_neg c]
        exact .inr rfl
    generalize (if decide (V.int r4 = V.int 1) = true then (99999 : Int) else 50) = k at hk ⊢
    refine ⟨_, l, _, rfl, B4, by omega, by omega, fun H5 vb xb s5 B5 db tb => ?_⟩
    have tb9 : Tm 99999 xb := by
      refine ⟨tb.iz, tb.lo, Rat.le_trans tb.hi (Rat.intCast_le_intCast.mpr (by omega)), tb.sz, fun h => absurd h (by decide), tb.dn⟩
    have s5' := (s3.trans s4).trans s5
    have hr5 := s5 _ _ (s4 _ _ hr3)
    -- end
    refine ⟨_, rfl, (show 2 ≤ sizeLine by decide), fun p6 hp6 => ?_⟩
    have t6 := Same.new (o := .tup [.int 1, .int 3]) hp6
    have dh : Dp K (upd H5 p6 (.tup [.int 1, .int 3])) (.ref p6) (dF (Rat.divInt 1 3)) := dF_mk (.inl (.inl upd_same))
    have B6 := B5.mono t6
    have hr6 := Same.hid (b := b) (l := l) t6 _ _ hr5
    have s6 := s5'.trans (Same.hid t6)
    have db6 := dp_mono t6 _ _ db
    generalize upd H5 p6 (.tup [.int 1, .int 3]) = H6 at dh B6 hr6 s6 db6 ⊢
    refine ⟨_, rfl, _, l, _, rfl, B6, by decide, by decide, fun H7 vt xt s7 B7 dt tt => ?_⟩
    have cb : CueB xb xt := ⟨tb9, tt⟩
    have dh7 := frac_keep dh B6 s7
    have db7 := frac_keep db6 B6 s7
    have hr7 := s7 _ _ hr6
    have s7' := s6.trans s7
    have z3 : Sz 2 (Rat.divInt 1 3) := sz_divInt (by decide) (by decide) (by decide)
    refine ⟨_, _, _, _, 2, 17, rfl, dh7, dt, z3, tt.sz, by decide, trivial, fun H8 v8 s8 d8 => ?_⟩
    refine ⟨_, _, _, _, 17, 20, rfl, dp_mono s8 _ _ db7, d8, tb9.sz, sz_add z3 tt.sz, by decide, trivial, fun H9 ve s9 de => ?_⟩
    have B9 := B7.mono (s8.trans s9)
    have db9 := dp_mono (s8.trans s9) _ _ db7
    have hr9 := Same.hid (b := b) (l := l) (s8.trans s9) _ _ hr7
    have s9' := s7'.trans (Same.hid (s8.trans s9))
    have de : Dp K H9 ve (dF (cEnd xb xt)) := de
    clear dh7 db7 db6 db dh d8 dt s8 s9 s7 s6 s5 s4 s3 s2 s7' s5' B7 B6 B5 B4 B3 B2 hr7 hr6 hr5 hr3 hr2 hP hP4
    -- how many words
    refine ⟨_, rfl, _, l, _, rfl, B9, by decide, by decide, fun Ha ra sa Ba aa ba => ?_⟩
    refine ⟨_, rfl, _, l, _, rfl, Ba, by decide, by decide, fun Hb rb sb Bb ab bb => ?_⟩
    refine ⟨(show 2 ≤ sizeLine by decide), fun pc hpc => ?_⟩
    have tc := Same.new (o := .lst [.int ra, .int rb]) hpc
    have Bc := Bb.mono tc
    have hPc : hid b l (upd Hb pc (.lst [.int ra, .int rb])) pc = some (.lst [.int ra, .int rb]) := hid_at Bb hpc
    refine ⟨_, rfl, _, l, _, rfl, Bc, by decide, by decide, fun Hd rd sd Bd' ad bd => ?_⟩
    have hPd : SqL K Hd pc [.int ra, .int rb] := .inl (.inl (hid_same _ _ (sd _ _ hPc)))
    have s9d := ((sa.trans sb).trans (Same.hid tc)).trans sd
    have hrd := s9d _ _ hr9
    have dbd := frac_keep db9 B9 s9d
    have ded := frac_keep de B9 s9d
    refine ⟨rfl, .inr ⟨_, rfl, pc, _, _, .int (if decide (V.int rd = V.int 1) = true then rb else ra), rfl, rfl, hPd, ?_, ?_⟩⟩
    · by_cases c : decide (V.int rd = V.int 1) = true
      · rw [if_pos c, if_pos c]
        exact atI_nat (j := 1) rfl
      · rw [if_neg c, if_neg c]
        exact atI_nat (j := 0) rfl
    have hk : 0 ≤ (if decide (V.int rd = V.int 1) = true then rb else ra) ∧ (if decide (V.int rd = V.int 1) = true then rb else ra) ≤ 11 := by
      split <;> omega
    generalize (if decide (V.int rd = V.int 1) = true then rb else ra) = m at hk ⊢
    refine ⟨m, rfl, by omega, by omega, for_range (lo := 0) (n := m.toNat) (fun i σ H' => ∃ (c4 c7 c8 : Option V) (ys : List V) (bs : List (Int × Str)), σ = [some (.ref b), some (.int n), some (.ref r), some (.str z), c4, some vb, some ve, c7, c8, none, none, none, none] ∧ Same (hid b l H) (hid b l H') ∧ Bx H' b l ∧ hid b l H' r = some (.lst ys) ∧ DpAll K H' ys (bs.map dIS) ∧ bs.length = i ∧ (∀ x ∈ bs, 0 ≤ x.1 ∧ x.1 ≤ 10 ∧ WordOk x.2) ∧ Dp K H' vb (dF xb) ∧ Dp K H' ve (dF (cEnd xb xt))) ⟨none, none, none, [], [], rfl, s9'.trans s9d, Bd', hrd, .nil, rfl, (fun x hx => nomatch hx), dbd, ded⟩ (fun i σ H' hi h => ?_) (fun σ H' h => ?_)⟩
    · obtain ⟨c4, c7, c8, ys, bs, rfl, s1, B1, hr1, da, hl, ok, db, de⟩ := h
      have ly : ys.length = i := by rw [dpa_len da, List.length_map, hl]
      -- many
      refine ⟨_, rfl, (show 2 ≤ sizeLine by decide), fun p2 hp2 => ?_⟩
      have t2 := Same.new (o := .lst [.int 4, .int 20]) hp2
      have B2 := B1.mono t2
      have hP2 : hid b l (upd H' p2 (.lst [.int 4, .int 20])) p2 = some (.lst [.int 4, .int 20]) := hid_at B1 hp2
      refine ⟨_, rfl, _, l, _, rfl, B2, by decide, by decide, fun H3 r3 s3 B3 a3 b3 => ?_⟩
      have hP3 : SqL K H3 p2 [.int 4, .int 20] := .inl (.inl (hid_same _ _ (s3 _ _ hP2)))
      refine ⟨rfl, .inr ⟨_, rfl, p2, _, _, .int (if decide (V.int r3 = V.int 1) = true then 20 else 4), rfl, rfl, hP3, ?_, ?_⟩⟩
      · by_cases c : decide (V.int r3 = V.int 1) = true
        · rw [if_pos c, if_pos c]
          exact atI_nat (j := 1) rfl
        · rw [if_neg c, if_neg c]
          exact atI_nat (j := 0) rfl
      have hk3 : (if decide (V.int r3 = V.int 1) = true then (20 : Int) else 4) = 20 ∨ (if decide (V.int r3 = V.int 1) = true then (20 : Int) else 4) = 4 := by
        by_cases c : decide (V.int r3 = V.int 1) = true
        · rw [if_pos c]
          exact .inl rfl
        · rw [if_neg c]
          exact .inr rfl
      generalize (if decide (V.int r3 = V.int 1) = true then (20 : Int) else 4) = k3 at hk3 ⊢
      refine ⟨_, l, _, rfl, B3, by omega, by omega, fun H4 r4 s4 B4 a4 b4 => ?_⟩
      have s14 := (Same.hid (b := b) (l := l) t2).trans (s3.trans s4)
      have hr4 := s14 _ _ hr1
      have da4 := keepA da (tupA_dIS _) B1.lb B1.ll s14
      have db4 := frac_keep db B1 s14
      have de4 := frac_keep de B1 s14
      refine ⟨_, _, rfl, rfl, ?_⟩
      -- word
      refine ⟨⟨_, rfl⟩, _, rfl, 1 + r4, rfl, by omega, by omega, fun D hD => ?_⟩
      refine lc_range (lo := 0) (n := (1 + r4).toNat) (fun i H' => Same (hid b l H4) (hid b l H') ∧ Bx H' b l ∧ ∃ cs : List Nat, hid b l H' D = some (.lst ((ones cs).map V.str)) ∧ cs.length = i ∧ ∀ x ∈ cs, 97 ≤ x ∧ x ≤ 122) ⟨Same.hid (Same.new hD), B4.mono (Same.new hD), [], hid_at B4 hD, rfl, fun y hy => by cases hy⟩ (fun j H5 hj h => ?_) (fun H5 h => ?_)
      · obtain ⟨s5, B5, cs, hz, lc, oc⟩ := h
        refine ⟨rfl, ?_⟩
        have lz : z.length ≤ sizeLine := le1000 (by have := sg.l10; omega)
        have z10 := sg.l10
        have z0 := sg.l0
        refine ⟨_, rfl, _, rfl, _, rfl, z, rfl, lz, b, l, _, rfl, B5, by omega, by omega, fun H6 sg6 s6 B6 g0 g1 => ?_⟩
        obtain ⟨c, hc, mc⟩ := sgn_mem (xs := z.cps.toList) g0 g1
        have hz6 := s6 _ _ hz
        refine ⟨_, _, c, rfl, rfl, lz, hc, _, hid_same _ _ hz6, le1000 (by rw [List.length_map]; unfold ones; rw [List.length_map]; omega), ?_⟩
        refine ⟨(hid_upd hz6).2 H4 (fun a x _ ha => s6 _ _ (s5 _ _ ha)) hD, bx_upd B6 hz6, cs ++ [c], ?_, by rw [List.length_append, lc]; rfl, mem_snoc oc (sg.abc c mc)⟩
        unfold ones
        rw [List.map_append, List.map_append]
        exact (hid_upd hz6).1
      · obtain ⟨s5, B5, cs, hz, lc, oc⟩ := h
        refine ⟨_, D, ones cs, rfl, rfl, .inl (.inl (.inl (hid_same _ _ hz))), ?_, ?_⟩
        · rw [ones_sum]
          show cs.length + (ones cs).length * 0 ≤ 16777216
          omega
        rw [TL.join_eq]
        have e := join_ones cs
        have wok : WordOk (Str.join "" (ones cs)) := ⟨by rw [slen_list, e, lc]; omega, by rw [slen_list, e, lc]; omega, by rw [e]; exact oc⟩
        generalize Str.join "" (ones cs) = word at wok
        have hr5 := s5 _ _ hr4
        have da5 := keepA da4 (tupA_dIS _) B4.lb B4.ll s5
        have db5 := frac_keep db4 B4 s5
        have de5 := frac_keep de4 B4 s5
        refine ⟨_, rfl, .inl ⟨rfl, _, .inl (.inl (hid_same _ _ hr5))⟩, _, rfl, b, l, _, rfl, B5, by decide, by decide, fun H6 at6 s6 B6 a6 b6 => ?_⟩
        have hr6 := s6 _ _ hr5
        have da6 := keepA da5 (tupA_dIS _) B5.lb B5.ll s6
        have db6 := frac_keep db5 B5 s6
        have de6 := frac_keep de5 B5 s6
        refine ⟨_, rfl, (show 2 ≤ sizeLine by decide), fun p7 hp7 => ?_⟩
        have t7 := Same.new (o := .tup [.int at6, .str word]) hp7
        have dn : Dp K (upd H6 p7 (.tup [.int at6, .str word])) (.ref p7) (dIS (at6, word)) := .tup (.inl (.inl upd_same)) (.cons (.int _) (.cons (.str _) .nil))
        have B7 := B6.mono t7
        have hr7 := Same.hid (b := b) (l := l) t7 _ _ hr6
        have da7 := dpa_mono t7 _ _ da6
        have db7 := dp_mono t7 _ _ db6
        have de7 := dp_mono t7 _ _ de6
        have s17 := (s14.trans (s5.trans s6)).trans (Same.hid t7)
        generalize upd H6 p7 (.tup [.int at6, .str word]) = H7 at dn B7 hr7 da7 db7 de7 s17 ⊢
        have Lr : IsL H7 r := ⟨_, hid_same _ _ hr7⟩
        refine ⟨r, ys, _, rfl, rfl, hid_same _ _ hr7, small1000 (by omega), ?_⟩
        refine ⟨_, _, _, ys ++ [.ref p7], bs ++ [(at6, word)], rfl, (hid_upd hr7).2 H (fun a x _ ha => s17 _ _ (s1 _ _ ha)) hr0, bx_upd B7 hr7, (hid_upd hr7).1, ?_, by rw [List.length_append, hl]; rfl, mem_snoc ok ⟨a6, by omega, wok⟩, keepU db7 rfl Lr, keepU de7 rfl Lr⟩
        rw [List.map_append]
        exact dpa_snoc (keepAU da7 (tupA_dIS _) Lr) (keepU dn rfl Lr)
    · obtain ⟨c4, c7, c8, ys, bs, rfl, s1, B1, hr1, da, hl, ok, db, de⟩ := h
      have hl11 : bs.length ≤ 11 := by omega
      have cok := cue_ok (n := n) cb ok hl11
      -- far
      refine ⟨_, rfl, _, rfl, _, _, _, _, 32, 17, rfl, de, db, cb.te.sz, tb9.sz, by decide, trivial, fun H2 vf s2 df => ?_⟩
      have zf : Sz 50 (cEnd xb xt - xb) := (sz_sub cb.te.sz tb9.sz)
      -- words
      refine ⟨_, rfl, r, ys, bs, rfl, .inl (.inl (s2 _ _ (hid_same _ _ hr1))), dpa_mono s2 _ _ da, dIS_alike _, dIS_sortable _, fun x _ => (by decide : 1 ≤ 60), fun yw pw hpw dw => ?_⟩
      have tw := Same.new (o := .lst yw) hpw
      have hw : (upd H2 pw (.lst yw)) pw = some (.lst yw) := upd_same
      have s2w := s2.trans tw
      have dw := dpa_mono tw _ _ dw
      have df := dp_mono tw _ _ df
      generalize upd H2 pw (.lst yw) = H3 at tw hw s2w dw df ⊢
      have lw : yw.length ≤ 11 := by rw [dpa_len dw, List.length_map, (List.mergeSort_perm bs _).length_eq]; exact hl11
      refine ⟨pw, rfl, ⟨_, .inl (.inl hw)⟩, fun D hD => ?_⟩
      have sD := Same.new (o := .lst []) hD
      have db3 := dp_mono s2w _ _ db
      refine lc_list (K := K) (a := pw) (xs := yw) (fun i H' => ∃ acc, H' D = some (.lst acc) ∧ Same H3 (hid D D H') ∧ acc.length = i ∧ DpAll K (hid D D H') acc (((cWords xb xt bs).take i).map dW)) ⟨[], upd_same, hid_old sD hD, rfl, .nil⟩ (fun i H' hi h => ?_) (fun i y H' hy h => ?_) (fun H' h => ?_)
      · obtain ⟨acc, hd, s4, la, dd⟩ := h
        exact .inl (.inl (hid_same _ _ (s4 _ _ hw)))
      · obtain ⟨acc, hd, s4, la, dd⟩ := h
        have s4' : Same H3 H' := s4.trans hid_same
        obtain ⟨x, hx, dx⟩ := dpa_map dw hy
        have hi : i < yw.length := (List.getElem?_eq_some_iff.mp hy).1
        have okx := ok x ((List.mergeSort_perm bs _).mem_iff.mp (List.mem_of_getElem? hx))
        obtain ⟨pt, rfl, hpt⟩ := dIS_at (dp_mono s4' _ _ dx)
        refine ⟨pt, _, rfl, hpt, rfl, _, _, rfl, _, _, rfl, rfl, rfl, ?_⟩
        refine ⟨_, rfl, _, rfl, _, rfl, _, rfl, _, _, rfl, by decide, p20 (by decide), fun H5 v5 s5 d5 => ?_⟩
        have z5 : Sz 4 (Rat.divInt x.1 11) := sz_divInt (by omega) (by decide) (by decide)
        refine ⟨_, _, _, _, 50, 4, rfl, dp_mono (s4'.trans s5) _ _ df, d5, zf, z5, by decide, trivial, fun H6 v6 s6 d6 => ?_⟩
        refine ⟨_, _, _, _, 17, 54, rfl, dp_mono ((s4'.trans s5).trans s6) _ _ db3, d6, tb9.sz, sz_mul zf z5, by decide, trivial, fun H7 v7 s7 d7 => ?_⟩
        refine ⟨(show 2 ≤ sizeLine by decide), fun pn hn => ?_⟩
        have t8 := Same.new (o := .tup [.str x.2, v7]) hn
        have s48 := ((s5.trans s6).trans s7).trans t8
        have hd8 := s48 _ _ hd
        have dn : Dp K (upd H7 pn (.tup [.str x.2, v7])) (.ref pn) (dW (x.2, cAt xb xt x.1)) := dW_mk (.inl (.inl upd_same)) (dp_mono t8 _ _ d7)
        generalize upd H7 pn (.tup [.str x.2, v7]) = H8 at hd8 dn s48 ⊢
        have LD : IsL H8 D := ⟨_, hd8⟩
        refine ⟨acc, hd8, small1000 (by omega), acc ++ [.ref pn], upd_same, ?_, by rw [List.length_append, la]; rfl, ?_⟩
        · rw [hid_b]
          exact s4.trans (Same.hid s48)
        · rw [hid_b, take_more (x := (x.2, cAt xb xt x.1)) (by unfold cWords; rw [List.getElem?_map, hx]; rfl), List.map_append]
          exact dpa_snoc (dpa_mono (Same.hid s48) _ _ dd) (dp_hid LD LD _ _ rfl dn)
      · obtain ⟨acc, hd, s4, la, dd⟩ := h
        have s4' : Same H3 H' := s4.trans hid_same
        have lcw : (cWords xb xt bs).length = yw.length := by
          unfold cWords
          rw [List.length_map, dpa_len dw, List.length_map]
        rw [← lcw, List.take_length] at dd
        have s14 := s2w.trans s4'
        refine ⟨_, rfl, _, rfl, _, rfl, _, rfl, (show 4 ≤ sizeLine by decide), fun p9 hp9 => ?_⟩
        have t9 := Same.new (o := .tup [.int n, vb, ve, .ref D]) hp9
        have s19 := s14.trans t9
        have B9 := B1.mono s19
        refine q _ (.ref p9) (n, xb, cEnd xb xt, cWords xb xt bs) D (s1.trans (Same.hid s19)) B9 ?_ ⟨p9, vb, ve, acc, rfl, .inl (.inl upd_same), dp_mono s19 _ _ db, dp_mono s19 _ _ de, t9 _ _ hd, dpa_mono t9 _ _ (dpa_mono hid_same _ _ dd)⟩ rfl cok
        -- D is new
        have hD1 : H3 D = none := hD
        have hn1 := s2w.free hD1
        cases hh : H D with
        | none => rfl
        | some o =>
          exfalso
          obtain ⟨bx, bst, e1, e2⟩ := B.ex
          obtain ⟨bx', bst', e1', e2'⟩ := B1.ex
          by_cases z1 : D = b
          · rw [z1, e1'] at hn1
            cases hn1
          · by_cases z2 : D = l
            · rw [z2, e2'] at hn1
              cases hn1
            · have : hid b l H D = some o := by
                unfold hid
                rw [if_neg (fun z => z.elim z1 z2)]
                exact hh
              have := hid_same _ _ (s1 _ _ this)
              rw [hn1] at this
              cases this
structure CuesOk (cs : List Cue) : Prop where
  each : ∀ c ∈ cs, CueOk c ∧ 0 < c.1 ∧ c.1 ≤ 90000000
  rise : cs.Pairwise fun c d => c.1 < d.1
  len : cs.length ≤ 8
def spCues (K : PySem.W.Frag) : Sp := fun vs H Q _ => ∃ (b l : Addr), vs = [.ref b] ∧ Bx H b l ∧ ∀ H' p ys (cs : List Cue), Same (hid b l H) (hid b l H') → Bx H' b l → H p = none → hid b l H' p = some (.lst ys) → DpAll K (R.hidL [b, l, p] H') ys (cs.map dC) → CuesOk cs → Q (.ref p) H'
theorem hid_sub {b l r : Addr} {H H' : Hp} (s : Same (hid b l H) (hid b l H')) : Same (R.hidL [b, l, r] H) (R.hidL [b, l, r] H') := hid_hidL (by simp) (by simp) s
theorem pw_snoc {α : Type} {R : α → α → Prop} {xs : List α} {x : α} (h : xs.Pairwise R) (hx : ∀ y ∈ xs, R y x) : (xs ++ [x]).Pairwise R := by
  rw [List.pairwise_append]
  exact ⟨h, List.pairwise_singleton _ _, fun a ha b hb => by rw [List.mem_singleton.mp hb]; exact hx a ha⟩
theorem cl_Lcues (T : Txt K mg) : Cl P w K mg base CX0 4 "_law_cues" (spCues K) := by
  have c_Ltake := cl_Ltake (P := P) (w := w) (base := base) T
  have c_Lcue := cl_Lcue (P := P) (w := w) (base := base) T
  refine T.d_Lcues.cl sc_Lcues (fun vs H Q E h => ?_) (fun f cdv A outer s H vs Q E hr h => ?_)
  · obtain ⟨b, l, rfl, _⟩ := h
    rfl
  · obtain ⟨b, l, rfl, B, q⟩ := h
    refine ⟨_, (pss_cons (ps_set (i := 1) sc_Lcues.nd rfl (.inl rfl) (pe_lst pa_nil))
      (pss_cons (ps_set (i := 2) sc_Lcues.nd rfl (.inl rfl) pe_int)
      (pss_cons (ps_for PassesOwn.never rfl (pi_range1 (by rfl) T.m_range (pa_cons (pe_ix ix_list (pe_lst (pa_cons (pe_cl c_Ltake hr (by decide) (by rfl) (pa_cons (pv 0) (pa_cons pe_int pa_nil))) (pa_cons (pe_cl c_Ltake hr (by decide) (by rfl) (pa_cons (pv 0) (pa_cons pe_int pa_nil))) pa_nil))) (pe_callTy call_int1 (by rfl) T.m_int (by decide +kernel) (pa_cons (pe_cmpR op_eq (pe_cl c_Ltake hr (by decide) (by rfl) (pa_cons (pv 0) (pa_cons pe_int pa_nil))) pe_int (nomark _)) pa_nil)) (fun _ _ => rfl)) pa_nil)) (pg_name (i := 3) sc_Lcues.nd rfl (.inl rfl))
        (pss_cons (ps_set (i := 2) sc_Lcues.nd rfl (.inl rfl) (pe_op op_add (pe_op op_add (pv 2) pe_int) (pe_ix ix_list (pe_lst (pa_cons (pe_cl c_Ltake hr (by decide) (by rfl) (pa_cons (pv 0) (pa_cons pe_int pa_nil))) (pa_cons (pe_cl c_Ltake hr (by decide) (by rfl) (pa_cons (pv 0) (pa_cons pe_int pa_nil))) pa_nil))) (pe_callTy call_int1 (by rfl) T.m_int (by decide +kernel) (pa_cons (pe_cmpR op_eq (pe_cl c_Ltake hr (by decide) (by rfl) (pa_cons (pv 0) (pa_cons pe_int pa_nil))) pe_int (nomark _)) pa_nil)) (fun _ _ => rfl))))
      (pss_one (ps_expr (pe_bm PySem.F.plainAttrs_list PySem.F.slot_list_append PySem.F.type_list_append mt_append (pv 1) (pa_cons (pe_cl c_Lcue hr (by decide) (by rfl) (pa_cons (pv 0) (pa_cons (pv 2) pa_nil))) pa_nil))))))
      (pss_one (ps_ret (pv 1)))))), ?_⟩
    refine ⟨Nat.zero_le _, fun r hr0 => ?_⟩
    have s0' := Same.new (o := .lst []) hr0
    have B0 := B.mono s0'
    have hr1 : hid b l (upd H r (.lst [])) r = some (.lst []) := hid_at B hr0
    have s0 : Same (hid b l H) (hid b l (upd H r (.lst []))) := Same.hid s0'
    generalize upd H r (.lst []) = H0 at s0 B0 hr1 ⊢
    refine ⟨_, rfl, _, l, _, rfl, B0, by decide, by decide, fun Ha ra sa Ba aa ba => ?_⟩
    refine ⟨_, rfl, _, l, _, rfl, Ba, by decide, by decide, fun Hb rb sb Bb ab bb => ?_⟩
    refine ⟨(show 2 ≤ sizeLine by decide), fun pc hpc => ?_⟩
    have tc := Same.new (o := .lst [.int ra, .int rb]) hpc
    have Bc := Bb.mono tc
    have hPc : hid b l (upd Hb pc (.lst [.int ra, .int rb])) pc = some (.lst [.int ra, .int rb]) := hid_at Bb hpc
    refine ⟨_, rfl, _, l, _, rfl, Bc, by decide, by decide, fun Hd rd sd Bd' ad bd => ?_⟩
    have hPd : SqL K Hd pc [.int ra, .int rb] := .inl (.inl (hid_same _ _ (sd _ _ hPc)))
    have s9d := ((sa.trans sb).trans (Same.hid tc)).trans sd
    have hrd := s9d _ _ hr1
    refine ⟨rfl, .inr ⟨_, rfl, pc, _, _, .int (if decide (V.int rd = V.int 1) = true then rb else ra), rfl, rfl, hPd, ?_, ?_⟩⟩
    · by_cases c : decide (V.int rd = V.int 1) = true
      · rw [if_pos c, if_pos c]
        exact atI_nat (j := 1) rfl
      · rw [if_neg c, if_neg c]
        exact atI_nat (j := 0) rfl
    have hk : 0 ≤ (if decide (V.int rd = V.int 1) = true then rb else ra) ∧ (if decide (V.int rd = V.int 1) = true then rb else ra) ≤ 8 := by
      split <;> omega
    generalize (if decide (V.int rd = V.int 1) = true then rb else ra) = m at hk ⊢
    refine ⟨m, rfl, by omega, by omega, for_range (lo := 0) (n := m.toNat) (fun i σ H' => ∃ (c3 : Option V) (N : Int) (ys : List V) (cs : List Cue), σ = [some (.ref b), some (.ref r), some (.int N), c3] ∧ Same (hid b l H) (hid b l H') ∧ Bx H' b l ∧ hid b l H' r = some (.lst ys) ∧ DpAll K (R.hidL [b, l, r] H') ys (cs.map dC) ∧ cs.length = i ∧ 0 ≤ N ∧ N ≤ 10000001 * i ∧ (∀ c ∈ cs, CueOk c ∧ 0 < c.1 ∧ c.1 ≤ N) ∧ cs.Pairwise (fun c d => c.1 < d.1)) ⟨none, 0, [], [], rfl, s0.trans s9d, Bd', hrd, .nil, rfl, by decide, by omega, (fun c hc => nomatch hc), .nil⟩ (fun i σ H' hi h => ?_) (fun σ H' h => ?_)⟩
    · obtain ⟨c3, N, ys, cs, rfl, s1, B1, hr1, da, hl, N0, N1, ok, rise⟩ := h
      have ly : ys.length = i := by rw [dpa_len da, List.length_map, hl]
      refine ⟨_, rfl, _, _, rfl, rfl, _, rfl, _, l, _, rfl, B1, by decide, by decide, fun H2 r2 s2 B2 a2 b2 => ?_⟩
      refine ⟨_, rfl, _, l, _, rfl, B2, by decide, by decide, fun H3 r3 s3 B3 a3 b3 => ?_⟩
      refine ⟨(show 2 ≤ sizeLine by decide), fun p4 hp4 => ?_⟩
      have t4 := Same.new (o := .lst [.int r2, .int r3]) hp4
      have B4 := B3.mono t4
      have hP4 : hid b l (upd H3 p4 (.lst [.int r2, .int r3])) p4 = some (.lst [.int r2, .int r3]) := hid_at B3 hp4
      refine ⟨_, rfl, _, l, _, rfl, B4, by decide, by decide, fun H5 r5 s5 B5 a5 b5 => ?_⟩
      have hP5 : SqL K H5 p4 [.int r2, .int r3] := .inl (.inl (hid_same _ _ (s5 _ _ hP4)))
      have s15 := ((s2.trans s3).trans (Same.hid t4)).trans s5
      refine ⟨rfl, .inr ⟨_, rfl, p4, _, _, .int (if decide (V.int r5 = V.int 1) = true then r3 else r2), rfl, rfl, hP5, ?_, ?_⟩⟩
      · by_cases c : decide (V.int r5 = V.int 1) = true
        · rw [if_pos c, if_pos c]
          exact atI_nat (j := 1) rfl
        · rw [if_neg c, if_neg c]
          exact atI_nat (j := 0) rfl
      have hk5 : 0 ≤ (if decide (V.int r5 = V.int 1) = true then r3 else r2) ∧ (if decide (V.int r5 = V.int 1) = true then r3 else r2) < 10000000 := by
        split <;> omega
      generalize (if decide (V.int r5 = V.int 1) = true then r3 else r2) = k5 at hk5 ⊢
      refine ⟨_, _, rfl, rfl, ?_⟩
      have hr5 := s15 _ _ hr1
      refine ⟨_, rfl, .inl ⟨rfl, _, .inl (.inl (hid_same _ _ hr5))⟩, _, rfl, _, rfl, b, l, _, rfl, B5, fun H6 v c al s6 B6 nal ca ec okc => ?_⟩
      have hr6 := s6 _ _ hr5
      have s16 := s15.trans s6
      have nt6 : ∀ a ∈ [b, l, r], NoT H6 a := by
        obtain ⟨x1, x2, e1, e2⟩ := B6.ex
        intro a ha
        simp only [List.mem_cons, List.not_mem_nil, or_false] at ha
        rcases ha with z | z | z <;> rw [z]
        · exact NoT.lst e1
        · exact NoT.lst e2
        · exact NoT.lst (hid_same _ _ hr6)
      have nal3 : al ∉ [b, l, r] := by
        obtain ⟨x1, x2, e1, e2⟩ := B5.ex
        intro ha
        simp only [List.mem_cons, List.not_mem_nil, or_false] at ha
        rcases ha with z | z | z
        · rw [z, e1] at nal
          cases nal
        · rw [z, e2] at nal
          cases nal
        · rw [z, hid_same _ _ hr5] at nal
          cases nal
      have dc := ca.dp nt6 nal3
      have da6 := dpa_mono (hid_sub s16) _ _ da
      refine ⟨r, ys, _, rfl, rfl, hid_same _ _ hr6, small1000 (by omega), ?_⟩
      have ec : c.1 = N + 1 + k5 := ec
      refine ⟨_, _, ys ++ [v], cs ++ [c], rfl, (hid_upd hr6).2 H (fun a x _ ha => s16 _ _ (s1 _ _ ha)) hr0, bx_upd B6 hr6, (hid_upd hr6).1, ?_, by rw [List.length_append, hl]; rfl, by omega, by omega, ?_, ?_⟩
      · rw [hidL_upd (by simp), List.map_append]
        exact dpa_snoc da6 dc
      · refine mem_snoc (fun d hd => ?_) ⟨okc, by omega, by omega⟩
        obtain ⟨o1, o2, o3⟩ := ok d hd
        exact ⟨o1, o2, by omega⟩
      · refine pw_snoc rise fun d hd => ?_
        have := (ok d hd).2.2
        omega
    · obtain ⟨c3, N, ys, cs, rfl, s1, B1, hr1, da, hl, N0, N1, ok, rise⟩ := h
      refine ⟨_, rfl, q _ r ys cs s1 B1 hr0 hr1 da ⟨fun c hc => ?_, rise, by omega⟩⟩
      obtain ⟨o1, o2, o3⟩ := ok c hc
      exact ⟨o1, o2, by omega⟩
/-! ### the lines of cues -/
def lineC (c : Cue) : Str := ("cue " : Str) ++ (sI c.1 ++ ((" from " : Str) ++ (framesT c.2.1 ++ ((" to " : Str) ++ framesT c.2.2.1))))
def lineW (x : Wd) : Str := ("  " : Str) ++ (x.1 ++ ((" at " : Str) ++ framesT x.2))
def linesOf (c : Cue) : List Str := lineC c :: c.2.2.2.map lineW
def linesM (cs : List Cue) : List Str := cs.flatMap linesOf
theorem linesM_more {cs : List Cue} {i : Nat} {c : Cue} (h : cs[i]? = some c) : linesM (cs.take (i + 1)) = linesM (cs.take i) ++ linesOf c := by
  unfold linesM
  rw [take_more h, List.flatMap_append]
  simp
theorem TB.bd {x : Rat} (h : TB x) : Bd (10 ^ 30) x := ⟨h.num.1, by have := h.num; omega, by have := h.dn; omega⟩
theorem fr_len {x : Rat} (h : TB x) : (framesT x).length ≤ 93 := by
  have := mix_len h.bd
  unfold framesT
  rw [slen]
  show _ + 1 ≤ 93
  omega
theorem slen_lit : ("cue " : Str).length = 4 ∧ (" from " : Str).length = 6 ∧ (" to " : Str).length = 4 ∧ ("  " : Str).length = 2 ∧ (" at " : Str).length = 4 ∧ ("f" : Str).length = 1 ∧ ("f to " : Str).length = 5 ∧ ("\n" : Str).length = 1 := ⟨rfl, rfl, rfl, rfl, rfl, rfl, rfl, rfl⟩
theorem lineC_len {c : Cue} (h : CueOk c) (h0 : 0 ≤ c.1) (h1 : c.1 < 10 ^ 30) : (lineC c).length ≤ 240 := by
  have a1 := fr_len h.tb
  have a2 := fr_len h.te
  have a3 := sI_len h0 h1
  obtain ⟨e1, e2, e3, e4, e5, e6, e7, e8⟩ := slen_lit
  unfold lineC
  simp only [slen, e1, e2, e3]
  omega
theorem lineW_len {x : Wd} (h : WordOk x.1) (t : TB x.2) : (lineW x).length ≤ 240 := by
  have a1 := fr_len t
  have a2 := h.l20
  obtain ⟨e1, e2, e3, e4, e5, e6, e7, e8⟩ := slen_lit
  unfold lineW
  simp only [slen, e4, e5]
  omega
theorem linesOf_each {c : Cue} (h : CueOk c) (h0 : 0 ≤ c.1) (h1 : c.1 < 10 ^ 30) : ∀ s ∈ linesOf c, s.length ≤ 240 := by
  intro s hs
  rcases List.mem_cons.mp hs with z | z
  · rw [z]
    exact lineC_len h h0 h1
  · obtain ⟨x, hx, rfl⟩ := List.mem_map.mp z
    obtain ⟨w1, w2, _⟩ := h.ws x hx
    exact lineW_len w1 w2
theorem linesM_each {cs : List Cue} (h : ∀ c ∈ cs, CueOk c ∧ 0 < c.1 ∧ c.1 ≤ 90000000) : ∀ s ∈ linesM cs, s.length ≤ 240 := by
  intro s hs
  obtain ⟨c, hc, hs⟩ := List.mem_flatMap.mp hs
  obtain ⟨o1, o2, o3⟩ := h c hc
  exact linesOf_each o1 (by omega) (by omega) s hs
theorem linesM_len : ∀ {cs : List Cue}, (∀ c ∈ cs, CueOk c ∧ 0 < c.1 ∧ c.1 ≤ 90000000) → (linesM cs).length ≤ 12 * cs.length
  | [], _ => Nat.le_refl _
  | c :: cs, h => by
    have h1 := (h c List.mem_cons_self).1.wn
    have h2 := linesM_len (cs := cs) fun d hd => h d (List.mem_cons_of_mem _ hd)
    show (linesOf c ++ linesM cs).length ≤ 12 * (cs.length + 1)
    rw [List.length_append]
    show (c.2.2.2.map lineW).length + 1 + _ ≤ _
    rw [List.length_map]
    omega
theorem sum_le : ∀ {ys : List Str}, (∀ s ∈ ys, s.length ≤ 240) → (ys.map (·.length)).sum ≤ 240 * ys.length
  | [], _ => Nat.le_refl _
  | s :: r, h => by
    have h1 := h s List.mem_cons_self
    have h2 := sum_le (ys := r) fun d hd => h d (List.mem_cons_of_mem _ hd)
    show s.length + (r.map (·.length)).sum ≤ 240 * (r.length + 1)
    omega
def spWritten (K : PySem.W.Frag) : Sp := fun vs H Q _ => ∃ (v : V) (cs : List Cue), vs = [v] ∧ Dp K H v (dCs cs) ∧ CuesOk cs ∧ ∀ H', Same H H' → Q (.str (Str.join "\n" (linesM cs))) H'
def spLines (K : PySem.W.Frag) : Sp := fun vs H Q _ => ∃ (v : V) (cs : List Cue), vs = [v] ∧ Dp K H v (dCs cs) ∧ CuesOk cs ∧ ∀ H' p, Same H H' → H p = none → H' p = some (.lst ((linesM cs).map V.str)) → Q (.ref p) H'
theorem szl {n : Nat} (h : n ≤ 1000) : n ≤ sizeLine := Nat.le_trans h (by decide)
theorem cl_with_rest (T : Txt K mg) : Cl P w K mg base CX0 1 "with_rest" spRest := by
  refine T.d_with_rest.cl sc_with_rest (fun vs H Q E h => ?_) (fun f cdv A outer s H vs Q E hr h => ?_)
  · obtain ⟨x, t, b, rfl, _⟩ := h
    rfl
  · obtain ⟨x, t, b, rfl, hx, t0, t1, b0, b1, q⟩ := h
    refine ⟨_, (pss_cons (ps_if (pt_cmpR op_eq (pv 1) pe_int (nomark _))
        (pss_one (ps_ret (pv 0)))
        pss_nil)
      (pss_one (ps_ret (pe_joined (.cons (pe_fmt (pv 0)) (.cons pe_str (.cons (pe_fmt (pv 1)) (.cons pe_str (.cons (pe_fmt (pv 2)) .nil))))))))), ?_⟩
    refine ⟨_, rfl, rfl, _, rfl, ite2 (fun z => ?_) (fun z => ?_)⟩
    · have e : t = 0 := V.int.inj (of_decide_eq_true z)
      refine ⟨_, rfl, ?_⟩
      unfold rs at q
      rw [if_pos e, sapp_nil] at q
      exact q
    · have e : t ≠ 0 := fun e => z (by rw [e]; rfl)
      have l1 := sI_len t0 t1
      have l2 := sI_len b0 b1
      unfold rs at q
      rw [if_neg e] at q
      refine ⟨_, rfl, .inl ⟨_, rfl, sz60 (by omega), _, rfl, sz60 (by rw [nil_sapp]; omega), ?_⟩⟩
      rw [nil_sapp]
      refine ⟨_, rfl, sz60 (by rw [slen]; show x.length + 1 ≤ 1000; omega), ?_⟩
      refine ⟨_, rfl, .inr ⟨_, rfl, lg t0 t1, _, rfl, ?_, ?_⟩⟩
      · refine sz60 ?_
        rw [slen, slen]
        show x.length + 1 + (sI t).length ≤ 1000
        omega
      refine ⟨_, rfl, ?_, ?_⟩
      · refine sz60 ?_
        rw [slen, slen, slen]
        show x.length + 1 + (sI t).length + 1 ≤ 1000
        omega
      refine ⟨_, rfl, .inr ⟨_, rfl, lg b0 b1, _, rfl, ?_, ?_⟩⟩
      · refine sz60 ?_
        rw [slen, slen, slen, slen]
        show x.length + 1 + (sI t).length + 1 + (sI b).length ≤ 1000
        omega
      show Q (.str ((((x ++ (" " : Str)) ++ sI t) ++ ("/" : Str)) ++ sI b)) H
      rw [sapp, sapp, sapp]
      exact q
theorem cl_as_mixed (T : Txt K mg) : Cl P w K mg base CX0 2 "as_mixed" (spMix K (10 ^ 30) mixT) := by
  have c_with_rest := cl_with_rest (P := P) (w := w) (base := base) T
  refine T.d_as_mixed.cl sc_as_mixed (fun vs H Q E h => ?_) (fun f cdv A outer s H vs Q E hr h => ?_)
  · obtain ⟨v, q, rfl, _⟩ := h
    rfl
  · obtain ⟨v, x, rfl, hv, bd, q⟩ := h
    obtain ⟨a, rfl, h0⟩ := dF_at hv
    refine ⟨_, (pss_cons (ps_asg (pv 0) (pg_tup rfl (pgs_cons (pg_name (i := 1) sc_as_mixed.nd rfl (.inl rfl)) (pgs_cons (pg_name (i := 2) sc_as_mixed.nd rfl (.inl rfl)) pgs_nil))))
      (pss_one (ps_ret (pe_cl c_with_rest hr (by decide) (by rfl) (pa_cons (pe_joined1 (pe_fmt (pe_op op_fdivX (pv 1) (pv 2)))) (pa_cons (pe_op op_modN (pv 1) (pv 2)) (pa_cons (pv 2) pa_nil))))))), ?_⟩
    refine ⟨_, rfl, a, _, rfl, h0, rfl, _, _, rfl, _, _, rfl, rfl, ?_⟩
    refine ⟨_, rfl, _, rfl, _, _, rfl, rfl, cdq bd, ?_⟩
    have e1 : (fun i j : Int => V.int (i.fdiv j)) x.num (x.den : Int) = .int (qw x) := by
      show V.int (x.num.fdiv (x.den : Int)) = _
      rw [qf]
    rw [e1]
    refine .inr ⟨_, rfl, lg (qw_rg bd).1 (qw_rg bd).2, _, rfl, _, rfl, _, _, rfl, rfl, den_ne x, _, rfl, ?_⟩
    have e2 : (fun i j : Int => V.int (i.fmod j)) x.num (x.den : Int) = .int (qr x) := by
      show V.int (x.num.fmod (x.den : Int)) = _
      rw [qm]
    rw [e2]
    refine ⟨_, _, _, rfl, ?_, (qr_rg bd).1, (qr_rg bd).2, (by omega), bd.den, q⟩
    have := sI_len (qw_rg bd).1 (qw_rg bd).2
    show (sI (qw x)).length ≤ 500
    omega
theorem cl_as_frames (T : Txt K mg) : Cl P w K mg base CX0 3 "as_frames" (spMix K (10 ^ 30) framesT) := by
  have c_as_mixed := cl_as_mixed (P := P) (w := w) (base := base) T
  refine T.d_as_frames.cl sc_as_frames (fun vs H Q E h => ?_) (fun f cdv A outer s H vs Q E hr h => ?_)
  · obtain ⟨v, q, rfl, _⟩ := h
    rfl
  · obtain ⟨v, x, rfl, hv, bd, q⟩ := h
    refine ⟨_, (pss_one (ps_ret (pe_op op_add_str (pe_cl c_as_mixed hr (by decide) (by rfl) (pa_cons (pv 0) pa_nil)) pe_str))), ?_⟩
    refine ⟨_, rfl, _, x, rfl, hv, bd, _, _, rfl, rfl, ?_, q⟩
    have := mix_len bd
    exact sz60 (show (mixT x).length + 1 ≤ 1000 by omega)
theorem cl_Lmixed (T : Txt K mg) : Cl P w K mg base CX0 1 "_law_mixed" (spMix K (10 ^ 30) mixT) := by
  refine T.d_Lmixed.cl sc_Lmixed (fun vs H Q E h => ?_) (fun f cdv A outer s H vs Q E hr h => ?_)
  · obtain ⟨v, q, rfl, _⟩ := h
    rfl
  · obtain ⟨v, x, rfl, hv, bd, q⟩ := h
    obtain ⟨a, rfl, h0⟩ := dF_at hv
    have e1 : (fun i j : Int => V.int (i.fdiv j)) x.num (x.den : Int) = .int (qw x) := by
      show V.int (x.num.fdiv (x.den : Int)) = _
      rw [qf]
    have e2 : (fun i j : Int => V.int (i.fmod j)) x.num (x.den : Int) = .int (qr x) := by
      show V.int (x.num.fmod (x.den : Int)) = _
      rw [qm]
    have gw := qw_rg bd
    have gr := qr_rg bd
    have l1 := sI_len gw.1 gw.2
    have l2 := sI_len gr.1 gr.2
    have l3 := sI_len (show 0 ≤ (x.den : Int) by omega) bd.den
    refine ⟨_, (pss_cons (ps_set (i := 1) sc_Lmixed.nd rfl (.inl rfl) (pe_op op_fdivX (pe_ix ix_tup (pv 0) pe_int (fun _ _ => rfl)) (pe_ix ix_tup (pv 0) pe_int (fun _ _ => rfl))))
      (pss_cons (ps_set (i := 2) sc_Lmixed.nd rfl (.inl rfl) (pe_op op_modN (pe_ix ix_tup (pv 0) pe_int (fun _ _ => rfl)) (pe_ix ix_tup (pv 0) pe_int (fun _ _ => rfl))))
      (pss_cons (ps_if (pt_cmpR op_eq (pv 2) pe_int (nomark _))
        (pss_one (ps_ret (pe_callTy call_str_int (by rfl) T.m_str (by decide +kernel) (pa_cons (pv 1) pa_nil))))
        pss_nil)
      (pss_one (ps_ret (pe_op op_add_str (pe_op op_add_str (pe_op op_add_str (pe_op op_add_str (pe_callTy call_str_int (by rfl) T.m_str (by decide +kernel) (pa_cons (pv 1) pa_nil)) pe_str) (pe_callTy call_str_int (by rfl) T.m_str (by decide +kernel) (pa_cons (pv 2) pa_nil))) pe_str) (pe_callTy call_str_int (by rfl) T.m_str (by decide +kernel) (pa_cons (pe_ix ix_tup (pv 0) pe_int (fun _ _ => rfl)) pa_nil)))))))), ?_⟩
    refine ⟨_, rfl, _, _, _, _, rfl, rfl, h0, atI_nat (j := 0) rfl, _, rfl, _, _, _, _, rfl, rfl, h0, atI_nat (j := 1) rfl, _, _, rfl, rfl, cdq bd, ?_⟩
    rw [e1]
    refine ⟨_, rfl, _, _, _, _, rfl, rfl, h0, atI_nat (j := 0) rfl, _, rfl, _, _, _, _, rfl, rfl, h0, atI_nat (j := 1) rfl, _, _, rfl, rfl, den_ne x, ?_⟩
    rw [e2]
    refine ⟨_, rfl, rfl, _, rfl, ite2 (fun z => ?_) (fun z => ?_)⟩
    · have e : qr x = 0 := V.int.inj (of_decide_eq_true z)
      refine ⟨_, rfl, _, rfl, lg gw.1 gw.2, ?_⟩
      unfold mixT rs at q
      rw [if_pos e, sapp_nil] at q
      exact q
    · have e : qr x ≠ 0 := fun e => z (by rw [e]; rfl)
      unfold mixT rs at q
      rw [if_neg e] at q
      refine ⟨_, rfl, _, rfl, lg gw.1 gw.2, _, _, rfl, rfl, sz60 (show (sI (qw x)).length + 1 ≤ 1000 by omega), ?_⟩
      refine ⟨_, rfl, _, rfl, lg gr.1 gr.2, _, _, rfl, rfl, sz60 (by rw [slen]; show (sI (qw x)).length + 1 + (sI (qr x)).length ≤ 1000; omega), ?_⟩
      refine ⟨_, _, rfl, rfl, sz60 (by rw [slen, slen]; show (sI (qw x)).length + 1 + (sI (qr x)).length + 1 ≤ 1000; omega), ?_⟩
      refine ⟨_, rfl, _, _, _, _, rfl, rfl, h0, atI_nat (j := 1) rfl, _, rfl, lg (show 0 ≤ (x.den : Int) by omega) bd.den, _, _, rfl, rfl, sz60 (by rw [slen, slen, slen]; show (sI (qw x)).length + 1 + (sI (qr x)).length + 1 + (sI (x.den : Int)).length ≤ 1000; omega), ?_⟩
      show Q (.str ((((sI (qw x) ++ (" " : Str)) ++ sI (qr x)) ++ ("/" : Str)) ++ sI (x.den : Int))) H
      rw [sapp, sapp, sapp]
      exact q
theorem cl_written (T : Txt K mg) : Cl P w K mg base CX0 4 "written" (spWritten K) := by
  have c_as_frames := cl_as_frames (P := P) (w := w) (base := base) T
  refine T.d_written.cl sc_written (fun vs H Q E h => ?_) (fun f cdv A outer s H vs Q E hr h => ?_)
  · obtain ⟨v, cs, rfl, _⟩ := h
    rfl
  · obtain ⟨v, cs, rfl, hv, ok, q⟩ := h
    obtain ⟨a, vs, rfl, h0, ha⟩ := dCs_at hv
    have el : vs.length = cs.length := by rw [dpa_len ha, List.length_map]
    have lcs := ok.len
    obtain ⟨e1, e2, e3, e4, e5, e6, e7, e8⟩ := slen_lit
    refine ⟨_, (pss_cons (ps_set (i := 1) sc_written.nd rfl (.inl rfl) (pe_lst pa_nil))
      (pss_cons (ps_for PassesOwn.never rfl (pi_list (pv 0)) (pg_tup rfl (pgs_cons (pg_name (i := 2) sc_written.nd rfl (.inl rfl)) (pgs_cons (pg_name (i := 3) sc_written.nd rfl (.inl rfl)) (pgs_cons (pg_name (i := 4) sc_written.nd rfl (.inl rfl)) (pgs_cons (pg_name (i := 5) sc_written.nd rfl (.inl rfl)) pgs_nil)))))
        (pss_cons (ps_expr (pe_bm PySem.F.plainAttrs_list PySem.F.slot_list_append PySem.F.type_list_append mt_append (pv 1) (pa_cons (pe_joined (.cons (pe_fmt (pe_gl (by rfl) T.c_CUE)) (.cons (pe_fmt (pv 2)) (.cons pe_str (.cons (pe_fmt (pe_cl c_as_frames hr (by decide) (by rfl) (pa_cons (pv 3) pa_nil))) (.cons pe_str (.cons (pe_fmt (pe_cl c_as_frames hr (by decide) (by rfl) (pa_cons (pv 4) pa_nil))) .nil))))))) pa_nil)))
      (pss_one (ps_for PassesOwn.never rfl (pi_list (pv 5)) (pg_tup rfl (pgs_cons (pg_name (i := 6) sc_written.nd rfl (.inl rfl)) (pgs_cons (pg_name (i := 7) sc_written.nd rfl (.inl rfl)) pgs_nil)))
        (pss_one (ps_expr (pe_bm PySem.F.plainAttrs_list PySem.F.slot_list_append PySem.F.type_list_append mt_append (pv 1) (pa_cons (pe_joined (.cons (pe_fmt (pe_gl (by rfl) T.c_WORD)) (.cons (pe_fmt (pv 6)) (.cons pe_str (.cons (pe_fmt (pe_cl c_as_frames hr (by decide) (by rfl) (pa_cons (pv 7) pa_nil))) .nil))))) pa_nil))))))))
      (pss_one (ps_ret (pe_join pe_str (pv 1)))))), ?_⟩
    refine ⟨Nat.zero_le _, fun r hr0 => ?_⟩
    have s0 := Same.new (o := .lst []) hr0
    refine ⟨_, rfl, a, rfl, ⟨_, s0.seq h0⟩, for_list (K := K) (a := a) (xs := vs) (fun i σ H' => ∃ (c2 c3 c4 c5 c6 c7 : Option V), σ = [some (.ref a), some (.ref r), c2, c3, c4, c5, c6, c7] ∧ Same H H' ∧ H' r = some (.lst ((linesM (cs.take i)).map V.str))) ⟨none, none, none, none, none, none, rfl, s0, upd_same⟩ (fun i σ H' _ h => ?_) (fun i y σ H' hy h => ?_) (fun σ H' h => ?_)⟩
    · obtain ⟨c2, c3, c4, c5, c6, c7, rfl, s1, hr1⟩ := h
      exact s1.seq h0
    · obtain ⟨c2, c3, c4, c5, c6, c7, rfl, s1, hr1⟩ := h
      obtain ⟨c, hc, dc⟩ := dpa_map ha hy
      have hi : i < cs.length := (List.getElem?_eq_some_iff.mp hc).1
      obtain ⟨okc, n0, n1⟩ := ok.each c (List.mem_of_getElem? hc)
      have okt : ∀ d ∈ cs.take i, CueOk d ∧ 0 < d.1 ∧ d.1 ≤ 90000000 := fun d hd => ok.each d (List.mem_of_mem_take hd)
      have ll := linesM_len okt
      rw [List.length_take] at ll
      obtain ⟨pt, v1, v2, al, ws', rfl, hpt, d1, d2, hal', dws'⟩ := dC_at dc
      have hpt := Same.tup s1 hpt
      have d1 := dp_mono s1 _ _ d1
      have d2 := dp_mono s1 _ _ d2
      have a1 := fr_len okc.tb
      have a2 := fr_len okc.te
      have a3 := sI_len (i := c.1) (by omega) (by omega)
      refine ⟨pt, _, rfl, hpt, rfl, _, _, rfl, _, _, rfl, _, _, rfl, _, _, rfl, rfl, ?_⟩
      refine ⟨_, rfl, .inl ⟨rfl, _, .inl (.inl hr1)⟩, ?_⟩
      refine .inl ⟨_, rfl, szl (by rw [e1]; decide), _, rfl, szl (by rw [nil_sapp, e1]; decide), ?_⟩
      rw [nil_sapp]
      refine ⟨_, rfl, .inr ⟨_, rfl, lg (by omega) (by omega), _, rfl, ?_, ?_⟩⟩
      · refine szl ?_
        rw [slen, e1]
        show 4 + (sI c.1).length ≤ 1000
        omega
      refine ⟨_, rfl, ?_, ?_⟩
      · refine szl ?_
        rw [slen, slen, e1, e2]
        show 4 + (sI c.1).length + 6 ≤ 1000
        omega
      refine ⟨_, rfl, _, c.2.1, rfl, d1, okc.tb.bd, .inl ⟨_, rfl, szl (by omega), _, rfl, ?_, ?_⟩⟩
      · refine szl ?_
        rw [slen, slen, slen, e1, e2]
        show 4 + (sI c.1).length + 6 + (framesT c.2.1).length ≤ 1000
        omega
      refine ⟨_, rfl, ?_, ?_⟩
      · refine szl ?_
        rw [slen, slen, slen, slen, e1, e2, e3]
        show 4 + (sI c.1).length + 6 + (framesT c.2.1).length + 4 ≤ 1000
        omega
      refine ⟨_, rfl, _, c.2.2.1, rfl, d2, okc.te.bd, .inl ⟨_, rfl, szl (by omega), _, rfl, ?_, ?_⟩⟩
      · refine szl ?_
        rw [slen, slen, slen, slen, slen, e1, e2, e3]
        show 4 + (sI c.1).length + 6 + (framesT c.2.1).length + 4 + (framesT c.2.2.1).length ≤ 1000
        omega
      have eC : ((((("cue " : Str) ++ sI c.1) ++ (" from " : Str)) ++ framesT c.2.1) ++ (" to " : Str)) ++ framesT c.2.2.1 = lineC c := by
        unfold lineC
        rw [sapp, sapp, sapp, sapp]
      refine ⟨r, _, .str (lineC c), rfl, congrArg (fun z => [V.str z]) eC, hr1, small1000 (by rw [List.length_map]; omega), ?_⟩
      -- words
      have s2 : Same H (upd H' r (.lst ((linesM (cs.take i)).map V.str ++ [.str (lineC c)]))) := fun b o hb => by
        rw [upd_ne (ne_of_none hb hr0)]
        exact s1 _ _ hb
      have hr2 : (upd H' r (.lst ((linesM (cs.take i)).map V.str ++ [.str (lineC c)]))) r = some (.lst ((linesM (cs.take i) ++ lineC c :: ([] : List Wd).map lineW).map V.str)) := by
        rw [upd_same, List.map_append]
        rfl
      have dwl : ws'.length = c.2.2.2.length := by rw [dpa_len dws', List.length_map]
      generalize upd H' r (.lst ((linesM (cs.take i)).map V.str ++ [.str (lineC c)])) = H2 at s2 hr2 ⊢
      refine ⟨_, rfl, al, rfl, ⟨_, s2.seq hal'⟩, for_list (K := K) (a := al) (xs := ws') (fun j σ H'' => ∃ (c6 c7 : Option V), σ = [some (.ref a), some (.ref r), some (.int c.1), some v1, some v2, some (.ref al), c6, c7] ∧ Same H H'' ∧ H'' r = some (.lst ((linesM (cs.take i) ++ lineC c :: (c.2.2.2.take j).map lineW).map V.str))) ⟨c6, c7, rfl, s2, hr2⟩ (fun j σ H'' _ h => ?_) (fun j y σ H'' hy h => ?_) (fun σ H'' h => ?_)⟩
      · obtain ⟨c6, c7, rfl, s3, hr3⟩ := h
        exact s3.seq hal'
      · obtain ⟨c6, c7, rfl, s3, hr3⟩ := h
        obtain ⟨x, hx, dx⟩ := dpa_map dws' hy
        have hj : j < c.2.2.2.length := (List.getElem?_eq_some_iff.mp hx).1
        have wn := okc.wn
        obtain ⟨wok, wtb, _⟩ := okc.ws x (List.mem_of_getElem? hx)
        obtain ⟨px, vt, rfl, hpx, dt⟩ := dW_at (dp_mono s3 _ _ dx)
        have b1 := fr_len wtb
        have b2 := wok.l20
        refine ⟨px, _, rfl, hpx, rfl, _, _, rfl, _, _, rfl, rfl, ?_⟩
        refine ⟨_, rfl, .inl ⟨rfl, _, .inl (.inl hr3)⟩, ?_⟩
        refine .inl ⟨_, rfl, szl (by rw [e4]; decide), _, rfl, szl (by rw [nil_sapp, e4]; decide), ?_⟩
        rw [nil_sapp]
        refine ⟨_, rfl, .inl ⟨_, rfl, szl (by omega), _, rfl, ?_, ?_⟩⟩
        · refine szl ?_
          rw [slen, e4]
          omega
        refine ⟨_, rfl, ?_, ?_⟩
        · refine szl ?_
          rw [slen, slen, e4, e5]
          omega
        refine ⟨_, rfl, _, x.2, rfl, dt, wtb.bd, .inl ⟨_, rfl, szl (by omega), _, rfl, ?_, ?_⟩⟩
        · refine szl ?_
          rw [slen, slen, slen, e4, e5]
          omega
        have eW : ((("  " : Str) ++ x.1) ++ (" at " : Str)) ++ framesT x.2 = lineW x := by
          unfold lineW
          rw [sapp, sapp]
        refine ⟨r, _, .str (lineW x), rfl, congrArg (fun z => [V.str z]) eW, hr3, small1000 (by rw [List.length_map, List.length_append, List.length_cons, List.length_map, List.length_take]; omega), ?_⟩
        refine ⟨_, _, rfl, fun b o hb => ?_, ?_⟩
        · rw [upd_ne (ne_of_none hb hr0)]
          exact s3 _ _ hb
        · rw [upd_same, take_more hx]
          simp
      · obtain ⟨c6, c7, rfl, s3, hr3⟩ := h
        rw [dwl, List.take_length] at hr3
        refine ⟨_, _, _, _, _, _, rfl, s3, ?_⟩
        rw [linesM_more hc]
        exact hr3
    · obtain ⟨c2, c3, c4, c5, c6, c7, rfl, s1, hr1⟩ := h
      rw [el, List.take_length] at hr1
      have l1 := linesM_len ok.each
      have l2 := sum_le (linesM_each ok.each)
      refine ⟨⟨_, rfl⟩, _, rfl, _, r, linesM cs, rfl, rfl, .inl (.inl (.inl hr1)), ?_, ?_⟩
      · rw [e8]
        omega
      · rw [TL.join_eq]
        exact q _ s1
theorem cl_Llines (T : Txt K mg) : Cl P w K mg base CX0 2 "_law_lines" (spLines K) := by
  have c_Lmixed := cl_Lmixed (P := P) (w := w) (base := base) T
  refine T.d_Llines.cl sc_Llines (fun vs H Q E h => ?_) (fun f cdv A outer s H vs Q E hr h => ?_)
  · obtain ⟨v, cs, rfl, _⟩ := h
    rfl
  · obtain ⟨v, cs, rfl, hv, ok, q⟩ := h
    obtain ⟨a, vs, rfl, h0, ha⟩ := dCs_at hv
    have el : vs.length = cs.length := by rw [dpa_len ha, List.length_map]
    have lcs := ok.len
    obtain ⟨e1, e2, e3, e4, e5, e6, e7, e8⟩ := slen_lit
    refine ⟨_, (pss_cons (ps_set (i := 1) sc_Llines.nd rfl (.inl rfl) (pe_lst pa_nil))
      (pss_cons (ps_for PassesOwn.never rfl (pi_list (pv 0)) (pg_tup rfl (pgs_cons (pg_name (i := 2) sc_Llines.nd rfl (.inl rfl)) (pgs_cons (pg_name (i := 3) sc_Llines.nd rfl (.inl rfl)) (pgs_cons (pg_name (i := 4) sc_Llines.nd rfl (.inl rfl)) (pgs_cons (pg_name (i := 5) sc_Llines.nd rfl (.inl rfl)) pgs_nil)))))
        (pss_cons (ps_set (i := 6) sc_Llines.nd rfl (.inl rfl) (pe_op op_add_str (pe_op op_add_str (pe_op op_add_str pe_str (pe_callTy call_str_int (by rfl) T.m_str (by decide +kernel) (pa_cons (pv 2) pa_nil))) pe_str) (pe_cl c_Lmixed hr (by decide) (by rfl) (pa_cons (pv 3) pa_nil))))
      (pss_cons (ps_expr (pe_bm PySem.F.plainAttrs_list PySem.F.slot_list_append PySem.F.type_list_append mt_append (pv 1) (pa_cons (pe_op op_add_str (pe_op op_add_str (pe_op op_add_str (pv 6) pe_str) (pe_cl c_Lmixed hr (by decide) (by rfl) (pa_cons (pv 4) pa_nil))) pe_str) pa_nil)))
      (pss_one (ps_set (i := 1) sc_Llines.nd rfl (.inl rfl) (pe_op op_cat (pv 1) (pe_lc (own := [("_law_word", 8), ("_law_time_here", 7)]) (g := (gTup K 2 (gCons (gName 8) (gCons (gName 7) gNil)))) (tt := tYes) (by rfl) sc_Llines.nd (pi_list (pv 5)) (blkOk_by (N := ["_law_cues_here", "_law_lines_here", "_law_number", "_law_begin", "_law_end", "_law_words", "_law_head", "_law_time_here", "_law_word"]) (sc := defScope s_Llines) (by decide +kernel)) (fun _ _ _ _ _ => (pg_tup rfl (pgs_cons (pg_name (i := 8) sc_Llines.nd rfl (Or.inl rfl)) (pgs_cons (pg_name (i := 7) sc_Llines.nd rfl (Or.inl rfl)) pgs_nil)))) (fun _ _ _ _ _ => pts_nil) (fun _ _ _ _ _ => (pe_op op_add_str (pe_op op_add_str (pe_op op_add_str (pe_op op_add_str pe_str (pv 8)) pe_str) (pe_cl c_Lmixed hr (by decide) (by rfl) (pa_cons (pv 7) pa_nil))) pe_str)))))))))
      (pss_one (ps_ret (pv 1))))), ?_⟩
    refine ⟨Nat.zero_le _, fun r hr0 => ?_⟩
    have s0 := Same.new (o := .lst []) hr0
    refine ⟨_, rfl, a, rfl, ⟨_, s0.seq h0⟩, for_list (K := K) (a := a) (xs := vs) (fun i σ H' => ∃ (r : Addr) (c2 c3 c4 c5 c6 : Option V), σ = [some (.ref a), some (.ref r), c2, c3, c4, c5, c6, none, none] ∧ Same H H' ∧ H r = none ∧ H' r = some (.lst ((linesM (cs.take i)).map V.str))) ⟨r, none, none, none, none, none, rfl, s0, hr0, upd_same⟩ (fun i σ H' _ h => ?_) (fun i y σ H' hy h => ?_) (fun σ H' h => ?_)⟩
    · obtain ⟨r, c2, c3, c4, c5, c6, rfl, s1, hr0, hr1⟩ := h
      exact s1.seq h0
    · clear hr0 s0
      obtain ⟨r, c2, c3, c4, c5, c6, rfl, s1, hr0, hr1⟩ := h
      obtain ⟨c, hc, dc⟩ := dpa_map ha hy
      have hi : i < cs.length := (List.getElem?_eq_some_iff.mp hc).1
      obtain ⟨okc, n0, n1⟩ := ok.each c (List.mem_of_getElem? hc)
      have okt : ∀ d ∈ cs.take i, CueOk d ∧ 0 < d.1 ∧ d.1 ≤ 90000000 := fun d hd => ok.each d (List.mem_of_mem_take hd)
      have ll := linesM_len okt
      rw [List.length_take] at ll
      obtain ⟨pt, v1, v2, al, ws, rfl, hpt, d1, d2, hal, dws⟩ := dC_at dc
      have dwl : ws.length = c.2.2.2.length := by rw [dpa_len dws, List.length_map]
      have wn := okc.wn
      have a1 := mix_len okc.tb.bd
      have a2 := mix_len okc.te.bd
      have a3 := sI_len (i := c.1) (by omega) (by omega)
      refine ⟨pt, _, rfl, Same.tup s1 hpt, rfl, _, _, rfl, _, _, rfl, _, _, rfl, _, _, rfl, rfl, ?_⟩
      refine ⟨_, rfl, _, rfl, lg (by omega) (by omega), _, _, rfl, rfl, szl (show ("cue " : Str).length + (sI c.1).length ≤ 1000 by rw [e1]; omega), ?_⟩
      refine ⟨_, _, rfl, rfl, szl (show (("cue " : Str) ++ sI c.1).length + (" from " : Str).length ≤ 1000 by rw [slen, e1, e2]; omega), ?_⟩
      refine ⟨_, rfl, _, c.2.1, rfl, dp_mono s1 _ _ d1, okc.tb.bd, _, _, rfl, rfl, szl (show ((("cue " : Str) ++ sI c.1) ++ (" from " : Str)).length + (mixT c.2.1).length ≤ 1000 by rw [slen, slen, e1, e2]; omega), ?_⟩
      refine ⟨_, rfl, .inl ⟨rfl, _, .inl (.inl hr1)⟩, ?_⟩
      refine ⟨_, rfl, _, _, rfl, rfl, szl (show (((("cue " : Str) ++ sI c.1) ++ (" from " : Str)) ++ mixT c.2.1).length + ("f to " : Str).length ≤ 1000 by rw [slen, slen, slen, e1, e2, e7]; omega), ?_⟩
      refine ⟨_, rfl, _, c.2.2.1, rfl, dp_mono s1 _ _ d2, okc.te.bd, _, _, rfl, rfl, szl (show ((((("cue " : Str) ++ sI c.1) ++ (" from " : Str)) ++ mixT c.2.1) ++ ("f to " : Str)).length + (mixT c.2.2.1).length ≤ 1000 by rw [slen, slen, slen, slen, e1, e2, e7]; omega), ?_⟩
      refine ⟨_, _, rfl, rfl, szl (show (((((("cue " : Str) ++ sI c.1) ++ (" from " : Str)) ++ mixT c.2.1) ++ ("f to " : Str)) ++ mixT c.2.2.1).length + ("f" : Str).length ≤ 1000 by rw [slen, slen, slen, slen, slen, e1, e2, e7, e6]; omega), ?_⟩
      have eC : (((((("cue " : Str) ++ sI c.1) ++ (" from " : Str)) ++ mixT c.2.1) ++ ("f to " : Str)) ++ mixT c.2.2.1) ++ ("f" : Str) = lineC c := by
        unfold lineC framesT
        rw [show ("f to " : Str) = ("f" : Str) ++ (" to " : Str) by decide +kernel]
        simp only [sapp]
      refine ⟨r, _, .str (lineC c), rfl, congrArg (fun z => [V.str z]) eC, hr1, small1000 (by rw [List.length_map]; omega), ?_⟩
      have s2 : Same H (upd H' r (.lst ((linesM (cs.take i)).map V.str ++ [.str (lineC c)]))) := fun b o hb => by
        rw [upd_ne (ne_of_none hb hr0)]
        exact s1 _ _ hb
      have hr2 : (upd H' r (.lst ((linesM (cs.take i)).map V.str ++ [.str (lineC c)]))) r = some (.lst ((linesM (cs.take i)).map V.str ++ [.str (lineC c)])) := upd_same
      generalize upd H' r (.lst ((linesM (cs.take i)).map V.str ++ [.str (lineC c)])) = H2 at s2 hr2 ⊢
      -- the words' lines
      refine ⟨_, rfl, _, rfl, al, rfl, ⟨_, s2.seq hal⟩, fun D hD => ?_⟩
      have sD := Same.new (o := .lst []) hD
      refine lc_list (K := K) (a := al) (xs := ws) (fun j H'' => ∃ acc, H'' D = some (.lst acc) ∧ Same H2 (hid D D H'') ∧ acc = ((c.2.2.2.take j).map lineW).map V.str) ⟨[], upd_same, hid_old sD hD, rfl⟩ (fun j H'' hj h => ?_) (fun j y H'' hy h => ?_) (fun H'' h => ?_)
      · obtain ⟨acc, hd, s3, ea⟩ := h
        exact (s2.trans (s3.trans hid_same)).seq hal
      · obtain ⟨acc, hd, s3, ea⟩ := h
        have s3' := s2.trans (s3.trans hid_same)
        obtain ⟨x, hx, dx⟩ := dpa_map dws hy
        have hj : j < c.2.2.2.length := (List.getElem?_eq_some_iff.mp hx).1
        obtain ⟨wok, wtb, _⟩ := okc.ws x (List.mem_of_getElem? hx)
        obtain ⟨px, vt, rfl, hpx, dt⟩ := dW_at (dp_mono s3' _ _ dx)
        have b1 := mix_len wtb.bd
        have b2 := wok.l20
        refine ⟨px, _, rfl, hpx, rfl, _, _, rfl, _, _, rfl, rfl, rfl, ?_⟩
        refine ⟨_, rfl, _, _, rfl, rfl, szl (show ("  " : Str).length + x.1.length ≤ 1000 by rw [e4]; omega), ?_⟩
        refine ⟨_, _, rfl, rfl, szl (show (("  " : Str) ++ x.1).length + (" at " : Str).length ≤ 1000 by rw [slen, e4, e5]; omega), ?_⟩
        refine ⟨_, rfl, _, x.2, rfl, dt, wtb.bd, _, _, rfl, rfl, szl (show ((("  " : Str) ++ x.1) ++ (" at " : Str)).length + (mixT x.2).length ≤ 1000 by rw [slen, slen, e4, e5]; omega), ?_⟩
        refine ⟨_, _, rfl, rfl, szl (show (((("  " : Str) ++ x.1) ++ (" at " : Str)) ++ mixT x.2).length + ("f" : Str).length ≤ 1000 by rw [slen, slen, slen, e4, e5, e6]; omega), ?_⟩
        have eW : (((("  " : Str) ++ x.1) ++ (" at " : Str)) ++ mixT x.2) ++ ("f" : Str) = lineW x := by
          unfold lineW framesT
          simp only [sapp]
        refine ⟨acc, hd, small1000 (by rw [ea, List.length_map, List.length_map, List.length_take]; omega), acc ++ [V.str (((((("  " : Str) ++ x.1) ++ (" at " : Str)) ++ mixT x.2)) ++ ("f" : Str))], upd_same, ?_, ?_⟩
        · rw [hid_b]
          exact s3
        · rw [eW, take_more hx, ea]
          simp
      · obtain ⟨acc, hd, s3, ea⟩ := h
        have s3' : Same H2 H'' := s3.trans hid_same
        rw [dwl, List.take_length] at ea
        subst ea
        refine ⟨r, D, _, _, rfl, rfl, s3' _ _ hr2, hd, Nat.le_trans (show ((linesM (cs.take i)).map V.str ++ [V.str (lineC c)]).length + ((c.2.2.2.map lineW).map V.str).length ≤ 1000 by rw [List.length_append, List.length_map, List.length_map, List.length_map]; show _ + 1 + _ ≤ 1000; omega) (by decide), fun pn hn => ?_⟩
        have t4 := Same.new (o := .lst ((linesM (cs.take i)).map V.str ++ [V.str (lineC c)] ++ (c.2.2.2.map lineW).map V.str)) hn
        refine ⟨pn, _, _, _, _, _, rfl, (s2.trans s3').trans t4, (s2.trans s3').free hn, ?_⟩
        rw [upd_same, linesM_more hc]
        unfold linesOf
        simp
    · obtain ⟨r, c2, c3, c4, c5, c6, rfl, s1, hr0, hr1⟩ := h
      rw [el, List.take_length] at hr1
      exact ⟨_, rfl, q _ r s1 hr0 hr1⟩
theorem cues_dp {K : PySem.W.Frag} {b l p : Addr} {H : Hp} {ys : List V} {cs : List Cue} (hp : hid b l H p = some (.lst ys)) (da : DpAll K (R.hidL [b, l, p] H) ys (cs.map dC)) : Dp K H (.ref p) (dCs cs) := .lst (.inl (.inl (hid_same _ _ hp))) (dpa_mono hidL_same _ _ da)
def spLaw (K : PySem.W.Frag) : Sp := fun vs H Q _ => ∃ (a : Addr) (ns : List Int), vs = [.ref a] ∧ SqL K H a (ns.map V.int) ∧ ns.length ≤ 63 ∧ ∀ H', Q (.bl true) H'
theorem ok_law {f : Addr} {fd : FuncData} (F : Fun K "law" "law" s_law f fd) (T : Txt K mg) : FnOk P w K mg base CX0 5 f fd ["_law_script"] (spLaw K) := by
  have c_Lbegun := cl_Lbegun (P := P) (w := w) (base := base) T
  have c_Lcues := cl_Lcues (P := P) (w := w) (base := base) T
  have c_written := cl_written (P := P) (w := w) (base := base) T
  have c_Llines := cl_Llines (P := P) (w := w) (base := base) T
  have c_Lalike := cl_Lalike (P := P) (w := w) (base := base) T 2
  refine F.ok sc_law (fun vs H Q E h => ?_) (fun cdv A outer s H vs Q E hr h => ?_)
  · obtain ⟨a, ns, rfl, _⟩ := h
    rfl
  · obtain ⟨a, ns, rfl, hS, hlen, q⟩ := h
    refine ⟨_, (pss_cons (ps_set (i := 1) sc_law.nd rfl (.inl rfl) (pe_cl c_Lbegun hr (by decide) (by rfl) (pa_cons (pv 0) pa_nil)))
      (pss_cons (ps_set (i := 2) sc_law.nd rfl (.inl rfl) (pe_cl c_Lcues hr (by decide) (by rfl) (pa_cons (pv 1) pa_nil)))
      (pss_one (ps_ret (pe_cl c_Lalike hr (by decide) (by rfl) (pa_cons (pe_cl c_written hr (by decide) (by rfl) (pa_cons (pv 2) pa_nil)) (pa_cons (pe_join pe_str (pe_cl c_Llines hr (by decide) (by rfl) (pa_cons (pv 2) pa_nil))) pa_nil))))))), ?_⟩
    refine ⟨_, rfl, a, ns, rfl, hS, fun H1 b l s1 nb nl B1 => ?_⟩
    refine ⟨_, rfl, b, l, rfl, B1, fun H2 p ys cs s2 B2 np hp da ok => ?_⟩
    have dc := cues_dp hp da
    refine ⟨_, rfl, _, cs, rfl, dc, ok, fun H3 s3 => ?_⟩
    have l1 := linesM_len ok.each
    have l2 := sum_le (linesM_each ok.each)
    have l3 := ok.len
    refine ⟨⟨_, rfl⟩, _, rfl, _, cs, rfl, dp_mono s3 _ _ dc, ok, fun H4 p4 s4 n4 h4 => ?_⟩
    refine ⟨_, p4, linesM cs, rfl, rfl, .inl (.inl (.inl h4)), ?_, ?_⟩
    · rw [slen_lit.2.2.2.2.2.2.2]
      omega
    · rw [TL.join_eq]
      exact ⟨_, _, _, rfl, .str _, .str _, (show 0 < 2 by decide), rfl, q _⟩
end
theorem txt_mk {K : PySem.W.Frag} {h : Heap} {mg : Str → Option Value} (X : K.In h) (G : h.Ns mainGlobals mg)
    {f0 : Addr} {od0 an0 : Option Addr} {sl0 : Array (Option Value)} {oc0 kV0 dc0 pm0 cd0 ct0 : Value}
    (a0 : PySem.W.nsIn K mainGlobals "with_rest" = some (some (.ref f0))) (l0 : K.lookup f0 = some ⟨oc0, od0, .func (PySem.W.fnOf "with_rest" "with_rest" (defArgs s_with_rest) (defBody s_with_rest) (defScope s_with_rest) .none kV0 dc0 pm0 an0 cd0 ct0), sl0⟩) (c0 : PySem.W.codeIn K cd0 "with_rest" = true) (k0 : PySem.W.keepIn K (.ref f0) = true)
    {f1 : Addr} {od1 an1 : Option Addr} {sl1 : Array (Option Value)} {oc1 kV1 dc1 pm1 cd1 ct1 : Value}
    (a1 : PySem.W.nsIn K mainGlobals "as_mixed" = some (some (.ref f1))) (l1 : K.lookup f1 = some ⟨oc1, od1, .func (PySem.W.fnOf "as_mixed" "as_mixed" (defArgs s_as_mixed) (defBody s_as_mixed) (defScope s_as_mixed) .none kV1 dc1 pm1 an1 cd1 ct1), sl1⟩) (c1 : PySem.W.codeIn K cd1 "as_mixed" = true) (k1 : PySem.W.keepIn K (.ref f1) = true)
    {f2 : Addr} {od2 an2 : Option Addr} {sl2 : Array (Option Value)} {oc2 kV2 dc2 pm2 cd2 ct2 : Value}
    (a2 : PySem.W.nsIn K mainGlobals "as_frames" = some (some (.ref f2))) (l2 : K.lookup f2 = some ⟨oc2, od2, .func (PySem.W.fnOf "as_frames" "as_frames" (defArgs s_as_frames) (defBody s_as_frames) (defScope s_as_frames) .none kV2 dc2 pm2 an2 cd2 ct2), sl2⟩) (c2 : PySem.W.codeIn K cd2 "as_frames" = true) (k2 : PySem.W.keepIn K (.ref f2) = true)
    {f3 : Addr} {od3 an3 : Option Addr} {sl3 : Array (Option Value)} {oc3 kV3 dc3 pm3 cd3 ct3 : Value}
    (a3 : PySem.W.nsIn K mainGlobals "written" = some (some (.ref f3))) (l3 : K.lookup f3 = some ⟨oc3, od3, .func (PySem.W.fnOf "written" "written" (defArgs s_written) (defBody s_written) (defScope s_written) .none kV3 dc3 pm3 an3 cd3 ct3), sl3⟩) (c3 : PySem.W.codeIn K cd3 "written" = true) (k3 : PySem.W.keepIn K (.ref f3) = true)
    {f4 : Addr} {od4 an4 : Option Addr} {sl4 : Array (Option Value)} {oc4 kV4 dc4 pm4 cd4 ct4 : Value}
    (a4 : PySem.W.nsIn K mainGlobals "_law_begun" = some (some (.ref f4))) (l4 : K.lookup f4 = some ⟨oc4, od4, .func (PySem.W.fnOf "_law_begun" "_law_begun" (defArgs s_Lbegun) (defBody s_Lbegun) (defScope s_Lbegun) .none kV4 dc4 pm4 an4 cd4 ct4), sl4⟩) (c4 : PySem.W.codeIn K cd4 "_law_begun" = true) (k4 : PySem.W.keepIn K (.ref f4) = true)
    {f5 : Addr} {od5 an5 : Option Addr} {sl5 : Array (Option Value)} {oc5 kV5 dc5 pm5 cd5 ct5 : Value}
    (a5 : PySem.W.nsIn K mainGlobals "_law_take" = some (some (.ref f5))) (l5 : K.lookup f5 = some ⟨oc5, od5, .func (PySem.W.fnOf "_law_take" "_law_take" (defArgs s_Ltake) (defBody s_Ltake) (defScope s_Ltake) .none kV5 dc5 pm5 an5 cd5 ct5), sl5⟩) (c5 : PySem.W.codeIn K cd5 "_law_take" = true) (k5 : PySem.W.keepIn K (.ref f5) = true)
    {f6 : Addr} {od6 an6 : Option Addr} {sl6 : Array (Option Value)} {oc6 kV6 dc6 pm6 cd6 ct6 : Value}
    (a6 : PySem.W.nsIn K mainGlobals "_law_alike" = some (some (.ref f6))) (l6 : K.lookup f6 = some ⟨oc6, od6, .func (PySem.W.fnOf "_law_alike" "_law_alike" (defArgs s_Lalike) (defBody s_Lalike) (defScope s_Lalike) .none kV6 dc6 pm6 an6 cd6 ct6), sl6⟩) (c6 : PySem.W.codeIn K cd6 "_law_alike" = true) (k6 : PySem.W.keepIn K (.ref f6) = true)
    {f7 : Addr} {od7 an7 : Option Addr} {sl7 : Array (Option Value)} {oc7 kV7 dc7 pm7 cd7 ct7 : Value}
    (a7 : PySem.W.nsIn K mainGlobals "_law_fr" = some (some (.ref f7))) (l7 : K.lookup f7 = some ⟨oc7, od7, .func (PySem.W.fnOf "_law_fr" "_law_fr" (defArgs s_Lfr) (defBody s_Lfr) (defScope s_Lfr) .none kV7 dc7 pm7 an7 cd7 ct7), sl7⟩) (c7 : PySem.W.codeIn K cd7 "_law_fr" = true) (k7 : PySem.W.keepIn K (.ref f7) = true)
    {f8 : Addr} {od8 an8 : Option Addr} {sl8 : Array (Option Value)} {oc8 kV8 dc8 pm8 cd8 ct8 : Value}
    (a8 : PySem.W.nsIn K mainGlobals "_law_sum" = some (some (.ref f8))) (l8 : K.lookup f8 = some ⟨oc8, od8, .func (PySem.W.fnOf "_law_sum" "_law_sum" (defArgs s_Lsum) (defBody s_Lsum) (defScope s_Lsum) .none kV8 dc8 pm8 an8 cd8 ct8), sl8⟩) (c8 : PySem.W.codeIn K cd8 "_law_sum" = true) (k8 : PySem.W.keepIn K (.ref f8) = true)
    {f9 : Addr} {od9 an9 : Option Addr} {sl9 : Array (Option Value)} {oc9 kV9 dc9 pm9 cd9 ct9 : Value}
    (a9 : PySem.W.nsIn K mainGlobals "_law_minus" = some (some (.ref f9))) (l9 : K.lookup f9 = some ⟨oc9, od9, .func (PySem.W.fnOf "_law_minus" "_law_minus" (defArgs s_Lminus) (defBody s_Lminus) (defScope s_Lminus) .none kV9 dc9 pm9 an9 cd9 ct9), sl9⟩) (c9 : PySem.W.codeIn K cd9 "_law_minus" = true) (k9 : PySem.W.keepIn K (.ref f9) = true)
    {f10 : Addr} {od10 an10 : Option Addr} {sl10 : Array (Option Value)} {oc10 kV10 dc10 pm10 cd10 ct10 : Value}
    (a10 : PySem.W.nsIn K mainGlobals "_law_times" = some (some (.ref f10))) (l10 : K.lookup f10 = some ⟨oc10, od10, .func (PySem.W.fnOf "_law_times" "_law_times" (defArgs s_Ltimes) (defBody s_Ltimes) (defScope s_Ltimes) .none kV10 dc10 pm10 an10 cd10 ct10), sl10⟩) (c10 : PySem.W.codeIn K cd10 "_law_times" = true) (k10 : PySem.W.keepIn K (.ref f10) = true)
    {f11 : Addr} {od11 an11 : Option Addr} {sl11 : Array (Option Value)} {oc11 kV11 dc11 pm11 cd11 ct11 : Value}
    (a11 : PySem.W.nsIn K mainGlobals "_law_time" = some (some (.ref f11))) (l11 : K.lookup f11 = some ⟨oc11, od11, .func (PySem.W.fnOf "_law_time" "_law_time" (defArgs s_Ltime) (defBody s_Ltime) (defScope s_Ltime) .none kV11 dc11 pm11 an11 cd11 ct11), sl11⟩) (c11 : PySem.W.codeIn K cd11 "_law_time" = true) (k11 : PySem.W.keepIn K (.ref f11) = true)
    {f12 : Addr} {od12 an12 : Option Addr} {sl12 : Array (Option Value)} {oc12 kV12 dc12 pm12 cd12 ct12 : Value}
    (a12 : PySem.W.nsIn K mainGlobals "_law_cue" = some (some (.ref f12))) (l12 : K.lookup f12 = some ⟨oc12, od12, .func (PySem.W.fnOf "_law_cue" "_law_cue" (defArgs s_Lcue) (defBody s_Lcue) (defScope s_Lcue) .none kV12 dc12 pm12 an12 cd12 ct12), sl12⟩) (c12 : PySem.W.codeIn K cd12 "_law_cue" = true) (k12 : PySem.W.keepIn K (.ref f12) = true)
    {f13 : Addr} {od13 an13 : Option Addr} {sl13 : Array (Option Value)} {oc13 kV13 dc13 pm13 cd13 ct13 : Value}
    (a13 : PySem.W.nsIn K mainGlobals "_law_cues" = some (some (.ref f13))) (l13 : K.lookup f13 = some ⟨oc13, od13, .func (PySem.W.fnOf "_law_cues" "_law_cues" (defArgs s_Lcues) (defBody s_Lcues) (defScope s_Lcues) .none kV13 dc13 pm13 an13 cd13 ct13), sl13⟩) (c13 : PySem.W.codeIn K cd13 "_law_cues" = true) (k13 : PySem.W.keepIn K (.ref f13) = true)
    {f14 : Addr} {od14 an14 : Option Addr} {sl14 : Array (Option Value)} {oc14 kV14 dc14 pm14 cd14 ct14 : Value}
    (a14 : PySem.W.nsIn K mainGlobals "_law_mixed" = some (some (.ref f14))) (l14 : K.lookup f14 = some ⟨oc14, od14, .func (PySem.W.fnOf "_law_mixed" "_law_mixed" (defArgs s_Lmixed) (defBody s_Lmixed) (defScope s_Lmixed) .none kV14 dc14 pm14 an14 cd14 ct14), sl14⟩) (c14 : PySem.W.codeIn K cd14 "_law_mixed" = true) (k14 : PySem.W.keepIn K (.ref f14) = true)
    {f15 : Addr} {od15 an15 : Option Addr} {sl15 : Array (Option Value)} {oc15 kV15 dc15 pm15 cd15 ct15 : Value}
    (a15 : PySem.W.nsIn K mainGlobals "_law_lines" = some (some (.ref f15))) (l15 : K.lookup f15 = some ⟨oc15, od15, .func (PySem.W.fnOf "_law_lines" "_law_lines" (defArgs s_Llines) (defBody s_Llines) (defScope s_Llines) .none kV15 dc15 pm15 an15 cd15 ct15), sl15⟩) (c15 : PySem.W.codeIn K cd15 "_law_lines" = true) (k15 : PySem.W.keepIn K (.ref f15) = true)
    {f16 : Addr} {od16 an16 : Option Addr} {sl16 : Array (Option Value)} {oc16 kV16 dc16 pm16 cd16 ct16 : Value}
    (a16 : PySem.W.nsIn K mainGlobals "law" = some (some (.ref f16))) (l16 : K.lookup f16 = some ⟨oc16, od16, .func (PySem.W.fnOf "law" "law" (defArgs s_law) (defBody s_law) (defScope s_law) .none kV16 dc16 pm16 an16 cd16 ct16), sl16⟩) (c16 : PySem.W.codeIn K cd16 "law" = true) (k16 : PySem.W.keepIn K (.ref f16) = true)
    (z_list : PySem.W.nsIn K mainGlobals "list" = some none)
    (z_int : PySem.W.nsIn K mainGlobals "int" = some none)
    (z_len : PySem.W.nsIn K mainGlobals "len" = some none)
    (z_isinstance : PySem.W.nsIn K mainGlobals "isinstance" = some none)
    (z_bool : PySem.W.nsIn K mainGlobals "bool" = some none)
    (z_str : PySem.W.nsIn K mainGlobals "str" = some none)
    (z_tuple : PySem.W.nsIn K mainGlobals "tuple" = some none)
    (z_range : PySem.W.nsIn K mainGlobals "range" = some none)
    (z_abs : PySem.W.nsIn K mainGlobals "abs" = some none)
    (z_sorted : PySem.W.nsIn K mainGlobals "sorted" = some none)
    {t_CUE : Tok} (y_CUE : PySem.W.nsIn K mainGlobals "CUE" = some (some (.str "cue " t_CUE)))
    {t_WORD : Tok} (y_WORD : PySem.W.nsIn K mainGlobals "WORD" = some (some (.str "  " t_WORD))) : Txt K mg := by
  constructor
  · exact ⟨_, _, fun_mk (st := s_with_rest) l0 c0 k0, PySem.W.mg_of X G a0, (fun_mk (st := s_with_rest) l0 c0 k0).binds (ps := ["whole", "top", "bottom"]) fun _ _ _ _ _ _ us hl => match us, hl with | [_, _, _], _ => rfl⟩
  · exact ⟨_, _, fun_mk (st := s_as_mixed) l1 c1 k1, PySem.W.mg_of X G a1, (fun_mk (st := s_as_mixed) l1 c1 k1).binds (ps := ["fraction"]) fun _ _ _ _ _ _ us hl => match us, hl with | [_], _ => rfl⟩
  · exact ⟨_, _, fun_mk (st := s_as_frames) l2 c2 k2, PySem.W.mg_of X G a2, (fun_mk (st := s_as_frames) l2 c2 k2).binds (ps := ["time"]) fun _ _ _ _ _ _ us hl => match us, hl with | [_], _ => rfl⟩
  · exact ⟨_, _, fun_mk (st := s_written) l3 c3 k3, PySem.W.mg_of X G a3, (fun_mk (st := s_written) l3 c3 k3).binds (ps := ["cues"]) fun _ _ _ _ _ _ us hl => match us, hl with | [_], _ => rfl⟩
  · exact ⟨_, _, fun_mk (st := s_Lbegun) l4 c4 k4, PySem.W.mg_of X G a4, (fun_mk (st := s_Lbegun) l4 c4 k4).binds (ps := ["_law_script"]) fun _ _ _ _ _ _ us hl => match us, hl with | [_], _ => rfl⟩
  · exact ⟨_, _, fun_mk (st := s_Ltake) l5 c5 k5, PySem.W.mg_of X G a5, (fun_mk (st := s_Ltake) l5 c5 k5).binds (ps := ["_law_box", "_law_many"]) fun _ _ _ _ _ _ us hl => match us, hl with | [_, _], _ => rfl⟩
  · exact ⟨_, _, fun_mk (st := s_Lalike) l6 c6 k6, PySem.W.mg_of X G a6, (fun_mk (st := s_Lalike) l6 c6 k6).binds (ps := ["_law_found", "_law_due"]) fun _ _ _ _ _ _ us hl => match us, hl with | [_, _], _ => rfl⟩
  · exact ⟨_, _, fun_mk (st := s_Lfr) l7 c7 k7, PySem.W.mg_of X G a7, (fun_mk (st := s_Lfr) l7 c7 k7).binds (ps := ["_law_top", "_law_bottom"]) fun _ _ _ _ _ _ us hl => match us, hl with | [_, _], _ => rfl⟩
  · exact ⟨_, _, fun_mk (st := s_Lsum) l8 c8 k8, PySem.W.mg_of X G a8, (fun_mk (st := s_Lsum) l8 c8 k8).binds (ps := ["_law_one", "_law_two"]) fun _ _ _ _ _ _ us hl => match us, hl with | [_, _], _ => rfl⟩
  · exact ⟨_, _, fun_mk (st := s_Lminus) l9 c9 k9, PySem.W.mg_of X G a9, (fun_mk (st := s_Lminus) l9 c9 k9).binds (ps := ["_law_one", "_law_two"]) fun _ _ _ _ _ _ us hl => match us, hl with | [_, _], _ => rfl⟩
  · exact ⟨_, _, fun_mk (st := s_Ltimes) l10 c10 k10, PySem.W.mg_of X G a10, (fun_mk (st := s_Ltimes) l10 c10 k10).binds (ps := ["_law_one", "_law_two"]) fun _ _ _ _ _ _ us hl => match us, hl with | [_, _], _ => rfl⟩
  · exact ⟨_, _, fun_mk (st := s_Ltime) l11 c11 k11, PySem.W.mg_of X G a11, (fun_mk (st := s_Ltime) l11 c11 k11).binds (ps := ["_law_box", "_law_most"]) fun _ _ _ _ _ _ us hl => match us, hl with | [_, _], _ => rfl⟩
  · exact ⟨_, _, fun_mk (st := s_Lcue) l12 c12 k12, PySem.W.mg_of X G a12, (fun_mk (st := s_Lcue) l12 c12 k12).binds (ps := ["_law_box", "_law_number"]) fun _ _ _ _ _ _ us hl => match us, hl with | [_, _], _ => rfl⟩
  · exact ⟨_, _, fun_mk (st := s_Lcues) l13 c13 k13, PySem.W.mg_of X G a13, (fun_mk (st := s_Lcues) l13 c13 k13).binds (ps := ["_law_box"]) fun _ _ _ _ _ _ us hl => match us, hl with | [_], _ => rfl⟩
  · exact ⟨_, _, fun_mk (st := s_Lmixed) l14 c14 k14, PySem.W.mg_of X G a14, (fun_mk (st := s_Lmixed) l14 c14 k14).binds (ps := ["_law_time_here"]) fun _ _ _ _ _ _ us hl => match us, hl with | [_], _ => rfl⟩
  · exact ⟨_, _, fun_mk (st := s_Llines) l15 c15 k15, PySem.W.mg_of X G a15, (fun_mk (st := s_Llines) l15 c15 k15).binds (ps := ["_law_cues_here"]) fun _ _ _ _ _ _ us hl => match us, hl with | [_], _ => rfl⟩
  · exact ⟨_, _, fun_mk (st := s_law) l16 c16 k16, PySem.W.mg_of X G a16, (fun_mk (st := s_law) l16 c16 k16).binds (ps := ["_law_script"]) fun _ _ _ _ _ _ us hl => match us, hl with | [_], _ => rfl⟩
  · exact PySem.W.mg_none_of X G z_list
  · exact PySem.W.mg_none_of X G z_int
  · exact PySem.W.mg_none_of X G z_len
  · exact PySem.W.mg_none_of X G z_isinstance
  · exact PySem.W.mg_none_of X G z_bool
  · exact PySem.W.mg_none_of X G z_str
  · exact PySem.W.mg_none_of X G z_tuple
  · exact PySem.W.mg_none_of X G z_range
  · exact PySem.W.mg_none_of X G z_abs
  · exact PySem.W.mg_none_of X G z_sorted
  · exact ⟨_, PySem.W.mg_of X G y_CUE, ⟨_, rfl⟩⟩
  · exact ⟨_, PySem.W.mg_of X G y_WORD, ⟨_, rfl⟩⟩
theorem law_mk {l : PySem.W.OpenLaw} {w : World} {K : PySem.W.Frag} {h : Heap} {mg : Str → Option Value} {fa f2 : Addr} (X : K.In h) (G : h.Ns mainGlobals mg) (hfa : mg "law" = some (.ref fa)) (T : Txt K mg)
    {od2 an2 : Option Addr} {sl2 : Array (Option Value)} {oc2 kV2 dc2 pm2 cd2 ct2 : Value}
    (a2 : PySem.W.nsIn K mainGlobals "law" = some (some (.ref f2))) (l2 : K.lookup f2 = some ⟨oc2, od2, .func (PySem.W.fnOf "law" "law" (defArgs s_law) (defBody s_law) (defScope s_law) .none kV2 dc2 pm2 an2 cd2 ct2), sl2⟩) (c2 : PySem.W.codeIn K cd2 "law" = true) (k2 : PySem.W.keepIn K (.ref f2) = true) :
    ∃ fd : FuncData, (∀ (s : Shared) (v : Value), BindsTo s fd ⟨[v], []⟩ [("_law_script", v)]) ∧ ∀ base : Heap, K.In base → base.Ns mainGlobals mg → FnOk l.prog w K mg base CX0 5 fa fd ["_law_script"] (spLaw K) := by
  have e := hfa.symm.trans (PySem.W.mg_of X G a2)
  cases e
  exact ⟨PySem.W.fnOf "law" "law" (defArgs s_law) (defBody s_law) (defScope s_law) .none kV2 dc2 pm2 an2 cd2 ct2, fun s v => .of_eq rfl, fun base _ _ => ok_law (fun_mk (st := s_law) l2 c2 k2) T⟩
end R
open PySem PySem.W PyProof.Rows
set_option maxHeartbeats 0 in
theorem PySem.Challenge.cw_reels_k17_cues_written_holds : PySem.Challenge.rw_reels_k17_cues_written.Holds := by
  w_on; o_law; k_head; (case hw => w_witness2)
  k_fill
  refine L2.walk_of (l := PySem.Challenge.rw_reels_k17_cues_written) (n := 63) (k := 5) (x := "_law_script") (CX := fun _ => L2.CX0) (sp := fun w => R.spLaw _) rfl (by decide) rfl ⟨rfl, by decide, by decide⟩ (fun w h Y => PySem.W.kIn_of Y) ?F (fun _ _ a ns hl _ hS => ⟨a, ns, rfl, hS, hl, fun _ => rfl⟩) (fun _ _ _ _ _ h => h)
  case F =>
    intro w mg fa h KX G hmg
    refine' R.law_mk KX G hmg (R.txt_mk KX G ?a0 ?l0 ?c0 ?k0 ?a1 ?l1 ?c1 ?k1 ?a2 ?l2 ?c2 ?k2 ?a3 ?l3 ?c3 ?k3 ?a4 ?l4 ?c4 ?k4 ?a5 ?l5 ?c5 ?k5 ?a6 ?l6 ?c6 ?k6 ?a7 ?l7 ?c7 ?k7 ?a8 ?l8 ?c8 ?k8 ?a9 ?l9 ?c9 ?k9 ?a10 ?l10 ?c10 ?k10 ?a11 ?l11 ?c11 ?k11 ?a12 ?l12 ?c12 ?k12 ?a13 ?l13 ?c13 ?k13 ?a14 ?l14 ?c14 ?k14 ?a15 ?l15 ?c15 ?k15 ?a16 ?l16 ?c16 ?k16 ?z_list ?z_int ?z_len ?z_isinstance ?z_bool ?z_str ?z_tuple ?z_range ?z_abs ?z_sorted    ?y_CUE ?y_WORD) ?a16 ?l16 ?c16 ?k16
    (case a0 => k_is); (case l0 => k_is); (case c0 => k_is); (case k0 => k_is); (case a1 => k_is); (case l1 => k_is); (case c1 => k_is); (case k1 => k_is); (case a2 => k_is); (case l2 => k_is); (case c2 => k_is); (case k2 => k_is); (case a3 => k_is); (case l3 => k_is); (case c3 => k_is); (case k3 => k_is); (case a4 => k_is); (case l4 => k_is); (case c4 => k_is); (case k4 => k_is); (case a5 => k_is); (case l5 => k_is); (case c5 => k_is); (case k5 => k_is); (case a6 => k_is); (case l6 => k_is); (case c6 => k_is); (case k6 => k_is); (case a7 => k_is); (case l7 => k_is); (case c7 => k_is); (case k7 => k_is); (case a8 => k_is); (case l8 => k_is); (case c8 => k_is); (case k8 => k_is); (case a9 => k_is); (case l9 => k_is); (case c9 => k_is); (case k9 => k_is); (case a10 => k_is); (case l10 => k_is); (case c10 => k_is); (case k10 => k_is); (case a11 => k_is); (case l11 => k_is); (case c11 => k_is); (case k11 => k_is); (case a12 => k_is); (case l12 => k_is); (case c12 => k_is); (case k12 => k_is); (case a13 => k_is); (case l13 => k_is); (case c13 => k_is); (case k13 => k_is); (case a14 => k_is); (case l14 => k_is); (case c14 => k_is); (case k14 => k_is); (case a15 => k_is); (case l15 => k_is); (case c15 => k_is); (case k15 => k_is); (case a16 => k_is); (case l16 => k_is); (case c16 => k_is); (case k16 => k_is)
    (case z_list => k_is); (case z_int => k_is); (case z_len => k_is); (case z_isinstance => k_is); (case z_bool => k_is); (case z_str => k_is); (case z_tuple => k_is); (case z_range => k_is); (case z_abs => k_is); (case z_sorted => k_is)
    (case y_CUE => k_is); (case y_WORD => k_is)
