import PyProof.Rows.All
import Wide.All
import OpenK.AllK
import Wide.FinOn
import HandS.ForMost
import HandS.IsInst
import HandS.Wide
import HandS.FStr
import PyProof.FString3
import PyProof.Rows.StrIntSpec
import HandS.Sort
import HandS.SortOrd
import KE.SortData
import KE.SortKeyHeap
import HandS.ForExc
import HandS.ExcIs
import HandS.AnyAll
import HandS.EndTab
import HandS.EndOwn
import KE.KNestM
import HandS.Nested
import HandS.Words
import PyProof.SumAny
import PyProof.GenCompT
import PyProof.WalksPairs
import HandS.Walk
import HandS.Style
import HandS.Zip
import PyProof.StrOps2
import HandS.Evl
import PySem.Challenge.RW_reels_k16_whole_none_is_cheaper
set_option Elab.async false
set_option linter.all false
set_option maxRecDepth 100000
set_option maxHeartbeats 4000000
namespace R
/-! the greatest common divisor as the loops reckon it, and fractions as Rat -/
theorem fmod_nat (a b : Nat) : ((a : Int).fmod (b : Int)) = ((a % b : Nat) : Int) := by
  rw [Int.fmod_eq_emod_of_nonneg _ (by omega)]
  rfl
theorem gcd_turn (a b : Nat) : Nat.gcd b (a % b) = Nat.gcd a b := by
  rw [Nat.gcd_comm a b, Nat.gcd_rec b a, Nat.gcd_comm]
theorem gcd_pos {t b : Int} (h : b ≠ 0) : 0 < Nat.gcd t.natAbs b.natAbs := Nat.gcd_pos_of_pos_right _ (by omega)
theorem abs_nat (i : Int) : (if i < 0 then -i else i) = (i.natAbs : Int) := by
  split <;> omega
def frI (t b : Int) : Int := if b < 0 then -(Nat.gcd t.natAbs b.natAbs : Int) else (Nat.gcd t.natAbs b.natAbs : Int)
theorem frI_ne {t b : Int} (h : b ≠ 0) : frI t b ≠ 0 := by
  have := gcd_pos (t := t) h
  unfold frI
  split <;> omega
theorem frI_dt (t b : Int) : frI t b ∣ t := by
  have h : ((Nat.gcd t.natAbs b.natAbs : Nat) : Int) ∣ t := Int.ofNat_dvd_left.mpr (Nat.gcd_dvd_left _ _)
  unfold frI
  split
  · exact Int.neg_dvd.mpr h
  · exact h
theorem frI_db (t b : Int) : frI t b ∣ b := by
  have h : ((Nat.gcd t.natAbs b.natAbs : Nat) : Int) ∣ b := Int.ofNat_dvd_left.mpr (Nat.gcd_dvd_right _ _)
  unfold frI
  split
  · exact Int.neg_dvd.mpr h
  · exact h
theorem gcd_eq (t b : Int) : (b.gcd t) = Nat.gcd t.natAbs b.natAbs := by
  unfold Int.gcd
  exact Nat.gcd_comm _ _
theorem fdiv_exact {t d : Int} (hd : d ≠ 0) (h : d ∣ t) : t.fdiv d = t / d := by
  obtain ⟨k, rfl⟩ := h
  rw [Int.mul_fdiv_cancel_left _ hd, Int.mul_ediv_cancel_left _ hd]
theorem fr_num {t b : Int} (h : b ≠ 0) : t.fdiv (frI t b) = (Rat.divInt t b).num := by
  rw [fdiv_exact (frI_ne h) (frI_dt t b), Rat.num_divInt, gcd_eq]
  unfold frI
  split
  · rename_i h0
    rw [Int.sign_eq_neg_one_of_neg h0, Int.ediv_neg, Int.neg_one_mul]
    have hd : ((Nat.gcd t.natAbs b.natAbs : Nat) : Int) ∣ t := Int.ofNat_dvd_left.mpr (Nat.gcd_dvd_left _ _)
    rw [Int.neg_ediv_of_dvd hd]
  · rename_i h0
    rw [Int.sign_eq_one_of_pos (by omega), Int.one_mul]
theorem fr_den {t b : Int} (h : b ≠ 0) : b.fdiv (frI t b) = ((Rat.divInt t b).den : Int) := by
  rw [fdiv_exact (frI_ne h) (frI_db t b), Rat.den_divInt, gcd_eq, if_neg h]
  unfold frI
  split
  · rename_i h0
    rw [Int.ediv_neg]
    have hd : ((Nat.gcd t.natAbs b.natAbs : Nat) : Int) ∣ b := Int.ofNat_dvd_left.mpr (Nat.gcd_dvd_right _ _)
    rw [← Int.neg_ediv_of_dvd hd, show -b = ((b.natAbs : Nat) : Int) by omega, ← Int.natCast_ediv]
  · rename_i h0
    rw [show (b / ((Nat.gcd t.natAbs b.natAbs : Nat) : Int)) = (((b.natAbs : Nat) : Int) / ((Nat.gcd t.natAbs b.natAbs : Nat) : Int)) by
      rw [show ((b.natAbs : Nat) : Int) = b by omega], ← Int.natCast_ediv]
theorem frI_natAbs {t b : Int} (h : b ≠ 0) : (frI t b).natAbs ≤ b.natAbs := by
  have h1 : Nat.gcd t.natAbs b.natAbs ≤ b.natAbs := Nat.gcd_le_right _ (by omega)
  unfold frI
  split <;> omega
/-! sums and products of fractions by their parts -/
theorem den_ne (x : Rat) : ((x.den : Nat) : Int) ≠ 0 := by
  have := x.den_nz
  omega
theorem den_pos (x : Rat) : (0 : Int) < ((x.den : Nat) : Int) := by
  have := x.den_nz
  omega
theorem add_parts (x y : Rat) : Rat.divInt (x.num * y.den + y.num * x.den) ((x.den : Int) * y.den) = x + y := by
  conv => rhs; rw [← Rat.num_divInt_den x, ← Rat.num_divInt_den y]
  rw [Rat.divInt_add_divInt _ _ (den_ne x) (den_ne y)]
theorem sub_parts (x y : Rat) : Rat.divInt (x.num * y.den - y.num * x.den) ((x.den : Int) * y.den) = x - y := by
  conv => rhs; rw [← Rat.num_divInt_den x, ← Rat.num_divInt_den y]
  rw [Rat.divInt_sub_divInt _ _ (den_ne x) (den_ne y)]
theorem mul_parts (x y : Rat) : Rat.divInt (x.num * y.num) ((x.den : Int) * y.den) = x * y := by
  conv => rhs; rw [← Rat.num_divInt_den x, ← Rat.num_divInt_den y]
  rw [Rat.divInt_mul_divInt]
theorem div_parts (x y : Rat) : Rat.divInt (x.num * y.den) ((x.den : Int) * y.num) = x / y := by
  rw [Rat.div_def, Rat.inv_def]
  conv => rhs; rw [← Rat.num_divInt_den x]
  rw [Rat.divInt_mul_divInt]
theorem lt_parts (x y : Rat) : decide (x.num * y.den < y.num * x.den) = decide (x < y) := by
  rw [decide_eq_decide, Rat.lt_iff]
/-! sizes -/
structure Sz (n : Nat) (x : Rat) : Prop where
  num : x.num.natAbs < 2 ^ n
  den : x.den < 2 ^ n
theorem Sz.mono {n m : Nat} {x : Rat} (h : Sz n x) (k : n ≤ m) : Sz m x :=
  ⟨Nat.lt_of_lt_of_le h.num (Nat.pow_le_pow_right (by decide) k), Nat.lt_of_lt_of_le h.den (Nat.pow_le_pow_right (by decide) k)⟩
theorem divInt_num_le (t b : Int) : (Rat.divInt t b).num.natAbs ≤ t.natAbs := by
  by_cases h : b = 0
  · subst h
    rw [Rat.divInt_zero]
    exact Nat.zero_le _
  · rw [← fr_num h, fdiv_exact (frI_ne h) (frI_dt t b)]
    exact Int.natAbs_ediv_le_natAbs _ _
theorem divInt_den_le {t b : Int} (h : b ≠ 0) : (Rat.divInt t b).den ≤ b.natAbs := by
  rw [Rat.den_divInt, if_neg h]
  exact Nat.div_le_self _ _
theorem sz_divInt {n : Nat} {t b : Int} (ht : t.natAbs < 2 ^ n) (hb : b.natAbs < 2 ^ n) (h : b ≠ 0) : Sz n (Rat.divInt t b) :=
  ⟨Nat.lt_of_le_of_lt (divInt_num_le t b) ht, Nat.lt_of_le_of_lt (divInt_den_le h) hb⟩
theorem mul_bits {i j : Int} {a b : Nat} (ha : i.natAbs < 2 ^ a) (hb : j.natAbs < 2 ^ b) : (i * j).natAbs < 2 ^ (a + b) := by
  rw [Int.natAbs_mul, Nat.pow_add]
  exact Nat.mul_lt_mul'' ha hb
theorem add_bits {i j : Int} {a : Nat} (ha : i.natAbs < 2 ^ a) (hb : j.natAbs < 2 ^ a) : (i + j).natAbs < 2 ^ (a + 1) := by
  have : (i + j).natAbs ≤ i.natAbs + j.natAbs := Int.natAbs_add_le _ _
  rw [Nat.pow_succ]
  omega
theorem sub_bits {i j : Int} {a : Nat} (ha : i.natAbs < 2 ^ a) (hb : j.natAbs < 2 ^ a) : (i - j).natAbs < 2 ^ (a + 1) := by
  rw [Int.sub_eq_add_neg]
  exact add_bits ha (by omega)
theorem Sz.den' {n : Nat} {x : Rat} (h : Sz n x) : ((x.den : Nat) : Int).natAbs < 2 ^ n := h.den
theorem den_mul_ne (x y : Rat) : ((x.den : Int) * y.den) ≠ 0 := Int.mul_ne_zero (den_ne x) (den_ne y)
theorem up1 {i : Int} {a : Nat} (h : i.natAbs < 2 ^ a) : i.natAbs < 2 ^ (a + 1) := Nat.lt_of_lt_of_le h (Nat.pow_le_pow_right (by decide) (by omega))
theorem sz_add {n m : Nat} {x y : Rat} (hx : Sz n x) (hy : Sz m y) : Sz (n + m + 1) (x + y) := by
  rw [← add_parts]
  refine sz_divInt (add_bits (mul_bits hx.num hy.den') ?_) (up1 (mul_bits hx.den' hy.den')) (den_mul_ne x y)
  rw [Nat.add_comm n m]
  exact mul_bits hy.num hx.den'
theorem sz_sub {n m : Nat} {x y : Rat} (hx : Sz n x) (hy : Sz m y) : Sz (n + m + 1) (x - y) := by
  rw [← sub_parts]
  refine sz_divInt (sub_bits (mul_bits hx.num hy.den') ?_) (up1 (mul_bits hx.den' hy.den')) (den_mul_ne x y)
  rw [Nat.add_comm n m]
  exact mul_bits hy.num hx.den'
theorem sz_mul {n m : Nat} {x y : Rat} (hx : Sz n x) (hy : Sz m y) : Sz (n + m) (x * y) := by
  rw [← mul_parts]
  exact sz_divInt (mul_bits hx.num hy.num) (mul_bits hx.den' hy.den') (den_mul_ne x y)
theorem num_ne {y : Rat} (h : y ≠ 0) : y.num ≠ 0 := fun e => h (Rat.num_eq_zero.mp e)
theorem sz_div {n m : Nat} {x y : Rat} (hx : Sz n x) (hy : Sz m y) (h : y ≠ 0) : Sz (n + m) (x / y) := by
  rw [← div_parts]
  exact sz_divInt (mul_bits hx.num hy.den') (mul_bits hx.den' hy.num) (Int.mul_ne_zero (den_ne x) (num_ne h))
theorem sz_int {n : Nat} {i : Int} (hn : 0 < n) (h : i.natAbs < 2 ^ n) : Sz n (i : Rat) :=
  ⟨h, by
    show 1 < 2 ^ n
    exact Nat.one_lt_two_pow (by omega)⟩
/-! the sum as it is reckoned by what the bottoms have in common -/
theorem add_split (x y : Rat) : (x + y).num = (x.num * ((y.den / (x.den.gcd y.den) : Nat) : Int) + y.num * ((x.den / (x.den.gcd y.den) : Nat) : Int)) / (((x.num * ((y.den / (x.den.gcd y.den) : Nat) : Int) + y.num * ((x.den / (x.den.gcd y.den) : Nat) : Int)).natAbs.gcd (x.den.gcd y.den) : Nat) : Int) ∧
   (x + y).den = x.den / (x.den.gcd y.den) * (y.den / ((x.num * ((y.den / (x.den.gcd y.den) : Nat) : Int) + y.num * ((x.den / (x.den.gcd y.den) : Nat) : Int)).natAbs.gcd (x.den.gcd y.den))) := by
  have e : x + y = Rat.add x y := rfl
  rw [e]
  unfold Rat.add
  dsimp only
  by_cases hg : x.den.gcd y.den = 1
  · rw [dif_pos hg]
    constructor
    · show x.num * (y.den : Int) + y.num * (x.den : Int) = _
      rw [hg, Nat.div_one, Nat.div_one, Nat.gcd_one_right]
      exact (Int.ediv_one _).symm
    · show x.den * y.den = _
      rw [hg, Nat.div_one, Nat.div_one, Nat.gcd_one_right, Nat.div_one]
  · rw [dif_neg hg]
    unfold Rat.maybeNormalize
    split
    · rename_i h1
      refine ⟨?_, ?_⟩
      · show x.num * ((y.den / (x.den.gcd y.den) : Nat) : Int) + y.num * ((x.den / (x.den.gcd y.den) : Nat) : Int) = _
        rw [h1]
        exact (Int.ediv_one _).symm
      · show x.den / (x.den.gcd y.den) * y.den = _
        rw [h1, Nat.div_one]
    · refine ⟨?_, ?_⟩
      · exact Int.divExact_eq_ediv (Int.ofNat_dvd_left.mpr (Nat.gcd_dvd_left _ _))
      · show _ / _ = _
        rw [Nat.mul_div_assoc]
        exact Nat.dvd_trans (Nat.gcd_dvd_right _ _) (Nat.gcd_dvd_right _ _)
theorem fdiv_nat (a b : Nat) : ((a : Int).fdiv (b : Int)) = ((a / b : Nat) : Int) := by
  rw [Int.fdiv_eq_ediv_of_nonneg _ (by omega)]
  rfl
theorem fdiv_natR (a : Int) (b : Nat) : (a.fdiv (b : Int)) = a / (b : Int) := Int.fdiv_eq_ediv_of_nonneg _ (by omega)
def sG (x y : Rat) : Nat := x.den.gcd y.den
def sT (x y : Rat) : Int := x.num * ((y.den / sG x y : Nat) : Int) + y.num * ((x.den / sG x y : Nat) : Int)
def sD (x y : Rat) : Nat := (sT x y).natAbs.gcd (sG x y)
theorem sum_num (x y : Rat) : (sT x y).fdiv (sD x y : Int) = (x + y).num := by
  rw [fdiv_natR]
  exact (add_split x y).1.symm
theorem sum_den (x y : Rat) : (((x.den / sG x y : Nat) : Int) * ((y.den / sD x y : Nat) : Int)) = (((x + y).den : Nat) : Int) := by
  rw [show (x + y).den = x.den / sG x y * (y.den / sD x y) from (add_split x y).2]
  rfl
theorem sG_pos (x y : Rat) : 0 < sG x y := Nat.gcd_pos_of_pos_left _ x.den_pos
theorem sD_pos (x y : Rat) : 0 < sD x y := Nat.gcd_pos_of_pos_right _ (sG_pos x y)
theorem sG_le (x y : Rat) : sG x y ≤ x.den := Nat.gcd_le_left _ x.den_pos
theorem sD_le (x y : Rat) : sD x y ≤ x.den := Nat.le_trans (Nat.gcd_le_right _ (sG_pos x y)) (sG_le x y)
end R
namespace R
/-! ### what a fraction becomes whole by -/
def Iz (D : Nat) (x : Rat) : Prop := ∃ k : Int, x * (D : Rat) = (k : Rat)
theorem Iz.add {D : Nat} {x y : Rat} (hx : Iz D x) (hy : Iz D y) : Iz D (x + y) := by
  obtain ⟨k, h⟩ := hx
  obtain ⟨m, g⟩ := hy
  exact ⟨k + m, by rw [Rat.intCast_add, ← h, ← g]; grind⟩
theorem Iz.sub {D : Nat} {x y : Rat} (hx : Iz D x) (hy : Iz D y) : Iz D (x - y) := by
  obtain ⟨k, h⟩ := hx
  obtain ⟨m, g⟩ := hy
  exact ⟨k - m, by rw [Rat.intCast_sub, ← h, ← g]; grind⟩
theorem Iz.mul {D E : Nat} {x y : Rat} (hx : Iz D x) (hy : Iz E y) : Iz (D * E) (x * y) := by
  obtain ⟨k, h⟩ := hx
  obtain ⟨m, g⟩ := hy
  exact ⟨k * m, by rw [Rat.intCast_mul, ← h, ← g, Rat.natCast_mul]; grind⟩
theorem Iz.up {D : Nat} {x : Rat} (hx : Iz D x) (E : Nat) : Iz (D * E) x := by
  obtain ⟨k, h⟩ := hx
  exact ⟨k * E, by rw [Rat.intCast_mul, ← h, Rat.natCast_mul]; show x * ((D : Rat) * (E : Rat)) = x * (D : Rat) * ((E : Int) : Rat); rw [Rat.intCast_natCast]; grind⟩
theorem Iz.dvd {D E : Nat} {x : Rat} (hx : Iz D x) (h : D ∣ E) : Iz E x := by
  obtain ⟨c, rfl⟩ := h
  exact hx.up c
theorem iz_zero (D : Nat) : Iz D 0 := ⟨0, by grind⟩
theorem iz_int (D : Nat) (i : Int) : Iz D (i : Rat) := by
  refine ⟨i * D, ?_⟩
  rw [Rat.intCast_mul]
  rfl
theorem iz_divInt {t c : Int} {D : Nat} (hc : 0 < c) (h : c ∣ (D : Int)) : Iz D (Rat.divInt t c) := by
  obtain ⟨k, e⟩ := h
  refine ⟨t * k, ?_⟩
  have hc' : (c : Rat) ≠ 0 := fun z => by
    have := Rat.intCast_inj.mp (show (c : Rat) = ((0 : Int) : Rat) from z)
    omega
  have e2 : (D : Rat) = (c : Rat) * (k : Rat) := by
    rw [← Rat.intCast_mul, ← e]
    rfl
  rw [Rat.divInt_eq_div, e2, Rat.intCast_mul, Rat.div_def]
  have := Rat.mul_inv_cancel _ hc'
  grind
theorem Iz.eq {D : Nat} {x : Rat} (hD : 0 < D) (h : Iz D x) : ∃ k : Int, x = Rat.divInt k D ∧ x * (D : Rat) = (k : Rat) := by
  obtain ⟨k, h⟩ := h
  refine ⟨k, ?_, h⟩
  have hD' : (D : Rat) ≠ 0 := fun z => by
    have := Rat.natCast_inj.mp (show (D : Rat) = ((0 : Nat) : Rat) from z)
    omega
  rw [Rat.divInt_eq_div, ← h]
  show x = x * (D : Rat) / (((D : Nat) : Int) : Rat)
  rw [Rat.intCast_natCast, Rat.div_def]
  have := Rat.mul_inv_cancel _ hD'
  grind
/-- the size, by what it becomes whole by and how far it is from nought -/
theorem Iz.sz {D M n : Nat} {x : Rat} (hD : 0 < D) (h : Iz D x) (h1 : -(M : Rat) ≤ x) (h2 : x ≤ (M : Rat)) (hn : M * D < 2 ^ n) (hm : D < 2 ^ n) : Sz n x := by
  obtain ⟨k, e, g⟩ := h.eq hD
  rw [e]
  refine sz_divInt ?_ hm (by omega)
  have d0 : (0 : Rat) ≤ (D : Rat) := Rat.natCast_nonneg
  have a1 : (k : Rat) ≤ (((M * D : Nat) : Int) : Rat) := by
    rw [← g, Rat.intCast_natCast, Rat.natCast_mul]
    exact Rat.mul_le_mul_of_nonneg_right h2 d0
  have a2 : ((-((M * D : Nat) : Int) : Int) : Rat) ≤ (k : Rat) := by
    rw [← g, Rat.intCast_neg, Rat.intCast_natCast, Rat.natCast_mul, ← Rat.neg_mul]
    exact Rat.mul_le_mul_of_nonneg_right h1 d0
  have b1 := Rat.intCast_le_intCast.mp a1
  have b2 := Rat.intCast_le_intCast.mp a2
  omega
end R
namespace R
open PySem PySem.Spec PyProof.Rows L2
/-! ### a def of the text, and what it promises -/
structure Df (K : PySem.W.Frag) (mg : Str → Option Value) (x : Str) (st : Stmt) (ps : List Str) : Prop where
  ex : ∃ (f : Addr) (fd : FuncData), Fun K x x st f fd ∧ mg x = some (.ref f) ∧ Binds K fd ps []
structure Cl (P : Program) (w : World) (K : PySem.W.Frag) (mg : Str → Option Value) (base : Heap) (CX : CXT) (k : Nat) (x : Str) (sp : Sp) : Prop where
  ex : ∃ (f : Addr) (fd : FuncData) (ps : List Str), FnOk P w K mg base CX k f fd ps sp ∧ mg x = some (.ref f) ∧ PySem.W.keepIn K (.ref f) = true ∧ Binds K fd ps []
section
variable {P : Program} {w : World} {K : PySem.W.Frag} {mg : Str → Option Value} {base : Heap}
theorem Df.cl {x : Str} {st : Stmt} {N ps : List Str} {k : Nat} {sp : Sp} (D : Df K mg x st ps) (S : FnScope N ps (defScope st)) (len : ∀ vs H Q E, sp vs H Q E → vs.length = ps.length)
    (hbody : ∀ (f : Addr) (cdv : Value) (A : Around) (outer : List Env) (s : Shared) (H : Hp) (vs : List V) (Q : VK) (E : XK), Room k (A.deeper (envOfC x (defScope st) s.heap.objs.size f cdv)) → sp vs H Q E →
      ∃ t, PSs (cxOf CX0 P w K mg base N x (defScope st) f cdv A outer s H E).nox (defBody st) t ∧ t { nx := fun _ H' => Q .non H', rt := Q } (start N vs) H) : Cl P w K mg base CX0 (k + 1) x sp := by
  obtain ⟨f, fd, F, g, b⟩ := D.ex
  exact ⟨f, fd, ps, F.ok S len (hbody f), g, F.kp, b⟩
end
section
variable {X : Cx}
theorem pe_cl {k j : Nat} {x : Str} {sp : Sp} {p pos : Pos} {e : Expr} {es : List Expr} {t : TA} (c : Cl X.prog X.w X.K X.mg X.base CX0 k x sp) (hr : Room j X.A) (hk : k ≤ j) (hg : Gl X x) (ha : PA X (e :: es) t)
    (hdb : (x == ("__debug__" : Str)) = false := by decide) (he : starEach (e :: es) X.env = (false, eval e X.env) :: starEach es X.env := by rfl) (hpl : (backTo pos (starEach es X.env)).any (·.1) = false := by rfl) :
    PE X (.Call (.Name x p) (e :: es) [] pos) (tCall sp [] E0 t) := by
  obtain ⟨f, fd, ps, F, hm, kp, b⟩ := c.ex
  exact pe_call F (hr.mono hk) hg hm kp b .nil pass0 ha hdb he hpl
/-- // by any divisor but 0, below 2 ^ 9000 -/
def CDivX (_ j : Int) : Prop := j ≠ 0 ∧ j.natAbs.log2 < 9000
theorem op_fdivX : OpR X (binaryOp .FloorDiv) (rI CDivX fun i j => .int (i.fdiv j)) := opI fun i j _ _ _ _ _ hc q =>
  floordiv_int hc.1 q (.inl (PyProof.noPylong_of_log2 hc.2))
end
theorem cdiv {i j : Int} {b : Nat} (h : j ≠ 0) (hb : j.natAbs < 2 ^ b) (h0 : 0 < b) (h9 : b ≤ 9000) : CDivX i j := ⟨h, Nat.lt_of_lt_of_le (PySem.Flt.log2_lt_of h0 hb) h9⟩
/-! ### data at a heap -/
theorem Same.tup {K : PySem.W.Frag} {H H' : Hp} {a : Addr} {xs : List V} (e : Same H H') (h : SqT K H a xs) : SqT K H' a xs := by
  rcases h with (h | ⟨o, h⟩) | h
  · exact .inl (.inl (e _ _ h))
  · exact .inl (.inr ⟨o, e _ _ h⟩)
  · exact .inr h
theorem Same.new {H : Hp} {p : Addr} {o : HO} (h : H p = none) : Same H (upd H p o) := fun b x e => by
  rw [upd_ne (ne_of_none e h)]
  exact e
mutual
theorem dp_mono {K : PySem.W.Frag} {H H' : Hp} (s : Same H H') : ∀ (d : PyData) (v : V), Dp K H v d → Dp K H' v d
  | .none, _, h => by cases h; exact .non
  | .bool _, _, h => by cases h; exact .bl _
  | .int _, _, h => by cases h; exact .int _
  | .str _, _, h => by cases h; exact .str _
  | .list ds, _, h => by
    cases h with
    | lst hs ha => exact .lst (s.seq hs) (dpa_mono s ds _ ha)
  | .tuple ds, _, h => by
    cases h with
    | tup hs ha => exact .tup (Same.tup s hs) (dpa_mono s ds _ ha)
  | .dict _, _, h => by cases h
theorem dpa_mono {K : PySem.W.Frag} {H H' : Hp} (s : Same H H') : ∀ (ds : List PyData) (vs : List V), DpAll K H vs ds → DpAll K H' vs ds
  | [], _, h => by cases h; exact .nil
  | d :: ds, _, h => by
    cases h with
    | cons h1 h2 => exact .cons (dp_mono s d _ h1) (dpa_mono s ds _ h2)
end
end R
namespace R
section
open PySem PySem.Spec PyProof.Rows L2 Builtin Builtin.Str Builtin.Int Builtin.Float
/-! ### the field {x:02d} of an int that is not negative -/
def f02 : FormatSpec := { fill := 48, align := 61, width := some 2, type := some 100 }
theorem p02 : parseFormatSpec [48, 50, 100] "int" 62 = .ok f02 := rfl
theorem gives_02d (a : Int) (t u : Tok) (hs : a.natAbs.log2 < 1920) : Gives («int.__format__» ⟨[.int a t, .str "02d" u], []⟩) (.str (intSpecText f02 a)) := by
  intro prog w A R s hq
  unfold Builtin.«int.__format__»
  simp only [selfAndOne, noKeywords, Int.intOfSelf, asInt?, asStr?, List.isEmpty_nil, if_true, pure_bind, bind_pure, bind_assoc]
  rw [show (Value.str (Str.ofString "02d") u == Value.none) = false from rfl]
  simp only [Bool.false_eq_true, if_false]
  refine wpAny_bind (wpAny_typeNameOf (T := "str") (typeIs_str _ _ _) (by decide) fun _ => ?_)
  rw [show ((Str.ofString "02d").length == 0) = false by decide +kernel]
  simp only [Bool.false_eq_true, if_false, pure_bind]
  rw [show (((Str.ofString "02d").cps.toList.drop 1).any (fun x => decide (x ≥ 128)) || (decide ((Str.ofString "02d").cps.getD 0 0 ≥ 128) && !([60, 62, 61, 94] : List Nat).contains ((Str.ofString "02d").cps.getD 1 0))) = false by decide +kernel]
  simp only [Bool.false_eq_true, if_false, pure_bind]
  refine wpAny_bind (wpAny_typeNameOfCut_int ?_)
  rw [show (Str.ofString "02d").cps.toList = [48, 50, 100] by decide +kernel, p02]
  dsimp only
  rw [if_pos (by decide +kernel)]
  show wpAny _ _ (do let r ← Builtin.overDigitLimit? a; _) _ _ _
  rw [PySem.overDigitLimit_small hs, pure_bind]
  show wpAny _ _ (retStr _) _ _ _
  refine Gives.of_eq (m := .str (intSpecText f02 a)) ?_ prog w A R s hq
  unfold intSpecText
  rfl
end
open PySem PySem.Spec PyProof.Rows L2
/-! ### texts of numbers -/
def sI (i : Int) : Str := Str.ofString (toString i)
def pad2 (i : Int) : Str := if i < 10 then (⟨#[48]⟩ : Str) ++ sI i else sI i
theorem sapp (a b c : Str) : (a ++ b) ++ c = a ++ (b ++ c) := by
  refine Str.ext' ?_
  rw [Str.cps_append, Str.cps_append, Str.cps_append, Str.cps_append, Array.append_assoc]
theorem sapp_nil (a : Str) : a ++ Str.empty = a := Str.append_right_empty rfl
theorem nil_sapp (a : Str) : Str.empty ++ a = a := Str.append_left_empty rfl
theorem slen (a b : Str) : (a ++ b).length = a.length + b.length := by
  unfold Str.length
  rw [Str.cps_append, Array.size_append]
theorem sI_nat (m : Nat) : sI (m : Int) = ⟨((Nat.toDigits 10 m).map Char.toNat).toArray⟩ := text_ofNat m
theorem sI_len {i : Int} (h0 : 0 ≤ i) (h : i < 10 ^ 30) : (sI i).length ≤ 30 := by
  obtain ⟨m, rfl⟩ := Int.eq_ofNat_of_zero_le h0
  rw [sI_nat]
  show ((Nat.toDigits 10 m).map Char.toNat).toArray.size ≤ 30
  rw [List.size_toArray, List.length_map]
  exact digits10_le (by decide) (by
    have : ((m : Nat) : Int) < ((10 ^ 30 : Nat) : Int) := h
    omega)
theorem lg {i : Int} (h0 : 0 ≤ i) (h : i < 10 ^ 30) : i.natAbs.log2 < 1920 :=
  PySem.Flt.log2_lt_of (by decide) (Nat.lt_of_lt_of_le (show i.natAbs < 2 ^ 128 by omega) (Nat.pow_le_pow_right (by decide) (by decide)))
theorem pad2_len {i : Int} (h0 : 0 ≤ i) (h : i < 10 ^ 30) : (pad2 i).length ≤ 31 := by
  have := sI_len h0 h
  unfold pad2
  split
  · rw [slen]
    show 1 + _ ≤ 31
    omega
  · omega
theorem f02_text {a : Int} (h0 : 0 ≤ a) : intSpecText f02 a = pad2 a := by
  rw [intSpecText_zero (f := f02) rfl rfl rfl rfl h0]
  have D := digitsFacts10 a.natAbs
  unfold pad2
  split
  · rename_i h
    rw [D.lt10 (by omega)]
    rfl
  · rename_i h
    have := D.ge10 (by omega)
    rw [show f02.width.getD 0 - (Nat.toDigits 10 a.natAbs).length = 0 by
      show 2 - _ = 0
      omega]
    exact nil_sapp _
section
variable {X : Cx}
def tFmt02 (te : TE) : TE := fun σ H Q => te σ H fun x H1 => ∃ i : Int, x = .int i ∧ 0 ≤ i ∧ i < 10 ^ 30 ∧ Q (.str (pad2 i)) H1
theorem pe_fmt02 {e : Expr} {te : TE} {k : Nat} {p1 p2 pos : Pos} (he : PE X e te) : PE X (.FormattedValue e (-1) (some (.JoinedStr [.Constant (.str "02d") k p1] p2)) pos) (tFmt02 te) := by
  refine ⟨fun pins s σ H Q I h => ?_⟩
  refine wpAny_FormattedValue_spec (thn (he.run pins s σ H _ I h) fun v s1 hv => ?_)
  obtain ⟨x, H1, I1, r1, i, rfl, h0, h1, q⟩ := hv
  obtain ⟨t, rfl⟩ := r1
  refine thn ((pe_joined1 (pe_str (x := "02d"))).run pins s1 σ H1 (fun v H' => v = .str "02d" ∧ H' = H1) I1 ⟨rfl, rfl⟩) fun u s2 hu => ?_
  obtain ⟨y, H2, I2, r2, rfl, rfl⟩ := hu
  obtain ⟨t2, rfl⟩ := r2
  refine ⟨"02d", t2, rfl, ?_⟩
  refine wpAny_formatField_spec (by decide +kernel) (fun s' => typeIs_int s' i t) F.slot_int_format F.entry_int_format F.args_int_format_2 (fun u => gives_02d i t u (lg h0 h1)) ?_ (by decide +kernel) ?_
  · rw [f02_text h0]
    exact ⟨.str (pad2 i), H2, I2.tok _, ⟨_, rfl⟩, q⟩
  · rw [f02_text h0]
    exact Nat.le_trans (pad2_len h0 h1) (by decide)
theorem pe_gl {x : Str} {pos : Pos} {v : V} (hg : Gl X x) (h : ∃ u, X.mg x = some u ∧ RelV v u) (hd : (x == ("__debug__" : Str)) = false := by decide) : PE X (.Name x pos) (tC v) := by
  obtain ⟨u, h1, h2⟩ := h
  exact pe_glob hg h1 h2 hd
end
end R
namespace R
/-! ### shows, as plain data: the mathematics -/
abbrev St3 := Rat × Rat × Rat
def lst3 (s : St3) : Rat := (s.2.1 - s.1) / s.2.2
def lenS : List St3 → Rat
  | [] => 0
  | s :: r => lst3 s + lenS r
theorem lenS_app : ∀ (a b : List St3), lenS (a ++ b) = lenS a + lenS b
  | [], b => by
    show lenS b = 0 + lenS b
    rw [Rat.zero_add]
  | s :: r, b => by
    show lst3 s + lenS (r ++ b) = lst3 s + lenS r + lenS b
    rw [lenS_app r b, Rat.add_assoc]
theorem take_more {α : Type} : ∀ {l : List α} {i : Nat} {x : α}, l[i]? = some x → l.take (i + 1) = l.take i ++ [x]
  | [], i, x, h => by simp at h
  | a :: l, 0, x, h => by
    have e : a = x := Option.some.inj h
    subst e
    rfl
  | a :: l, i + 1, x, h => by
    have ih := take_more (l := l) (i := i) (x := x) h
    show a :: l.take (i + 1) = a :: l.take i ++ [x]
    rw [ih]
    rfl
theorem drop_more {α : Type} : ∀ {l : List α} {i : Nat} {x : α}, l[i]? = some x → l.drop i = x :: l.drop (i + 1)
  | [], i, x, h => by simp at h
  | a :: l, 0, x, h => by
    have e : a = x := Option.some.inj h
    subst e
    rfl
  | a :: l, i + 1, x, h => drop_more (l := l) (i := i) (x := x) h
theorem lenS_more {l : List St3} {i : Nat} {x : St3} (h : l[i]? = some x) : lenS (l.take (i + 1)) = lenS (l.take i) + lst3 x := by
  rw [take_more h, lenS_app]
  show lenS (l.take i) + (lst3 x + 0) = _
  rw [Rat.add_zero]
structure StOk (N : Nat) (s : St3) : Prop where
  b : Sz N s.1
  e : Sz N s.2.1
  p : Sz N s.2.2
  pos : 0 < s.2.2
structure ShOk (N : Nat) (xs : List St3) : Prop where
  each : ∀ s ∈ xs, StOk N s
  sums : ∀ k, Sz N (lenS (xs.take k))
  lasts : ∀ s ∈ xs, Sz N (lst3 s)
theorem ne_of_pos {x : Rat} (h : 0 < x) : x ≠ 0 := fun e => by
  rw [e] at h
  exact Rat.lt_irrefl h
theorem sz_lst {N : Nat} {s : St3} (h : StOk N s) : Sz (3 * N + 1) (lst3 s) := by
  have := sz_div (sz_sub h.e h.b) h.p (ne_of_pos h.pos)
  exact this.mono (by omega)
/-- what is shown at a time -/
def seen : List St3 → Rat → Option Rat
  | [], _ => none
  | s :: r, t => if t < lst3 s then some (s.1 + t * s.2.2) else seen r (t - lst3 s)
/-- the rows of a timetable -/
def tabF (t0 : Rat) : List St3 → List (Rat × Rat × St3)
  | [] => []
  | s :: r => (t0, t0 + lst3 s, s) :: tabF (t0 + lst3 s) r
theorem tabF_get : ∀ (t0 : Rat) (xs : List St3) (i : Nat), (tabF t0 xs)[i]? = (xs[i]?).map fun s => (t0 + lenS (xs.take i), t0 + lenS (xs.take (i + 1)), s)
  | _, [], i => by simp [tabF]
  | t0, s :: r, 0 => by
    show some (t0, t0 + lst3 s, s) = some (t0 + 0, t0 + (lst3 s + 0), s)
    rw [Rat.add_zero, Rat.add_zero]
  | t0, s :: r, i + 1 => by
    show (tabF (t0 + lst3 s) r)[i]? = _
    rw [tabF_get (t0 + lst3 s) r i]
    show (r[i]?).map _ = (r[i]?).map _
    congr 1
    funext z
    show (t0 + lst3 s + lenS (r.take i), t0 + lst3 s + lenS (r.take (i + 1)), z) = (t0 + (lst3 s + lenS (r.take i)), t0 + (lst3 s + lenS (r.take (i + 1))), z)
    rw [Rat.add_assoc, Rat.add_assoc]
theorem tabF_len : ∀ (t0 : Rat) (xs : List St3), (tabF t0 xs).length = xs.length
  | _, [] => rfl
  | t0, s :: r => by
    show (tabF (t0 + lst3 s) r).length + 1 = r.length + 1
    rw [tabF_len]
theorem seen_turn {xs : List St3} {i : Nat} {s : St3} {t : Rat} (h : xs[i]? = some s) : seen (xs.drop i) (t - lenS (xs.take i)) =
    if t < lenS (xs.take (i + 1)) then some (s.1 + (t - lenS (xs.take i)) * s.2.2) else seen (xs.drop (i + 1)) (t - lenS (xs.take (i + 1))) := by
  rw [drop_more h, lenS_more h]
  show (if t - lenS (xs.take i) < lst3 s then _ else _) = _
  by_cases c : t - lenS (xs.take i) < lst3 s
  · rw [if_pos c, if_pos (by grind)]
  · rw [if_neg c, if_neg (by grind), show t - lenS (xs.take i) - lst3 s = t - (lenS (xs.take i) + lst3 s) by grind]
/-- stretches that go on are made one -/
def nstep (acc : List St3) (s : St3) : List St3 := match acc.getLast? with
  | some l => if l.2.1 = s.1 ∧ l.2.2 = s.2.2 then acc.dropLast ++ [(l.1, s.2.1, s.2.2)] else acc ++ [s]
  | none => [s]
def normM (xs : List St3) : List St3 := xs.foldl nstep []
theorem normM_more {xs : List St3} {i : Nat} {s : St3} (h : xs[i]? = some s) : normM (xs.take (i + 1)) = nstep (normM (xs.take i)) s := by
  unfold normM
  rw [take_more h, List.foldl_append]
  rfl
/-- what lies between two times, from the show's start -/
def piece (s : St3) (b e : Rat) : List St3 :=
  if (if 0 < b then b else 0) < (if e < lst3 s then e else lst3 s) then [(s.1 + (if 0 < b then b else 0) * s.2.2, s.1 + (if e < lst3 s then e else lst3 s) * s.2.2, s.2.2)] else []
def cutM : List St3 → Rat → Rat → List St3
  | [], _, _ => []
  | s :: r, b, e => piece s b e ++ cutM r (b - lst3 s) (e - lst3 s)
theorem cutM_turn {xs : List St3} {i : Nat} {s : St3} {b e : Rat} (h : xs[i]? = some s) : cutM (xs.drop i) (b - lenS (xs.take i)) (e - lenS (xs.take i)) =
    piece s (b - lenS (xs.take i)) (e - lenS (xs.take i)) ++ cutM (xs.drop (i + 1)) (b - lenS (xs.take (i + 1))) (e - lenS (xs.take (i + 1))) := by
  rw [drop_more h, lenS_more h]
  show _ ++ cutM (xs.drop (i + 1)) (b - lenS (xs.take i) - lst3 s) (e - lenS (xs.take i) - lst3 s) = _
  rw [show b - lenS (xs.take i) - lst3 s = b - (lenS (xs.take i) + lst3 s) by grind, show e - lenS (xs.take i) - lst3 s = e - (lenS (xs.take i) + lst3 s) by grind]
end R
namespace R
theorem divInt_pos {t b : Int} (ht : 0 < t) (hb : 0 < b) : 0 < Rat.divInt t b := by
  rw [Rat.divInt_eq_div, Rat.div_def]
  exact Rat.mul_pos (Rat.intCast_pos.mpr ht) (Rat.inv_pos.mpr (Rat.intCast_pos.mpr hb))
theorem piece_eq (s : St3) (b e st : Rat) : piece s (b - st) (e - st) =
    if (if b < st then st else b) < (if st + lst3 s < e then st + lst3 s else e) then
      [(s.1 + ((if b < st then st else b) - st) * s.2.2, s.1 + ((if st + lst3 s < e then st + lst3 s else e) - st) * s.2.2, s.2.2)] else [] := by
  have e1 : (if 0 < b - st then b - st else 0) = (if b < st then st else b) - st := by
    split <;> split <;> grind
  have e2 : (if e - st < lst3 s then e - st else lst3 s) = (if st + lst3 s < e then st + lst3 s else e) - st := by
    split <;> split <;> grind
  unfold piece
  rw [e1, e2]
  by_cases c : (if b < st then st else b) < (if st + lst3 s < e then st + lst3 s else e)
  · rw [if_pos c, if_pos (by grind)]
  · rw [if_neg c, if_neg (by grind)]
theorem piece_len (s : St3) (b e : Rat) : (piece s b e).length ≤ 1 := by
  unfold piece
  generalize (if 0 < b then b else 0) = f
  generalize (if e < lst3 s then e else lst3 s) = g
  by_cases c : f < g
  · rw [if_pos c]
    exact Nat.le_refl _
  · rw [if_neg c]
    exact Nat.zero_le _
/-- one turn of making stretches one: the part that stays, and what stands last -/
theorem nstep_cases (acc : List St3) (s : St3) : (acc = [] ∧ nstep acc s = [] ++ [(s.1, s.2.1, s.2.2)]) ∨ ∃ pre l, acc = pre ++ [l] ∧
    ((l.2.1 = s.1 ∧ l.2.2 = s.2.2 ∧ nstep acc s = pre ++ [(l.1, s.2.1, s.2.2)]) ∨ (¬ (l.2.1 = s.1 ∧ l.2.2 = s.2.2) ∧ nstep acc s = acc ++ [(s.1, s.2.1, s.2.2)])) := by
  unfold nstep
  cases h : acc.getLast? with
  | none => exact .inl ⟨List.getLast?_eq_none_iff.mp h, rfl⟩
  | some l =>
    obtain ⟨pre, rfl⟩ := List.getLast?_eq_some_iff.mp h
    refine .inr ⟨pre, l, rfl, ?_⟩
    dsimp only
    by_cases c : l.2.1 = s.1 ∧ l.2.2 = s.2.2
    · rw [if_pos c, List.dropLast_concat]
      exact .inl ⟨c.1, c.2, rfl⟩
    · rw [if_neg c]
      exact .inr ⟨c, rfl⟩
theorem nstep_len (acc : List St3) (s : St3) : (nstep acc s).length ≤ acc.length + 1 := by
  rcases nstep_cases acc s with ⟨h, e⟩ | ⟨pre, l, h, (⟨_, _, e⟩ | ⟨_, e⟩)⟩
  · rw [e]
    simp
  · rw [e, h]
    simp
  · rw [e]
    simp
end R
namespace R
/-! ### normal shows: making one is a way of reading -/
theorem nstep_join (acc : List St3) (s t : St3) (h1 : s.2.1 = t.1) (h2 : s.2.2 = t.2.2) : nstep (nstep acc s) t = nstep acc (s.1, t.2.1, t.2.2) := by
  have key : ∀ (pre : List St3) (f : Rat), nstep (pre ++ [(f, s.2.1, s.2.2)]) t = pre ++ [(f, t.2.1, t.2.2)] := by
    intro pre f
    unfold nstep
    rw [List.getLast?_append, List.getLast?_singleton]
    dsimp only [Option.some_or]
    rw [if_pos ⟨h1, h2⟩, List.dropLast_concat]
  rcases nstep_cases acc s with ⟨e0, e1⟩ | ⟨pre, l, e0, (⟨c1, c2, e1⟩ | ⟨c, e1⟩)⟩
  · rw [e1, key, e0]
    rfl
  · rw [e1, key, e0]
    unfold nstep
    rw [List.getLast?_append, List.getLast?_singleton]
    dsimp only [Option.some_or]
    rw [if_pos ⟨c1, by rw [← h2]; exact c2⟩, List.dropLast_concat]
  · rw [e1, key, e0]
    unfold nstep
    rw [List.getLast?_append, List.getLast?_singleton]
    dsimp only [Option.some_or]
    rw [if_neg (fun z => c ⟨z.1, by rw [h2]; exact z.2⟩)]
theorem snoc_ind {α : Type} {P : List α → Prop} (h0 : P []) (h1 : ∀ b s, P b → P (b ++ [s])) (b : List α) : P b := by
  have : ∀ l : List α, P l.reverse := by
    intro l
    induction l with
    | nil => exact h0
    | cons x l ih =>
      rw [List.reverse_cons]
      exact h1 _ _ ih
  have h := this b.reverse
  rw [List.reverse_reverse] at h
  exact h
/-- behind anything, a show and its normal one come to the same -/
theorem fold_norm (acc0 : List St3) : ∀ (b : List St3), (normM b).foldl nstep acc0 = b.foldl nstep acc0 := by
  intro b
  refine snoc_ind (P := fun b => (normM b).foldl nstep acc0 = b.foldl nstep acc0) rfl (fun b s ih => ?_) b
  · have e : normM (b ++ [s]) = nstep (normM b) s := by
      unfold normM
      rw [List.foldl_append]
      rfl
    rw [e, List.foldl_append, ← ih]
    show _ = nstep ((normM b).foldl nstep acc0) s
    rcases nstep_cases (normM b) s with ⟨e0, e1⟩ | ⟨pre, l, e0, (⟨c1, c2, e1⟩ | ⟨c, e1⟩)⟩
    · rw [e1, e0]
      rfl
    · rw [e1, e0, List.foldl_append, List.foldl_append]
      show nstep (pre.foldl nstep acc0) (l.1, s.2.1, s.2.2) = nstep (nstep (pre.foldl nstep acc0) l) s
      rw [nstep_join _ _ _ c1 c2]
    · rw [e1, List.foldl_append]
      rfl
theorem norm_app (a b : List St3) : normM (a ++ b) = b.foldl nstep (normM a) := by
  unfold normM
  rw [List.foldl_append]
theorem norm_norm (b : List St3) : normM (normM b) = normM b := fold_norm [] b
theorem norm_left (a b : List St3) : normM (normM a ++ b) = normM (a ++ b) := by
  rw [norm_app, norm_app, norm_norm]
theorem norm_right (a b : List St3) : normM (a ++ normM b) = normM (a ++ b) := by
  rw [norm_app, norm_app, fold_norm]
theorem norm_congr {a a' b b' : List St3} (h1 : normM a = normM a') (h2 : normM b = normM b') : normM (a ++ b) = normM (a' ++ b') := by
  rw [← norm_left, h1, norm_left, ← norm_right, h2, norm_right]
/-! ### what is cut out of a show and of its normal one -/
def Pos3 (xs : List St3) : Prop := ∀ s ∈ xs, 0 < s.2.2
theorem lst_join {s t : St3} (h1 : s.2.1 = t.1) (h2 : s.2.2 = t.2.2) : lst3 (s.1, t.2.1, t.2.2) = lst3 s + lst3 t := by
  unfold lst3
  dsimp only
  rw [h2, Rat.div_def, Rat.div_def, Rat.div_def, ← Rat.add_mul, h1]
  congr 1
  grind
theorem lst_mul {s : St3} (h : 0 < s.2.2) : lst3 s * s.2.2 = s.2.1 - s.1 := by
  unfold lst3
  rw [Rat.div_mul_cancel (ne_of_pos h)]
theorem cutM_app : ∀ (xs ys : List St3) (b e : Rat), cutM (xs ++ ys) b e = cutM xs b e ++ cutM ys (b - lenS xs) (e - lenS xs)
  | [], ys, b, e => by
    show cutM ys b e = cutM ys (b - 0) (e - 0)
    rw [show b - 0 = b by grind, show e - 0 = e by grind]
  | s :: r, ys, b, e => by
    show piece s b e ++ cutM (r ++ ys) (b - lst3 s) (e - lst3 s) = (piece s b e ++ cutM r (b - lst3 s) (e - lst3 s)) ++ cutM ys (b - (lst3 s + lenS r)) (e - (lst3 s + lenS r))
    rw [cutM_app r ys, List.append_assoc, show b - lst3 s - lenS r = b - (lst3 s + lenS r) by grind, show e - lst3 s - lenS r = e - (lst3 s + lenS r) by grind]
theorem cutM_one (s : St3) (b e : Rat) : cutM [s] b e = piece s b e := by
  show piece s b e ++ [] = _
  rw [List.append_nil]
/-- the first and the last time of a piece -/
def pf (b : Rat) : Rat := if 0 < b then b else 0
def pg (l e : Rat) : Rat := if e < l then e else l
theorem piece_pf (s : St3) (b e : Rat) : piece s b e = if pf b < pg (lst3 s) e then [(s.1 + pf b * s.2.2, s.1 + pg (lst3 s) e * s.2.2, s.2.2)] else [] := rfl
theorem norm_two (x y : St3) (h1 : x.2.1 = y.1) (h2 : x.2.2 = y.2.2) : normM [x, y] = normM [(x.1, y.2.1, y.2.2)] := by
  show nstep (nstep [] x) y = nstep [] _
  exact nstep_join [] x y h1 h2
theorem pg_shift (u v e : Rat) : pg (u + v) e = u + pg v (e - u) := by
  unfold pg
  grind
theorem pf0 (b : Rat) : 0 ≤ pf b := by
  unfold pf
  grind
theorem pfb (b : Rat) : b ≤ pf b := by
  unfold pf
  grind
theorem pf_neg {b : Rat} (h : b ≤ 0) : pf b = 0 := by
  unfold pf
  grind
theorem pf_pos {b : Rat} (h : 0 ≤ b) : pf b = b := by
  unfold pf
  grind
theorem pge (l e : Rat) : pg l e ≤ e := by
  unfold pg
  grind
theorem pgl (l e : Rat) : pg l e ≤ l := by
  unfold pg
  grind
theorem pg_l {l e : Rat} (h : l ≤ e) : pg l e = l := by
  unfold pg
  grind
theorem pg_e {l e : Rat} (h : e ≤ l) : pg l e = e := by
  unfold pg
  grind
theorem pfg1 {u v b e : Rat} (c1 : pf b < pg u e) (c2 : pf (b - u) < pg v (e - u)) : pf (b - u) = 0 ∧ pg u e = u := by
  have h1 := pf0 (b - u)
  have h2 := pge v (e - u)
  have h3 := pgl u e
  have h4 := pfb b
  have h5 : u ≤ e := by grind
  have h6 : b - u ≤ 0 := by grind
  exact ⟨pf_neg h6, pg_l h5⟩
theorem pfg2 {u v b e : Rat} (l1 : 0 ≤ u) (l2 : 0 ≤ v) (c1 : pf b < pg u e) (c2 : ¬ pf (b - u) < pg v (e - u)) : pg (u + v) e = pg u e := by
  by_cases h : e ≤ u
  · rw [pg_e h, pg_e (by grind)]
  · have h3 := pgl u e
    have h4 := pfb b
    have h5 : pf (b - u) = 0 := pf_neg (by grind)
    rw [pg_l (show u ≤ e by grind), pg_shift]
    rw [h5] at c2
    by_cases h6 : e - u ≤ v
    · rw [pg_e h6] at c2
      grind
    · rw [pg_l (show v ≤ e - u by grind)] at c2 ⊢
      grind
theorem pfg3 {u v b e : Rat} (l1 : 0 ≤ u) (c1 : ¬ pf b < pg u e) (c2 : pf (b - u) < pg v (e - u)) : pf (b - u) = pf b - u := by
  have h1 := pf0 (b - u)
  have h2 := pge v (e - u)
  have h5 : pg u e = u := pg_l (by grind)
  rw [h5] at c1
  by_cases h6 : b ≤ 0
  · have h7 := pf_neg h6
    rw [h7] at c1 ⊢
    rw [pf_neg (show b - u ≤ 0 by grind)]
    grind
  · have h7 := pf_pos (show 0 ≤ b by grind)
    rw [h7] at c1 ⊢
    rw [pf_pos (show 0 ≤ b - u by grind)]
theorem pfg4 {u v b e : Rat} (l1 : 0 ≤ u) (l2 : 0 ≤ v) (c1 : ¬ pf b < pg u e) (c2 : ¬ pf (b - u) < pg v (e - u)) : ¬ pf b < pg (u + v) e := by
  by_cases h : e ≤ u
  · rw [pg_e h] at c1
    rw [pg_e (by grind)]
    exact c1
  · rw [pg_l (show u ≤ e by grind)] at c1
    rw [pg_shift]
    by_cases h6 : b - u ≤ 0
    · rw [pf_neg h6] at c2
      grind
    · rw [pf_pos (show 0 ≤ b - u by grind)] at c2
      rw [pf_pos (show 0 ≤ b by grind)] at c1 ⊢
      grind
theorem piece_join {s t : St3} (h1 : s.2.1 = t.1) (h2 : s.2.2 = t.2.2) (hp : 0 < s.2.2) (l1 : 0 ≤ lst3 s) (l2 : 0 ≤ lst3 t) (b e : Rat) :
    normM (piece s b e ++ piece t (b - lst3 s) (e - lst3 s)) = normM (piece (s.1, t.2.1, t.2.2) b e) := by
  have m1 := lst_mul hp
  have hm : s.2.1 = s.1 + lst3 s * s.2.2 := by grind
  rw [piece_pf, piece_pf, piece_pf, lst_join h1 h2]
  dsimp only
  rw [← h2, ← h1, hm]
  clear hm m1 h1 h2 hp
  generalize lst3 s = u at *
  generalize lst3 t = v at *
  generalize s.2.2 = p at *
  generalize s.1 = a at *
  by_cases c1 : pf b < pg u e
  · by_cases c2 : pf (b - u) < pg v (e - u)
    · obtain ⟨e1, e2⟩ := pfg1 c1 c2
      have e3 := pg_shift u v e
      have c3 : pf b < pg (u + v) e := by
        rw [e3]
        rw [e2] at c1
        rw [e1] at c2
        grind
      rw [if_pos c1, if_pos c2, if_pos c3, e1, e2, e3]
      generalize pg v (e - u) = w
      generalize pf b = z
      refine (norm_two (a + z * p, a + u * p, p) (a + u * p + 0 * p, a + u * p + w * p, p) ?_ rfl).trans ?_
      · show a + u * p = a + u * p + 0 * p
        grind
      · show normM [(a + z * p, a + u * p + w * p, p)] = _
        rw [show a + u * p + w * p = a + (u + w) * p by grind]
    · rw [if_pos c1, if_neg c2, pfg2 l1 l2 c1 c2, if_pos c1]
      rfl
  · by_cases c2 : pf (b - u) < pg v (e - u)
    · have e1 := pfg3 l1 c1 c2
      have e3 := pg_shift u v e
      have c3 : pf b < pg (u + v) e := by
        rw [e3]
        rw [e1] at c2
        generalize pg v (e - u) = w at *
        generalize pf b = z at *
        clear c1 e1 e3
        grind
      rw [if_neg c1, if_pos c2, if_pos c3, e1, e3]
      generalize pg v (e - u) = w
      generalize pf b = z
      rw [show a + u * p + (z - u) * p = a + z * p by grind, show a + u * p + w * p = a + (u + w) * p by grind]
      rfl
    · rw [if_neg c1, if_neg c2, if_neg (pfg4 l1 l2 c1 c2)]
      rfl
structure Gd3 (s : St3) : Prop where
  p : 0 < s.2.2
  l : 0 ≤ lst3 s
theorem nstep_all {P : St3 → Prop} (hj : ∀ s t : St3, s.2.1 = t.1 → s.2.2 = t.2.2 → P s → P t → P (s.1, t.2.1, t.2.2)) {acc : List St3} {s : St3} (h : ∀ x ∈ acc, P x) (hs : P s) : ∀ x ∈ nstep acc s, P x := by
  intro x hx
  rcases nstep_cases acc s with ⟨e0, e1⟩ | ⟨pre, l, e0, (⟨c1, c2, e1⟩ | ⟨c, e1⟩)⟩
  · rw [e1] at hx
    have : x = s := List.mem_singleton.mp hx
    rw [this]
    exact hs
  · rw [e1] at hx
    rcases List.mem_append.mp hx with h1 | h1
    · exact h x (by rw [e0]; exact List.mem_append_left _ h1)
    · rw [List.mem_singleton.mp h1]
      exact hj l s c1 c2 (h l (by rw [e0]; exact List.mem_append_right _ (List.mem_singleton.mpr rfl))) hs
  · rw [e1] at hx
    rcases List.mem_append.mp hx with h1 | h1
    · exact h x h1
    · have : x = s := List.mem_singleton.mp h1
      rw [this]
      exact hs
theorem norm_snoc (b : List St3) (s : St3) : normM (b ++ [s]) = nstep (normM b) s := by
  unfold normM
  rw [List.foldl_append]
  rfl
theorem norm_all {P : St3 → Prop} (hj : ∀ s t : St3, s.2.1 = t.1 → s.2.2 = t.2.2 → P s → P t → P (s.1, t.2.1, t.2.2)) (xs : List St3) : (∀ x ∈ xs, P x) → ∀ x ∈ normM xs, P x := by
  refine snoc_ind (P := fun xs => (∀ x ∈ xs, P x) → ∀ x ∈ normM xs, P x) (fun h => h) (fun b s ih h => ?_) xs
  rw [norm_snoc]
  exact nstep_all hj (ih fun x hx => h x (List.mem_append_left _ hx)) (h s (List.mem_append_right _ (List.mem_singleton.mpr rfl)))
theorem gd_join (s t : St3) (h1 : s.2.1 = t.1) (h2 : s.2.2 = t.2.2) (a : Gd3 s) (b : Gd3 t) : Gd3 (s.1, t.2.1, t.2.2) := ⟨b.p, by rw [lst_join h1 h2]; have := a.l; have := b.l; grind⟩
theorem lenS_one (s : St3) : lenS [s] = lst3 s := by
  show lst3 s + 0 = _
  rw [Rat.add_zero]
theorem lenS_norm (xs : List St3) : lenS (normM xs) = lenS xs := by
  refine snoc_ind (P := fun xs => lenS (normM xs) = lenS xs) rfl (fun b s ih => ?_) xs
  rw [norm_snoc, lenS_app, ← ih]
  rcases nstep_cases (normM b) s with ⟨e0, e1⟩ | ⟨pre, l, e0, (⟨c1, c2, e1⟩ | ⟨c, e1⟩)⟩
  · rw [e1, e0]
    show lenS [(s.1, s.2.1, s.2.2)] = 0 + lenS [s]
    rw [Rat.zero_add]
  · rw [e1, e0, lenS_app, lenS_app, lenS_one, lenS_one, lenS_one, lst_join c1 c2]
    grind
  · rw [e1, lenS_app]
theorem cut_norm (xs : List St3) (b e : Rat) : (∀ s ∈ xs, Gd3 s) → normM (cutM (normM xs) b e) = normM (cutM xs b e) := by
  refine snoc_ind (P := fun xs => (∀ s ∈ xs, Gd3 s) → normM (cutM (normM xs) b e) = normM (cutM xs b e)) (fun _ => rfl) (fun ys s ih h => ?_) xs
  have hy : ∀ s ∈ ys, Gd3 s := fun x hx => h x (List.mem_append_left _ hx)
  have hs : Gd3 s := h s (List.mem_append_right _ (List.mem_singleton.mpr rfl))
  have ih := ih hy
  have gn := norm_all gd_join ys hy
  rw [norm_snoc, cutM_app, cutM_one, ← norm_left, ← ih, norm_left, ← lenS_norm ys]
  rcases nstep_cases (normM ys) s with ⟨e0, e1⟩ | ⟨pre, l, e0, (⟨c1, c2, e1⟩ | ⟨c, e1⟩)⟩
  · rw [e1, e0]
    show normM (piece (s.1, s.2.1, s.2.2) b e ++ []) = normM ([] ++ piece s (b - 0) (e - 0))
    rw [List.append_nil, List.nil_append, show b - 0 = b by grind, show e - 0 = e by grind]
  · rw [e1, e0]
    have hl : Gd3 l := gn l (by rw [e0]; exact List.mem_append_right _ (List.mem_singleton.mpr rfl))
    rw [cutM_app, cutM_app, cutM_one, cutM_one, lenS_app, lenS_one, List.append_assoc]
    refine norm_congr rfl ?_
    rw [show b - (lenS pre + lst3 l) = b - lenS pre - lst3 l by grind, show e - (lenS pre + lst3 l) = e - lenS pre - lst3 l by grind]
    exact (piece_join c1 c2 hl.p hl.l hs.l _ _).symm
  · rw [e1, cutM_app, cutM_one]
/-! ### the deeds -/
theorem fill_norm (xs st : List St3) (b e : Rat) (h : ∀ s ∈ xs, Gd3 s) :
    normM (normM (cutM (normM xs) 0 b) ++ st ++ normM (cutM (normM xs) e (lenS (normM xs)))) = normM (cutM xs 0 b ++ st ++ cutM xs e (lenS xs)) := by
  refine norm_congr (norm_congr ?_ rfl) ?_
  · rw [norm_norm, cut_norm xs 0 b h]
  · rw [norm_norm, cut_norm xs e _ h, lenS_norm]
def fastM (f : Rat) (zs : List St3) : List St3 := zs.map fun s => (s.1, s.2.1, s.2.2 * f)
theorem fast_norm {f : Rat} (hf : 0 < f) (zs : List St3) : fastM f (normM zs) = normM (fastM f zs) := by
  refine snoc_ind (P := fun zs => fastM f (normM zs) = normM (fastM f zs)) rfl (fun b s ih => ?_) zs
  have e : fastM f (b ++ [s]) = fastM f b ++ [(s.1, s.2.1, s.2.2 * f)] := by
    unfold fastM
    rw [List.map_append]
    rfl
  have hi : ∀ p q : Rat, p * f = q * f ↔ p = q := fun p q => ⟨fun h => by
    have h1 : (p - q) * f = 0 := by grind
    rcases Rat.mul_eq_zero.mp h1 with h2 | h2
    · grind
    · exact absurd h2 (ne_of_pos hf), fun h => by rw [h]⟩
  rw [norm_snoc, e, norm_snoc, ← ih]
  generalize normM b = acc
  have em : ∀ (pre : List St3) (l : St3), fastM f (pre ++ [l]) = fastM f pre ++ [(l.1, l.2.1, l.2.2 * f)] := fun pre l => by
    unfold fastM
    rw [List.map_append]
    rfl
  rcases nstep_cases acc s with ⟨e0, e1⟩ | ⟨pre, l, e0, (⟨c1, c2, e1⟩ | ⟨c, e1⟩)⟩
  · rw [e1, e0]
    rfl
  · rw [e1, e0, em, em]
    unfold nstep
    rw [List.getLast?_append, List.getLast?_singleton]
    dsimp only [Option.some_or]
    rw [if_pos ⟨c1, (hi _ _).mpr c2⟩, List.dropLast_concat]
  · rw [e1, em, e0, em]
    unfold nstep
    rw [List.getLast?_append, List.getLast?_singleton]
    dsimp only [Option.some_or]
    rw [if_neg (fun z => c ⟨z.1, (hi _ _).mp z.2⟩)]
end R
namespace R
def L30 : Nat := 2329089562800
theorem l30_dvd : ∀ c : Nat, c < 31 → 0 < c → c ∣ L30 := by decide
theorem t2520_dvd : ∀ c : Nat, c < 10 → 0 < c → c ∣ 2520 := by decide
/-! ### paces as they are drawn -/
structure Pc (p : Rat) : Prop where
  pos : 0 < p
  n9 : p.num.natAbs ≤ 9
  d9 : p.den ≤ 9
theorem num_pos' {p : Rat} (h : 0 < p) : 0 < p.num := by
  have h1 := (Rat.lt_iff 0 p).mp h
  have e1 : (0 : Rat).num = 0 := rfl
  have e2 : (0 : Rat).den = 1 := rfl
  rw [e1, e2, Int.zero_mul] at h1
  omega
theorem mul_den (p : Rat) : p * (p.den : Rat) = (p.num : Rat) := by
  have h := Rat.num_divInt_den p
  rw [Rat.divInt_eq_div, Rat.intCast_natCast] at h
  have hd : (p.den : Rat) ≠ 0 := fun z => p.den_nz (Rat.natCast_inj.mp (show (p.den : Rat) = ((0 : Nat) : Rat) from z))
  have hc := Rat.inv_mul_cancel _ hd
  rw [Rat.div_def] at h
  generalize (p.den : Rat) = d at *
  generalize (p.num : Rat) = n at *
  rw [← h]
  grind
theorem iz_den (p : Rat) : Iz p.den p := ⟨p.num, mul_den p⟩
theorem iz_num {p : Rat} (h : 0 < p) : Iz p.num.natAbs p⁻¹ := by
  have h1 := num_pos' h
  refine ⟨(p.den : Int), ?_⟩
  have e : ((p.num.natAbs : Nat) : Rat) = (p.num : Rat) := by
    rw [← Rat.intCast_natCast]
    congr 1
    omega
  rw [e, ← mul_den p, Rat.intCast_natCast]
  have h2 := Rat.inv_mul_cancel p (ne_of_pos h)
  grind
theorem Pc.iz {p : Rat} (h : Pc p) : Iz 2520 p := (iz_den p).dvd (t2520_dvd _ (by have := h.d9; omega) p.den_pos)
theorem Pc.iv {p : Rat} (h : Pc p) : Iz 2520 p⁻¹ := (iz_num h.pos).dvd (t2520_dvd _ (by have := h.n9; omega) (by have := num_pos' h.pos; omega))
def gm (p : Rat) : Nat := p.num.natAbs * p.den
theorem Pc.gm_le {p : Rat} (h : Pc p) : gm p ≤ 81 := Nat.mul_le_mul h.n9 h.d9
theorem Pc.gm_pos {p : Rat} (h : Pc p) : 0 < gm p := Nat.mul_pos (by have := num_pos' h.pos; omega) p.den_pos
theorem Pc.izg {p : Rat} (h : Pc p) : Iz (gm p) p := (iz_den p).dvd (Nat.dvd_mul_left _ _)
theorem Pc.ivg {p : Rat} (h : Pc p) : Iz (gm p) p⁻¹ := (iz_num h.pos).dvd (Nat.dvd_mul_right _ _)
theorem den_pos_q (p : Rat) : (1 : Rat) ≤ (p.den : Rat) := by
  have : ((1 : Nat) : Rat) ≤ (p.den : Rat) := Rat.natCast_le_natCast.mpr p.den_pos
  exact this
theorem Pc.hi {p : Rat} (h : Pc p) : p ≤ 9 := by
  have h1 : (p.num : Rat) ≤ ((9 : Int) : Rat) := Rat.intCast_le_intCast.mpr (by have := h.n9; omega)
  rw [← mul_den p] at h1
  have h2 := den_pos_q p
  have h3 : p * 1 ≤ p * (p.den : Rat) := Rat.mul_le_mul_of_nonneg_left h2 (by have := h.pos; grind)
  have h4 : ((9 : Int) : Rat) = 9 := rfl
  grind
theorem Pc.lo {p : Rat} (h : Pc p) : p⁻¹ ≤ 9 := by
  have n1 : ((1 : Int) : Rat) ≤ (p.num : Rat) := Rat.intCast_le_intCast.mpr (by have := num_pos' h.pos; omega)
  have h1 : (p.den : Rat) ≤ ((9 : Nat) : Rat) := Rat.natCast_le_natCast.mpr h.d9
  have h2 := mul_den p
  have hi := Rat.inv_pos.mpr h.pos
  have hc := Rat.inv_mul_cancel p (ne_of_pos h.pos)
  have e : p⁻¹ * (p.num : Rat) = (p.den : Rat) := by
    rw [← h2]
    grind
  have h5 : p⁻¹ * 1 ≤ p⁻¹ * (p.num : Rat) := Rat.mul_le_mul_of_nonneg_left n1 (by grind)
  have h4 : ((9 : Nat) : Rat) = 9 := rfl
  grind
/-! ### products of some of the factors -/
inductive Fx : List Rat → Rat → Prop
  | nil : Fx [] 1
  | skip {f : Rat} {fs : List Rat} {x : Rat} : Fx fs x → Fx (f :: fs) x
  | take {f : Rat} {fs : List Rat} {x : Rat} : Fx fs x → Fx (f :: fs) (x * f)
def Gam : List Rat → Nat
  | [] => 1
  | f :: fs => Gam fs * gm f
theorem fx_one : ∀ fs : List Rat, Fx fs 1
  | [] => .nil
  | _ :: fs => .skip (fx_one fs)
theorem Gam_pos : ∀ fs : List Rat, (∀ f ∈ fs, Pc f) → 0 < Gam fs
  | [], _ => Nat.one_pos
  | f :: fs, h => Nat.mul_pos (Gam_pos fs fun g hg => h g (List.mem_cons_of_mem _ hg)) (h f List.mem_cons_self).gm_pos
theorem Gam_le : ∀ fs : List Rat, (∀ f ∈ fs, Pc f) → Gam fs ≤ 81 ^ fs.length
  | [], _ => Nat.le_refl _
  | f :: fs, h => by
    show Gam fs * gm f ≤ 81 ^ (fs.length + 1)
    rw [Nat.pow_succ]
    exact Nat.mul_le_mul (Gam_le fs fun g hg => h g (List.mem_cons_of_mem _ hg)) (h f List.mem_cons_self).gm_le
theorem fx_pos : ∀ {fs : List Rat} {x : Rat}, (∀ f ∈ fs, Pc f) → Fx fs x → 0 < x
  | [], _, _, .nil => by decide
  | f :: fs, _, h, .skip g => fx_pos (fun a ha => h a (List.mem_cons_of_mem _ ha)) g
  | f :: fs, _, h, .take g => Rat.mul_pos (fx_pos (fun a ha => h a (List.mem_cons_of_mem _ ha)) g) (h f List.mem_cons_self).pos
theorem inv_mul2 {x y : Rat} (hx : 0 < x) (hy : 0 < y) : (x * y)⁻¹ = x⁻¹ * y⁻¹ := by
  have h1 := Rat.inv_mul_cancel x (ne_of_pos hx)
  have h2 := Rat.inv_mul_cancel y (ne_of_pos hy)
  have h3 := Rat.inv_mul_cancel (x * y) (ne_of_pos (Rat.mul_pos hx hy))
  have : (x * y)⁻¹ * ((x * y) * (x⁻¹ * y⁻¹)) = x⁻¹ * y⁻¹ := by grind
  have h4 : (x * y) * (x⁻¹ * y⁻¹) = 1 := by grind
  rw [h4] at this
  grind
theorem fx_ratio : ∀ {fs : List Rat} {x y : Rat}, (∀ f ∈ fs, Pc f) → Fx fs x → Fx fs y → Iz (Gam fs) (x * y⁻¹)
  | [], _, _, _, .nil, .nil => ⟨1, by show (1 : Rat) * 1⁻¹ * ((1 : Nat) : Rat) = ((1 : Int) : Rat); grind⟩
  | f :: fs, _, _, h, .skip a, .skip b => (fx_ratio (fun c hc => h c (List.mem_cons_of_mem _ hc)) a b).up _
  | f :: fs, _, _, h, @Fx.take _ _ x a, .skip b => by
    have ih := fx_ratio (fun c hc => h c (List.mem_cons_of_mem _ hc)) a b
    have := ih.mul (h f List.mem_cons_self).izg
    rename_i y
    rw [show x * f * y⁻¹ = x * y⁻¹ * f by grind]
    exact this
  | f :: fs, _, _, h, @Fx.skip _ _ x a, @Fx.take _ _ y b => by
    have h' : ∀ c ∈ fs, Pc c := fun c hc => h c (List.mem_cons_of_mem _ hc)
    have ih := fx_ratio h' a b
    have := ih.mul (h f List.mem_cons_self).ivg
    rw [inv_mul2 (fx_pos h' b) (h f List.mem_cons_self).pos, show x * (y⁻¹ * f⁻¹) = x * y⁻¹ * f⁻¹ by grind]
    exact this
  | f :: fs, _, _, h, @Fx.take _ _ x a, @Fx.take _ _ y b => by
    have h' : ∀ c ∈ fs, Pc c := fun c hc => h c (List.mem_cons_of_mem _ hc)
    have ih := fx_ratio h' a b
    have hf := (h f List.mem_cons_self).pos
    have h2 := Rat.inv_mul_cancel f (ne_of_pos hf)
    rw [inv_mul2 (fx_pos h' b) hf, show x * f * (y⁻¹ * f⁻¹) = x * y⁻¹ by grind]
    exact ih.up _
def p9 : Nat → Rat
  | 0 => 1
  | n + 1 => p9 n * 9
theorem p9_pos : ∀ n, 0 < p9 n
  | 0 => by decide
  | n + 1 => Rat.mul_pos (p9_pos n) (by decide)
theorem mul_le2 {a b c d : Rat} (ha : 0 ≤ a) (hc : 0 ≤ c) (h1 : a ≤ b) (h2 : c ≤ d) : a * c ≤ b * d := by
  have e1 := Rat.mul_le_mul_of_nonneg_right h1 hc
  have e2 := Rat.mul_le_mul_of_nonneg_left h2 (show 0 ≤ b by grind)
  grind
theorem fx_le : ∀ {fs : List Rat} {x : Rat}, (∀ f ∈ fs, Pc f) → Fx fs x → x ≤ p9 fs.length ∧ x⁻¹ ≤ p9 fs.length
  | [], _, _, .nil => ⟨by decide, by show (1 : Rat)⁻¹ ≤ 1; grind⟩
  | f :: fs, _, h, .skip g => by
    have h' : ∀ c ∈ fs, Pc c := fun c hc => h c (List.mem_cons_of_mem _ hc)
    obtain ⟨h1, h2⟩ := fx_le h' g
    have := p9_pos fs.length
    show _ ≤ p9 fs.length * 9 ∧ _ ≤ p9 fs.length * 9
    grind
  | f :: fs, _, h, @Fx.take _ _ x g => by
    have h' : ∀ c ∈ fs, Pc c := fun c hc => h c (List.mem_cons_of_mem _ hc)
    obtain ⟨h1, h2⟩ := fx_le h' g
    have hf := h f List.mem_cons_self
    have hx := fx_pos h' g
    have hi := Rat.inv_pos.mpr hf.pos
    have hj := Rat.inv_pos.mpr hx
    have l1 := hf.hi
    have l2 := hf.lo
    have l3 := hf.pos
    show _ ≤ p9 fs.length * 9 ∧ _ ≤ p9 fs.length * 9
    rw [inv_mul2 hx hf.pos]
    exact ⟨mul_le2 (by grind) (by grind) h1 l1, mul_le2 (by grind) (by grind) h2 l2⟩
end R
namespace R
/-! ### stretches: what they become whole by, their paces -/
structure Fs (D : Nat) (fs : List Rat) (s : St3) : Prop where
  b0 : 0 ≤ s.1
  lt : s.1 < s.2.1
  hi : s.2.1 ≤ 300
  zb : Iz D s.1
  ze : Iz D s.2.1
  pc : ∃ p x, s.2.2 = p * x ∧ Pc p ∧ Fx fs x
section
variable {D : Nat} {fs : List Rat}
theorem fs_join (s t : St3) (h1 : s.2.1 = t.1) (h2 : s.2.2 = t.2.2) (a : Fs D fs s) (b : Fs D fs t) : Fs D fs (s.1, t.2.1, t.2.2) :=
  ⟨a.b0, by have := a.lt; have := b.lt; show s.1 < t.2.1; grind, b.hi, a.zb, b.ze, b.pc⟩
theorem Fs.pos {s : St3} (hf : ∀ f ∈ fs, Pc f) (a : Fs D fs s) : 0 < s.2.2 := by
  obtain ⟨p, x, e, h1, h2⟩ := a.pc
  rw [e]
  exact Rat.mul_pos h1.pos (fx_pos hf h2)
theorem Fs.inv {s : St3} (hf : ∀ f ∈ fs, Pc f) (a : Fs D fs s) : Iz (2520 * Gam fs) s.2.2⁻¹ ∧ s.2.2⁻¹ ≤ 9 * p9 fs.length ∧ Iz (2520 * Gam fs) s.2.2 ∧ s.2.2 ≤ 9 * p9 fs.length := by
  obtain ⟨p, x, e, h1, h2⟩ := a.pc
  have hx := fx_pos hf h2
  have r := fx_ratio hf (fx_one fs) h2
  rw [Rat.one_mul] at r
  have r2 := fx_ratio hf h2 (fx_one fs)
  rw [show x * (1 : Rat)⁻¹ = x by grind] at r2
  obtain ⟨l1, l2⟩ := fx_le hf h2
  have q1 := Rat.inv_pos.mpr h1.pos
  have q2 := Rat.inv_pos.mpr hx
  have q3 := h1.pos
  rw [e, inv_mul2 h1.pos hx]
  exact ⟨h1.iv.mul r, mul_le2 (by grind) (by grind) h1.lo l2, h1.iz.mul r2, mul_le2 (by grind) (by grind) h1.hi l1⟩
theorem Fs.gd {s : St3} (hf : ∀ f ∈ fs, Pc f) (a : Fs D fs s) : Gd3 s := by
  have hp := a.pos hf
  refine ⟨hp, ?_⟩
  unfold lst3
  rw [Rat.div_def]
  have h1 := a.lt
  have h2 := Rat.inv_pos.mpr hp
  have := Rat.mul_nonneg (show 0 ≤ s.2.1 - s.1 by grind) (show 0 ≤ s.2.2⁻¹ by grind)
  exact this
theorem Fs.lst {s : St3} (hf : ∀ f ∈ fs, Pc f) (a : Fs D fs s) : Iz (D * (2520 * Gam fs)) (lst3 s) ∧ 0 ≤ lst3 s ∧ lst3 s ≤ 300 * (9 * p9 fs.length) := by
  refine ⟨?_, (a.gd hf).l, ?_⟩
  · unfold lst3
    rw [Rat.div_def]
    exact (a.ze.sub a.zb).mul (a.inv hf).1
  · unfold lst3
    rw [Rat.div_def]
    have h1 := a.lt
    have h2 := Rat.inv_pos.mpr (a.pos hf)
    have h3 := a.hi
    have h4 := a.b0
    exact mul_le2 (by grind) (by grind) (by grind) (a.inv hf).2.1
def G9 (fs : List Rat) : Nat := 2520 * 2520 * Gam fs
theorem Fs.ratio {s t : St3} (hf : ∀ f ∈ fs, Pc f) (a : Fs D fs s) (b : Fs D fs t) : Iz (G9 fs) (s.2.2⁻¹ * t.2.2) := by
  obtain ⟨p, x, e, h1, h2⟩ := a.pc
  obtain ⟨q, y, e2, h3, h4⟩ := b.pc
  rw [e, e2, inv_mul2 h1.pos (fx_pos hf h2), show p⁻¹ * x⁻¹ * (q * y) = p⁻¹ * q * (y * x⁻¹) by grind]
  exact (h1.iv.mul h3.iz).mul (fx_ratio hf h4 h2)
/-- times of the show: by each pace places of the reel -/
def Tz (D E : Nat) (fs : List Rat) (t : Rat) : Prop := ∀ s, Fs D fs s → Iz E (t * s.2.2)
theorem tz_lst {s : St3} (hf : ∀ f ∈ fs, Pc f) (a : Fs D fs s) : Tz D (D * G9 fs) fs (lst3 s) := by
  intro t ht
  unfold lst3
  rw [Rat.div_def, Rat.mul_assoc]
  exact (a.ze.sub a.zb).mul (a.ratio hf ht)
theorem tz_sub {E : Nat} {x y : Rat} (hx : Tz D E fs x) (hy : Tz D E fs y) : Tz D E fs (x - y) := fun s hs => by
  rw [show (x - y) * s.2.2 = x * s.2.2 - y * s.2.2 by grind]
  exact (hx s hs).sub (hy s hs)
theorem tz_add {E : Nat} {x y : Rat} (hx : Tz D E fs x) (hy : Tz D E fs y) : Tz D E fs (x + y) := fun s hs => by
  rw [Rat.add_mul]
  exact (hx s hs).add (hy s hs)
theorem tz_zero {E : Nat} : Tz D E fs 0 := fun s _ => by
  rw [Rat.zero_mul]
  exact iz_zero _
theorem tz_len (hf : ∀ f ∈ fs, Pc f) : ∀ (xs : List St3), (∀ s ∈ xs, Fs D fs s) → Tz D (D * G9 fs) fs (lenS xs)
  | [], _ => tz_zero
  | s :: r, h => tz_add (tz_lst hf (h s List.mem_cons_self)) (tz_len hf r fun z hz => h z (List.mem_cons_of_mem _ hz))
theorem Tz.part {E : Nat} {x q : Rat} (hx : Tz D E fs x) (hq : Iz 1100 q) : Tz D (E * 1100) fs (x * q) := fun s hs => by
  rw [show x * q * s.2.2 = x * s.2.2 * q by grind]
  exact (hx s hs).mul hq
theorem Tz.up {E : Nat} {x : Rat} (hx : Tz D E fs x) (n : Nat) : Tz D (E * n) fs x := fun s hs => (hx s hs).up n
theorem pf_cases (b : Rat) : pf b = b ∨ pf b = 0 := by
  unfold pf
  split
  · exact .inl rfl
  · exact .inr rfl
theorem pg_cases (l e : Rat) : pg l e = e ∨ pg l e = l := by
  unfold pg
  split
  · exact .inl rfl
  · exact .inr rfl
theorem piece_fs {E : Nat} {s : St3} {b e : Rat} (hf : ∀ f ∈ fs, Pc f) (a : Fs D fs s) (hE : D ∣ E) (hl : Tz D E fs (lst3 s)) (hb : Tz D E fs b) (he : Tz D E fs e) : ∀ t ∈ piece s b e, Fs E fs t := by
  intro t ht
  rw [piece_pf] at ht
  have hp := a.pos hf
  split at ht
  · rename_i c
    rw [List.mem_singleton.mp ht]
    have f0 := pf0 b
    have g0 := pgl (lst3 s) e
    have m := lst_mul hp
    have h1 : 0 ≤ pf b * s.2.2 := Rat.mul_nonneg f0 (by grind)
    have h2 : pf b * s.2.2 < pg (lst3 s) e * s.2.2 := Rat.mul_lt_mul_of_pos_right c hp
    have h3 : pg (lst3 s) e * s.2.2 ≤ lst3 s * s.2.2 := Rat.mul_le_mul_of_nonneg_right g0 (by grind)
    have h4 := a.b0
    have h5 := a.hi
    have zf : Iz E (pf b * s.2.2) := by
      rcases pf_cases b with z | z
      · rw [z]
        exact hb s a
      · rw [z]
        exact tz_zero (E := E) s a
    have zg : Iz E (pg (lst3 s) e * s.2.2) := by
      rcases pg_cases (lst3 s) e with z | z
      · rw [z]
        exact he s a
      · rw [z]
        exact hl s a
    refine ⟨?_, ?_, ?_, (a.zb.dvd hE).add zf, (a.zb.dvd hE).add zg, a.pc⟩
    · show 0 ≤ s.1 + pf b * s.2.2
      grind
    · show s.1 + pf b * s.2.2 < s.1 + pg (lst3 s) e * s.2.2
      grind
    · show s.1 + pg (lst3 s) e * s.2.2 ≤ 300
      grind
  · cases ht
theorem cut_fs {E : Nat} (hf : ∀ f ∈ fs, Pc f) (hE : D * G9 fs ∣ E) : ∀ (xs : List St3) (b e : Rat), (∀ s ∈ xs, Fs D fs s) → Tz D E fs b → Tz D E fs e → ∀ t ∈ cutM xs b e, Fs E fs t
  | [], _, _, _, _, _, t, ht => by cases ht
  | s :: r, b, e, h, hb, he, t, ht => by
    have a := h s List.mem_cons_self
    have hl : Tz D E fs (lst3 s) := fun u hu => (tz_lst hf a u hu).dvd hE
    rcases List.mem_append.mp (show t ∈ piece s b e ++ cutM r (b - lst3 s) (e - lst3 s) from ht) with h1 | h1
    · exact piece_fs hf a (Nat.dvd_trans (Nat.dvd_mul_right _ _) hE) hl hb he t h1
    · exact cut_fs hf hE r _ _ (fun z hz => h z (List.mem_cons_of_mem _ hz)) (tz_sub hb hl) (tz_sub he hl) t h1
theorem Fs.dvd {E : Nat} {s : St3} (a : Fs D fs s) (h : D ∣ E) : Fs E fs s := ⟨a.b0, a.lt, a.hi, a.zb.dvd h, a.ze.dvd h, a.pc⟩
theorem Fs.more {f : Rat} {s : St3} (a : Fs D fs s) : Fs D (f :: fs) s := by
  obtain ⟨p, x, e, h1, h2⟩ := a.pc
  exact ⟨a.b0, a.lt, a.hi, a.zb, a.ze, p, x, e, h1, .skip h2⟩
theorem Fs.fast {f : Rat} {s : St3} (a : Fs D fs s) : Fs D (f :: fs) (s.1, s.2.1, s.2.2 * f) := by
  obtain ⟨p, x, e, h1, h2⟩ := a.pc
  exact ⟨a.b0, a.lt, a.hi, a.zb, a.ze, p, x * f, by show s.2.2 * f = p * (x * f); rw [e]; grind, h1, .take h2⟩
end
/-! how many pieces there are -/
theorem cut_none : ∀ (xs : List St3) (lo b : Rat), (∀ s ∈ xs, Gd3 s) → b ≤ 0 → cutM xs lo b = []
  | [], _, _, _, _ => rfl
  | s :: r, lo, b, h, hb => by
    have hs := (h s List.mem_cons_self).l
    have e : piece s lo b = [] := by
      rw [piece_pf]
      have h1 := pf0 lo
      have h2 := pge (lst3 s) b
      rw [if_neg (by grind)]
    show piece s lo b ++ cutM r (lo - lst3 s) (b - lst3 s) = []
    rw [e, cut_none r _ _ (fun z hz => h z (List.mem_cons_of_mem _ hz)) (by grind)]
    rfl
theorem piece_lt {s : St3} {b e : Rat} (h : (piece s b e).length ≠ 0) : b < lst3 s ∧ 0 < e := by
  rw [piece_pf] at h
  split at h
  · rename_i c
    have h1 := pfb b
    have h2 := pf0 b
    have h3 := pge (lst3 s) e
    have h4 := pgl (lst3 s) e
    grind
  · exact absurd rfl h
theorem cut_len1 (xs : List St3) (b e : Rat) : (cutM xs b e).length ≤ xs.length := by
  induction xs generalizing b e with
  | nil => exact Nat.le_refl _
  | cons s r ih =>
    have h1 := piece_len s b e
    have h2 := ih (b - lst3 s) (e - lst3 s)
    show (piece s b e ++ cutM r (b - lst3 s) (e - lst3 s)).length ≤ r.length + 1
    rw [List.length_append]
    omega
theorem cut_len2 : ∀ (xs : List St3) (lo b e hi : Rat), (∀ s ∈ xs, Gd3 s) → b ≤ e → (cutM xs lo b).length + (cutM xs e hi).length ≤ xs.length + 1
  | [], _, _, _, _, _, _ => by show 0 + 0 ≤ 0 + 1; omega
  | s :: r, lo, b, e, hi, h, hbe => by
    have hr : ∀ z ∈ r, Gd3 z := fun z hz => h z (List.mem_cons_of_mem _ hz)
    have ih := cut_len2 r (lo - lst3 s) (b - lst3 s) (e - lst3 s) (hi - lst3 s) hr (by grind)
    have p1 := piece_len s lo b
    have p2 := piece_len s e hi
    have c2 := cut_len1 r (e - lst3 s) (hi - lst3 s)
    show (piece s lo b ++ cutM r (lo - lst3 s) (b - lst3 s)).length + (piece s e hi ++ cutM r (e - lst3 s) (hi - lst3 s)).length ≤ r.length + 1 + 1
    rw [List.length_append, List.length_append]
    by_cases c : (piece s e hi).length = 0
    · omega
    · have := (piece_lt c).1
      rw [cut_none r (lo - lst3 s) (b - lst3 s) hr (by grind)]
      show _ + 0 + _ ≤ _
      omega
theorem cut_len3 : ∀ (xs : List St3) (lo b e hi : Rat), (∀ s ∈ xs, Gd3 s) → b ≤ e → (cutM xs lo b).length + (cutM xs b e).length + (cutM xs e hi).length ≤ xs.length + 2
  | [], _, _, _, _, _, _ => by show 0 + 0 + 0 ≤ 0 + 2; omega
  | s :: r, lo, b, e, hi, h, hbe => by
    have hr : ∀ z ∈ r, Gd3 z := fun z hz => h z (List.mem_cons_of_mem _ hz)
    have ih := cut_len3 r (lo - lst3 s) (b - lst3 s) (e - lst3 s) (hi - lst3 s) hr (by grind)
    have ih2 := cut_len2 r (b - lst3 s) (e - lst3 s) (e - lst3 s) (hi - lst3 s) hr (Rat.le_refl)
    have p1 := piece_len s lo b
    have p2 := piece_len s e hi
    have p3 := piece_len s b e
    have c2 := cut_len1 r (e - lst3 s) (hi - lst3 s)
    show (piece s lo b ++ cutM r (lo - lst3 s) (b - lst3 s)).length + (piece s b e ++ cutM r (b - lst3 s) (e - lst3 s)).length + (piece s e hi ++ cutM r (e - lst3 s) (hi - lst3 s)).length ≤ r.length + 1 + 2
    rw [List.length_append, List.length_append, List.length_append]
    by_cases c : (piece s e hi).length = 0
    · by_cases c' : (piece s b e).length = 0
      · omega
      · have := (piece_lt c').1
        rw [cut_none r (lo - lst3 s) (b - lst3 s) hr (by grind)]
        show _ + 0 + _ + _ ≤ _
        omega
    · have := (piece_lt c).1
      rw [cut_none r (lo - lst3 s) (b - lst3 s) hr (by grind), cut_none r (b - lst3 s) (e - lst3 s) hr (by grind)]
      show _ + 0 + (_ + 0) + _ ≤ _
      omega
end R
namespace R
/-! ### shows behind so many deeds -/
def gB (i : Nat) : Nat := 2520 * 2520 * 81 ^ i
def dB : Nat → Nat
  | 0 => L30
  | i + 1 => dB i * gB i * 1100
structure SdX (i D : Nat) (fs : List Rat) (xs : List St3) : Prop where
  d0 : 0 < D
  dl : L30 ∣ D
  db : D ≤ dB i
  fl : fs.length ≤ i
  pf : ∀ f ∈ fs, Pc f
  each : ∀ s ∈ xs, Fs D fs s
  len : xs.length ≤ 6 + 4 * i
def Sd (i : Nat) (xs : List St3) : Prop := ∃ D fs, SdX i D fs xs
theorem dB_pos : ∀ i, 0 < dB i
  | 0 => by decide
  | i + 1 => Nat.mul_pos (Nat.mul_pos (dB_pos i) (Nat.mul_pos (by decide) (Nat.pow_pos (by decide)))) (by decide)
theorem dB_step (i : Nat) : dB i ≤ dB (i + 1) := by
  show dB i ≤ dB i * gB i * 1100
  have h1 : 0 < gB i := Nat.mul_pos (by decide) (Nat.pow_pos (by decide))
  calc dB i = dB i * 1 * 1 := by omega
    _ ≤ dB i * gB i * 1100 := Nat.mul_le_mul (Nat.mul_le_mul (Nat.le_refl _) h1) (by decide)
theorem dB_mono {i j : Nat} (h : i ≤ j) : dB i ≤ dB j := by
  induction h with
  | refl => exact Nat.le_refl _
  | step _ ih => exact Nat.le_trans ih (dB_step _)
theorem p9_nat : ∀ n : Nat, p9 n = ((9 ^ n : Nat) : Rat)
  | 0 => rfl
  | n + 1 => by
    show p9 n * 9 = _
    rw [p9_nat n, Nat.pow_succ, Rat.natCast_mul]
    rfl
theorem len_le {D : Nat} {fs : List Rat} (hf : ∀ f ∈ fs, Pc f) : ∀ (xs : List St3), (∀ s ∈ xs, Fs D fs s) → Iz (D * (2520 * Gam fs)) (lenS xs) ∧ 0 ≤ lenS xs ∧ lenS xs ≤ ((xs.length * (300 * (9 * 9 ^ fs.length)) : Nat) : Rat)
  | [], _ => ⟨iz_zero _, Rat.le_refl, by show (0 : Rat) ≤ _; exact Rat.natCast_nonneg⟩
  | s :: r, h => by
    obtain ⟨h1, h2, h3⟩ := (h s List.mem_cons_self).lst hf
    obtain ⟨g1, g2, g3⟩ := len_le hf r fun z hz => h z (List.mem_cons_of_mem _ hz)
    refine ⟨h1.add g1, Rat.add_nonneg h2 g2, ?_⟩
    rw [p9_nat] at h3
    have e : (((s :: r).length * (300 * (9 * 9 ^ fs.length)) : Nat) : Rat) = ((r.length * (300 * (9 * 9 ^ fs.length)) : Nat) : Rat) + 300 * (9 * ((9 ^ fs.length : Nat) : Rat)) := by
      rw [List.length_cons, Nat.add_mul, Nat.one_mul, Rat.natCast_add, Rat.natCast_mul 300, Rat.natCast_mul 9]
      rfl
    rw [e]
    show lst3 s + lenS r ≤ _
    grind
theorem big1 : 76400 * (9 * 9 ^ 19) * (dB 19 * (2520 * 81 ^ 19) * 1100) < 2 ^ 2240 := by decide +kernel
theorem big {M E : Nat} (hM : M ≤ 76400 * (9 * 9 ^ 19)) (hE : E ≤ dB 19 * (2520 * 81 ^ 19) * 1100) : M * E < 2 ^ 2240 := Nat.lt_of_le_of_lt (Nat.mul_le_mul hM hE) big1
theorem big' {E : Nat} (hE : E ≤ dB 19 * (2520 * 81 ^ 19) * 1100) : E < 2 ^ 2240 := by
  have := big (M := 1) (by decide +kernel) hE
  omega
theorem szB {E M : Nat} {x : Rat} (h0 : 0 < E) (hE : E ≤ dB 19 * (2520 * 81 ^ 19) * 1100) (hz : Iz E x) (h1 : 0 ≤ x) (h2 : x ≤ (M : Rat)) (hM : M ≤ 76400 * (9 * 9 ^ 19)) : Sz 2240 x := by
  refine hz.sz h0 (M := M) ?_ h2 (big hM hE) (big' hE)
  have : (0 : Rat) ≤ (M : Rat) := Rat.natCast_nonneg
  grind
section
variable {i D : Nat} {fs : List Rat} {xs : List St3}
theorem SdX.gam (h : SdX i D fs xs) (hi : i ≤ 19) : 0 < Gam fs ∧ Gam fs ≤ 81 ^ 19 := ⟨Gam_pos fs h.pf, Nat.le_trans (Gam_le fs h.pf) (Nat.pow_le_pow_right (by decide) (Nat.le_trans h.fl hi))⟩
theorem SdX.E1 (h : SdX i D fs xs) (hi : i ≤ 19) : D * (2520 * Gam fs) * 1100 ≤ dB 19 * (2520 * 81 ^ 19) * 1100 :=
  Nat.mul_le_mul (Nat.mul_le_mul (Nat.le_trans h.db (dB_mono hi)) (Nat.mul_le_mul (Nat.le_refl _) (h.gam hi).2)) (Nat.le_refl _)
theorem SdX.E1p (h : SdX i D fs xs) (hi : i ≤ 19) : 0 < D * (2520 * Gam fs) * 1100 := Nat.mul_pos (Nat.mul_pos h.d0 (Nat.mul_pos (by decide) (h.gam hi).1)) (by decide)
theorem SdX.M1 (h : SdX i D fs xs) (hi : i ≤ 19) {n : Nat} (hn : n ≤ 82) : n * (300 * (9 * 9 ^ fs.length)) ≤ 76400 * (9 * 9 ^ 19) := by
  have h1 : 9 ^ fs.length ≤ 9 ^ 19 := Nat.pow_le_pow_right (by decide) (Nat.le_trans h.fl hi)
  calc n * (300 * (9 * 9 ^ fs.length)) ≤ 82 * (300 * (9 * 9 ^ 19)) := Nat.mul_le_mul hn (Nat.mul_le_mul (Nat.le_refl _) (Nat.mul_le_mul (Nat.le_refl _) h1))
    _ ≤ 76400 * (9 * 9 ^ 19) := by decide +kernel
theorem SdX.ok (h : SdX i D fs xs) (hi : i ≤ 19) : ShOk 2240 xs := by
  have hl : ∀ ys : List St3, (∀ s ∈ ys, s ∈ xs) → ys.length ≤ 82 → Sz 2240 (lenS ys) := by
    intro ys hy hn
    obtain ⟨h1, h2, h3⟩ := len_le h.pf ys fun s hs => h.each s (hy s hs)
    exact szB (h.E1p hi) (h.E1 hi) (h1.up 1100) h2 h3 (h.M1 hi hn)
  have hD : ∀ s ∈ xs, Iz (D * (2520 * Gam fs) * 1100) s.1 ∧ Iz (D * (2520 * Gam fs) * 1100) s.2.1 ∧ Iz (D * (2520 * Gam fs) * 1100) s.2.2 := by
    intro s hs
    have a := h.each s hs
    refine ⟨(a.zb.up _).up _, (a.ze.up _).up _, ?_⟩
    rw [Nat.mul_comm D]
    exact ((a.inv h.pf).2.2.1.up D).up _
  refine ⟨fun s hs => ?_, fun k => ?_, fun s hs => ?_⟩
  · have a := h.each s hs
    obtain ⟨z1, z2, z3⟩ := hD s hs
    have hp := a.pos h.pf
    have b1 := a.b0
    have b2 := a.lt
    have b3 := a.hi
    have m3 : ((300 : Nat) : Rat) = 300 := rfl
    refine ⟨szB (M := 300) (h.E1p hi) (h.E1 hi) z1 b1 (by grind) (by decide +kernel), szB (M := 300) (h.E1p hi) (h.E1 hi) z2 (by grind) (by grind) (by decide +kernel), szB (M := 1 * (300 * (9 * 9 ^ fs.length))) (h.E1p hi) (h.E1 hi) z3 (by grind) ?_ (h.M1 hi (by decide)), hp⟩
    have := (a.inv h.pf).2.2.2
    rw [p9_nat] at this
    rw [Nat.one_mul, Rat.natCast_mul 300, Rat.natCast_mul 9]
    have q : (0 : Rat) ≤ ((9 ^ fs.length : Nat) : Rat) := Rat.natCast_nonneg
    show s.2.2 ≤ 300 * (9 * ((9 ^ fs.length : Nat) : Rat))
    grind
  · refine hl _ (fun s hs => List.mem_of_mem_take hs) ?_
    have := h.len
    rw [List.length_take]
    omega
  · have := hl [s] (fun t ht => by rw [List.mem_singleton.mp ht]; exact hs) (by show 1 ≤ 82; decide)
    rw [lenS_one] at this
    exact this
theorem SdX.gd (h : SdX i D fs xs) : ∀ s ∈ xs, Gd3 s := fun s hs => (h.each s hs).gd h.pf
/-- a time of a show -/
def Tq (xs : List St3) (t : Rat) : Prop := ∃ q, Iz 1100 q ∧ 0 ≤ q ∧ q ≤ 1 ∧ t = lenS xs * q
theorem SdX.time (h : SdX i D fs xs) (hi : i ≤ 19) {t : Rat} (ht : Tq xs t) : Sz 2240 t ∧ 0 ≤ t ∧ t ≤ lenS xs := by
  obtain ⟨q, h1, h2, h3, rfl⟩ := ht
  obtain ⟨g1, g2, g3⟩ := len_le h.pf xs h.each
  have p1 : lenS xs * q ≤ lenS xs * 1 := Rat.mul_le_mul_of_nonneg_left h3 g2
  have p0 := Rat.mul_nonneg g2 h2
  refine ⟨szB (h.E1p hi) (h.E1 hi) (g1.mul h1) p0 ?_ (h.M1 hi (n := xs.length) (by have := h.len; omega)), p0, by grind⟩
  grind
theorem tq_zero (xs : List St3) : Tq xs 0 := ⟨0, iz_zero _, Rat.le_refl, by decide, by grind⟩
theorem tq_all (xs : List St3) : Tq xs (lenS xs) := ⟨1, iz_int 1100 1, by decide, Rat.le_refl, by grind⟩
theorem Tq.tz (h : SdX i D fs xs) {t : Rat} (ht : Tq xs t) : Tz D (D * G9 fs * 1100) fs t := by
  obtain ⟨q, h1, _, _, rfl⟩ := ht
  exact (tz_len h.pf xs h.each).part h1
theorem SdX.cut (h : SdX i D fs xs) {b e : Rat} (hb : Tq xs b) (he : Tq xs e) : ∀ s ∈ cutM xs b e, Fs (D * G9 fs * 1100) fs s :=
  cut_fs h.pf (Nat.dvd_mul_right _ _) xs b e h.each (hb.tz h) (he.tz h)
theorem SdX.next (h : SdX i D fs xs) {ys : List St3} {gs : List Rat} (hg : gs.length ≤ i + 1) (pg : ∀ f ∈ gs, Pc f) (he : ∀ s ∈ ys, Fs (D * G9 fs * 1100) gs s) (hl : ys.length ≤ xs.length + 4) : SdX (i + 1) (D * G9 fs * 1100) gs ys := by
  refine ⟨Nat.mul_pos (Nat.mul_pos h.d0 (Nat.mul_pos (by decide) (Gam_pos fs h.pf))) (by decide), Nat.dvd_trans h.dl (Nat.dvd_trans (Nat.dvd_mul_right _ _) (Nat.dvd_mul_right _ _)), ?_, hg, pg, he, by have := h.len; omega⟩
  refine Nat.mul_le_mul (Nat.mul_le_mul h.db ?_) (Nat.le_refl _)
  exact Nat.mul_le_mul (Nat.le_refl _) (Nat.le_trans (Gam_le fs h.pf) (Nat.pow_le_pow_right (by decide) h.fl))
theorem mem_app {P : St3 → Prop} {a b : List St3} (ha : ∀ s ∈ a, P s) (hb : ∀ s ∈ b, P s) : ∀ s ∈ a ++ b, P s := fun s hs => (List.mem_append.mp hs).elim (ha s) (hb s)
theorem Sd.out (h : Sd i xs) {b e : Rat} (hb : Tq xs b) (he : Tq xs e) (hbe : b ≤ e) : Sd (i + 1) (cutM xs 0 b ++ cutM xs e (lenS xs)) := by
  obtain ⟨D, fs, h⟩ := h
  refine ⟨_, fs, h.next (by have := h.fl; omega) h.pf (mem_app (h.cut (tq_zero xs) hb) (h.cut he (tq_all xs))) ?_⟩
  rw [List.length_append]
  have := cut_len2 xs 0 b e (lenS xs) h.gd hbe
  omega
theorem fs_new {E : Nat} {gs : List Rat} {s : St3} (a : Fs L30 [] s) (h : L30 ∣ E) : Fs E gs s := by
  obtain ⟨p, x, e, h1, h2⟩ := a.pc
  cases h2
  exact ⟨a.b0, a.lt, a.hi, a.zb.dvd h, a.ze.dvd h, p, 1, e, h1, fx_one gs⟩
theorem Sd.into (h : Sd i xs) {b e : Rat} (hb : Tq xs b) (he : Tq xs e) (hbe : b ≤ e) {ys : List St3} (hy : ∀ s ∈ ys, Fs L30 [] s) (ly : ys.length ≤ 2) : Sd (i + 1) (cutM xs 0 b ++ ys ++ cutM xs b e ++ cutM xs e (lenS xs)) := by
  obtain ⟨D, fs, h⟩ := h
  refine ⟨_, fs, h.next (by have := h.fl; omega) h.pf (mem_app (mem_app (mem_app (h.cut (tq_zero xs) hb) fun s hs => fs_new (hy s hs) (Nat.dvd_trans h.dl (Nat.dvd_trans (Nat.dvd_mul_right _ _) (Nat.dvd_mul_right _ _)))) (h.cut hb he)) (h.cut he (tq_all xs))) ?_⟩
  rw [List.length_append, List.length_append, List.length_append]
  have := cut_len3 xs 0 b e (lenS xs) h.gd hbe
  omega
theorem Sd.faster (h : Sd i xs) {b e f : Rat} (hb : Tq xs b) (he : Tq xs e) (hbe : b ≤ e) (hf : Pc f) : Sd (i + 1) (cutM xs 0 b ++ fastM f (cutM xs b e) ++ cutM xs e (lenS xs)) := by
  obtain ⟨D, fs, h⟩ := h
  refine ⟨_, f :: fs, h.next (by have := h.fl; show fs.length + 1 ≤ _; omega) ?_ (mem_app (mem_app (fun s hs => (h.cut (tq_zero xs) hb s hs).more) ?_) (fun s hs => (h.cut he (tq_all xs) s hs).more)) ?_⟩
  · intro g hg
    rcases List.mem_cons.mp hg with z | z
    · rw [z]
      exact hf
    · exact h.pf g z
  · intro s hs
    obtain ⟨t, ht, rfl⟩ := List.mem_map.mp hs
    exact (h.cut hb he t ht).fast
  · rw [List.length_append, List.length_append, show (fastM f (cutM xs b e)).length = (cutM xs b e).length from List.length_map ..]
    have := cut_len3 xs 0 b e (lenS xs) h.gd hbe
    omega
theorem norm_le (xs : List St3) : (normM xs).length ≤ xs.length := by
  refine snoc_ind (P := fun xs => (normM xs).length ≤ xs.length) (Nat.le_refl _) (fun b s ih => ?_) xs
  rw [norm_snoc, List.length_append]
  have := nstep_len (normM b) s
  show _ ≤ _ + 1
  omega
theorem Sd.norm (h : Sd i xs) : Sd i (normM xs) := by
  obtain ⟨D, fs, h⟩ := h
  exact ⟨D, fs, h.d0, h.dl, h.db, h.fl, h.pf, norm_all fs_join xs h.each, Nat.le_trans (norm_le xs) h.len⟩
theorem Sd.start (hy : ∀ s ∈ xs, Fs L30 [] s) (ly : xs.length ≤ 6) : Sd 0 xs := ⟨L30, [], by decide, Nat.dvd_refl _, Nat.le_refl _, Nat.le_refl _, (fun f hf => nomatch hf), hy, by omega⟩
theorem Sd.ok (h : Sd i xs) (hi : i ≤ 19) : ShOk 2240 xs := let ⟨_, _, h⟩ := h; h.ok hi
theorem Sd.gd (h : Sd i xs) : ∀ s ∈ xs, Gd3 s := let ⟨_, _, h⟩ := h; h.gd
theorem Sd.time (h : Sd i xs) (hi : i ≤ 19) {t : Rat} (ht : Tq xs t) : Sz 2240 t ∧ 0 ≤ t ∧ t ≤ lenS xs := let ⟨_, _, h⟩ := h; h.time hi ht
theorem Sd.len (h : Sd i xs) : xs.length ≤ 6 + 4 * i := let ⟨_, _, h⟩ := h; h.len
end
end R
namespace R
/-! ### what is drawn -/
structure Tm (m : Int) (x : Rat) : Prop where
  iz : Iz L30 x
  lo : 0 ≤ x
  hi : x ≤ (m : Rat)
  sz : Sz 17 x
  s6 : m ≤ 60 → Sz 6 x
  dn : x.den ≤ 30
theorem l30_int {c : Int} (h0 : 0 < c) (h1 : c ≤ 30) : c ∣ (L30 : Int) := by
  have := l30_dvd c.natAbs (by omega) (by omega)
  exact Int.natAbs_dvd_natAbs.mp this
theorem div_le {r c : Int} (h0 : 0 ≤ r) (c0 : 0 < c) : 0 ≤ Rat.divInt r c ∧ Rat.divInt r c ≤ (r : Rat) := by
  have hr : (0 : Rat) ≤ (r : Rat) := Rat.intCast_nonneg.mpr h0
  have hc : (0 : Rat) < (c : Rat) := Rat.intCast_pos.mpr c0
  have h1 : ((1 : Int) : Rat) ≤ (c : Rat) := Rat.intCast_le_intCast.mpr (by omega)
  have hi := Rat.inv_pos.mpr hc
  have hm := Rat.inv_mul_cancel _ (ne_of_pos hc)
  have e1 : ((1 : Int) : Rat) = 1 := rfl
  rw [Rat.divInt_eq_div, Rat.div_def]
  refine ⟨Rat.mul_nonneg hr (by grind), ?_⟩
  have h2 : (c : Rat)⁻¹ * 1 ≤ (c : Rat)⁻¹ * (c : Rat) := Rat.mul_le_mul_of_nonneg_left (by grind) (by grind)
  have h3 : (r : Rat) * (c : Rat)⁻¹ ≤ (r : Rat) * 1 := Rat.mul_le_mul_of_nonneg_left (by grind) hr
  grind
theorem tm_frac {m r c : Int} (h0 : 0 ≤ r) (h1 : r < m) (hm : m ≤ 100000) (c0 : 0 < c) (c1 : c ≤ 30) : Tm m (Rat.divInt r c) := by
  obtain ⟨a1, a2⟩ := div_le h0 c0
  have h2 : (r : Rat) ≤ (m : Rat) := Rat.intCast_le_intCast.mpr (by omega)
  refine ⟨iz_divInt c0 (l30_int c0 c1), a1, Rat.le_trans a2 h2, sz_divInt (by omega) (by omega) (by omega), fun hh => sz_divInt (by omega) (by omega) (by omega), ?_⟩
  have := divInt_den_le (t := r) (b := c) (by omega)
  omega
theorem tm_int {m r : Int} (h0 : 0 ≤ r) (h1 : r < m) (hm : m ≤ 100000) : Tm m (r : Rat) := by
  refine ⟨iz_int _ _, Rat.intCast_nonneg.mpr h0, Rat.intCast_le_intCast.mpr (by omega), sz_int (by decide) (by omega), fun hh => sz_int (by decide) (by omega), by show 1 ≤ 30; decide⟩
theorem pc_frac {a b : Int} (a0 : 1 ≤ a) (a9 : a ≤ 9) (b0 : 1 ≤ b) (b9 : b ≤ 9) : Pc (Rat.divInt a b) := by
  refine ⟨?_, ?_, ?_⟩
  · rw [Rat.divInt_eq_div, Rat.div_def]
    exact Rat.mul_pos (Rat.intCast_pos.mpr (by omega)) (Rat.inv_pos.mpr (Rat.intCast_pos.mpr (by omega)))
  · have := divInt_num_le a b
    omega
  · have := divInt_den_le (t := a) (b := b) (by omega)
    omega
structure Wq (q : Rat) : Prop where
  iz : Iz 1100 q
  lo : 0 ≤ q
  hi : q ≤ 1
  sz : Sz 7 q
theorem wq_frac {r c : Int} (h0 : 0 ≤ r) (h1 : r ≤ c) (c0 : 0 < c) (hc : c ∣ 1100) (h7 : c ≤ 100) : Wq (Rat.divInt r c) := by
  refine ⟨iz_divInt c0 hc, (div_le h0 c0).1, ?_, sz_divInt (by omega) (by omega) (by omega)⟩
  have hp : (0 : Rat) < (c : Rat) := Rat.intCast_pos.mpr c0
  have hi := Rat.inv_pos.mpr hp
  have hm := Rat.mul_inv_cancel _ (ne_of_pos hp)
  have h2 : (r : Rat) ≤ (c : Rat) := Rat.intCast_le_intCast.mpr h1
  rw [Rat.divInt_eq_div, Rat.div_def]
  have := Rat.mul_le_mul_of_nonneg_right h2 (show 0 ≤ (c : Rat)⁻¹ by grind)
  grind
def bnd : Nat → Rat
  | 0 => 60
  | n + 1 => bnd n + 31
theorem bnd_le : ∀ n, 60 ≤ bnd n
  | 0 => by decide
  | n + 1 => by
    have := bnd_le n
    show 60 ≤ bnd n + 31
    grind
theorem bnd_step (n : Nat) : bnd n ≤ bnd (n + 1) := by
  show bnd n ≤ bnd n + 31
  grind
theorem bnd_300 : ∀ n, n ≤ 6 → bnd n ≤ 300
  | 0, _ => by decide
  | 1, _ => by show (60 : Rat) + 31 ≤ (300 : Rat); grind
  | 2, _ => by show (60 : Rat) + 31 + 31 ≤ (300 : Rat); grind
  | 3, _ => by show (60 : Rat) + 31 + 31 + 31 ≤ (300 : Rat); grind
  | 4, _ => by show (60 : Rat) + 31 + 31 + 31 + 31 ≤ (300 : Rat); grind
  | 5, _ => by show (60 : Rat) + 31 + 31 + 31 + 31 + 31 ≤ (300 : Rat); grind
  | 6, _ => by show (60 : Rat) + 31 + 31 + 31 + 31 + 31 + 31 ≤ (300 : Rat); grind
  | n + 7, h => absurd h (by omega)
/-- a stretch as it is drawn -/
theorem fs_drawn {i : Nat} (hi : i ≤ 5) {b t p : Rat} (zb : Iz L30 b) (b0 : 0 ≤ b) (bb : b ≤ bnd i) (ht : Tm 30 t) (hp : Pc p) : Fs L30 [] (b, b + (Rat.divInt 1 2 + t), p) ∧ b + (Rat.divInt 1 2 + t) ≤ bnd (i + 1) := by
  have h1 : (0 : Rat) < Rat.divInt 1 2 := by decide
  have h2 : Rat.divInt 1 2 ≤ 1 := by decide
  have h3 := ht.lo
  have h4 := ht.hi
  have e30 : ((30 : Int) : Rat) = 30 := rfl
  rw [e30] at h4
  have h5 : b + (Rat.divInt 1 2 + t) ≤ bnd (i + 1) := by
    show _ ≤ bnd i + 31
    grind
  have h6 := bnd_300 (i + 1) (by omega)
  refine ⟨⟨b0, ?_, Rat.le_trans h5 h6, zb, zb.add ((iz_divInt (by decide) (l30_int (by decide) (by decide))).add ht.iz), p, 1, by show p = p * 1; grind, hp, .nil⟩, h5⟩
  show b < b + (Rat.divInt 1 2 + t)
  grind
end R
namespace R
/-! ### cues, as plain data -/
structure TB (x : Rat) : Prop where
  lo : 0 ≤ x
  hi : x ≤ 100100
  dn : x.den ≤ 29700
theorem den_add_le (x y : Rat) : (x + y).den ≤ x.den * y.den := by
  rw [← add_parts]
  exact divInt_den_le (den_mul_ne x y)
theorem den_mul_le (x y : Rat) : (x * y).den ≤ x.den * y.den := by
  rw [← mul_parts]
  exact divInt_den_le (den_mul_ne x y)
theorem num_nonneg {x : Rat} (h : 0 ≤ x) : 0 ≤ x.num := by
  have h1 := (Rat.le_iff 0 x).mp h
  have e1 : (0 : Rat).num = 0 := rfl
  have e2 : (0 : Rat).den = 1 := rfl
  rw [e1, e2, Int.zero_mul] at h1
  omega
theorem TB.num {x : Rat} (h : TB x) : 0 ≤ x.num ∧ x.num ≤ 2972970000 := by
  refine ⟨num_nonneg h.lo, ?_⟩
  have h1 := mul_den x
  have h2 : x * (x.den : Rat) ≤ 100100 * (x.den : Rat) := Rat.mul_le_mul_of_nonneg_right h.hi Rat.natCast_nonneg
  have h3 : (x.den : Rat) ≤ ((29700 : Nat) : Rat) := Rat.natCast_le_natCast.mpr h.dn
  have e3 : ((29700 : Nat) : Rat) = 29700 := rfl
  have h4 : (x.num : Rat) ≤ ((2972970000 : Int) : Rat) := by
    rw [← h1]
    have e4 : ((2972970000 : Int) : Rat) = 2972970000 := rfl
    rw [e4]
    grind
  exact Rat.intCast_le_intCast.mp h4
theorem TB.sz {x : Rat} (h : TB x) : Sz 32 x := ⟨by have := h.num; omega, by have := h.dn; omega⟩
theorem dn3 : (Rat.divInt 1 3).den ≤ 3 := divInt_den_le (by decide)
structure CueB (b t : Rat) : Prop where
  b : Tm 99999 b
  t : Tm 25 t
section
variable {b t : Rat}
def cEnd (b t : Rat) : Rat := b + (Rat.divInt 1 3 + t)
theorem third : (0 : Rat) < Rat.divInt 1 3 ∧ Rat.divInt 1 3 ≤ 1 := by decide
theorem CueB.lt (h : CueB b t) : b < cEnd b t := by
  have := h.t.lo
  have := third.1
  unfold cEnd
  grind
theorem e25 : ((25 : Int) : Rat) = 25 := rfl
theorem e99 : ((99999 : Int) : Rat) = 99999 := rfl
theorem CueB.end_le (h : CueB b t) : cEnd b t ≤ 100100 := by
  have h1 := h.t.hi
  have h2 := third.2
  have h3 := h.b.hi
  rw [e25] at h1
  rw [e99] at h3
  unfold cEnd
  grind
theorem CueB.tb (h : CueB b t) : TB b := ⟨h.b.lo, by have h3 := h.b.hi; rw [e99] at h3; grind, by have := h.b.dn; omega⟩
theorem far_dn (h : CueB b t) : (Rat.divInt 1 3 + t).den ≤ 90 := by
  have h1 := den_add_le (Rat.divInt 1 3) t
  have h2 : (Rat.divInt 1 3).den * t.den ≤ 3 * 30 := Nat.mul_le_mul dn3 h.t.dn
  omega
theorem CueB.te (h : CueB b t) : TB (cEnd b t) := by
  refine ⟨?_, h.end_le, ?_⟩
  · have := h.lt
    have := h.b.lo
    grind
  · have h1 := den_add_le b (Rat.divInt 1 3 + t)
    have h2 : b.den * (Rat.divInt 1 3 + t).den ≤ 30 * 90 := Nat.mul_le_mul h.b.dn (far_dn h)
    unfold cEnd
    omega
theorem inv11 : (0 : Rat) ≤ ((11 : Int) : Rat)⁻¹ := Rat.le_of_lt (Rat.inv_pos.mpr (Rat.intCast_pos.mpr (by decide)))
/-- the time of a word -/
def cAt (b t : Rat) (a : Int) : Rat := b + (cEnd b t - b) * Rat.divInt a 11
theorem far_eq (b t : Rat) : cEnd b t - b = Rat.divInt 1 3 + t := by
  unfold cEnd
  grind
theorem cAt_le {a c : Int} (h : CueB b t) (hac : a ≤ c) : cAt b t a ≤ cAt b t c := by
  have hf : 0 ≤ cEnd b t - b := by have := h.lt; grind
  have hq : Rat.divInt a 11 ≤ Rat.divInt c 11 := by
    rw [Rat.divInt_eq_div, Rat.divInt_eq_div, Rat.div_def, Rat.div_def]
    exact Rat.mul_le_mul_of_nonneg_right (Rat.intCast_le_intCast.mpr hac) inv11
  have := Rat.mul_le_mul_of_nonneg_left hq hf
  unfold cAt
  grind
theorem cAt_rg {a : Int} (h : CueB b t) (h0 : 0 ≤ a) (h1 : a ≤ 10) : b ≤ cAt b t a ∧ cAt b t a < cEnd b t ∧ TB (cAt b t a) := by
  have hl := h.lt
  have hf : 0 < cEnd b t - b := by grind
  have q0 := (div_le (r := a) (c := 11) h0 (by decide)).1
  have q1 : Rat.divInt a 11 < 1 := by
    have e : Rat.divInt a 11 ≤ Rat.divInt 10 11 := by
      rw [Rat.divInt_eq_div, Rat.divInt_eq_div, Rat.div_def, Rat.div_def]
      exact Rat.mul_le_mul_of_nonneg_right (Rat.intCast_le_intCast.mpr h1) inv11
    have e2 : Rat.divInt 10 11 < 1 := by decide
    grind
  have m0 := Rat.mul_nonneg (Rat.le_of_lt hf) q0
  have m1 : (cEnd b t - b) * Rat.divInt a 11 < (cEnd b t - b) * 1 := Rat.mul_lt_mul_of_pos_left q1 hf
  have r0 : b ≤ cAt b t a := by
    unfold cAt
    grind
  have r1 : cAt b t a < cEnd b t := by
    unfold cAt
    grind
  refine ⟨r0, r1, ?_, ?_, ?_⟩
  · have := h.b.lo
    grind
  · have := h.end_le
    grind
  · have d1 := den_mul_le (cEnd b t - b) (Rat.divInt a 11)
    rw [far_eq] at d1
    have d2 : (Rat.divInt a 11).den ≤ 11 := divInt_den_le (by decide)
    have d3 : (Rat.divInt 1 3 + t).den * (Rat.divInt a 11).den ≤ 90 * 11 := Nat.mul_le_mul (far_dn h) d2
    have d4 := den_add_le b ((cEnd b t - b) * Rat.divInt a 11)
    have d5 : b.den * ((cEnd b t - b) * Rat.divInt a 11).den ≤ 30 * 990 := Nat.mul_le_mul h.b.dn (by rw [far_eq]; omega)
    unfold cAt
    omega
end
end R
namespace R
/-! ### the parts of a cue -/
/-- (first place, last place, begin, end) -/
abbrev Run := Rat × Rat × Rat × Rat
def maxR (a b : Rat) : Rat := if a < b then b else a
def minR (a b : Rat) : Rat := if b < a then b else a
def tOf (st : Rat) (s : St3) (x : Rat) : Rat := st + (x - s.1) / s.2.2
/-- what a stretch shows of the frames from cb on, ahead of ce -/
def ovl (cb ce st : Rat) (s : St3) : List Run := if maxR cb s.1 < minR ce s.2.1 then [(maxR cb s.1, minR ce s.2.1, tOf st s (maxR cb s.1), tOf st s (minR ce s.2.1))] else []
def ovls (cb ce : Rat) : Rat → List St3 → List Run
  | _, [] => []
  | st, s :: r => ovl cb ce st s ++ ovls cb ce (st + lst3 s) r
def goesOn (a r : Run) : Prop := a.2.1 = r.1 ∧ a.2.2.2 = r.2.2.1
instance (a r : Run) : Decidable (goesOn a r) := inferInstanceAs (Decidable (_ ∧ _))
def rstep (acc : List Run) (r : Run) : List Run := match acc.getLast? with
  | some a => if goesOn a r then acc.dropLast ++ [(a.1, r.2.1, a.2.2.1, r.2.2.2)] else acc ++ [r]
  | none => [r]
def runsM (cb ce : Rat) (xs : List St3) : List Run := (ovls cb ce 0 xs).foldl rstep []
theorem rstep_cases (acc : List Run) (r : Run) : (acc = [] ∧ rstep acc r = [] ++ [r]) ∨ ∃ pre a, acc = pre ++ [a] ∧ ((goesOn a r ∧ rstep acc r = pre ++ [(a.1, r.2.1, a.2.2.1, r.2.2.2)]) ∨ (¬ goesOn a r ∧ rstep acc r = acc ++ [r])) := by
  unfold rstep
  cases h : acc.getLast? with
  | none => exact .inl ⟨List.getLast?_eq_none_iff.mp h, rfl⟩
  | some l =>
    obtain ⟨pre, rfl⟩ := List.getLast?_eq_some_iff.mp h
    refine .inr ⟨pre, l, rfl, ?_⟩
    dsimp only
    by_cases c : goesOn l r
    · rw [if_pos c, List.dropLast_concat]
      exact .inl ⟨c, rfl⟩
    · rw [if_neg c]
      exact .inr ⟨c, rfl⟩
theorem ovls_app (cb ce : Rat) : ∀ (st : Rat) (xs ys : List St3), ovls cb ce st (xs ++ ys) = ovls cb ce st xs ++ ovls cb ce (st + lenS xs) ys
  | st, [], ys => by
    show ovls cb ce st ys = ovls cb ce (st + 0) ys
    rw [Rat.add_zero]
  | st, s :: r, ys => by
    show ovl cb ce st s ++ ovls cb ce (st + lst3 s) (r ++ ys) = (ovl cb ce st s ++ ovls cb ce (st + lst3 s) r) ++ ovls cb ce (st + (lst3 s + lenS r)) ys
    rw [ovls_app cb ce _ r ys, List.append_assoc, Rat.add_assoc]
theorem runsM_more {cb ce : Rat} {xs : List St3} {i : Nat} {s : St3} (h : xs[i]? = some s) : runsM cb ce (xs.take (i + 1)) = (ovl cb ce (lenS (xs.take i)) s).foldl rstep (runsM cb ce (xs.take i)) := by
  unfold runsM
  rw [take_more h, ovls_app, List.foldl_append]
  congr 1
  show ovl cb ce (0 + lenS (xs.take i)) s ++ [] = _
  rw [List.append_nil, Rat.zero_add]
theorem runs_yes {cb ce : Rat} {xs : List St3} {i : Nat} {s : St3} (h : xs[i]? = some s) (c : maxR cb s.1 < minR ce s.2.1) : runsM cb ce (xs.take (i + 1)) = rstep (runsM cb ce (xs.take i)) (maxR cb s.1, minR ce s.2.1, tOf (lenS (xs.take i)) s (maxR cb s.1), tOf (lenS (xs.take i)) s (minR ce s.2.1)) := by
  rw [runsM_more h]
  unfold ovl
  rw [if_pos c]
  rfl
theorem runs_no {cb ce : Rat} {xs : List St3} {i : Nat} {s : St3} (h : xs[i]? = some s) (c : ¬ maxR cb s.1 < minR ce s.2.1) : runsM cb ce (xs.take (i + 1)) = runsM cb ce (xs.take i) := by
  rw [runsM_more h]
  unfold ovl
  rw [if_neg c]
  rfl
theorem rstep_len (acc : List Run) (r : Run) : (rstep acc r).length ≤ acc.length + 1 := by
  rcases rstep_cases acc r with ⟨h, e⟩ | ⟨pre, a, h, (⟨_, e⟩ | ⟨_, e⟩)⟩
  · rw [e]
    simp
  · rw [e, h]
    simp
  · rw [e]
    simp
theorem ovl_len (cb ce st : Rat) (s : St3) : (ovl cb ce st s).length ≤ 1 := by
  unfold ovl
  split
  · exact Nat.le_refl _
  · exact Nat.zero_le _
theorem runs_le (cb ce : Rat) (xs : List St3) : ∀ i, (runsM cb ce (xs.take i)).length ≤ i
  | 0 => by
    rw [List.take_zero]
    exact Nat.le_refl _
  | i + 1 => by
    have ih := runs_le cb ce xs i
    cases h : xs[i]? with
    | none =>
      rw [List.take_of_length_le (by rw [List.getElem?_eq_none_iff] at h; omega)]
      rw [List.take_of_length_le (by rw [List.getElem?_eq_none_iff] at h; omega)] at ih
      omega
    | some s =>
      by_cases c : maxR cb s.1 < minR ce s.2.1
      · rw [runs_yes h c]
        have := rstep_len (runsM cb ce (xs.take i)) (maxR cb s.1, minR ce s.2.1, tOf (lenS (xs.take i)) s (maxR cb s.1), tOf (lenS (xs.take i)) s (minR ce s.2.1))
        omega
      · rw [runs_no h c]
        omega
/-- first places are ahead of last ones -/
theorem runs_lt (cb ce : Rat) (xs : List St3) : ∀ r ∈ runsM cb ce xs, r.1 < r.2.1 := by
  have hs : ∀ (st : Rat) (ys : List St3), ∀ r ∈ ovls cb ce st ys, r.1 < r.2.1 := by
    intro st ys
    induction ys generalizing st with
    | nil =>
      intro r hr
      cases hr
    | cons s t ih =>
      intro r hr
      rcases List.mem_append.mp (show r ∈ ovl cb ce st s ++ ovls cb ce (st + lst3 s) t from hr) with h | h
      · unfold ovl at h
        split at h
        · rename_i c
          rw [List.mem_singleton.mp h]
          exact c
        · cases h
      · exact ih _ r h
  have hf : ∀ (rs acc : List Run), (∀ r ∈ rs, r.1 < r.2.1) → (∀ r ∈ acc, r.1 < r.2.1) → ∀ r ∈ rs.foldl rstep acc, r.1 < r.2.1 := by
    intro rs
    induction rs with
    | nil => exact fun acc _ h => h
    | cons x t ih =>
      intro acc h1 h2
      refine ih _ (fun r hr => h1 r (List.mem_cons_of_mem _ hr)) ?_
      have hx := h1 x List.mem_cons_self
      intro r hr
      rcases rstep_cases acc x with ⟨h, e⟩ | ⟨pre, a, h, (⟨c, e⟩ | ⟨_, e⟩)⟩
      · rw [e] at hr
        rw [List.mem_singleton.mp hr]
        exact hx
      · rw [e] at hr
        rcases List.mem_append.mp hr with z | z
        · exact h2 r (by rw [h]; exact List.mem_append_left _ z)
        · rw [List.mem_singleton.mp z]
          have ha := h2 a (by rw [h]; exact List.mem_append_right _ (List.mem_singleton.mpr rfl))
          have := c.1
          show a.1 < x.2.1
          grind
      · rw [e] at hr
        rcases List.mem_append.mp hr with z | z
        · exact h2 r z
        · rw [List.mem_singleton.mp z]
          exact hx
  exact hf _ _ (hs 0 xs) (fun r hr => nomatch hr)
section
variable {α : Type}
/-- the words from one place on, ahead of another -/
def wordsIn (ws : List (α × Rat)) (f g : Rat) : List α := (ws.filter fun x => !decide (x.2 < f) && decide (x.2 < g)).map (·.1)
theorem wordsIn_split {ws : List (α × Rat)} (h : ws.Pairwise fun x y => x.2 ≤ y.2) {f m g : Rat} (h1 : f ≤ m) (h2 : m ≤ g) : wordsIn ws f m ++ wordsIn ws m g = wordsIn ws f g := by
  induction ws with
  | nil => rfl
  | cons x r ih =>
    obtain ⟨hx, hr⟩ := List.pairwise_cons.mp h
    have ih := ih hr
    by_cases c : x.2 < m
    · have e2 : wordsIn (x :: r) m g = wordsIn r m g := by
        unfold wordsIn
        rw [List.filter_cons_of_neg (by rw [decide_eq_true c]; simp)]
      rw [e2]
      by_cases d : x.2 < f
      · have e1 : ∀ k, wordsIn (x :: r) f k = wordsIn r f k := fun k => by
          unfold wordsIn
          rw [List.filter_cons_of_neg (by rw [decide_eq_true d]; simp)]
        rw [e1, e1]
        exact ih
      · have e1 : ∀ k, x.2 < k → wordsIn (x :: r) f k = x.1 :: wordsIn r f k := fun k hk => by
          unfold wordsIn
          rw [List.filter_cons_of_pos (by rw [decide_eq_false d, decide_eq_true hk]; decide)]
          rfl
        rw [e1 m c, e1 g (by grind), List.cons_append, ih]
    · have e1 : ∀ y ∈ x :: r, ¬ y.2 < m := fun y hy => by
        rcases List.mem_cons.mp hy with z | z
        · rw [z]
          exact c
        · have := hx y z
          grind
      have e2 : wordsIn (x :: r) f m = [] := by
        unfold wordsIn
        rw [List.filter_eq_nil_iff.mpr (fun y hy => by rw [decide_eq_false (e1 y hy)]; simp)]
        rfl
      rw [e2, List.nil_append]
      unfold wordsIn
      congr 1
      refine List.filter_congr fun y hy => ?_
      have n1 := e1 y hy
      rw [decide_eq_false n1, decide_eq_false (show ¬ y.2 < f by grind)]
end
end R
namespace R
/-! ### runs: they rise, they last as long as is shown, they are on where the place is within the cue -/
structure St0 (s : St3) : Prop where
  p : 0 < s.2.2
  lt : s.1 < s.2.1
theorem tOf_mono {st : Rat} {s : St3} (h : St0 s) {x y : Rat} : tOf st s x < tOf st s y ↔ x < y := by
  have hi := Rat.inv_pos.mpr h.p
  unfold tOf
  rw [Rat.div_def, Rat.div_def]
  constructor
  · intro g
    refine Rat.not_le.mp fun c => ?_
    have := Rat.mul_le_mul_of_nonneg_right (show y - s.1 ≤ x - s.1 by grind) (show 0 ≤ s.2.2⁻¹ by grind)
    grind
  · intro g
    have := Rat.mul_lt_mul_of_pos_right (show x - s.1 < y - s.1 by grind) hi
    grind
theorem tOf_b (st : Rat) (s : St3) : tOf st s s.1 = st := by
  unfold tOf
  rw [show s.1 - s.1 = 0 by grind, Rat.div_def, Rat.zero_mul, Rat.add_zero]
theorem tOf_e (st : Rat) (s : St3) : tOf st s s.2.1 = st + lst3 s := rfl
theorem tOf_at {st t : Rat} {s : St3} (h : St0 s) : tOf st s (s.1 + (t - st) * s.2.2) = t := by
  unfold tOf
  rw [show s.1 + (t - st) * s.2.2 - s.1 = (t - st) * s.2.2 by grind, Rat.div_def, Rat.mul_assoc, Rat.mul_inv_cancel _ (ne_of_pos h.p)]
  grind
theorem lst_pos {s : St3} (h : St0 s) : 0 < lst3 s := by
  have := (tOf_mono (st := 0) h).mpr h.lt
  rw [tOf_b, tOf_e] at this
  grind
theorem le_iff_not {a b : Rat} : a ≤ b ↔ ¬ b < a := by
  constructor <;> intro h <;> grind
theorem tOf_le {st : Rat} {s : St3} (h : St0 s) {x y : Rat} : tOf st s x ≤ tOf st s y ↔ x ≤ y := by
  rw [le_iff_not, le_iff_not, tOf_mono h]
theorem max_le_iff (a b x : Rat) : maxR a b ≤ x ↔ a ≤ x ∧ b ≤ x := by
  unfold maxR
  split <;> constructor <;> intro h <;> grind
theorem lt_min_iff (a b x : Rat) : x < minR a b ↔ x < a ∧ x < b := by
  unfold minR
  split <;> constructor <;> intro h <;> grind
/-- a run is on at a time -/
def onR (r : Run) (t : Rat) : Prop := r.2.2.1 ≤ t ∧ t < r.2.2.2
def onS (rs : List Run) (t : Rat) : Prop := ∃ r ∈ rs, onR r t
def durS : List Run → Rat
  | [] => 0
  | r :: t => (r.2.2.2 - r.2.2.1) + durS t
theorem durS_app : ∀ a b : List Run, durS (a ++ b) = durS a + durS b
  | [], b => by
    show durS b = 0 + durS b
    rw [Rat.zero_add]
  | r :: t, b => by
    show _ + durS (t ++ b) = _ + durS t + durS b
    rw [durS_app t b, Rat.add_assoc]
/-- runs in their order, from lo to hi -/
inductive Ch : Rat → List Run → Rat → Prop
  | nil {lo hi : Rat} : lo ≤ hi → Ch lo [] hi
  | cons {lo hi : Rat} {r : Run} {rs : List Run} : lo ≤ r.2.2.1 → r.2.2.1 < r.2.2.2 → Ch r.2.2.2 rs hi → Ch lo (r :: rs) hi
theorem Ch.le : ∀ {lo hi : Rat} {rs : List Run}, Ch lo rs hi → lo ≤ hi
  | _, _, _, .nil h => h
  | _, _, _, .cons h1 h2 h3 => by
    have := h3.le
    grind
theorem Ch.up : ∀ {lo hi hi' : Rat} {rs : List Run}, Ch lo rs hi → hi ≤ hi' → Ch lo rs hi'
  | _, _, _, _, .nil h, g => .nil (Rat.le_trans h g)
  | _, _, _, _, .cons h1 h2 h3, g => .cons h1 h2 (h3.up g)
theorem Ch.down {lo lo' hi : Rat} {rs : List Run} (h : Ch lo rs hi) (g : lo' ≤ lo) : Ch lo' rs hi := by
  cases h with
  | nil h => exact .nil (Rat.le_trans g h)
  | cons h1 h2 h3 => exact .cons (Rat.le_trans g h1) h2 h3
theorem Ch.app : ∀ {lo m hi : Rat} {a b : List Run}, Ch lo a m → Ch m b hi → Ch lo (a ++ b) hi
  | _, _, _, [], _, .nil h, g => g.down h
  | _, _, _, _ :: _, _, .cons h1 h2 h3, g => .cons h1 h2 (h3.app g)
theorem Ch.split : ∀ {pre : List Run} {lo hi : Rat} {a : Run}, Ch lo (pre ++ [a]) hi → Ch lo pre a.2.2.1 ∧ a.2.2.1 < a.2.2.2 ∧ a.2.2.2 ≤ hi
  | [], _, _, _, .cons h1 h2 h3 => ⟨.nil h1, h2, h3.le⟩
  | _ :: _, _, _, _, .cons h1 h2 h3 => by
    obtain ⟨g1, g2, g3⟩ := Ch.split h3
    exact ⟨.cons h1 h2 g1, g2, g3⟩
theorem ch_step {acc : List Run} {r : Run} {lo hi : Rat} (h : Ch lo acc r.2.2.1) (hr : r.2.2.1 < r.2.2.2) (hh : r.2.2.2 ≤ hi) : Ch lo (rstep acc r) hi ∧ durS (rstep acc r) = durS acc + (r.2.2.2 - r.2.2.1) ∧ ∀ t, onS (rstep acc r) t ↔ onS acc t ∨ onR r t := by
  have one : ∀ x : Run, durS [x] = x.2.2.2 - x.2.2.1 := fun x => by
    show _ + 0 = _
    rw [Rat.add_zero]
  have onApp : ∀ (a : List Run) (x : Run) (t : Rat), onS (a ++ [x]) t ↔ onS a t ∨ onR x t := fun a x t => by
    constructor
    · rintro ⟨y, hy, g⟩
      rcases List.mem_append.mp hy with z | z
      · exact .inl ⟨y, z, g⟩
      · rw [List.mem_singleton.mp z] at g
        exact .inr g
    · rintro (⟨y, hy, g⟩ | g)
      · exact ⟨y, List.mem_append_left _ hy, g⟩
      · exact ⟨x, List.mem_append_right _ (List.mem_singleton.mpr rfl), g⟩
  have plain : rstep acc r = acc ++ [r] → Ch lo (rstep acc r) hi ∧ durS (rstep acc r) = durS acc + (r.2.2.2 - r.2.2.1) ∧ ∀ t, onS (rstep acc r) t ↔ onS acc t ∨ onR r t := fun e => by
    rw [e]
    refine ⟨h.app (.cons Rat.le_refl hr (.nil hh)), ?_, fun t => onApp acc r t⟩
    rw [durS_app, one]
  rcases rstep_cases acc r with ⟨e0, e⟩ | ⟨pre, a, e0, (⟨g, e⟩ | ⟨_, e⟩)⟩
  · refine plain ?_
    rw [e, e0]
  · subst e0
    obtain ⟨h1, h2, h3⟩ := h.split
    have g2 : a.2.2.2 = r.2.2.1 := g.2
    rw [e]
    refine ⟨h1.app (.cons Rat.le_refl ?_ (.nil hh)), ?_, fun t => ?_⟩
    · show a.2.2.1 < r.2.2.2
      grind
    · rw [durS_app, durS_app, one, one]
      show durS pre + (r.2.2.2 - a.2.2.1) = _
      grind
    · rw [onApp, onApp]
      show onS pre t ∨ (a.2.2.1 ≤ t ∧ t < r.2.2.2) ↔ (onS pre t ∨ (a.2.2.1 ≤ t ∧ t < a.2.2.2)) ∨ (r.2.2.1 ≤ t ∧ t < r.2.2.2)
      constructor
      · rintro (z | z)
        · exact .inl (.inl z)
        · by_cases w : t < a.2.2.2
          · exact .inl (.inr ⟨z.1, w⟩)
          · exact .inr ⟨by grind, z.2⟩
      · rintro ((z | z) | z)
        · exact .inl z
        · exact .inr ⟨z.1, by grind⟩
        · exact .inr ⟨by grind, z.2⟩
  · exact plain e
theorem ch_fold : ∀ {rs acc : List Run} {lo m hi : Rat}, Ch lo acc m → Ch m rs hi → Ch lo (rs.foldl rstep acc) hi ∧ durS (rs.foldl rstep acc) = durS acc + durS rs ∧ ∀ t, onS (rs.foldl rstep acc) t ↔ onS acc t ∨ onS rs t
  | [], acc, _, _, _, h, .nil g => ⟨h.up g, (Rat.add_zero _).symm, fun t => ⟨.inl, fun z => z.elim id fun ⟨_, hy, _⟩ => nomatch hy⟩⟩
  | r :: rs, acc, _, _, _, h, .cons g1 g2 g3 => by
    obtain ⟨k1, k2, k3⟩ := ch_step (h.up g1) g2 Rat.le_refl
    obtain ⟨l1, l2, l3⟩ := ch_fold k1 g3
    refine ⟨l1, ?_, fun t => ?_⟩
    · show durS (rs.foldl rstep (rstep acc r)) = _
      rw [l2, k2]
      show _ = durS acc + (_ + durS rs)
      grind
    · show onS (rs.foldl rstep (rstep acc r)) t ↔ _
      rw [l3, k3]
      constructor
      · rintro ((z | z) | ⟨y, hy, z⟩)
        · exact .inl z
        · exact .inr ⟨r, List.mem_cons_self, z⟩
        · exact .inr ⟨y, List.mem_cons_of_mem _ hy, z⟩
      · rintro (z | ⟨y, hy, z⟩)
        · exact .inl (.inl z)
        · rcases List.mem_cons.mp hy with w | w
          · rw [w] at z
            exact .inl (.inr z)
          · exact .inr ⟨y, w, z⟩
/-- how long the frames of a cue are shown -/
def shownM (cb ce : Rat) : List St3 → Rat
  | [] => 0
  | s :: r => (if maxR cb s.1 < minR ce s.2.1 then (minR ce s.2.1 - maxR cb s.1) / s.2.2 else 0) + shownM cb ce r
theorem ovl_ch {cb ce st : Rat} {s : St3} (h : St0 s) : Ch st (ovl cb ce st s) (st + lst3 s) ∧ durS (ovl cb ce st s) = (if maxR cb s.1 < minR ce s.2.1 then (minR ce s.2.1 - maxR cb s.1) / s.2.2 else 0) := by
  have hl := lst_pos h
  unfold ovl
  by_cases c : maxR cb s.1 < minR ce s.2.1
  · rw [if_pos c, if_pos c]
    have m1 := ((max_le_iff cb s.1 (maxR cb s.1)).mp Rat.le_refl).2
    have m2 : minR ce s.2.1 ≤ s.2.1 := by
      unfold minR
      split <;> grind
    have a1 := (tOf_le (st := st) h).mpr m1
    have a2 := (tOf_le (st := st) h).mpr m2
    rw [tOf_b] at a1
    rw [tOf_e] at a2
    refine ⟨.cons a1 ((tOf_mono h).mpr c) (.nil a2), ?_⟩
    show tOf st s (minR ce s.2.1) - tOf st s (maxR cb s.1) + 0 = _
    unfold tOf
    rw [Rat.div_def, Rat.div_def, Rat.div_def]
    grind
  · rw [if_neg c, if_neg c]
    exact ⟨.nil (by grind), rfl⟩
theorem ovls_ch {cb ce : Rat} : ∀ {xs : List St3} {st : Rat}, (∀ s ∈ xs, St0 s) → Ch st (ovls cb ce st xs) (st + lenS xs) ∧ durS (ovls cb ce st xs) = shownM cb ce xs
  | [], st, _ => ⟨.nil (by show st ≤ st + 0; grind), rfl⟩
  | s :: r, st, h => by
    obtain ⟨a1, a2⟩ := ovl_ch (cb := cb) (ce := ce) (st := st) (h s List.mem_cons_self)
    obtain ⟨b1, b2⟩ := ovls_ch (cb := cb) (ce := ce) (xs := r) (st := st + lst3 s) fun z hz => h z (List.mem_cons_of_mem _ hz)
    refine ⟨?_, ?_⟩
    · have := a1.app b1
      rw [Rat.add_assoc] at this
      exact this
    · show durS (ovl cb ce st s ++ ovls cb ce (st + lst3 s) r) = _
      rw [durS_app, a2, b2]
      rfl
theorem Ch.before {lo hi t : Rat} {rs : List Run} (h : Ch lo rs hi) (g : t < lo) : ¬ onS rs t := by
  rintro ⟨r, hr, o⟩
  induction h with
  | nil _ => cases hr
  | cons h1 h2 h3 ih =>
    rcases List.mem_cons.mp hr with z | z
    · rw [z] at o
      have := o.1
      grind
    · exact ih (by grind) z
theorem Ch.behind {lo hi t : Rat} {rs : List Run} (h : Ch lo rs hi) (g : hi ≤ t) : ¬ onS rs t := by
  rintro ⟨r, hr, o⟩
  induction h with
  | nil _ => cases hr
  | cons h1 h2 h3 ih =>
    rcases List.mem_cons.mp hr with z | z
    · rw [z] at o
      have := o.2
      have := h3.le
      grind
    · exact ih g z
theorem onS_app {a b : List Run} {t : Rat} : onS (a ++ b) t ↔ onS a t ∨ onS b t := by
  constructor
  · rintro ⟨y, hy, g⟩
    exact (List.mem_append.mp hy).elim (fun z => .inl ⟨y, z, g⟩) (fun z => .inr ⟨y, z, g⟩)
  · rintro (⟨y, hy, g⟩ | ⟨y, hy, g⟩)
    · exact ⟨y, List.mem_append_left _ hy, g⟩
    · exact ⟨y, List.mem_append_right _ hy, g⟩
theorem ovl_on {cb ce st t : Rat} {s : St3} (h : St0 s) (h1 : st ≤ t) (h2 : t < st + lst3 s) : onS (ovl cb ce st s) t ↔ cb ≤ s.1 + (t - st) * s.2.2 ∧ s.1 + (t - st) * s.2.2 < ce := by
  have et := tOf_at (st := st) (t := t) h
  generalize s.1 + (t - st) * s.2.2 = y at et
  have y1 : s.1 ≤ y := by
    rw [← tOf_le (st := st) h, tOf_b, et]
    exact h1
  have y2 : y < s.2.1 := by
    rw [← tOf_mono (st := st) h, tOf_e, et]
    exact h2
  have key : (maxR cb s.1 ≤ y ∧ y < minR ce s.2.1) ↔ (cb ≤ y ∧ y < ce) := by
    rw [max_le_iff, lt_min_iff]
    constructor
    · exact fun z => ⟨z.1.1, z.2.1⟩
    · exact fun z => ⟨⟨z.1, y1⟩, ⟨z.2, y2⟩⟩
  rw [← key]
  unfold ovl
  constructor
  · rintro ⟨r, hr, o⟩
    split at hr
    · rw [List.mem_singleton.mp hr] at o
      obtain ⟨o1, o2⟩ := o
      have o1 : tOf st s (maxR cb s.1) ≤ t := o1
      have o2 : t < tOf st s (minR ce s.2.1) := o2
      rw [← et, tOf_le h] at o1
      rw [← et, tOf_mono h] at o2
      exact ⟨o1, o2⟩
    · cases hr
  · rintro ⟨o1, o2⟩
    rw [if_pos (by grind)]
    refine ⟨_, List.mem_singleton.mpr rfl, ?_, ?_⟩
    · show tOf st s (maxR cb s.1) ≤ t
      rw [← et, tOf_le h]
      exact o1
    · show t < tOf st s (minR ce s.2.1)
      rw [← et, tOf_mono h]
      exact o2
theorem ovls_on {cb ce : Rat} : ∀ {xs : List St3} {st t : Rat}, (∀ s ∈ xs, St0 s) → st ≤ t → ∀ y, seen xs (t - st) = some y → (onS (ovls cb ce st xs) t ↔ cb ≤ y ∧ y < ce)
  | [], _, _, _, _, _, h => by cases h
  | s :: r, st, t, hx, h1, y, hy => by
    have hs := hx s List.mem_cons_self
    have hr : ∀ z ∈ r, St0 z := fun z hz => hx z (List.mem_cons_of_mem _ hz)
    show onS (ovl cb ce st s ++ ovls cb ce (st + lst3 s) r) t ↔ _
    rw [onS_app]
    have hy : (if t - st < lst3 s then some (s.1 + (t - st) * s.2.2) else seen r (t - st - lst3 s)) = some y := hy
    by_cases c : t - st < lst3 s
    · rw [if_pos c] at hy
      have e := Option.some.inj hy
      have n : ¬ onS (ovls cb ce (st + lst3 s) r) t := (ovls_ch hr).1.before (by grind)
      rw [ovl_on hs h1 (by grind), e]
      exact ⟨fun z => z.elim id fun w => absurd w n, .inl⟩
    · rw [if_neg c, show t - st - lst3 s = t - (st + lst3 s) by grind] at hy
      have n : ¬ onS (ovl cb ce st s) t := (ovl_ch hs).1.behind (by grind)
      rw [← ovls_on hr (by grind) y hy]
      exact ⟨fun z => z.elim (fun w => absurd w n) id, .inr⟩
/-- the whole of it -/
theorem runs_whole {cb ce : Rat} {xs : List St3} (h : ∀ s ∈ xs, St0 s) : Ch 0 (runsM cb ce xs) (lenS xs) ∧ durS (runsM cb ce xs) = shownM cb ce xs ∧ ∀ t y, 0 ≤ t → seen xs t = some y → (onS (runsM cb ce xs) t ↔ cb ≤ y ∧ y < ce) := by
  obtain ⟨a1, a2⟩ := ovls_ch (cb := cb) (ce := ce) (xs := xs) (st := 0) h
  rw [Rat.zero_add] at a1
  obtain ⟨b1, b2, b3⟩ := ch_fold (acc := []) (.nil Rat.le_refl) a1
  refine ⟨b1, ?_, fun t y h0 hy => ?_⟩
  · show durS ((ovls cb ce 0 xs).foldl rstep []) = _
    rw [b2, a2]
    exact Rat.zero_add _
  · show onS ((ovls cb ce 0 xs).foldl rstep []) t ↔ _
    rw [b3, ← ovls_on (cb := cb) (ce := ce) h h0 y (by rw [show t - 0 = t by grind]; exact hy)]
    exact ⟨fun z => z.elim (fun ⟨_, hy, _⟩ => nomatch hy) id, .inr⟩
end R
namespace R
/-! ### words told over a show, as against words due -/
section
variable {α : Type}
def told (ws : List (α × Rat)) (rs : List Run) : List α := rs.flatMap fun r => wordsIn ws r.1 r.2.1
theorem told_app (ws : List (α × Rat)) (a b : List Run) : told ws (a ++ b) = told ws a ++ told ws b := by
  unfold told
  rw [List.flatMap_append]
theorem told_one (ws : List (α × Rat)) (r : Run) : told ws [r] = wordsIn ws r.1 r.2.1 := by
  unfold told
  rw [List.flatMap_cons, List.flatMap_nil, List.append_nil]
theorem told_step {ws : List (α × Rat)} (h : ws.Pairwise fun x y => x.2 ≤ y.2) {acc : List Run} {r : Run} (ha : ∀ x ∈ acc, x.1 < x.2.1) (hr : r.1 < r.2.1) : told ws (rstep acc r) = told ws acc ++ wordsIn ws r.1 r.2.1 ∧ ∀ x ∈ rstep acc r, x.1 < x.2.1 := by
  have plain : rstep acc r = acc ++ [r] → told ws (rstep acc r) = told ws acc ++ wordsIn ws r.1 r.2.1 ∧ ∀ x ∈ rstep acc r, x.1 < x.2.1 := fun e => by
    rw [e, told_app, told_one]
    refine ⟨rfl, fun x hx => ?_⟩
    rcases List.mem_append.mp hx with z | z
    · exact ha x z
    · rw [List.mem_singleton.mp z]
      exact hr
  rcases rstep_cases acc r with ⟨e0, e⟩ | ⟨pre, a, e0, (⟨g, e⟩ | ⟨_, e⟩)⟩
  · refine plain ?_
    rw [e, e0]
  · have g1 : a.2.1 = r.1 := g.1
    have la : a.1 < a.2.1 := ha a (by rw [e0]; exact List.mem_append_right _ (List.mem_singleton.mpr rfl))
    rw [e, e0, told_app, told_app, told_one, told_one, List.append_assoc]
    refine ⟨?_, fun x hx => ?_⟩
    · congr 1
      show wordsIn ws a.1 r.2.1 = wordsIn ws a.1 a.2.1 ++ wordsIn ws r.1 r.2.1
      rw [← g1]
      exact (wordsIn_split h (by grind) (by grind)).symm
    · rcases List.mem_append.mp hx with z | z
      · exact ha x (by rw [e0]; exact List.mem_append_left _ z)
      · rw [List.mem_singleton.mp z]
        show a.1 < r.2.1
        grind
  · exact plain e
theorem told_fold {ws : List (α × Rat)} (h : ws.Pairwise fun x y => x.2 ≤ y.2) : ∀ (rs acc : List Run), (∀ x ∈ acc, x.1 < x.2.1) → (∀ x ∈ rs, x.1 < x.2.1) → told ws (rs.foldl rstep acc) = told ws acc ++ told ws rs
  | [], acc, _, _ => by
    show told ws acc = told ws acc ++ []
    rw [List.append_nil]
  | r :: rs, acc, ha, hr => by
    obtain ⟨e1, e2⟩ := told_step h ha (hr r List.mem_cons_self)
    show told ws (rs.foldl rstep (rstep acc r)) = _
    rw [told_fold h rs _ e2 (fun x hx => hr x (List.mem_cons_of_mem _ hx)), e1, List.append_assoc]
    congr 1
theorem ovls_lt (cb ce : Rat) : ∀ (xs : List St3) (st : Rat), ∀ r ∈ ovls cb ce st xs, r.1 < r.2.1
  | [], _, r, hr => nomatch hr
  | s :: t, st, r, hr => by
    rcases List.mem_append.mp (show r ∈ ovl cb ce st s ++ ovls cb ce (st + lst3 s) t from hr) with h | h
    · unfold ovl at h
      split at h
      · rename_i c
        rw [List.mem_singleton.mp h]
        exact c
      · cases h
    · exact ovls_lt cb ce t _ r h
theorem ovls_told {cb ce : Rat} {ws : List (α × Rat)} (hw : ∀ x ∈ ws, cb ≤ x.2 ∧ x.2 < ce) : ∀ (xs : List St3) (st : Rat), told ws (ovls cb ce st xs) = xs.flatMap fun s => wordsIn ws s.1 s.2.1
  | [], _ => rfl
  | s :: t, st => by
    show told ws (ovl cb ce st s ++ ovls cb ce (st + lst3 s) t) = _
    rw [told_app, ovls_told hw t, List.flatMap_cons]
    congr 1
    have key : ∀ x ∈ ws, (maxR cb s.1 ≤ x.2 ∧ x.2 < minR ce s.2.1) ↔ (s.1 ≤ x.2 ∧ x.2 < s.2.1) := fun x hx => by
      rw [max_le_iff, lt_min_iff]
      have := hw x hx
      exact ⟨fun z => ⟨z.1.2, z.2.2⟩, fun z => ⟨⟨this.1, z.1⟩, ⟨this.2, z.2⟩⟩⟩
    unfold ovl
    by_cases c : maxR cb s.1 < minR ce s.2.1
    · rw [if_pos c, told_one]
      unfold wordsIn
      congr 1
      refine List.filter_congr fun x hx => ?_
      have k := key x hx
      rw [le_iff_not, le_iff_not] at k
      show (!decide (x.2 < maxR cb s.1) && decide (x.2 < minR ce s.2.1)) = (!decide (x.2 < s.1) && decide (x.2 < s.2.1))
      by_cases u : ¬ x.2 < s.1 ∧ x.2 < s.2.1
      · have v := k.mpr u
        rw [decide_eq_false u.1, decide_eq_true u.2, decide_eq_false v.1, decide_eq_true v.2]
      · have v : ¬ (¬ x.2 < maxR cb s.1 ∧ x.2 < minR ce s.2.1) := fun z => u (k.mp z)
        rw [← decide_not, ← decide_not, ← Bool.decide_and, ← Bool.decide_and, decide_eq_false u, decide_eq_false v]
    · rw [if_neg c]
      show [] = wordsIn ws s.1 s.2.1
      unfold wordsIn
      rw [List.filter_eq_nil_iff.mpr]
      · rfl
      · intro x hx z
        have z2 := Bool.and_eq_true_iff.mp z
        have z3 : ¬ x.2 < s.1 := fun y => by
          rw [decide_eq_true y] at z2
          cases z2.1
        have z4 := of_decide_eq_true z2.2
        have := (key x hx).mpr ⟨le_iff_not.mpr z3, z4⟩
        exact c (by grind)
/-- each word as often as it is shown -/
def dueM (xs : List St3) (ws : List (α × Rat)) : List α := ws.flatMap fun w => (xs.filter fun s => !decide (w.2 < s.1) && decide (w.2 < s.2.1)).map fun _ => w.1
theorem flat_perm (a b : (α × Rat) → List α) : ∀ ws : List (α × Rat), (ws.flatMap fun w => a w ++ b w).Perm (ws.flatMap a ++ ws.flatMap b)
  | [] => .nil
  | w :: ws => by
    rw [List.flatMap_cons, List.flatMap_cons, List.flatMap_cons, List.append_assoc, List.append_assoc]
    refine List.Perm.append_left _ ?_
    refine (List.Perm.append_left _ (flat_perm a b ws)).trans ?_
    rw [← List.append_assoc, ← List.append_assoc]
    exact List.Perm.append_right _ List.perm_append_comm
theorem flat_if (p : (α × Rat) → Bool) : ∀ ws : List (α × Rat), (ws.flatMap fun w => if p w = true then [w.1] else []) = (ws.filter p).map (·.1)
  | [] => rfl
  | w :: ws => by
    rw [List.flatMap_cons, flat_if p ws]
    by_cases c : p w = true
    · rw [if_pos c, List.filter_cons_of_pos c]
      rfl
    · rw [if_neg c, List.filter_cons_of_neg c]
      rfl
theorem flat_none : ∀ ws : List (α × Rat), (ws.flatMap fun _ => ([] : List α)) = []
  | [] => rfl
  | _ :: ws => by
    rw [List.flatMap_cons, flat_none ws]
    rfl
theorem due_perm (ws : List (α × Rat)) : ∀ xs : List St3, (xs.flatMap fun s => wordsIn ws s.1 s.2.1).Perm (dueM xs ws)
  | [] => by
    unfold dueM
    show List.Perm [] (ws.flatMap fun _ => [])
    rw [flat_none]
  | s :: r => by
    have e : dueM (s :: r) ws = ws.flatMap fun w => (if (!decide (w.2 < s.1) && decide (w.2 < s.2.1)) = true then [w.1] else []) ++ ((r.filter fun s => !decide (w.2 < s.1) && decide (w.2 < s.2.1)).map fun _ => w.1) := by
      unfold dueM
      congr 1
      funext w
      rw [List.filter_cons]
      split
      · rfl
      · rfl
    rw [e, List.flatMap_cons]
    refine List.Perm.trans ?_ (flat_perm _ _ ws).symm
    refine List.Perm.append ?_ (due_perm ws r)
    rw [flat_if fun w => !decide (w.2 < s.1) && decide (w.2 < s.2.1)]
    exact List.Perm.refl _
theorem told_due {cb ce : Rat} {ws : List (α × Rat)} (xs : List St3) (h : ws.Pairwise fun x y => x.2 ≤ y.2) (hw : ∀ x ∈ ws, cb ≤ x.2 ∧ x.2 < ce) : (told ws (runsM cb ce xs)).Perm (dueM xs ws) := by
  have e : told ws (runsM cb ce xs) = told ws (ovls cb ce 0 xs) := told_fold h _ [] (fun x hx => nomatch hx) (ovls_lt cb ce xs 0)
  rw [e, ovls_told hw]
  exact due_perm ws xs
theorem due_more {xs : List St3} {ws : List (α × Rat)} {i : Nat} {w : α × Rat} (h : ws[i]? = some w) : dueM xs (ws.take (i + 1)) = dueM xs (ws.take i) ++ (xs.filter fun s => !decide (w.2 < s.1) && decide (w.2 < s.2.1)).map fun _ => w.1 := by
  unfold dueM
  rw [take_more h, List.flatMap_append, List.flatMap_cons, List.flatMap_nil, List.append_nil]
theorem told_more {ws : List (α × Rat)} {rs : List Run} {i : Nat} {r : Run} (h : rs[i]? = some r) : told ws (rs.take (i + 1)) = told ws (rs.take i) ++ wordsIn ws r.1 r.2.1 := by
  rw [take_more h, told_app, told_one]
theorem wordsIn_le1 (ws : List (α × Rat)) (f g : Rat) : (wordsIn ws f g).length ≤ ws.length := by
  unfold wordsIn
  rw [List.length_map]
  exact List.length_filter_le _ _
theorem told_len (ws : List (α × Rat)) : ∀ rs : List Run, (told ws rs).length ≤ rs.length * ws.length
  | [] => Nat.zero_le _
  | r :: rs => by
    unfold told
    rw [List.flatMap_cons, List.length_append, List.length_cons, Nat.succ_mul]
    have := told_len ws rs
    have := wordsIn_le1 ws r.1 r.2.1
    unfold told at *
    omega
theorem told_mem {ws : List (α × Rat)} {rs : List Run} {x : α} (h : x ∈ told ws rs) : ∃ w ∈ ws, x = w.1 := by
  obtain ⟨r, _, hr⟩ := List.mem_flatMap.mp h
  obtain ⟨w, hw, e⟩ := List.mem_map.mp hr
  exact ⟨w, (List.mem_filter.mp hw).1, e.symm⟩
theorem due_mem {xs : List St3} {ws : List (α × Rat)} {x : α} (h : x ∈ dueM xs ws) : ∃ w ∈ ws, x = w.1 := by
  obtain ⟨w, hw, hr⟩ := List.mem_flatMap.mp h
  obtain ⟨_, _, e⟩ := List.mem_map.mp hr
  exact ⟨w, hw, e.symm⟩
theorem due_len (xs : List St3) : ∀ ws : List (α × Rat), (dueM xs ws).length ≤ ws.length * xs.length
  | [] => Nat.zero_le _
  | w :: ws => by
    unfold dueM
    rw [List.flatMap_cons, List.length_append, List.length_cons, Nat.succ_mul, List.length_map]
    have := due_len xs ws
    have := List.length_filter_le (fun s : St3 => !decide (w.2 < s.1) && decide (w.2 < s.2.1)) xs
    unfold dueM at *
    omega
end
/-! ### the runs one after another, and sizes -/
def lastE (lo : Rat) (rs : List Run) : Rat := rs.foldl (fun _ r => r.2.2.2) lo
theorem lastE_more {lo : Rat} {rs : List Run} {j : Nat} {r : Run} (h : rs[j]? = some r) : lastE lo (rs.take (j + 1)) = r.2.2.2 := by
  unfold lastE
  rw [take_more h, List.foldl_append]
  rfl
theorem durS_more {rs : List Run} {j : Nat} {r : Run} (h : rs[j]? = some r) : durS (rs.take (j + 1)) = durS (rs.take j) + (r.2.2.2 - r.2.2.1) := by
  rw [take_more h, durS_app]
  show _ + (_ + 0) = _
  rw [Rat.add_zero]
theorem Ch.at : ∀ {rs : List Run} {lo hi : Rat} {j : Nat} {r : Run}, Ch lo rs hi → rs[j]? = some r → lastE lo (rs.take j) ≤ r.2.2.1 ∧ r.2.2.1 < r.2.2.2 ∧ lo ≤ r.2.2.1 ∧ r.2.2.2 ≤ hi
  | _ :: _, lo, hi, 0, r, .cons h1 h2 h3, e => by
    have e := Option.some.inj e
    rw [← e]
    exact ⟨h1, h2, h1, h3.le⟩
  | _ :: _, lo, hi, j + 1, r, .cons h1 h2 h3, e => by
    obtain ⟨a, b, c, d⟩ := Ch.at (j := j) h3 e
    exact ⟨a, b, by grind, d⟩
theorem Ch.take : ∀ {rs : List Run} {lo hi : Rat} (j : Nat), Ch lo rs hi → Ch lo (rs.take j) hi
  | _, _, _, 0, h => by
    rw [List.take_zero]
    exact .nil h.le
  | [], _, _, _ + 1, h => h
  | _ :: _, _, _, j + 1, .cons h1 h2 h3 => .cons h1 h2 (h3.take j)
theorem Ch.dur : ∀ {rs : List Run} {lo hi : Rat}, Ch lo rs hi → 0 ≤ durS rs ∧ durS rs ≤ hi - lo
  | _, lo, hi, .nil h => ⟨Rat.le_refl, by show (0 : Rat) ≤ hi - lo; grind⟩
  | _, lo, hi, .cons h1 h2 h3 => by
    obtain ⟨a, b⟩ := h3.dur
    constructor
    · show 0 ≤ _ - _ + durS _
      grind
    · show _ - _ + durS _ ≤ hi - lo
      grind
theorem Ch.lastE_le : ∀ {rs : List Run} {lo hi : Rat}, Ch lo rs hi → lastE lo rs ≤ hi ∧ lo ≤ lastE lo rs
  | _, lo, hi, .nil h => ⟨h, Rat.le_refl⟩
  | _, lo, hi, .cons h1 h2 h3 => by
    obtain ⟨a, b⟩ := h3.lastE_le
    refine ⟨a, Rat.le_trans ?_ b⟩
    grind
theorem nil_pc : ∀ f ∈ ([] : List Rat), Pc f := fun f hf => by cases hf
def cueD (cb ce : Rat) : Nat := L30 * (cb.den * ce.den) * (2520 * 1)
structure Dn (cb ce : Rat) (xs : List St3) : Prop where
  b : TB cb
  e : TB ce
  fs : ∀ s ∈ xs, Fs L30 [] s
  len : xs.length ≤ 6
section
variable {cb ce : Rat} {xs : List St3}
theorem fs_st0 {s : St3} (h : Fs L30 [] s) : St0 s := ⟨h.pos nil_pc, h.lt⟩
theorem Dn.st0 (h : Dn cb ce xs) : ∀ s ∈ xs, St0 s := fun s hs => fs_st0 (h.fs s hs)
theorem cueD_pos (cb ce : Rat) : 0 < cueD cb ce := Nat.mul_pos (Nat.mul_pos (by decide) (Nat.mul_pos cb.den_pos ce.den_pos)) (by decide)
theorem Dn.dle (h : Dn cb ce xs) : cueD cb ce ≤ L30 * (29700 * 29700) * (2520 * 1) := Nat.mul_le_mul_right _ (Nat.mul_le_mul_left _ (Nat.mul_le_mul h.b.dn h.e.dn))
theorem iz_tOf {s : St3} {st x : Rat} (hs : Fs L30 [] s) (hst : Iz (cueD cb ce) st) (hx : Iz (L30 * (cb.den * ce.den)) x) : Iz (cueD cb ce) (tOf st s x) := by
  unfold tOf
  rw [Rat.div_def]
  exact hst.add ((hx.sub (hs.zb.up _)).mul (hs.inv nil_pc).1)
theorem iz_b (cb ce : Rat) : Iz (L30 * (cb.den * ce.den)) cb := (iz_den cb).dvd ⟨L30 * ce.den, by rw [Nat.mul_left_comm]⟩
theorem iz_e (cb ce : Rat) : Iz (L30 * (cb.den * ce.den)) ce := (iz_den ce).dvd ⟨L30 * cb.den, by rw [Nat.mul_left_comm, ← Nat.mul_assoc, Nat.mul_comm]; simp [Nat.mul_comm, Nat.mul_left_comm]⟩
theorem iz_lst {s : St3} (hs : Fs L30 [] s) : Iz (cueD cb ce) (lst3 s) := by
  have := (hs.lst nil_pc).1
  exact this.dvd ⟨cb.den * ce.den, by unfold cueD; show _ = L30 * (2520 * 1) * _; rw [Nat.mul_right_comm]⟩
theorem ovls_iz : ∀ (ys : List St3) (st : Rat), (∀ s ∈ ys, Fs L30 [] s) → Iz (cueD cb ce) st → ∀ r ∈ ovls cb ce st ys, Iz (cueD cb ce) r.2.2.1 ∧ Iz (cueD cb ce) r.2.2.2
  | [], _, _, _, r, hr => nomatch hr
  | s :: t, st, hy, hst, r, hr => by
    have hs := hy s List.mem_cons_self
    rcases List.mem_append.mp (show r ∈ ovl cb ce st s ++ ovls cb ce (st + lst3 s) t from hr) with h | h
    · unfold ovl at h
      split at h
      · rw [List.mem_singleton.mp h]
        refine ⟨iz_tOf hs hst ?_, iz_tOf hs hst ?_⟩
        · unfold maxR
          split
          · exact hs.zb.up _
          · exact iz_b cb ce
        · unfold minR
          split
          · exact hs.ze.up _
          · exact iz_e cb ce
      · cases h
    · exact ovls_iz t _ (fun z hz => hy z (List.mem_cons_of_mem _ hz)) (hst.add (iz_lst hs)) r h
theorem fold_times {P : Rat → Prop} : ∀ (rs acc : List Run), (∀ r ∈ rs, P r.2.2.1 ∧ P r.2.2.2) → (∀ r ∈ acc, P r.2.2.1 ∧ P r.2.2.2) → ∀ r ∈ rs.foldl rstep acc, P r.2.2.1 ∧ P r.2.2.2
  | [], _, _, h => h
  | x :: t, acc, h1, h2 => by
    refine fold_times t _ (fun r hr => h1 r (List.mem_cons_of_mem _ hr)) ?_
    have hx := h1 x List.mem_cons_self
    intro r hr
    rcases rstep_cases acc x with ⟨h, e⟩ | ⟨pre, a, h, (⟨c, e⟩ | ⟨_, e⟩)⟩
    · rw [e] at hr
      rw [List.mem_singleton.mp hr]
      exact hx
    · rw [e] at hr
      rcases List.mem_append.mp hr with z | z
      · exact h2 r (by rw [h]; exact List.mem_append_left _ z)
      · rw [List.mem_singleton.mp z]
        exact ⟨(h2 a (by rw [h]; exact List.mem_append_right _ (List.mem_singleton.mpr rfl))).1, hx.2⟩
    · rw [e] at hr
      rcases List.mem_append.mp hr with z | z
      · exact h2 r z
      · rw [List.mem_singleton.mp z]
        exact hx
theorem runs_iz (h : ∀ s ∈ xs, Fs L30 [] s) : ∀ r ∈ runsM cb ce xs, Iz (cueD cb ce) r.2.2.1 ∧ Iz (cueD cb ce) r.2.2.2 := fold_times _ _ (ovls_iz xs 0 h (iz_zero _)) (fun r hr => nomatch hr)
theorem durS_iz {D : Nat} : ∀ {rs : List Run}, (∀ r ∈ rs, Iz D r.2.2.1 ∧ Iz D r.2.2.2) → Iz D (durS rs)
  | [], _ => iz_zero _
  | r :: t, h => ((h r List.mem_cons_self).2.sub (h r List.mem_cons_self).1).add (durS_iz fun x hx => h x (List.mem_cons_of_mem _ hx))
theorem Dn.take (h : Dn cb ce xs) (i : Nat) : Dn cb ce (xs.take i) := ⟨h.b, h.e, fun s hs => h.fs s (List.mem_of_mem_take hs), by rw [List.length_take]; have := h.len; omega⟩
theorem Dn.far (h : Dn cb ce xs) : lenS xs ≤ ((16200 : Nat) : Rat) := by
  have h1 := (len_le nil_pc xs h.fs).2.2
  refine Rat.le_trans h1 (Rat.natCast_le_natCast.mpr ?_)
  show xs.length * (300 * (9 * 1)) ≤ 16200
  have := h.len
  omega
theorem Dn.sz (h : Dn cb ce xs) {x : Rat} (hz : Iz (cueD cb ce) x) (h0 : 0 ≤ x) (h1 : x ≤ lenS xs) : Sz 160 x := by
  have hf := h.far
  have hd := h.dle
  refine Iz.sz (M := 16200) (cueD_pos cb ce) hz ?_ (Rat.le_trans h1 hf) (Nat.lt_of_le_of_lt (Nat.mul_le_mul_left _ hd) (by decide)) (Nat.lt_of_le_of_lt hd (by decide))
  have : (0 : Rat) ≤ ((16200 : Nat) : Rat) := Rat.natCast_nonneg
  grind
theorem Dn.ch (h : Dn cb ce xs) : Ch 0 (runsM cb ce xs) (lenS xs) := (runs_whole h.st0).1
theorem Dn.times (h : Dn cb ce xs) {j : Nat} {r : Run} (hj : (runsM cb ce xs)[j]? = some r) : Sz 160 r.2.2.1 ∧ Sz 160 r.2.2.2 := by
  obtain ⟨i1, i2⟩ := runs_iz (cb := cb) (ce := ce) h.fs r (List.mem_of_getElem? hj)
  obtain ⟨_, a, b, c⟩ := h.ch.at hj
  exact ⟨h.sz i1 b (by grind), h.sz i2 (by grind) c⟩
theorem Dn.dur (h : Dn cb ce xs) (j : Nat) : Sz 160 (durS ((runsM cb ce xs).take j)) := by
  obtain ⟨a, b⟩ := (h.ch.take j).dur
  exact h.sz (durS_iz fun r hr => runs_iz h.fs r (List.mem_of_mem_take hr)) a (by grind)
theorem sz0 : Sz 160 (0 : Rat) := ⟨by decide, by decide⟩
theorem Dn.last (h : Dn cb ce xs) (j : Nat) : Sz 160 (lastE 0 ((runsM cb ce xs).take j)) := by
  induction j with
  | zero =>
    rw [List.take_zero]
    exact sz0
  | succ j ih =>
    cases e : (runsM cb ce xs)[j]? with
    | none =>
      rw [List.getElem?_eq_none_iff] at e
      rw [List.take_of_length_le (by omega)]
      rw [List.take_of_length_le (by omega)] at ih
      exact ih
    | some r =>
      rw [lastE_more e]
      exact (h.times e).2
theorem Dn.shown (h : Dn cb ce xs) (i : Nat) : Sz 160 (shownM cb ce (xs.take i)) := by
  have g := h.take i
  rw [← (runs_whole (cb := cb) (ce := ce) g.st0).2.1]
  have := g.dur (runsM cb ce (xs.take i)).length
  rw [List.take_length] at this
  exact this
end
theorem shownM_app (cb ce : Rat) : ∀ a b : List St3, shownM cb ce (a ++ b) = shownM cb ce a + shownM cb ce b
  | [], b => (Rat.zero_add _).symm
  | s :: a, b => by
    show _ + shownM cb ce (a ++ b) = _ + shownM cb ce a + shownM cb ce b
    rw [shownM_app cb ce a b, Rat.add_assoc]
theorem shown_more {cb ce : Rat} {xs : List St3} {i : Nat} {s : St3} (h : xs[i]? = some s) : shownM cb ce (xs.take (i + 1)) = shownM cb ce (xs.take i) + (if maxR cb s.1 < minR ce s.2.1 then (minR ce s.2.1 - maxR cb s.1) / s.2.2 else 0) := by
  rw [take_more h, shownM_app]
  show _ + (_ + 0) = _
  rw [Rat.add_zero]
theorem seen_some : ∀ {xs : List St3} {t : Rat}, (∀ s ∈ xs, St0 s) → t < lenS xs → 0 ≤ t → ∃ y, seen xs t = some y
  | [], t, _, h, h0 => by
    have : t < 0 := h
    grind
  | s :: r, t, hs, h, h0 => by
    unfold seen
    by_cases c : t < lst3 s
    · rw [if_pos c]
      exact ⟨_, rfl⟩
    · rw [if_neg c]
      have h' : t < lst3 s + lenS r := h
      exact seen_some (fun z hz => hs z (List.mem_cons_of_mem _ hz)) (by grind) (by grind)
theorem seen_at : ∀ {xs : List St3} {t y : Rat}, seen xs t = some y → ∃ i s, xs[i]? = some s ∧ y = s.1 + (t - lenS (xs.take i)) * s.2.2
  | [], _, _, h => nomatch h
  | s :: r, t, y, h => by
    unfold seen at h
    by_cases c : t < lst3 s
    · rw [if_pos c] at h
      refine ⟨0, s, rfl, ?_⟩
      have := Option.some.inj h
      rw [← this]
      show _ = s.1 + (t - 0) * s.2.2
      grind
    · rw [if_neg c] at h
      obtain ⟨i, z, h1, h2⟩ := seen_at h
      refine ⟨i + 1, z, h1, ?_⟩
      rw [h2]
      show _ = z.1 + (t - (lst3 s + lenS (r.take i))) * z.2.2
      grind
theorem seen_sz {N : Nat} {xs : List St3} {t y : Rat} (ok : ShOk N xs) (zt : Sz N t) (h : seen xs t = some y) : Sz (4 * N + 2) y := by
  obtain ⟨i, s, h1, rfl⟩ := seen_at h
  have o := ok.each s (List.mem_of_getElem? h1)
  have := sz_add o.b (sz_mul (sz_sub zt (ok.sums i)) o.p)
  exact this.mono (by omega)
end R
namespace R
open PySem PySem.Spec PyProof.Rows L2
/-! ### sorted(xs), xs a list of like data -/
def rSortedD (K : PySem.W.Frag) {β : Type} (enc : β → PyData) : List V → Hp → VK → Prop := fun vs H Q => ∃ (a : Addr) (xs : List V) (bs : List β), vs = [V.ref a] ∧ SqL K H a xs ∧ DpAll K H xs (bs.map enc) ∧ PySem.W.AllAlike (bs.map enc) ∧ PySem.W.Sortable (bs.map enc) ∧ (∀ b ∈ bs, (enc b).depth ≤ 60) ∧
  ∀ ys p, H p = none → DpAll K H ys ((bs.mergeSort (PySem.W.dataLe false enc)).map enc) → Q (.ref p) (upd H p (.lst ys))
theorem dpl {K : PySem.W.Frag} {H : Hp} : ∀ {vs : List V} {ds : List PyData}, DpAll K H vs ds → vs.length = ds.length
  | _, _, .nil => rfl
  | _, _, .cons _ h => by rw [List.length_cons, List.length_cons, dpl h]
section
variable {X : Cx}
theorem dpa_each {K : PySem.W.Frag} {H : Hp} {β : Type} {enc : β → PyData} : ∀ {xs : List V} {us : List Value} {bs : List β}, Vals xs us → DpAll K H xs (bs.map enc) → PySem.W.EachIs (fun u b => ∃ v, RelV v u ∧ Dp K H v (enc b)) us bs
  | [], _, [], .nil, _ => .nil
  | [], _, _ :: _, .nil, h => by cases h
  | _ :: _, _, [], .cons _ _, h => by cases h
  | v :: xs, _, b :: bs, .cons r rs, h => by
    cases h with
    | cons h1 h2 => exact .cons ⟨v, r, h1⟩ (dpa_each rs h2)
theorem each_dpa {K : PySem.W.Frag} {H : Hp} {β : Type} {enc : β → PyData} : ∀ {us : List Value} {bs : List β}, PySem.W.EachIs (fun u b => ∃ v, RelV v u ∧ Dp K H v (enc b)) us bs → ∃ xs, Vals xs us ∧ DpAll K H xs (bs.map enc)
  | _, _, .nil => ⟨[], .nil, .nil⟩
  | _, _, .cons ⟨v, r, h1⟩ h2 => by
    obtain ⟨xs, rs, hs⟩ := each_dpa h2
    exact ⟨v :: xs, .cons r rs, .cons h1 hs⟩
theorem cr_sortedD {β : Type} (enc : β → PyData) (hu : X.A.units + 64 < cLine) : CallR X (.builtin "sorted") (rSortedD X.K enc) := by
  intro pins s σ H vs us Q I r h
  obtain ⟨a, xs, bs, rfl, hs, hx, hal, hso, hdp, q⟩ := h
  obtain ⟨its, rv, hl, hz⟩ := I.list hs
  obtain ⟨u, rfl, ru⟩ := vals1 r
  obtain rfl : u = Value.ref a := ru
  have e := dpa_each rv hx
  have lb : xs.length = bs.length := by rw [dpl hx, List.length_map]
  have er : PySem.W.EachIs (fun v b => ∃ as, Reads s.heap v (enc b) as) its bs := e.mono fun u b ⟨v, rv, hv⟩ => Dp.reads I _ _ _ hv rv
  refine PySem.W.sorted_data hl.isList e er hal hso (by rw [← lb]; exact hz) (fun b hb => ?_) fun out hlen eo => ?_
  · have := hdp b hb
    omega
  · obtain ⟨ys, ry, dy⟩ := each_dpa eo
    obtain ⟨n, hn⟩ := sortedAll_at s.heap its (List.toArray out)
    have hd : s.heap.objs.size ≤ s.heap.objs.size + 1 := Nat.le_succ _
    refine ⟨.ref (s.heap.objs.size + 1), upd H (s.heap.objs.size + 1) (.lst ys), I.laid (t' := s.toks) (fun b o e => sortedAll_old e) hd ⟨?_, out, n, ry, hn⟩, rfl, q _ _ (I.hok.fresh hd) dy⟩
    rw [ry.length, hlen, ← lb]
    exact hz
end
end R
namespace R
open PySem PySem.Spec PyProof.Rows L2
/-! ### defs that raise; classes of errors over ValueError, without methods of their own -/
structure ExcT (K : PySem.W.Frag) (mg : Str → Option Value) (x : Str) (C : Addr) : Prop where
  g : mg x = some (.ref C)
  x : PySem.W.excIn K C [.type "ValueError", .type "Exception", .type "BaseException", .type "object"] "ValueError.__new__" = true
  k : PySem.W.keepIn K (.ref C) = true
  b : PySem.W.subIn K (.ref C) (.type "BaseException") = some true
  t : PySem.W.typeIn K (.ref C) = some (.type "type")
  e : PySem.W.exmOne K (.ref C) (.ref C) = some true
theorem exm_gen {K : PySem.W.Frag} {S C : Addr} {r : Bool} (h1 : PySem.W.subIn K (.ref C) (.type "BaseException") = some true) (h2 : PySem.W.isClsIn K C = true)
    (h3 : PySem.W.typeIn K (.ref C) = some (.type "type")) (h4 : PySem.W.subIn K (.ref S) (.ref C) = some r) : PySem.W.exmOne K (.ref S) (.ref C) = some r := by
  unfold PySem.W.exmOne
  rw [if_pos (by rw [h1]; rfl)]
  unfold PySem.W.kitCls
  dsimp only
  rw [if_pos (by rw [show (PySem.W.clsIn K C).isSome = true from h2, h3]; rfl)]
  exact h4
section
variable {P : Program} {w : World} {K : PySem.W.Frag} {mg : Str → Option Value} {base : Heap}
theorem Df.clX {x : Str} {st : Stmt} {N ps : List Str} {k : Nat} {sp : Sp} (D : Df K mg x st ps) (S : FnScope N ps (defScope st)) (len : ∀ vs H Q E, sp vs H Q E → vs.length = ps.length)
    (hbody : ∀ (f : Addr) (cdv : Value) (A : Around) (outer : List Env) (s : Shared) (H : Hp) (vs : List V) (Q : VK) (E : XK), Room k (A.deeper (envOfC x (defScope st) s.heap.objs.size f cdv)) → sp vs H Q E →
      ∃ t, PSs (cxOf (L2.CX P w) P w K mg base N x (defScope st) f cdv A outer s H E) (defBody st) t ∧ t { nx := fun _ H' => Q .non H', rt := Q } (start N vs) H) : Cl P w K mg base (L2.CX P w) (k + 1) x sp := by
  obtain ⟨f, fd, F, g, b⟩ := D.ex
  exact ⟨f, fd, ps, F.okX S len (hbody f), g, F.kp, b⟩
end
section
variable {X : Cx}
theorem pe_clS {W : WX} {k j : Nat} {x : Str} {sp : Sp} {p pos : Pos} {e : Expr} {es : List Expr} {t : TA} (c : Cl X.prog X.w X.K X.mg X.base (L2.CX X.prog X.w) k x sp) (hr : Room j X.A) (hk : k ≤ j) (hg : Gl X x) (tk : Takes X W) (ha : PA X (e :: es) t)
    (hdb : (x == ("__debug__" : Str)) = false := by decide) (he : starEach (e :: es) X.env = (false, eval e X.env) :: starEach es X.env := by rfl) (hpl : (backTo pos (starEach es X.env)).any (·.1) = false := by rfl) :
    PE X (.Call (.Name x p) (e :: es) [] pos) (tCallS sp (WE W) t) := by
  obtain ⟨f, fd, ps, F, hm, kp, b⟩ := c.ex
  exact pe_callS F (hr.mono hk) hg hm kp b (fun σ => passAt tk σ) ha hdb he hpl
theorem pe_clN {k j : Nat} {x : Str} {sp : Sp} {p pos : Pos} {e : Expr} {es : List Expr} {t : TA} (c : Cl X.prog X.w X.K X.mg X.base (L2.CX X.prog X.w) k x sp) (hr : Room j X.A) (hk : k ≤ j) (hg : Gl X x) (ha : PA X (e :: es) t)
    (hdb : (x == ("__debug__" : Str)) = false := by decide) (he : starEach (e :: es) X.env = (false, eval e X.env) :: starEach es X.env := by rfl) (hpl : (backTo pos (starEach es X.env)).any (·.1) = false := by rfl) :
    PE X (.Call (.Name x p) (e :: es) [] pos) (tCall sp [] E0 t) := by
  obtain ⟨f, fd, ps, F, hm, kp, b⟩ := c.ex
  exact pe_call F (hr.mono hk) hg hm kp b .nil passL ha hdb he hpl
end
end R
namespace R
open PySem PySem.Spec PyProof.Rows L2
/-! ### isinstance(e, c) of a caught error e, its class told behind -/
def rIsX (K : PySem.W.Frag) (D a : Addr) (cls : Value) (d : Option Addr) : List V → Hp → VK → Prop := fun xs H Q => cls = .ref D ∧ d = none ∧ rIsE K D a xs H Q
theorem call_isX {X : Cx} {a D : Addr} {oe : Obj} {cls : Value} {d : Option Addr} {pn : List (Addr × Obj)} (C : ExcC X.K D) (hz : Zc cls d oe) (hf : ∃ vs, oe.data = .fields vs) :
    CallR (X.suite a ((a, oe) :: pn)) (.builtin "isinstance") (rIsX X.K D a cls d) := by
  intro pins s σ H xs us Q I r h
  obtain ⟨h1, h2, h⟩ := h
  subst h1 h2
  exact call_isE C hz hf pins s σ H xs us Q I r h
theorem op_eqDS {X : Cx} {a : Addr} {pn : List (Addr × Obj)} (hu : X.A.units + 64 < cLine) : OpR (X.suite a pn) (compareOp .Eq) (rEqD X.K) := op_eqD (X := X.suite a pn) hu
theorem kit_self {K : PySem.W.Frag} {S : Addr} : PySem.W.kitOne K (.ref S) (.ref S) = some true := by
  unfold PySem.W.kitOne
  rw [if_pos (beq_self_eq_true _)]
theorem kit_gen {K : PySem.W.Frag} {S C : Addr} {r : Bool} (h1 : PySem.W.subIn K (.ref S) (.ref C) = some r) (h2 : PySem.W.isClsIn K C = true) (h3 : PySem.W.typeIn K (.ref C) = some (.type "type"))
    (h4 : (Value.ref S == Value.ref C) = false) : PySem.W.kitOne K (.ref S) (.ref C) = some r := by
  unfold PySem.W.kitOne
  rw [if_neg (by rw [h4]; exact Bool.false_ne_true)]
  unfold PySem.W.kitCls
  dsimp only
  rw [if_pos (by rw [show (PySem.W.clsIn K C).isSome = true from h2, h3]; rfl)]
  exact h1
theorem kit_ve {K : PySem.W.Frag} {S : Addr} {r : Bool} (h1 : PySem.W.subIn K (.ref S) (.type "ValueError") = some r) : PySem.W.kitOne K (.ref S) (.type "ValueError") = some r := by
  unfold PySem.W.kitOne
  rw [show (Value.ref S == Value.type "ValueError") = false from rfl, if_neg Bool.false_ne_true]
  unfold PySem.W.kitCls
  dsimp only
  rw [if_pos (by decide +kernel)]
  exact h1
/-! the rules of lists and tuples with the written part told by a letter: within a comprehension -/
theorem sl_listK {X : Cx} {K : PySem.W.Frag} (h : X.K = K) : SlR X (rSlL K) := h ▸ sl_list
theorem ix_listK {X : Cx} {K : PySem.W.Frag} (h : X.K = K) : IxR X (rIxL K) := h ▸ ix_list
theorem ix_tupK {X : Cx} {K : PySem.W.Frag} (h : X.K = K) : IxR X (rIxT K) := h ▸ ix_tup
theorem pe_gC {X : Cx} {x : Str} {pos : Pos} {C : Addr} (hg : Gl X x) (h : X.mg x = some (.ref C)) (hd : (x == ("__debug__" : Str)) = false := by decide) : PE X (.Name x pos) (tC (.ref C)) := pe_glob hg h rfl hd
end R
namespace R
open PySem PySem.Spec PyProof.Rows L2 GxR
/-! ### all(sign in NAME for sign in text), NAME a text of the module: as the layer's rule, but the element may read the module's names -/
def EltG (prog : Program) (w : World) (mg : Str → Option Value) (sc : Scope) (x : Str) (el : Expr) (pb : Nat → Bool) : Prop :=
  ∀ (ce : Env) (B : Around) (R : Value → Shared → Prop) (n : Nat) (tk : Tok) (z : Shared) (ml : Str → Option Value), ce.scope = sc → ce.globals = mainGlobals → z.heap.Ns mainGlobals mg →
    z.heap.Ns ce.locals ml → ml x = some (.str ⟨#[n]⟩ tk) → wpAny (model prog w) B (eval el ce) (fun y z' => y = .bool (pb n) ∧ Keeps z z') R z
theorem elt_in {prog : Program} {w : World} {mg : Str → Option Value} {sc : Scope} {x g : Str} {t : Str} {p1 p2 p3 : Pos} (hk : sc.kind = .function) (hl : sc.names.lookup x = some .local) (hg : sc.names.lookup g = some .globalImplicit)
    (hm : ∃ u, mg g = some u ∧ RelV (.str t) u) (d1 : (x == ("__debug__" : Str)) = false := by decide) (d2 : (g == ("__debug__" : Str)) = false := by decide) :
    EltG prog w mg sc x (.Compare (.Name x p1) [.In] [.Name g p2] p3) (fun c => decide (c ∈ t.cps.toList)) := by
  intro ce B R n tk z ml es eg hG hL hx
  obtain ⟨u, hu, tk2, rfl⟩ := hm
  have k1 : ce.scope.kind = .function := es ▸ hk
  have k2 : ce.kindOf x = some .local := show ce.scope.names.lookup x = _ from es ▸ hl
  have k3 : ce.kindOf g = some .globalImplicit := show ce.scope.names.lookup g = _ from es ▸ hg
  refine wpAny_Compare1 (wpAny_Name (wpAny_loadName_local k1 k2 hL hx ?_) d1)
  refine Calls.Name_function_global k1 k3 (Calls.loadGlobal_global (mg := mg) (by rw [eg]; exact hG) hu ?_) d2
  refine PyProof.Rows.in_str ⟨?_, keeps_refl _⟩
  rw [PySem.StrLaws.found_one t n]
theorem noFree {sc : Scope} {env : Env} (h : ∀ y ∈ sc.names, y.2 ≠ .free) : ∀ y ∈ sc.names, y.2 = .free → ∃ c, env.cells.lookup y.1 = some c := fun y hy e => absurd e (h y hy)
section
variable {X : Cx} {pins : List (Addr × Obj)} {σ : L2.St} {H : Hp} {s : Shared}
theorem gen_strG {c P : Addr} {el it : Expr} {x : Str} {px gp : Pos} {sc : Scope} {pb : Nat → Bool} {te : TE} {k : Nat} {Z : Value → Shared → Prop} {Y : Str → Hp → Prop}
    (hr : Room k X.A) (tb : TabB X.base X.mg c P) (hc : X.env.code = .ref c) (gs : GenS X.env sc x) (pit : PE X it te) (hel : EltG X.prog X.w X.mg sc x el pb) (hf : ∀ v, genFold it X.env v = pure v) (I : Inv X pins σ H s)
    (h : te σ H fun v H1 => ∃ a : Str, v = .str a ∧ TabG H1 P ∧ Y a H1) (hZ : ∀ a H1 g z, Y a H1 → Ready X pins σ H1 P a pb g z → Z (.ref g) z) :
    wpAny (model X.prog X.w) X.A (eval (.GeneratorExp el [⟨.Name x px, it, [], 0⟩] sc gp) X.env) Z X.xe s := by
  refine wpAny_GeneratorExp_walksQ hr.hd gs.co (closure_ok gs.free) gs.cell gs.dot gs.loc gs.kind hr.depth (thn (pit.run pins s σ H _ I h) fun xv s1 q => ?_) hf
  obtain ⟨v, H1, J, rv, a, rfl, ⟨ps, eP, tri⟩, hY⟩ := q
  obtain ⟨tk, rfl⟩ := (show ∃ tk, xv = Value.str a tk from rv)
  refine wpAny_pyIter_str fun o Si W st => ?_
  have oP : s1.heap.get? P = some { cls := .none, data := .fields ps } := J.hok P _ eP
  have ltP : P < s1.heap.objs.size := Heap.lt_size oP
  have oP2 : (s1.heap.push o).get? P = some { cls := .none, data := .fields ps } := Heap.get?_push_of_some _ oP
  have hd : PySem.W.CodeHd (s1.heap.push o) c P := tb.code.keeps fun b u e => Heap.get?_push_of_some _ (J.bk b u e)
  have nl : (s1.heap.push o).NoLimit := J.nolimit.push o
  have go : ∀ (cv : Value) (h3 : Heap) (t3 : Nat) (ps3 : Array Value), Heap.ExtBut P (s1.heap.push o) h3 → (s1.heap.push o).objs.size ≤ h3.objs.size → h3.get? P = some { cls := .none, data := .fields ps3 } → (∃ more, ps3 = ps ++ more) → TriplesOk ps3.toList →
      wpAny (model X.prog X.w) X.A (builtinsFor X.env.globals X.env.builtins) (fun bi s4 => ∃ Ia fp wr n0 Pf St0 pz F, Value.ref s1.heap.objs.size = .ref Ia ∧ (∀ B : Around, B.handled = none → Walks X.prog X.w B Ia fp wr n0 Pf St0) ∧ St0 0 s4.heap ∧
          (∀ b ∈ fp, b < s4.heap.objs.size) ∧ s4.heap.NoLimit ∧ cStatics ∉ wr ∧
          (∀ href : Heap, (∀ b o, s4.heap.get? b = some o → href.get? b = some o) → QuietGen X.prog X.w (genEnv sc (cloFrom X.env.cells sc.names []) s4.heap.objs.size cv bi X.env) x [] el (List.range s4.heap.objs.size) wr Pf pz F href) ∧
          (∀ g h5 t5 gst, gst.bare = true → s4.heap.objs.size < g → h5.objs.size = g + 1 → (∀ b o, s4.heap.get? b = some o → h5.get? b = some o) →
            WalksS X.prog X.w X.A.in4 g (g :: s4.heap.objs.size :: List.range s4.heap.objs.size) (s4.heap.objs.size :: wr) (GenOnlyQ s4.gens.size) (passing pz n0 0).length (fun j y => ∃ i, (passing pz n0 0)[j]? = some i ∧ F i y)
              (GenAt X.prog X.w X.A.in4 g s4.gens.size s4.heap.objs.size (List.range s4.heap.objs.size) wr pz n0 F) →
            GenAt X.prog X.w X.A.in4 g s4.gens.size s4.heap.objs.size (List.range s4.heap.objs.size) wr pz n0 F 0 { s4 with gens := s4.gens.push gst, toks := t5, heap := h5 } →
            Z (.ref g) { s4 with gens := s4.gens.push gst, toks := t5, heap := h5 })) X.xe { s1 with heap := h3, toks := t3 } := by
    intro cv h3 t3 ps3 ext szl oP3 hmore tri3
    have keep : ∀ b u, b ≠ P → s1.heap.get? b = some u → h3.get? b = some u := fun b u nb e => ext b u nb (Heap.get?_push_of_some _ e)
    have glob3 : h3.Ns mainGlobals X.mg := ((J.mod.glob.keeps J.bk).push o).extBut ext tb.gP
    have neC : cStatics ≠ P := fun e => by
      obtain ⟨_, ⟨o', es, ep, ho, hdt, _⟩, _⟩ := J.nolimit
      rw [e, oP] at ho
      cases ho
      cases hdt
    have ltC : cStatics < s1.heap.objs.size := let ⟨_, hns, _⟩ := J.nolimit; hns.lt
    have ltG : mainGlobals < s1.heap.objs.size := (J.mod.glob.keeps J.bk).lt
    have szp : (s1.heap.push o).objs.size = s1.heap.objs.size + 1 := Heap.size_push ..
    obtain ⟨bm, ob, b1, b2, b3, b4, b5, b6, b7, b8⟩ := tb.bm
    refine wpAny_builtinsFor (m := X.mg) (by rw [J.ok.glob]; exact glob3) b1 b2 (keep _ _ b4 (J.bk _ _ b5)) b6 b7 b8 ?_
    refine ⟨s1.heap.objs.size, [s1.heap.objs.size], [s1.heap.objs.size], a.cps.size, SignAt a, Si, fun _ => true, fun i y => ∃ n, a.cps[i]? = some n ∧ y = .bool (pb n), rfl, W, ?_, ?_, nl.extBut ext neC, ?_, ?_, ?_⟩
    · exact (W X.A hr.hd).frame _ _ _ st fun b hb u e => ext b u (by rw [List.mem_singleton.mp hb]; exact (Nat.ne_of_lt ltP).symm) e
    · intro b hb
      rw [List.mem_singleton.mp hb]
      show s1.heap.objs.size < h3.objs.size
      omega
    · intro e
      exact Nat.ne_of_lt ltC (List.mem_singleton.mp e)
    · intro href hx
      constructor
      · intro B R i v z ml _ _ _ _ _
        rw [List.forIn_nil]
        exact wpAny_pure ⟨rfl, keeps_refl _⟩
      · intro B R i v z ml _ pv' _ hL hm hold
        obtain ⟨n, u, en, rfl⟩ := pv'
        have gz : z.heap.Ns mainGlobals X.mg := by
          obtain ⟨og, eg, ep, ho, rest⟩ := glob3
          refine ⟨og, eg, ep, hold mainGlobals (List.mem_range.mpr ?_) (fun e => Nat.ne_of_lt ltG (List.mem_singleton.mp e)) og (hx _ _ ho), rest⟩
          exact Heap.lt_size ho
        exact wpAny_mono (hel _ B R n u z ml rfl (show X.env.globals = mainGlobals from J.ok.glob) gz hL hm) (fun y z' q => ⟨⟨n, en, q.1⟩, q.2⟩) fun _ _ e => e
    · intro g h5 t5 gst gb lg sz5 keep5 W5 at5
      simp only [GxR.passing_true, List.length_range] at W5
      refine hZ a H1 g _ hY ⟨_, _, _, _, _, W5.in4_1, at5, ?_, fun s' mv => ?_⟩
      · intro j y sj Qj Ej fy hQ
        obtain ⟨i, ei, n, en, rfl⟩ := fy
        obtain ⟨hj, ej⟩ := List.getElem?_eq_some_iff.mp ei
        rw [List.getElem_range] at ej
        subst ej
        have e9 : a.cps.toList[j]? = some n := by
          rw [Array.getElem?_toList]
          exact en
        have hQ' : Qj (trF pb a.cps.toList j) sj := hQ
        rw [trF_some e9] at hQ'
        exact wpAny_truthy_bool hQ'
      · obtain ⟨more, rfl⟩ := hmore
        have nw : ∀ b u, s1.heap.get? b = some u → b ∉ h3.objs.size :: [s1.heap.objs.size] := fun b u e hb => by
          have lb := Heap.lt_size e
          rcases List.mem_cons.mp hb with q | q
          · rw [q] at lb
            have : (h3.objs.size : Nat) < s1.heap.objs.size := lb
            omega
          · rw [List.mem_singleton.mp q] at lb
            exact Nat.lt_irrefl _ lb
        have V := inv_tab (more := more) (h' := s'.heap) (g' := s'.gens) (d' := s'.drawn) (t' := s'.toks) J eP (fun b u nb e => mv.heap b u (nw b u e) (keep5 b u (keep b u nb e))) (mv.heap P _ (nw P _ oP) (keep5 P _ oP3)) (AllBare.movedS (J.bare.push gb) mv)
        rw [sh_eta s1 s' mv.os] at V
        exact ⟨_, ⟨⟨ps ++ more, upd_same, tri3⟩, fun b nb => upd_ne nb⟩, V⟩
  refine ⟨nl, ?_⟩
  cases cf : codeAmong gp ps.toList with
  | some cv => exact wpAny_genexprCode_hit hc (hd.code oP2 tri) cf (go cv (s1.heap.push o) s1.toks ps (Heap.ExtBut.refl _ _) (Nat.le_refl _) oP2 ⟨#[], by simp⟩ tri)
  | none =>
    refine wpAny_genexprCodeX hc (hd.code oP2 tri) (hd.tab oP2) cf fun c' h' tk' hx ge lt co _ tab _ => ?_
    obtain ⟨o1, vs, f1, tf, fl, tg, inF, tx, tt, op, _, _, _, _, _, _, _, _, _, htr, _⟩ := co
    exact go _ h' tk' _ hx (Nat.le_trans ge (Nat.le_of_lt lt)) tab.2 ⟨_, rfl⟩ htr
theorem pe_allG {c P : Addr} {el it : Expr} {x : Str} {px p pos gp : Pos} {sc : Scope} {pb : Nat → Bool} {te : TE} {k : Nat} (hr : Room k X.A) (hg : Gl X "all") (hm : X.mg "all" = none) (tb : TabB X.base X.mg c P) (hc : X.env.code = .ref c)
    (gs : GenS X.env sc x) (pit : PE X it te) (hel : EltG X.prog X.w X.mg sc x el pb) (hf : ∀ v, genFold it X.env v = pure v)
    (he : starEach [.GeneratorExp el [⟨.Name x px, it, [], 0⟩] sc gp] X.env = (false, eval (.GeneratorExp el [⟨.Name x px, it, [], 0⟩] sc gp) X.env) :: starEach [] X.env := by rfl) :
    PE X (.Call (.Name "all" p) [.GeneratorExp el [⟨.Name x px, it, [], 0⟩] sc gp] [] pos) (tAllS P pb te) := by
  constructor
  intro pins s σ H Q I h
  have hb : bootBuiltins "all" = some (.builtin "all") := by decide +kernel
  refine wpAny_Call_Name_kw (ld_blt I hg hm hb (PyProof.Rows.callWith_builtin1 ?_ he (by rfl)))
  rw [he]
  show wpAny _ _ (spliced ((false, eval (.GeneratorExp el [⟨.Name x px, it, [], 0⟩] sc gp) X.env) :: backTo pos (starEach [] X.env))) _ _ s
  refine Calls.spliced_cons (gen_strG (Y := fun a H1 => ∀ H2, Tabbed P H1 H2 → Q (.bl (a.cps.toList.all pb)) H2) hr tb hc gs pit hel hf I h fun a H1 g z hY rd => Calls.spliced_nil ?_)
  obtain ⟨fp, wr, G, F, St, W, st, tr, back⟩ := rd
  refine call_all_walkS (W.self 0 _ _ _ st ⟨g, fp, wr, G, _, F, St, _, rfl, W, st, tr, fun z' mv => ?_⟩)
  obtain ⟨H2, tbd, J⟩ := back z' mv
  exact ⟨.bl _, H2, J, rfl, by rw [all_signs a pb]; exact hY H2 tbd⟩
end
end R
namespace R
open PySem PySem.Spec PyProof.Rows L2
/-! ### the law's end, where the table of one def's code is told to be empty -/
theorem walk_tab {l : PySem.W.OpenLaw} {n k : Nat} {q : Program} {loose : List Str} {XP : (Str → Option Value) → Heap → Prop} {YP : World → Heap → Prop} {d : DefRec} {K : Params → PySem.W.Frag} {CX : World → CXT} {x : Str} (nm : Str)
    (hn : l.most = some n) (hn2 : n ≤ sizeLine) (hdf : d.params.defaults = []) (hr : Room k callerA) (hrec : ((recsOf q).any fun e => e.name == nm) = true) (hY : ∀ (w : World) (h : Heap), YP w h → (K w.params).In h)
    (F : ∀ (w : World) (mg : Str → Option Value) (fa : Addr) (h : Heap), (K w.params).In h → h.Ns mainGlobals mg → mg d.name = some (.ref fa) → (∀ f, mg nm = some (.ref f) → LamX.OwnTab (K w.params) f h) → LamX.LawAtS l w (K w.params) (CX w) k n x mg fa h)
    (hCX : ∀ (w : World) (H : Hp) (s : Shared) (e : Value) (s' : Shared), CX w [] H s (fun _ _ _ => False) e s' → False) : PySem.W.WalkO q loose XP YP l.row.toRowW d [] (fun f vs => PySem.call f vs) := by
  refine Att.attach_callB hn hdf fun w s₀ s₁ mg mb fa o pm cd doc a vs ns G Y ho hd hcd hmg hobj hints hlen hbits hg => ?_
  have inK := hY w _ Y
  have tabs : ∀ f, mg nm = some (.ref f) → LamX.OwnTab (K w.params) f s₁.heap := by
    intro f hf c P o1 fd1 e dd vc sl e1 e2 e3 e4 e5
    obtain ⟨dL, hm, he⟩ := List.any_eq_true.mp hrec
    obtain ⟨a', o', fd', c', P', g1, g2, g3, g4, g5, g6⟩ := G.T.tab dL hm
    rw [beq_iff_eq.mp he, hf] at g1
    cases g1
    have q1 := (inK _ _ e1).symm.trans g2
    cases q1
    have q2 := e2.symm.trans g3
    cases q2
    have q3 := e3.symm.trans g4
    cases q3
    obtain ⟨⟨oc, vc', r1, _, r3, r4⟩, rP⟩ := g6
    have q4 := (inK _ _ e4).symm.trans r1
    cases q4
    cases r3
    have q5 := e5.symm.trans r4
    cases q5
    exact rP
  obtain ⟨fd, cs, sp, hT, nT, C, hb, hsp, hF⟩ := F w mg fa _ inK G.T.g hmg tabs
  exact LamX.law_callTs inK G.T.g G.T.b G.T.builtins G.T.nolimit hg hT nT C G.T.bmain hobj hints (Nat.le_trans hlen hn2) hr hF hb (fun H hH hS => hsp H a ns hlen hbits hH hS) fun H e s' => hCX w H s₁ e s'
theorem walk_tabs {l : PySem.W.OpenLaw} {n k : Nat} {q : Program} {loose : List Str} {XP : (Str → Option Value) → Heap → Prop} {YP : World → Heap → Prop} {d : DefRec} {K : Params → PySem.W.Frag} {CX : World → CXT} {x : Str} (nms : List Str)
    (hn : l.most = some n) (hn2 : n ≤ sizeLine) (hdf : d.params.defaults = []) (hr : Room k callerA) (hrec : ∀ nm ∈ nms, ((recsOf q).any fun e => e.name == nm) = true) (hY : ∀ (w : World) (h : Heap), YP w h → (K w.params).In h)
    (F : ∀ (w : World) (mg : Str → Option Value) (fa : Addr) (h : Heap), (K w.params).In h → h.Ns mainGlobals mg → mg d.name = some (.ref fa) → (∀ nm ∈ nms, ∀ f, mg nm = some (.ref f) → LamX.OwnTab (K w.params) f h) → LamX.LawAtS l w (K w.params) (CX w) k n x mg fa h)
    (hCX : ∀ (w : World) (H : Hp) (s : Shared) (e : Value) (s' : Shared), CX w [] H s (fun _ _ _ => False) e s' → False) : PySem.W.WalkO q loose XP YP l.row.toRowW d [] (fun f vs => PySem.call f vs) := by
  refine Att.attach_callB hn hdf fun w s₀ s₁ mg mb fa o pm cd doc a vs ns G Y ho hd hcd hmg hobj hints hlen hbits hg => ?_
  have inK := hY w _ Y
  have tabs : ∀ nm ∈ nms, ∀ f, mg nm = some (.ref f) → LamX.OwnTab (K w.params) f s₁.heap := by
    intro nm hnm f hf c P o1 fd1 e dd vc sl e1 e2 e3 e4 e5
    obtain ⟨dL, hm, he⟩ := List.any_eq_true.mp (hrec nm hnm)
    obtain ⟨a', o', fd', c', P', g1, g2, g3, g4, g5, g6⟩ := G.T.tab dL hm
    rw [beq_iff_eq.mp he, hf] at g1
    cases g1
    have q1 := (inK _ _ e1).symm.trans g2
    cases q1
    have q2 := e2.symm.trans g3
    cases q2
    have q3 := e3.symm.trans g4
    cases q3
    obtain ⟨⟨oc, vc', r1, _, r3, r4⟩, rP⟩ := g6
    have q4 := (inK _ _ e4).symm.trans r1
    cases q4
    cases r3
    have q5 := e5.symm.trans r4
    cases q5
    exact rP
  obtain ⟨fd, cs, sp, hT, nT, C, hb, hsp, hF⟩ := F w mg fa _ inK G.T.g hmg tabs
  exact LamX.law_callTs inK G.T.g G.T.b G.T.builtins G.T.nolimit hg hT nT C G.T.bmain hobj hints (Nat.le_trans hlen hn2) hr hF hb (fun H hH hS => hsp H a ns hlen hbits hH hS) fun H e s' => hCX w H s₁ e s'
end R
namespace R
open PySem
/-! ### rows: begin, end, number, words; their order -/
abbrev Rw := Rat × Rat × Int × List Str
def soonM (x y : Rw) : Bool := decide (x.1 < y.1 ∨ (x.1 = y.1 ∧ (x.2.2.1 < y.2.2.1 ∨ (x.2.2.1 = y.2.2.1 ∧ x.2.1 < y.2.1))))
def leM (x y : Rw) : Bool := !soonM y x
theorem soonM_iff (x y : Rw) : soonM x y = true ↔ (x.1 < y.1 ∨ (x.1 = y.1 ∧ (x.2.2.1 < y.2.2.1 ∨ (x.2.2.1 = y.2.2.1 ∧ x.2.1 < y.2.1)))) := decide_eq_true_iff
theorem leM_iff (x y : Rw) : leM x y = true ↔ ¬ (y.1 < x.1 ∨ (y.1 = x.1 ∧ (y.2.2.1 < x.2.2.1 ∨ (y.2.2.1 = x.2.2.1 ∧ y.2.1 < x.2.1)))) := by
  unfold leM
  rw [Bool.not_eq_true', ← Bool.not_eq_true, soonM_iff]
theorem leM_trans (x y z : Rw) (h1 : leM x y = true) (h2 : leM y z = true) : leM x z = true := by
  rw [leM_iff] at *
  grind
theorem leM_total (x y : Rw) : (leM x y || leM y x) = true := by
  rw [Bool.or_eq_true, leM_iff, leM_iff]
  grind
theorem leM_anti {x y : Rw} (h1 : leM x y = true) (h2 : leM y x = true) : x.1 = y.1 ∧ x.2.2.1 = y.2.2.1 := by
  rw [leM_iff] at *
  grind
theorem soon_le {x y : Rw} (h : soonM x y = true) : leM x y = true := by
  rw [soonM_iff] at h
  rw [leM_iff]
  grind
/-! ### a row put in behind all that are not later -/
theorem cut_ins {α : Type} {p : α → Bool} : ∀ {m : List α}, m.Pairwise (fun a b => p b = true → p a = true) → (∀ o ∈ m.take (m.filter p).length, p o = true) ∧ (∀ o ∈ m.drop (m.filter p).length, p o = false)
  | [], _ => ⟨fun _ h => by simp at h, fun _ h => by simp at h⟩
  | a :: m, h => by
    obtain ⟨h1, h2⟩ := List.pairwise_cons.mp h
    cases e : p a with
    | true =>
      rw [List.filter_cons_of_pos e]
      obtain ⟨k1, k2⟩ := cut_ins h2
      refine ⟨fun o ho => ?_, fun o ho => k2 o ho⟩
      rcases List.mem_cons.mp (show o ∈ a :: m.take (m.filter p).length from ho) with z | z
      · rw [z]
        exact e
      · exact k1 o z
    | false =>
      have hm : ∀ o ∈ m, p o = false := fun o ho => by
        cases e2 : p o with
        | false => rfl
        | true => rw [h1 o ho e2] at e; cases e
      have hf : (a :: m).filter p = [] := List.filter_eq_nil_iff.mpr fun o ho => by
        rcases List.mem_cons.mp ho with z | z
        · rw [z, e]
          decide
        · rw [hm o z]
          decide
      rw [hf]
      refine ⟨fun o ho => by simp at ho, fun o ho => ?_⟩
      rcases List.mem_cons.mp (show o ∈ a :: m from ho) with z | z
      · rw [z]
        exact e
      · exact hm o z
def insM (x : Rw) (m : List Rw) : List Rw := m.take (m.filter fun o => !soonM x o).length ++ [x] ++ m.drop (m.filter fun o => !soonM x o).length
theorem ins_perm (x : Rw) (m : List Rw) : (insM x m).Perm (m ++ [x]) := by
  unfold insM
  generalize (m.filter fun o => !soonM x o).length = n
  have h1 : (m.take n ++ [x] ++ m.drop n).Perm (m.take n ++ m.drop n ++ [x]) := by
    rw [List.append_assoc, List.append_assoc]
    exact (List.perm_append_comm (l₁ := [x]) (l₂ := m.drop n)).append_left _
  rw [List.take_append_drop] at h1
  exact h1
theorem ins_sorted {x : Rw} {m : List Rw} (h : m.Pairwise fun a b => leM a b = true) : (insM x m).Pairwise fun a b => leM a b = true := by
  have hp : m.Pairwise (fun a b => (!soonM x b) = true → (!soonM x a) = true) := h.imp fun {a b} hab hb => leM_trans a b x hab hb
  obtain ⟨k1, k2⟩ := cut_ins (p := fun o => !soonM x o) hp
  unfold insM
  generalize (m.filter fun o => !soonM x o).length = n at k1 k2 ⊢
  have ht := h.sublist (List.take_sublist n m)
  have hd := h.sublist (List.drop_sublist n m)
  have e := List.take_append_drop n m
  have hx : ∀ a ∈ m.take n, ∀ b ∈ m.drop n, leM a b = true := by
    have := h
    rw [← e, List.pairwise_append] at this
    exact this.2.2
  rw [List.pairwise_append, List.pairwise_append]
  refine ⟨⟨ht, List.pairwise_singleton _ _, fun a ha b hb => ?_⟩, hd, fun a ha b hb => ?_⟩
  · rw [List.mem_singleton.mp hb]
    exact k1 a ha
  · rcases List.mem_append.mp ha with z | z
    · exact hx a z b hb
    · rw [List.mem_singleton.mp z]
      refine soon_le ?_
      have := k2 b hb
      simpa using this
/-! ### the keys -/
def scI (B : Nat) (x : Rat) : Int := x.num * ((B : Int) / (x.den : Int))
theorem scI_rat {B : Nat} {x : Rat} (h : x.den ∣ B) : ((scI B x : Int) : Rat) = x * (B : Rat) := by
  obtain ⟨k, rfl⟩ := h
  have hd : (x.den : Int) ≠ 0 := by have := x.den_pos; omega
  unfold scI
  have e : (((x.den * k : Nat) : Int)) / (x.den : Int) = (k : Int) := by
    rw [Int.natCast_mul, Int.mul_ediv_cancel_left _ hd]
  rw [e, Rat.intCast_mul, Rat.natCast_mul, ← mul_den x, Rat.intCast_natCast]
  grind
theorem scI_lt {B : Nat} {x y : Rat} (hB : 0 < B) (hx : x.den ∣ B) (hy : y.den ∣ B) : scI B x < scI B y ↔ x < y := by
  rw [← Rat.intCast_lt_intCast, scI_rat hx, scI_rat hy]
  have hb : (0 : Rat) < (B : Rat) := Rat.natCast_pos.mpr hB
  constructor
  · intro h
    exact Rat.lt_of_mul_lt_mul_right h (Rat.le_of_lt hb)
  · intro h
    exact Rat.mul_lt_mul_of_pos_right h hb
theorem scI_inj {B : Nat} {x y : Rat} (hB : 0 < B) (hx : x.den ∣ B) (hy : y.den ∣ B) : scI B x = scI B y ↔ x = y := by
  constructor
  · intro h
    have h1 : ¬ x < y := fun z => by
      have := (scI_lt hB hx hy).mpr z
      omega
    have h2 : ¬ y < x := fun z => by
      have := (scI_lt hB hy hx).mpr z
      omega
    grind
  · intro h
    rw [h]
def keyR (B : Nat) (r : Rw) : PyData := .tuple [.int (scI B r.1), .int r.2.2.1, .int (scI B r.2.1)]
theorem key_lt (B : Nat) (x y : Rw) : PySem.W.dataLt (keyR B x) (keyR B y) = decide (scI B x.1 < scI B y.1 ∨ (scI B x.1 = scI B y.1 ∧ (x.2.2.1 < y.2.2.1 ∨ (x.2.2.1 = y.2.2.1 ∧ scI B x.2.1 < scI B y.2.1)))) := by
  have e : PySem.W.dataLt (keyR B x) (keyR B y) = PySem.W.rowLt ([scI B x.1, x.2.2.1, scI B x.2.1].map .int) ([scI B y.1, y.2.2.1, scI B y.2.1].map .int) := by
    unfold keyR
    rw [PySem.W.dataLt_tuple]
    rfl
  rw [e, PySem.W.dataLt_ints, decide_eq_decide, List.cons_lt_cons_iff, List.cons_lt_cons_iff, List.cons_lt_cons_iff]
  simp
theorem sorted_keys {B : Nat} (hB : 0 < B) {rs : List Rw} (hd : ∀ r ∈ rs, r.1.den ∣ B ∧ r.2.1.den ∣ B) : (rs.mergeSort (PySem.W.dataLe false (keyR B))).Perm rs ∧ (rs.mergeSort (PySem.W.dataLe false (keyR B))).Pairwise fun a b => leM a b = true := by
  have pm := List.mergeSort_perm rs (PySem.W.dataLe false (keyR B))
  have le_iff : ∀ x y : Rw, PySem.W.dataLe false (keyR B) x y = true ↔ ¬ (scI B y.1 < scI B x.1 ∨ (scI B y.1 = scI B x.1 ∧ (y.2.2.1 < x.2.2.1 ∨ (y.2.2.1 = x.2.2.1 ∧ scI B y.2.1 < scI B x.2.1)))) := fun x y => by
    rw [PySem.W.dataLe_eq]
    show (!PySem.W.dataLt (keyR B y) (keyR B x)) = true ↔ _
    rw [key_lt, Bool.not_eq_true', ← Bool.not_eq_true, decide_eq_true_iff]
  refine ⟨pm, ?_⟩
  have ps := List.pairwise_mergeSort (le := PySem.W.dataLe false (keyR B)) (fun a b c h1 h2 => by
    rw [le_iff] at *
    omega) (fun a b => by
    rw [Bool.or_eq_true, le_iff, le_iff]
    omega) rs
  refine ps.imp_of_mem fun {a b} ha hb h => ?_
  obtain ⟨a1, a2⟩ := hd a (pm.mem_iff.mp ha)
  obtain ⟨b1, b2⟩ := hd b (pm.mem_iff.mp hb)
  rw [le_iff, scI_lt hB b1 a1, scI_inj hB b1 a1, scI_lt hB b2 a2] at h
  rw [leM_iff]
  exact h
theorem rows_one {rs m m' : List Rw} (hd : ∀ a ∈ rs, ∀ b ∈ rs, a.1 = b.1 → a.2.2.1 = b.2.2.1 → a = b) (p : m.Perm rs) (s : m.Pairwise fun a b => leM a b = true) (p' : m'.Perm rs) (s' : m'.Pairwise fun a b => leM a b = true) : m = m' :=
  List.Perm.eq_of_pairwise (fun a b ha hb h1 h2 => hd a (p.mem_iff.mp ha) b (p'.mem_iff.mp hb) (leM_anti h1 h2).1 (leM_anti h1 h2).2) s s' (p.trans p'.symm)
end R
namespace R
open PySem PySem.Spec PyProof.Rows L2 LamX NdefX
/-! ### a lambda with parameters is called -/
section
variable {P : Program} {w : World} {K : PySem.W.Frag} {mg : Str → Option Value} {base : Heap}
theorem lam_run {N ps fr : List Str} {F : NF} {f : Addr} {body : Expr} {pm ctv : Value} {k : Nat} {A : Around} {outer : List Env} {s : Shared} {H : Hp} {us : List Value} {vs : List V} {ws : List (Option V)} {Q : VK} {E : XK} {CX : CXT} {tb : TE}
    (S : NScope N ps fr F.scope) (ho : s.heap.get? f = some (PySem.W.kla_obj "<lambda>" F.qual F.params body F.scope F.cl pm F.c ctv)) (hb : bindArgs (PySem.W.kla_fn "<lambda>" F.qual F.params body F.scope F.cl pm (.ref F.c) ctv) ⟨us, []⟩ = pure (ps.zip us))
    (hr : Room (k + 1) A) (en : Env0 P w K mg base A outer s H) (hc : H F.c = some (CodeO F.c F.qual)) (ca : CellsAt F.cl fr ws s.heap H) (rv : Vals vs us) (hl : vs.length = ps.length)
    (hbody : Room k (A.deeper (envF F f s.heap.objs.size)) → PE (ncx CX P w K mg base N F f A outer s H E) body tb) (hq : tb (startF N vs ws) H Q) : codeAny (model P w) A (.call (.ref f) ⟨us, []⟩) (CR CX outer P w H s Q E) s := by
  have nl : s.heap.NoLimit := en.mod.nolimit.keeps fun x y z => (en.bs x y z).1
  refine PySem.W.kla_callFunE hr.depth ho rfl S.co S.gen rfl (codeO_at en.hok hc) ?_
  rw [hb]
  refine wpAny_pure (wpAny_newFunctionEnv S.nocell (fun ⟨x, _⟩ hx => S.par x (List.of_mem_zip hx).1) (fun h2 hn2 sb2 => ⟨nl.fresh _ sb2, ?_⟩) S.kind)
  have kp : ∀ x y, s.heap.get? x = some y → h2.get? x = some y := fun x y z => sb2.extBut x y (Nat.ne_of_lt (Heap.lt_size z)) (Heap.get?_push_of_some _ z)
  have J : Inv (ncx CX P w K mg base N F f A outer s H E) [] (startF N vs ws) H { s with heap := h2, toks := s.toks + (ps.zip us).length } := inv_startN S hr.hd en hl rv ca hn2 kp
  refine PySem.W.kla_codeExpr (wpAny_mono ((hbody (hr.deeper _)).run [] _ _ H Q J hq) (fun v s2 g => ?_) fun e s2 g => g)
  obtain ⟨v2, H2, J2, r2, q2⟩ := g
  exact ⟨v2, H2, J2.os, J2.bare, J2.base, J2.hok, r2, q2⟩
theorem env0_in {A : Around} {outer : List Env} {s : Shared} {H : Hp} (e : Env0 P w K mg base A outer s H) : Env0 P w K mg base A.in1.in1 outer s H := ⟨e.frames, e.mod, e.bs, e.bsz, e.funs, e.frf, e.hok, e.bare⟩
end
/-! ### an object that is not known changes -/
theorem old_ne {h : Heap} {a b : Addr} {o : Obj} (q : h.get? b = some o) (hk : h.objs.size ≤ a) : b ≠ a := Nat.ne_of_lt (Nat.lt_of_lt_of_le (Heap.lt_size q) hk)
theorem un_new {fs : List Addr} {H H' : Hp} {h h1 h2 : Heap} {k : Addr} (u : Un fs [] H H' h h1) (hk : h.objs.size ≤ k) (sb : ∀ b, b ≠ k → h2.get? b = h1.get? b) : Un fs [] H H' h h2 := by
  have ne : ∀ {b : Addr} {o : Obj}, h.get? b = some o → b ≠ k := fun {b o} q => old_ne q hk
  refine ⟨fun b o q n c d => ?_, fun b o q n c d => ?_, u.free, fun b o q d => ?_, u.tups, u.frzs, u.tbls⟩
  · rw [sb b (ne q)]
    exact u.keep b o q n c d
  · rw [sb b (ne q)]
    exact u.slot b o q n c d
  · rw [sb b (ne q)]
    exact u.there b o q d
theorem hok_new {P : Program} {w : World} {H : Hp} {h1 h2 : Heap} {k : Addr} (x : HOk P w H h1) (hk : H k = none) (sb : ∀ b, b ≠ k → h2.get? b = h1.get? b) : HOk P w H h2 := fun b u e =>
  (x b u e).stay (fun c v hc q => by
    rw [sb c ?_]
    · exact q
    · rintro rfl
      rcases hc with z | z
      · rw [z, e] at hk
        cases hk
      · rw [z] at hk
        cases hk) (fun _ q => q) fun _ _ q => q
theorem freed_none (h : Heap) (k : Addr) : (h.update k fun o => { o with data := .freed }).get? k = none := by
  obtain ⟨objs, l⟩ := h
  unfold Heap.update Heap.get?
  simp only [Array.getElem?_modify]
  cases e : objs[k]? with
  | none => simp [e]
  | some o => simp [e]
theorem dpas {K : PySem.W.Frag} {H : Hp} : ∀ {vs : List V} {ds : List PyData} {v : V} {d : PyData}, DpAll K H vs ds → Dp K H v d → DpAll K H (vs ++ [v]) (ds ++ [d])
  | _, _, _, _, .nil, h => .cons h .nil
  | _, _, _, _, .cons a b, h => .cons a (dpas b h)
section
variable {X : Cx} {pins : List (Addr × Obj)} {σ : L2.St} {H : Hp} {s : Shared}
theorem nofr (I : Inv X pins σ H s) {a : Addr} (h : s.heap.objs.size ≤ a) : a ∉ frs X.stack := fun z => by
  rcases List.mem_cons.mp (I.stkSub _ z) with e | e
  · have := I.lt
    rw [← e] at this
    exact Nat.lt_irrefl _ (Nat.lt_of_lt_of_le this h)
  · exact I.nofs h e
/-- where keys are made: since the sort began all is as a call leaves it; the list is empty, the keys stand in kS -/
def Kst (X : Cx) (H : Hp) (s : Shared) (a kS : Addr) (e1 : Nat) (kz : List PyData) (i : Nat) (s' : Shared) : Prop := ∃ (H' : Hp) (kA : Array Value) (e : Nat) (kv : List V), s'.os = s.os ∧ AllBare s'.gens ∧ Un (frs X.stack) [] H H' s.heap s'.heap ∧ HOk X.prog X.w H' s'.heap ∧ Same H H' ∧ H' a = none ∧ H' kS = none ∧
  s'.heap.get? kS = some (seqObj "list" kA e) ∧ s'.heap.get? a = some (seqObj "list" #[] e1) ∧ Vals kv kA.toList ∧ DpAll X.K H' kv (kz.take i)
theorem back_inv {s' : Shared} {H' : Hp} (I : Inv X pins σ H s) (os : s'.os = s.os) (br : AllBare s'.gens) (un : Un (frs X.stack) [] H H' s.heap s'.heap) (ok : HOk X.prog X.w H' s'.heap) : Inv X pins σ H' s' := by
  obtain ⟨_, H2, I2, _, rfl⟩ := I.after (Q := fun _ Hz => Hz = H') (u := .none) ⟨.non, H', os, br, un, ok, rfl, rfl⟩
  exact I2
/-- what the key's calls promise -/
def KTurn (X : Cx) (pins : List (Addr × Obj)) (σ : L2.St) (H : Hp) (s : Shared) (f : Addr) (u : Value) (k : PyData) : Prop := ∀ (s' : Shared) (H' : Hp), Inv X pins σ H' s' → Same H H' → Un (frs X.stack) [] H H' s.heap s'.heap →
  codeAny (model X.prog X.w) X.A.in1.in1 (.call (.ref f) ⟨[u], []⟩) (CR CX0 X.stack X.prog X.w H' s' (fun kv H2 => Same H' H2 ∧ Dp X.K H2 kv k) E0) s'
theorem sort_rest {β : Type} {key : β → PyData} {R : Value → β → Prop} {f a kS : Addr} {e1 : Nat} {vs : List Value} {bs : List β} {Q : PySem.Fin → Shared → Prop} {E : Value → Shared → Prop} {s1 : Shared} (I : Inv X pins σ H s) (ea : PySem.W.EachIs R vs bs) (ha : s.heap.objs.size ≤ a) (hk : s.heap.objs.size ≤ kS) (hka : kS ≠ a)
    (hZ : vs.length ≤ sizeLine) (hal : PySem.W.AllAlike (bs.map key)) (hso : PySem.W.Sortable (bs.map key)) (hu : ∀ b ∈ bs, X.A.units + 2 + (key b).depth < cLine) (turn : ∀ u b, R u b → b ∈ bs → KTurn X pins σ H s f u (key b)) (st : Kst X H s a kS e1 (bs.map key) 0 s1)
    (fin : ∀ (s2 : Shared) (H2 : Hp) (out : List Value) (c : Nat), s2.os = s.os → AllBare s2.gens → Un (frs X.stack) [] H H2 s.heap s2.heap → HOk X.prog X.w H2 s2.heap → Same H H2 → H2 a = none → s2.heap.get? a = some (seqObj "list" out.toArray c) → PySem.W.EachIs R out (bs.mergeSort (PySem.W.dataLe false key)) → Q (.done (.ret .none)) s2) :
    wpAny (model X.prog X.w) X.A.in1.in1 (ksk_rest a (.ref f) false vs.toArray e1 (.ref kS)) Q E s1 := by
  have el : vs.length = bs.length := ea.length
  unfold ksk_rest
  refine wpAny_bind (wpAny_rule ?_)
  rw [List.forIn_toArray]
  refine wpAny_bind (ksk_fold (Kst X H s a kS e1 (bs.map key)) vs 0 s1 st ?step ?done)
  case step =>
    rintro j x s2 hx ⟨H2, kA, e, kv, os, br, un, ok, sm, n1, n2, g1, g2, rv, dk⟩
    simp only [Nat.zero_add] at dk ⊢
    have hj : j < vs.length := (List.getElem?_eq_some_iff.mp hx).1
    obtain ⟨b, hb⟩ : ∃ b, bs[j]? = some b := ⟨_, List.getElem?_eq_getElem (by omega)⟩
    have rxb : R x b := ea.zip (x, b) (List.mem_of_getElem? (i := j) (by rw [List.getElem?_zip_eq_some]; exact ⟨hx, hb⟩))
    have I2 := back_inv I os br un ok
    have tw : wpAny (model X.prog X.w) X.A.in1.in1 (call (.ref f) [x]) (fun v s3 => CE X.stack X.prog X.w H2 s2 (fun kv H3 => Same H2 H3 ∧ Dp X.K H3 kv (key b)) v s3) (fun _ _ => False) s2 := by
      refine wpAny_call (codeAny_mono (turn x b rxb (List.mem_of_getElem? hb) s2 H2 I2 sm un) fun r s3 hq => ?_)
      cases r with
      | error e => exact (show False from hq).elim
      | ok fl =>
        cases fl with
        | ret u => exact hq
        | next => exact (show False from hq).elim
        | brk => exact (show False from hq).elim
        | cont => exact (show False from hq).elim
    refine wpAny_bind (wpAny_attempt (wpAny_mono tw (fun v s3 he => ?_) fun _ _ hF => hF.elim))
    obtain ⟨kx, H3, os3, br3, un3, ok3, rk, sm3, dk3⟩ := he
    have g1' := un3.keep kS _ g1 n2 (nofr I hk) (by simp)
    have g2' := un3.keep a _ g2 n1 (nofr I ha) (by simp)
    have n1' := un3.free a _ g2 n1 (by simp)
    have n2' := un3.free kS _ g1 n2 (by simp)
    have lk : kA.size ≤ vs.length := by
      have h1 : kv.length = kA.size := by rw [rv.length, Array.length_toList]
      have h2 : kv.length = min j bs.length := by rw [dpl dk, List.length_take, List.length_map]
      omega
    have g1u := get?_update_seq g1' (·.push v)
    have sb : ∀ b', b' ≠ kS → (s3.heap.update kS (Obj.mapSeq (·.push v))).get? b' = s3.heap.get? b' := fun b' h' => Heap.get?_update_ne _ _ _ _ h'
    try dsimp only
    refine wpAny_bind (listUpdate_at g1' rfl ?_ (Nat.le_trans lk hZ) (by rw [Array.size_push]; omega))
    have ek : (bs.map key).take (j + 1) = (bs.map key).take j ++ [key b] := by
      rw [List.take_add_one, List.getElem?_map, hb]
      rfl
    refine wpAny_pure ⟨rfl, H3, kA.push v, _, kv ++ [kx], os3.trans os, br3, un_new (un.trans un3) hk sb, hok_new ok3 n2' sb, sm.trans sm3, n1', n2', g1u, ?_, ?_, ?_⟩
    · show (s3.heap.update kS (Obj.mapSeq (·.push v))).get? a = _
      rw [sb a hka.symm]
      exact g2'
    · rw [Array.toList_push]
      exact rv.append (.cons rk .nil)
    · rw [ek]
      exact dpas (dpa_mono sm3 _ _ dk) dk3
  case done =>
    rintro s2 ⟨H2, kA, e, kv, os, br, un, ok, sm, n1, n2, g1, g2, rv, dk⟩
    rw [Nat.zero_add, List.take_of_length_le (by rw [List.length_map]; omega)] at dk
    have I2 := back_inv I os br un ok
    have er : PySem.W.EachIs (fun u d => ∃ as, Reads s2.heap u d as) kA.toList (bs.map key) := (dpa_each (enc := id) rv (by rw [List.map_id]; exact dk)).mono fun u d ⟨v, r, h⟩ => Dp.reads I2 _ _ _ h r
    have sz : kA.size = vs.length := by
      have h1 : kv.length = kA.size := by rw [rv.length, Array.length_toList]
      have h2 : kv.length = bs.length := by rw [dpl dk, List.length_map]
      omega
    have nef : ∀ b, b ≠ kS → (s2.heap.update kS fun o => { o with data := .freed }).get? b = s2.heap.get? b := fun b h' => Heap.get?_update_ne _ _ _ _ h'
    try dsimp only
    refine wpAny_bind (listItems_at g1 rfl ?_)
    refine PySem.W.keyH_end (κ := PySem.W.dataKind s2.heap (bs.map key)) (h₁ := s2.heap.update kS fun o => { o with data := .freed }) (fun b o hb q => ?_) (freed_none _ _) g1 g2 hka (PySem.W.SortsAt.data (A := X.A.in1.in1) er hal hso (PySem.W.bound_map (A := X.A.in1.in1) (enc := key) fun b hb => hu b hb)) sz hZ fun h3 tk3 c k3 n3 => ?_
    · by_cases z : b = kS
      · rw [z, freed_none] at q
        cases q
      · rw [nef b z] at q
        exact q
    · have kb : ∀ b o, b ≠ a → b ≠ kS → s2.heap.get? b = some o → h3.get? b = some o := fun b o h1 h2 q => k3 b o h1 (by rw [nef b h2]; exact q)
      have kd : ∀ {b : Addr} {o : Obj}, s.heap.get? b = some o → b ≠ a ∧ b ≠ kS := fun {b o} q => ⟨old_ne q ha, old_ne q hk⟩
      have un' : Un (frs X.stack) [] H H2 s.heap h3 := by
        refine ⟨fun b o q n c d => kb b o (kd q).1 (kd q).2 (un.keep b o q n c d), fun b o q n c d => ?_, un.free, fun b o q d => ?_, un.tups, un.frzs, un.tbls⟩
        · obtain ⟨sl, z⟩ := un.slot b o q n c d
          exact ⟨sl, kb b _ (kd q).1 (kd q).2 z⟩
        · obtain ⟨o', z⟩ := un.there b o q d
          exact ⟨o', kb b _ (kd q).1 (kd q).2 z⟩
      have ok' : HOk X.prog X.w H2 h3 := fun b u e => (ok b u e).stay (fun c v hc q => by
        refine kb c v ?_ ?_ q
        · rintro rfl
          rcases hc with z | z
          · rw [z, e] at n1
            cases n1
          · rw [z] at n1
            cases n1
        · rintro rfl
          rcases hc with z | z
          · rw [z, e] at n2
            cases n2
          · rw [z] at n2
            cases n2) (fun _ q => q) fun _ _ q => q
      exact fin _ H2 _ c os br un' ok' sm n1 n3 (PySem.W.keyedOut_each key ⟨s2.heap, kA.toList, hal, rfl, er⟩ ea)
theorem un_upd {fs : List Addr} {H H' : Hp} {h h1 : Heap} {a : Addr} {o : HO} (u : Un fs [] H H' h h1) (hk : h.objs.size ≤ a) (hn : H a = none) : Un fs [] H (upd H' a o) h h1 := by
  refine ⟨u.keep, u.slot, fun b x q n d => ?_, u.there, fun b x q => ?_, fun b x y q => ?_, fun b x q => ?_⟩
  · rw [upd_ne (old_ne q hk)]
    exact u.free b x q n d
  · rw [upd_ne (ne_of_none q hn)]
    exact u.tups b x q
  · rw [upd_ne (ne_of_none q hn)]
    exact u.frzs b x y q
  · rw [upd_ne (ne_of_none q hn)]
    exact u.tbls b x q
theorem hok_upd {P : Program} {w : World} {H : Hp} {h : Heap} {a : Addr} {o : HO} (x : HOk P w H h) (hn : H a = none) (new : ObjOk P w (upd H a o) h a o) : HOk P w (upd H a o) h := fun b u e => by
  by_cases z : b = a
  · subst z
    rw [upd_same] at e
    cases e
    exact new
  · rw [upd_ne z] at e
    exact (x b u e).stay (fun _ _ _ q => q) (fun c q => by rw [upd_ne (ne_of_none q hn)]; exact q) fun c ys q => by rw [upd_ne (ne_of_none q hn)]; exact q
theorem each_vals {β : Type} {Pv : V → β → Prop} : ∀ {xs : List V} {us : List Value} {bs : List β}, Vals xs us → PySem.W.EachIs Pv xs bs → PySem.W.EachIs (fun u b => ∃ v, RelV v u ∧ Pv v b) us bs
  | _, _, _, .nil, .nil => .nil
  | _, _, _, .cons r rs, .cons h hs => .cons ⟨_, r, h⟩ (each_vals rs hs)
theorem vals_each {β : Type} {Pv : V → β → Prop} : ∀ {us : List Value} {bs : List β}, PySem.W.EachIs (fun u b => ∃ v, RelV v u ∧ Pv v b) us bs → ∃ xs, Vals xs us ∧ PySem.W.EachIs Pv xs bs
  | _, _, .nil => ⟨[], .nil, .nil⟩
  | _, _, .cons ⟨v, r, h⟩ hs => by
    obtain ⟨xs, r2, h2⟩ := vals_each hs
    exact ⟨v :: xs, .cons r r2, .cons h h2⟩
theorem sort_call {β : Type} {key : β → PyData} {Pv : V → β → Prop} {f l : Addr} {xs : List V} {bs : List β} {Q : VK} (I : Inv X pins σ H s) (hs : SqL X.K H l xs) (hx : PySem.W.EachIs Pv xs bs) (hal : PySem.W.AllAlike (bs.map key)) (hso : PySem.W.Sortable (bs.map key)) (hu : ∀ b ∈ bs, X.A.units + 2 + (key b).depth < cLine)
    (turn : ∀ v b u, Pv v b → b ∈ bs → RelV v u → KTurn X pins σ H s f u (key b)) (q : ∀ H' p ys, Same H H' → H' p = none → PySem.W.EachIs Pv ys (bs.mergeSort (PySem.W.dataLe false key)) → Q (.ref p) (upd H' p (.lst ys))) :
    wpAny (model X.prog X.w) X.A (call (.builtin "sorted") [.ref l] [(Str.ofString "key", .ref f)]) (EP X pins σ Q) X.xe s := by
  obtain ⟨its, rv, hl, hz⟩ := I.list hs
  have ea := each_vals rv hx
  have lz : its.length ≤ sizeLine := by
    rw [← rv.length]
    exact hz
  refine PySem.W.sorted_of_sort hl.isList lz (ksk_s1 _ _) (fun _ => ksk_l1 _ _) fun E' => ?_
  rw [ksk_t1]
  have ga := PySem.W.copyHeap_at s.heap its
  have ha0 : s.heap.objs.size ≤ s.heap.objs.size + 1 := Nat.le_succ _
  have lta := Heap.lt_size ga
  have old : ∀ b o, s.heap.get? b = some o → (PySem.W.copyHeap s.heap its).get? b = some o := fun b o e => PySem.W.copyHeap_old e
  generalize PySem.W.copyHeap s.heap its = h0 at ga lta old ⊢
  generalize s.heap.objs.size + 1 = a at ga lta ha0 ⊢
  have gu := get?_update_seq ga (fun _ => #[])
  have old1 : ∀ b o, s.heap.get? b = some o → (h0.update a (Obj.mapSeq fun _ => #[])).get? b = some o := fun b o e => by
    rw [Heap.get?_update_ne _ _ _ _ (old_ne e ha0)]
    exact old b o e
  have sz1 : a < (h0.update a (Obj.mapSeq fun _ => #[])).objs.size := by
    rw [Heap.size_update]
    exact lta
  unfold ksk_tree
  refine wpAny_bind (listItems_at ga rfl ?_)
  refine wpAny_bind (listUpdate_at ga rfl ?_ (by rw [List.size_toArray]; exact lz) (Nat.zero_le _))
  refine wpAny_bind (seqEpoch_at gu rfl ?_)
  dsimp only
  generalize h0.update a (Obj.mapSeq fun _ => #[]) = h1 at gu old1 sz1 ⊢
  refine wpAny_bind (wpAny_newTuple ?_ lz)
  refine wpAny_bind (wpAny_newList ?_ (Nat.zero_le _))
  refine wpAny_holding ?_
  have lt2 : a < (h1.push (seqObj "tuple" its.toArray 0)).objs.size := Nat.lt_trans sz1 (by rw [Heap.size_push]; exact Nat.lt_succ_self _)
  have gk : ((h1.push (seqObj "tuple" its.toArray 0)).push (seqObj "list" #[] 0)).get? (h1.push (seqObj "tuple" its.toArray 0)).objs.size = some (seqObj "list" #[] 0) := Heap.get?_push_size _ rfl
  have gx := Heap.get?_push_of_some (seqObj "list" #[] 0) (Heap.get?_push_of_some (seqObj "tuple" its.toArray 0) gu)
  have old3 : ∀ b o, s.heap.get? b = some o → ((h1.push (seqObj "tuple" its.toArray 0)).push (seqObj "list" #[] 0)).get? b = some o := fun b o e => Heap.get?_push_of_some _ (Heap.get?_push_of_some _ (old1 b o e))
  have hk0 : s.heap.objs.size ≤ (h1.push (seqObj "tuple" its.toArray 0)).objs.size := Nat.le_trans ha0 (Nat.le_of_lt lt2)
  refine sort_rest (s1 := { s with heap := (h1.push (seqObj "tuple" its.toArray 0)).push (seqObj "list" #[] 0) }) I ea ha0 hk0 (Nat.ne_of_gt lt2) lz hal hso hu (fun u b ⟨v, r, p⟩ hb => turn v b u p hb r) ⟨H, #[], 0, [], rfl, I.bare, Un.kept old3, I.hok.kept old3, Same.refl _, I.hok.fresh ha0, I.hok.fresh hk0, gk, gx, .nil, by rw [List.take_zero]; exact .nil⟩ ?_
  intro s2 H2 out c os br un ok sm n1 g eo
  obtain ⟨ys, ry, ey⟩ := vals_each eo
  refine ⟨rfl, .ref a, upd H2 a (.lst ys), back_inv I os br (un_upd un ha0 (I.hok.fresh ha0)) (hok_upd ok n1 ⟨?_, out, c, ry, g⟩), rfl, q H2 a ys sm n1 ey⟩
  have l1 : ys.length = out.length := ry.length
  have l2 : out.length = (bs.mergeSort (PySem.W.dataLe false key)).length := eo.length
  rw [List.length_mergeSort] at l2
  have l3 := ea.length
  omega
end
/-- sorted(e, key=lambda y: body) -/
def tSortLam (β : Type) (K : PySem.W.Frag) (T : List (Addr × Str)) (N : List Str) (js : List Nat) (tb te : TE) : TE := fun σ H Q => te σ H fun x H1 => Tabs T H1 ∧ ∀ H2, ExtN H1 H2 → Tabs T H2 → ∃ (l : Addr) (xs : List V) (bs : List β) (Pv : V → β → Prop) (key : β → PyData), x = .ref l ∧ SqL K H2 l xs ∧ PySem.W.EachIs Pv xs bs ∧ PySem.W.AllAlike (bs.map key) ∧ PySem.W.Sortable (bs.map key) ∧ (∀ b ∈ bs, (key b).depth ≤ 60) ∧
  (∀ v b, Pv v b → b ∈ bs → ∀ H', Same H2 H' → tb (startF N [v] (js.map (slotAt σ))) H' (fun kv H3 => Same H' H3 ∧ Dp K H3 kv (key b))) ∧ ∀ H' p ys, Same H2 H' → H' p = none → PySem.W.EachIs Pv ys (bs.mergeSort (PySem.W.dataLe false key)) → Q (.ref p) (upd H' p (.lst ys))
section
variable {X : Cx}
abbrev mkF (X : Cx) (params : Arguments) (scope : Scope) (c' : Addr) : NF := ⟨"<lambda>", X.env.qual ++ "<lambda>", params, [], scope, cloFrom X.env.cells scope.names [], c'⟩
theorem pe_sortLam {β : Type} {T : List (Addr × Str)} {c P0 : Addr} {N fr : List Str} {y : Str} {js : List Nat} {e body : Expr} {params : Arguments} {scope : Scope} {te tb : TE} {k : Nat} {p lpos kpos pos : Pos} (TB : TabB X.base X.mg c P0) (hcode : X.env.code = .ref c)
    (hm : (P0, X.env.qual ++ "<lambda>") ∈ T) (hu : ∀ p ∈ T, p.1 = P0 → p.2 = X.env.qual ++ "<lambda>") (hdef : defaultsOf params X.env = ([], [])) (S : NScope N [y] fr scope) (hfree : ∀ y ∈ scope.names, y.2 = .free → X.env.scope.names.lookup y.1 = some .cell ∨ X.env.scope.names.lookup y.1 = some .free)
    (hfr : ∀ y ∈ fr, (y, NameKind.free) ∈ scope.names) (hjs : js.map (fun j => X.N[j]?) = fr.map some) (hbind : ∀ (q : Str) (cl : List (Str × Addr)) (pm cv ctv u : Value), bindArgs (PySem.W.kla_fn "<lambda>" q params body scope cl pm cv ctv) ⟨[u], []⟩ = pure ([y].zip [u]))
    (hr : Room (k + 2) X.A) (hg : Gl X "sorted") (hmg : X.mg "sorted" = none) (hv : bootBuiltins "sorted" = some (.builtin "sorted")) (he : PA X [e] (tCons te tNil))
    (hbody : ∀ (f c' : Addr) (A : Around) (outer : List Env) (s : Shared) (H : Hp) (E : XK), Room k (A.deeper (envF (mkF X params scope c') f s.heap.objs.size)) → PE (ncx CX0 X.prog X.w X.K X.mg X.base N (mkF X params scope c') f A outer s H E) body tb)
    (he1 : backTo pos (starEach [e] X.env) = (false, eval e X.env) :: backTo pos (starEach [] X.env) := by rfl) (hpl : (backTo pos (starEach [e] X.env)).any (·.1) = false := by rfl) (hn : ("sorted" : Str) ≠ "__name__" := by decide) (hdb : (("sorted" : Str) == ("__debug__" : Str)) = false := by decide) :
    PE X (.Call (.Name "sorted" p) [e] [⟨some "key", .Lambda params body scope lpos, kpos⟩] pos) (tSortLam β X.K T N js tb te) := by
  refine ⟨fun pins s σ H Q I h => ?_⟩
  have hrm : Room (k + 1) X.A.in1.in1 := ⟨hr.hd, by have := hr.dp; show X.A.depth + 3 * (k + 1) + 5 < _; omega, by have := hr.un; show X.A.units + 1 + 1 + 16 * (k + 1) + 200 < _; omega⟩
  have hfr' : ∀ y ∈ scope.names, y.2 = .free → ∃ c, X.env.cells.lookup y.1 = some c := fun y hy z => (hfree y hy z).elim (fun k => I.ok.has _ (.inl k)) fun k => I.ok.has _ (.inr k)
  refine wpAny_Call_Name_kw (ld_blt I hg hmg hv ?_ hn hdb)
  refine PyProof.Rows.callWith_kw (thn (he.run pos pins s σ H (fun vs H1 => match vs with | [x] => (Tabs T H1 ∧ ∀ H2, ExtN H1 H2 → Tabs T H2 → ∃ (l : Addr) (xs : List V) (bs : List β) (Pv : V → β → Prop) (key : β → PyData), x = .ref l ∧ SqL X.K H2 l xs ∧ PySem.W.EachIs Pv xs bs ∧ PySem.W.AllAlike (bs.map key) ∧ PySem.W.Sortable (bs.map key) ∧ (∀ b ∈ bs, (key b).depth ≤ 60) ∧
      (∀ v b, Pv v b → b ∈ bs → ∀ H', Same H2 H' → tb (startF N [v] (js.map (slotAt σ))) H' (fun kv H3 => Same H' H3 ∧ Dp X.K H3 kv (key b))) ∧ ∀ H' p ys, Same H2 H' → H' p = none → PySem.W.EachIs Pv ys (bs.mergeSort (PySem.W.dataLe false key)) → Q (.ref p) (upd H' p (.lst ys))) | _ => False) I h) fun us s1 ⟨vs, H1, I1, r1, q1⟩ => ?_) he1 hpl rfl rfl
  cases r1 with
  | nil => exact (show False from q1).elim
  | cons rx rr =>
    cases rr with
    | cons _ _ => exact (show False from q1).elim
    | nil =>
      obtain ⟨hT, q1⟩ := q1
      show wpAny _ _ (evalAll ((do let v ← eval (.Lambda params body scope lpos) X.env; standAt pos; pure v) :: [])) _ _ s1
      refine wpAny_evalAll_cons (wpAny_bind (lam_make2 I1 TB hcode hm hu hT hdef hfr' fun f c' pm ctv H2 s2 I2 eN T2 hf hfn hfs hco => wpAny_bind (wpAny_standAt (wpAny_pure (wpAny_evalAll_nil ?_)))))
      obtain ⟨l, xs, bs, Pv, key, rfl, hs, hx, hal, hso, hd, ht, hq⟩ := q1 H2 eN T2
      obtain rfl := (show _ = Value.ref l from rx)
      show wpAny _ _ (call (.builtin "sorted") [.ref l] [(Str.ofString "key", .ref f)]) _ _ _
      refine sort_call I2 hs hx hal hso (fun b hb => ?_) (fun v b u pv hb rv s' H' I' sm un => ?_) hq
      · have h1 := hd b hb
        have h2 := hr.un
        omega
      · exact lam_run (F := mkF X params scope c') (tb := tb) S (un.keep f _ hf hfn hfs (by simp)) (hbind _ _ _ _ _ _) hrm (env0_in I'.env0) (sm _ _ hco) (cells_of I' (Caps.made I'.ok hfree hfr hjs)) (.cons rv .nil) rfl (fun hr2 => hbody f c' _ _ s' H' _ hr2) (ht v b pv hb H' sm)
end
end R
namespace R
open PySem PySem.Spec PyProof.Rows L2 GxR
/-! ### sum(f(x) for x in xs), xs a list -/
def EltI (prog : Program) (w : World) (mg : Str → Option Value) (sc : Scope) (x : Str) (el : Expr) (ok : V → Prop) (val : V → Int) : Prop :=
  ∀ (ce : Env) (B : Around) (R : Value → Shared → Prop) (v : V) (u : Value) (z : Shared) (ml mb : Str → Option Value), ce.scope = sc → ce.globals = mainGlobals → z.heap.Ns mainGlobals mg → z.heap.Ns ce.builtins mb → (∀ y : Str, y ≠ "__name__" → mb y = bootBuiltins y) → z.heap.Ns ce.locals ml → ok v → RelV v u → ml x = some u →
    wpAny (model prog w) B (eval el ce) (fun y z' => (∃ t, y = .int (val v) t) ∧ Keeps z z') R z
def lenV : V → Int
  | .str a => a.length
  | _ => 0
theorem elt_len {prog : Program} {w : World} {mg : Str → Option Value} {sc : Scope} {x : Str} {p1 p2 p3 : Pos} (hk : sc.kind = .function) (hl : sc.names.lookup x = some .local) (hg : sc.names.lookup ("len" : Str) = some .globalImplicit) (hm : mg "len" = none) (d1 : (x == ("__debug__" : Str)) = false := by decide) :
    EltI prog w mg sc x (.Call (.Name "len" p1) [.Name x p2] [] p3) (fun v => ∃ a : Str, v = .str a ∧ a.length ≤ sizeLine) lenV := by
  intro ce B R v u z ml mb es eg hG hB hb hL ok rv hx
  obtain ⟨a, rfl, ha⟩ := ok
  obtain ⟨tk, rfl⟩ := (show ∃ tk, u = Value.str a tk from rv)
  have k1 : ce.scope.kind = .function := es ▸ hk
  have k2 : ce.kindOf x = some .local := show ce.scope.names.lookup x = _ from es ▸ hl
  have k3 : ce.kindOf "len" = some .globalImplicit := show ce.scope.names.lookup ("len" : Str) = _ from es ▸ hg
  have hv : bootBuiltins "len" = some (.builtin "len") := by decide +kernel
  refine wpAny_Call_Name_kw (Calls.Name_function_global k1 k3 (Calls.loadGlobal_builtin (mg := mg) (mb := mb) (by rw [eg]; exact hG) hm hB ((hb "len" (by decide)).trans hv) ?_) (by decide))
  have he : starEach [.Name x p2] ce = (false, eval (.Name x p2) ce) :: starEach [] ce := by rfl
  refine PyProof.Rows.callWith_builtin1 ?_ he (by rfl)
  rw [he]
  show wpAny _ _ (spliced ((false, eval (.Name x p2) ce) :: backTo p3 (starEach [] ce))) _ _ z
  refine Calls.spliced_cons (wpAny_Name (wpAny_loadName_local k1 k2 hL hx (Calls.spliced_nil ?_)) d1)
  have hn := line63
  exact len_str (by omega) ⟨⟨_, rfl⟩, keeps_tok z _⟩
section
variable {X : Cx} {pins : List (Addr × Obj)} {σ : L2.St} {H : Hp} {s : Shared}
/-- a generator over a list is made -/
def ReadyI (X : Cx) (pins : List (Addr × Obj)) (σ : L2.St) (H1 : Hp) (P : Addr) (xs : List V) (val : V → Int) (g : Addr) (s5 : Shared) : Prop :=
  ∃ (fp wr : List Addr) (G : Array GenState → Array GenState → Prop) (F : Nat → Value → Prop) (St : Nat → Shared → Prop) (vn : Nat → Int), WalksS X.prog X.w X.A.in1 g fp wr G xs.length F St ∧ St 0 s5 ∧ (∀ b ∈ fp, b < s5.heap.objs.size) ∧ (∀ j y, F j y → ∃ t, y = .int (vn j) t) ∧ (∀ j v, xs[j]? = some v → vn j = val v) ∧
    ∀ s', Moved wr G s5 s' → ∃ H2, Tabbed P H1 H2 ∧ Inv X pins σ H2 s'
theorem gen_listG {c P : Addr} {el it : Expr} {x : Str} {px gp : Pos} {sc : Scope} {ok : V → Prop} {val : V → Int} {te : TE} {k : Nat} {Z : Value → Shared → Prop} {Y : Addr → List V → Hp → Prop}
    (hr : Room k X.A) (tb : TabB X.base X.mg c P) (hc : X.env.code = .ref c) (gs : GenS X.env sc x) (pit : PE X it te) (hel : EltI X.prog X.w X.mg sc x el ok val) (hf : ∀ v, genFold it X.env v = pure v) (I : Inv X pins σ H s)
    (h : te σ H fun v H1 => ∃ l xs, v = .ref l ∧ SqL X.K H1 l xs ∧ (∀ y ∈ xs, ok y) ∧ TabG H1 P ∧ Y l xs H1) (hZ : ∀ l xs H1 g z, Y l xs H1 → ReadyI X pins σ H1 P xs val g z → Z (.ref g) z) :
    wpAny (model X.prog X.w) X.A (eval (.GeneratorExp el [⟨.Name x px, it, [], 0⟩] sc gp) X.env) Z X.xe s := by
  refine wpAny_GeneratorExp_walksQ hr.hd gs.co (closure_ok gs.free) gs.cell gs.dot gs.loc gs.kind hr.depth (thn (pit.run pins s σ H _ I h) fun xv s1 q => ?_) hf
  obtain ⟨v, H1, J, rv, l, xs, rfl, hs, hok, ⟨ps, eP, tri⟩, hY⟩ := q
  obtain rfl : xv = Value.ref l := rv
  obtain ⟨its, rvs, hl, hz⟩ := J.list hs
  have isl := hl.isList
  refine wpAny_pyIter_list isl ?_
  have oP : s1.heap.get? P = some { cls := .none, data := .fields ps } := J.hok P _ eP
  have ltP : P < s1.heap.objs.size := Heap.lt_size oP
  have ltl : l < s1.heap.objs.size := by
    obtain ⟨o', ho', _⟩ := isl
    exact Heap.lt_size ho'
  have neP : l ≠ P := fun z => by
    obtain ⟨o', ho', hd', _⟩ := isl
    rw [z, oP] at ho'
    cases ho'
    cases hd'
  generalize ho : ({ cls := .type "list_iterator", data := .fields #[.ref l, .int 0 0] } : Obj) = o
  have oP2 : (s1.heap.push o).get? P = some { cls := .none, data := .fields ps } := Heap.get?_push_of_some _ oP
  have hd : PySem.W.CodeHd (s1.heap.push o) c P := tb.code.keeps fun b u e => Heap.get?_push_of_some _ (J.bk b u e)
  have nl : (s1.heap.push o).NoLimit := J.nolimit.push o
  have lit : (s1.heap.push o).get? s1.heap.objs.size = some o := Heap.get?_push_size _ (by rw [← ho]; rfl)
  have neI : l ≠ s1.heap.objs.size := Nat.ne_of_lt ltl
  have W : ∀ B : Around, B.handled = none → Walks X.prog X.w B s1.heap.objs.size [s1.heap.objs.size, l] [s1.heap.objs.size] its.toArray.size (fun i v => its.toArray[i]? = some v) (fun i h => h.IsListIter s1.heap.objs.size l i ∧ h.IsList l its.toArray) := fun B hB => Walks.list hB s1.heap.objs.size l neI its.toArray
  have st : (s1.heap.push o).IsListIter s1.heap.objs.size l 0 ∧ (s1.heap.push o).IsList l its.toArray := ⟨⟨o, lit, by rw [← ho], by rw [← ho]; rfl⟩, isl.at fun u e => Heap.get?_push_of_some _ e⟩
  obtain ⟨mb, hb1, hb2⟩ := J.mod.blt
  have go : ∀ (cv : Value) (h3 : Heap) (t3 : Nat) (ps3 : Array Value), Heap.ExtBut P (s1.heap.push o) h3 → (s1.heap.push o).objs.size ≤ h3.objs.size → h3.get? P = some { cls := .none, data := .fields ps3 } → (∃ more, ps3 = ps ++ more) → TriplesOk ps3.toList →
      wpAny (model X.prog X.w) X.A (builtinsFor X.env.globals X.env.builtins) (fun bi s4 => ∃ Ia fp wr n0 Pf St0 pz F, Value.ref s1.heap.objs.size = .ref Ia ∧ (∀ B : Around, B.handled = none → Walks X.prog X.w B Ia fp wr n0 Pf St0) ∧ St0 0 s4.heap ∧
          (∀ b ∈ fp, b < s4.heap.objs.size) ∧ s4.heap.NoLimit ∧ cStatics ∉ wr ∧
          (∀ href : Heap, (∀ b o, s4.heap.get? b = some o → href.get? b = some o) → QuietGen X.prog X.w (genEnv sc (cloFrom X.env.cells sc.names []) s4.heap.objs.size cv bi X.env) x [] el (List.range s4.heap.objs.size) wr Pf pz F href) ∧
          (∀ g h5 t5 gst, gst.bare = true → s4.heap.objs.size < g → h5.objs.size = g + 1 → (∀ b o, s4.heap.get? b = some o → h5.get? b = some o) →
            WalksS X.prog X.w X.A.in4 g (g :: s4.heap.objs.size :: List.range s4.heap.objs.size) (s4.heap.objs.size :: wr) (GenOnlyQ s4.gens.size) (passing pz n0 0).length (fun j y => ∃ i, (passing pz n0 0)[j]? = some i ∧ F i y)
              (GenAt X.prog X.w X.A.in4 g s4.gens.size s4.heap.objs.size (List.range s4.heap.objs.size) wr pz n0 F) →
            GenAt X.prog X.w X.A.in4 g s4.gens.size s4.heap.objs.size (List.range s4.heap.objs.size) wr pz n0 F 0 { s4 with gens := s4.gens.push gst, toks := t5, heap := h5 } →
            Z (.ref g) { s4 with gens := s4.gens.push gst, toks := t5, heap := h5 })) X.xe { s1 with heap := h3, toks := t3 } := by
    intro cv h3 t3 ps3 ext szl oP3 hmore tri3
    have keep : ∀ b u, b ≠ P → s1.heap.get? b = some u → h3.get? b = some u := fun b u nb e => ext b u nb (Heap.get?_push_of_some _ e)
    have glob3 : h3.Ns mainGlobals X.mg := ((J.mod.glob.keeps J.bk).push o).extBut ext tb.gP
    have neC : cStatics ≠ P := fun e => by
      obtain ⟨_, ⟨o', es, ep, ho, hdt, _⟩, _⟩ := J.nolimit
      rw [e, oP] at ho
      cases ho
      cases hdt
    have neB : builtinsNs ≠ P := fun e => by
      obtain ⟨o', es, ep, ho, hdt, _⟩ := hb1.keeps J.bk
      rw [e, oP] at ho
      cases ho
      cases hdt
    have blt3 : h3.Ns builtinsNs mb := ((hb1.keeps J.bk).push o).extBut ext neB
    have ltC : cStatics < s1.heap.objs.size := let ⟨_, hns, _⟩ := J.nolimit; hns.lt
    have ltG : mainGlobals < s1.heap.objs.size := (J.mod.glob.keeps J.bk).lt
    have ltB : builtinsNs < s1.heap.objs.size := (hb1.keeps J.bk).lt
    have szp : (s1.heap.push o).objs.size = s1.heap.objs.size + 1 := Heap.size_push ..
    obtain ⟨bm, ob, b1, b2, b3, b4, b5, b6, b7, b8⟩ := tb.bm
    refine wpAny_builtinsFor (m := X.mg) (by rw [J.ok.glob]; exact glob3) b1 b2 (keep _ _ b4 (J.bk _ _ b5)) b6 b7 b8 ?_
    refine ⟨s1.heap.objs.size, [s1.heap.objs.size, l], [s1.heap.objs.size], its.toArray.size, _, _, fun _ => true, fun i y => ∃ v, xs[i]? = some v ∧ ∃ t, y = .int (val v) t, rfl, W, ?_, ?_, nl.extBut ext neC, ?_, ?_, ?_⟩
    · refine (W X.A hr.hd).frame _ _ _ st fun b hb u e => ext b u ?_ e
      rcases List.mem_cons.mp hb with z | z
      · rw [z]
        exact (Nat.ne_of_lt ltP).symm
      · rw [List.mem_singleton.mp z]
        exact neP
    · intro b hb
      have h3s : s1.heap.objs.size + 1 ≤ h3.objs.size := by rw [← szp]; exact szl
      show b < h3.objs.size
      rcases List.mem_cons.mp hb with z | z
      · rw [z]
        exact h3s
      · rw [List.mem_singleton.mp z]
        exact Nat.lt_trans ltl h3s
    · intro e
      exact Nat.ne_of_lt ltC (List.mem_singleton.mp e)
    · intro href hx
      constructor
      · intro B R i v z ml _ _ _ _ _
        rw [List.forIn_nil]
        exact wpAny_pure ⟨rfl, keeps_refl _⟩
      · intro B R i v z ml _ pv' _ hL hm hold
        have pv' : its.toArray[i]? = some v := pv'
        have pv2 : its[i]? = some v := by
          rw [List.getElem?_toArray] at pv'
          exact pv'
        have hi : i < xs.length := by
          rw [rvs.length]
          exact (List.getElem?_eq_some_iff.mp pv2).1
        obtain ⟨vx, hvx⟩ : ∃ vx, xs[i]? = some vx := ⟨_, List.getElem?_eq_getElem hi⟩
        obtain ⟨u, hu, ru⟩ := rvs.get hvx
        rw [pv2] at hu
        obtain rfl := Option.some.inj hu
        have nsz : ∀ {ad : Addr} {m : Str → Option Value}, h3.Ns ad m → ad < s1.heap.objs.size → z.heap.Ns ad m := fun {ad m} hns hlt => by
          obtain ⟨og, eg, ep, hog, rest⟩ := hns
          exact ⟨og, eg, ep, hold ad (List.mem_range.mpr (Heap.lt_size hog)) (fun e => Nat.ne_of_lt hlt (List.mem_singleton.mp e)) og (hx _ _ hog), rest⟩
        exact wpAny_mono (hel _ B R vx v z ml mb rfl (show X.env.globals = mainGlobals from J.ok.glob) (nsz glob3 ltG) (nsz blt3 ltB) hb2 hL (hok vx (List.mem_of_getElem? hvx)) ru hm) (fun y z' q => ⟨⟨vx, hvx, q.1⟩, q.2⟩) fun _ _ e => e
    · intro g h5 t5 gst gb lg sz5 keep5 W5 at5
      simp only [GxR.passing_true, List.length_range] at W5
      have ln : its.toArray.size = xs.length := by rw [List.size_toArray, rvs.length]
      rw [ln] at W5 at5
      refine hZ l xs H1 g _ hY ⟨_, _, _, _, _, fun j => match xs[j]? with | some v => val v | none => 0, W5.in4_1, at5, ?_, fun j y fy => ?_, fun j v hj => by show (match xs[j]? with | some v => val v | none => 0) = val v; rw [hj], fun s' mv => ?_⟩
      · intro b hb
        show b < h5.objs.size
        have lg' : h3.objs.size < g := lg
        have g5 : g < h5.objs.size := by rw [sz5]; exact Nat.lt_succ_self _
        rcases List.mem_cons.mp hb with z | z
        · rw [z]
          exact g5
        · rcases List.mem_cons.mp z with y | y
          · rw [y]
            exact Nat.lt_trans lg' g5
          · exact Nat.lt_trans (List.mem_range.mp y) (Nat.lt_trans lg' g5)
      · obtain ⟨i, ei, v, hv, t, rfl⟩ := fy
        obtain ⟨hj, ej⟩ := List.getElem?_eq_some_iff.mp ei
        rw [List.getElem_range] at ej
        subst ej
        show ∃ t', Value.int (val v) t = .int (match xs[j]? with | some v => val v | none => 0) t'
        rw [hv]
        exact ⟨t, rfl⟩
      · obtain ⟨more, rfl⟩ := hmore
        have nw : ∀ b u, s1.heap.get? b = some u → b ∉ h3.objs.size :: [s1.heap.objs.size] := fun b u e hb => by
          have lb := Heap.lt_size e
          rcases List.mem_cons.mp hb with q | q
          · rw [q] at lb
            have : (h3.objs.size : Nat) < s1.heap.objs.size := lb
            omega
          · rw [List.mem_singleton.mp q] at lb
            exact Nat.lt_irrefl _ lb
        have V := inv_tab (more := more) (h' := s'.heap) (g' := s'.gens) (d' := s'.drawn) (t' := s'.toks) J eP (fun b u nb e => mv.heap b u (nw b u e) (keep5 b u (keep b u nb e))) (mv.heap P _ (nw P _ oP) (keep5 P _ oP3)) (AllBare.movedS (J.bare.push gb) mv)
        rw [sh_eta s1 s' mv.os] at V
        exact ⟨_, ⟨⟨ps ++ more, upd_same, tri3⟩, fun b nb => upd_ne nb⟩, V⟩
  refine ⟨nl, ?_⟩
  cases cf : codeAmong gp ps.toList with
  | some cv => exact wpAny_genexprCode_hit hc (hd.code oP2 tri) cf (go cv (s1.heap.push o) s1.toks ps (Heap.ExtBut.refl _ _) (Nat.le_refl _) oP2 ⟨#[], by simp⟩ tri)
  | none =>
    refine wpAny_genexprCodeX hc (hd.code oP2 tri) (hd.tab oP2) cf fun c' h' tk' hx ge lt co _ tab _ => ?_
    obtain ⟨o1, vs, f1, tf, fl, tg, inF, tx, tt, op, _, _, _, _, _, _, _, _, _, htr, _⟩ := co
    exact go _ h' tk' _ hx (Nat.le_trans ge (Nat.le_of_lt lt)) tab.2 ⟨_, rfl⟩ htr
theorem presum_list {val : V → Int} {vn : Nat → Int} : ∀ (n : Nat) {xs : List V}, (∀ j v, xs[j]? = some v → vn j = val v) → n ≤ xs.length → preSum vn n = ((xs.take n).map val).sum
  | 0, xs, _, _ => rfl
  | n + 1, xs, h, hn => by
    obtain ⟨v, hv⟩ : ∃ v, xs[n]? = some v := ⟨_, List.getElem?_eq_getElem (by omega)⟩
    show preSum vn n + vn n = _
    rw [presum_list n h (by omega), h n v hv, List.take_add_one, hv, List.map_append, List.sum_append]
    show _ = _ + (val v + 0)
    omega
def tSumI (P : Addr) (K : PySem.W.Frag) (ok : V → Prop) (val : V → Int) (te : TE) : TE := fun σ H Q => te σ H fun v H1 => ∃ l xs, v = .ref l ∧ SqL K H1 l xs ∧ (∀ y ∈ xs, ok y) ∧ TabG H1 P ∧ ∀ H2, Tabbed P H1 H2 → Q (.int (xs.map val).sum) H2
theorem pe_sumI {c P : Addr} {el it : Expr} {x : Str} {px p pos gp : Pos} {sc : Scope} {ok : V → Prop} {val : V → Int} {te : TE} {k : Nat} (hr : Room k X.A) (hg : Gl X "sum") (hm : X.mg "sum" = none) (tb : TabB X.base X.mg c P) (hc : X.env.code = .ref c)
    (gs : GenS X.env sc x) (pit : PE X it te) (hel : EltI X.prog X.w X.mg sc x el ok val) (hf : ∀ v, genFold it X.env v = pure v)
    (he : starEach [.GeneratorExp el [⟨.Name x px, it, [], 0⟩] sc gp] X.env = (false, eval (.GeneratorExp el [⟨.Name x px, it, [], 0⟩] sc gp) X.env) :: starEach [] X.env := by rfl) :
    PE X (.Call (.Name "sum" p) [.GeneratorExp el [⟨.Name x px, it, [], 0⟩] sc gp] [] pos) (tSumI P X.K ok val te) := by
  constructor
  intro pins s σ H Q I h
  have hb : bootBuiltins "sum" = some (.builtin "sum") := by decide +kernel
  refine wpAny_Call_Name_kw (ld_blt I hg hm hb (PyProof.Rows.callWith_builtin1 ?_ he (by rfl)))
  rw [he]
  show wpAny _ _ (spliced ((false, eval (.GeneratorExp el [⟨.Name x px, it, [], 0⟩] sc gp) X.env) :: backTo pos (starEach [] X.env))) _ _ s
  refine Calls.spliced_cons (gen_listG (Y := fun l xs H1 => ∀ H2, Tabbed P H1 H2 → Q (.int (xs.map val).sum) H2) hr tb hc gs pit hel hf I h fun l xs H1 g z hY rd => Calls.spliced_nil ?_)
  obtain ⟨fp, wr, G, F, St, vn, W, st, hfp, hval, hvn, back⟩ := rd
  refine call_sum_walkAnyS (W.self 0 _ _ _ st ⟨g, fp, wr, G, _, F, St, vn, rfl, W, st, hfp, hval, fun z' t' mv => ?_⟩)
  obtain ⟨H2, tbd, J⟩ := back z' mv
  have e := presum_list xs.length hvn (Nat.le_refl _)
  rw [List.take_length] at e
  exact ⟨.int _, H2, J, ⟨t', by rw [e]⟩, hY H2 tbd⟩
end
end R
namespace R
open PySem PySem.Spec PyProof.Rows L2 GxR
/-! ### sum(b for a, b in xs), xs a list of pairs of whole numbers -/
section
variable {X : Cx} {pins : List (Addr × Obj)} {σ : L2.St} {H : Hp} {s : Shared}
/-- the pairs of a list -/
inductive Prs (K : PySem.W.Frag) (H : Hp) : List V → List (Int × Int) → Prop
  | nil : Prs K H [] []
  | cons {a : Addr} {i j : Int} {xs : List V} {ps : List (Int × Int)} : SqT K H a [.int i, .int j] → Prs K H xs ps → Prs K H (.ref a :: xs) ((i, j) :: ps)
theorem Prs.at {K : PySem.W.Frag} {H : Hp} : ∀ {xs : List V} {ps : List (Int × Int)} {k : Nat} {v : V}, Prs K H xs ps → xs[k]? = some v → ∃ a q, ps[k]? = some q ∧ v = .ref a ∧ SqT K H a [.int q.1, .int q.2]
  | _, _, _, _, .nil, h => by simp at h
  | _, _, 0, _, .cons a b, h => ⟨_, _, rfl, (Option.some.inj h).symm, a⟩
  | _, _, k + 1, _, .cons a b, h => Prs.at (k := k) b h
theorem Prs.len {K : PySem.W.Frag} {H : Hp} : ∀ {xs : List V} {ps : List (Int × Int)}, Prs K H xs ps → xs.length = ps.length
  | _, _, .nil => rfl
  | _, _, .cons _ b => by rw [List.length_cons, List.length_cons, Prs.len b]
def ReadyP (X : Cx) (pins : List (Addr × Obj)) (σ : L2.St) (H1 : Hp) (P : Addr) (qs : List (Int × Int)) (g : Addr) (s5 : Shared) : Prop :=
  ∃ (fp wr : List Addr) (G : Array GenState → Array GenState → Prop) (F : Nat → Value → Prop) (St : Nat → Shared → Prop) (vn : Nat → Int), WalksS X.prog X.w X.A.in1 g fp wr G qs.length F St ∧ St 0 s5 ∧ (∀ b ∈ fp, b < s5.heap.objs.size) ∧ (∀ j y, F j y → ∃ t, y = .int (vn j) t) ∧ (∀ j q, qs[j]? = some q → vn j = q.2) ∧
    ∀ s', Moved wr G s5 s' → ∃ H2, Tabbed P H1 H2 ∧ Inv X pins σ H2 s'
theorem gen_pairG {c P : Addr} {it : Expr} {xa xb : Str} {pa pb pt pe gp : Pos} {kt : Nat} {sc : Scope} {te : TE} {k : Nat} {Z : Value → Shared → Prop} {Y : Addr → List (Int × Int) → Hp → Prop}
    (hr : Room k X.A) (tb : TabB X.base X.mg c P) (hc : X.env.code = .ref c) (gs : GenS X.env sc xa) (gb : sc.names.lookup xb = some .local) (hab : xa ≠ xb) (d1 : (xb == ("__debug__" : Str)) = false) (pit : PE X it te) (hf : ∀ v, genFold it X.env v = pure v) (I : Inv X pins σ H s)
    (h : te σ H fun v H1 => ∃ l xs qs, v = .ref l ∧ SqL X.K H1 l xs ∧ Prs X.K H1 xs qs ∧ TabG H1 P ∧ Y l qs H1) (hZ : ∀ l qs H1 g z, Y l qs H1 → ReadyP X pins σ H1 P qs g z → Z (.ref g) z) :
    wpAny (model X.prog X.w) X.A (eval (.GeneratorExp (.Name xb pe) [⟨.Tuple [.Name xa pa, .Name xb pb] kt pt, it, [], 0⟩] sc gp) X.env) Z X.xe s := by
  refine wpAny_GeneratorExp_walksQT hr.hd gs.co (closure_ok gs.free) gs.cell gs.dot gs.loc gb hab gs.kind hr.depth (thn (pit.run pins s σ H _ I h) fun xv s1 q => ?_) hf
  obtain ⟨v, H1, J, rv, l, xs, qs, rfl, hs, hpr, ⟨ps, eP, tri⟩, hY⟩ := q
  obtain rfl : xv = Value.ref l := rv
  obtain ⟨its, rvs, hl, hz⟩ := J.list hs
  have isl := hl.isList
  refine wpAny_pyIter_list isl ?_
  have oP : s1.heap.get? P = some { cls := .none, data := .fields ps } := J.hok P _ eP
  have ltP : P < s1.heap.objs.size := Heap.lt_size oP
  have ltl : l < s1.heap.objs.size := by
    obtain ⟨o', ho', _⟩ := isl
    exact Heap.lt_size ho'
  have neP : l ≠ P := fun z => by
    obtain ⟨o', ho', hd', _⟩ := isl
    rw [z, oP] at ho'
    cases ho'
    cases hd'
  generalize ho : ({ cls := .type "list_iterator", data := .fields #[.ref l, .int 0 0] } : Obj) = o
  have oP2 : (s1.heap.push o).get? P = some { cls := .none, data := .fields ps } := Heap.get?_push_of_some _ oP
  have hd : PySem.W.CodeHd (s1.heap.push o) c P := tb.code.keeps fun b u e => Heap.get?_push_of_some _ (J.bk b u e)
  have nl : (s1.heap.push o).NoLimit := J.nolimit.push o
  have lit : (s1.heap.push o).get? s1.heap.objs.size = some o := Heap.get?_push_size _ (by rw [← ho]; rfl)
  have neI : l ≠ s1.heap.objs.size := Nat.ne_of_lt ltl
  have each : ∀ j, j < its.toArray.size → ∃ (a : Addr) (q : Int × Int) (t1 t2 : Tok), its.toArray[j]? = some (.ref a) ∧ qs[j]? = some q ∧ s1.heap.IsTuple a #[.int q.1 t1, .int q.2 t2] := fun j hj => by
    have hj' : j < xs.length := by
      rw [rvs.length]
      rw [List.size_toArray] at hj
      exact hj
    obtain ⟨vx, hvx⟩ : ∃ vx, xs[j]? = some vx := ⟨_, List.getElem?_eq_getElem hj'⟩
    obtain ⟨a, q, hq, rfl, ht⟩ := hpr.at hvx
    obtain ⟨u, hu, ru⟩ := rvs.get hvx
    obtain rfl : u = Value.ref a := ru
    obtain ⟨us, ru, hti, _⟩ := J.tuple ht
    obtain ⟨t1, t2, rfl⟩ := Vals.int2 ru
    exact ⟨a, q, t1, t2, by rw [List.getElem?_toArray]; exact hu, hq, hti⟩
  let Ts : Nat → Addr := fun j => match its.toArray[j]? with | some (.ref a) => a | _ => 0
  have hTs : ∀ j, j < its.toArray.size → its.toArray[j]? = some (.ref (Ts j)) := fun j hj => by
    obtain ⟨a, q, t1, t2, e, _⟩ := each j hj
    show its.toArray[j]? = some (.ref (match its.toArray[j]? with | some (.ref a) => a | _ => 0))
    rw [e]
  have tv : ∃ vals : Nat → Array Value, ∀ j, j < its.toArray.size → s1.heap.IsTuple (Ts j) (vals j) ∧ ∃ (q : Int × Int) (t1 t2 : Tok), qs[j]? = some q ∧ vals j = #[.int q.1 t1, .int q.2 t2] := by
    have ch : ∀ j, ∃ v : Array Value, j < its.toArray.size → s1.heap.IsTuple (Ts j) v ∧ ∃ (q : Int × Int) (t1 t2 : Tok), qs[j]? = some q ∧ v = #[.int q.1 t1, .int q.2 t2] := fun j => by
      by_cases hj : j < its.toArray.size
      · obtain ⟨a, q, t1, t2, e, hq, ht⟩ := each j hj
        refine ⟨#[.int q.1 t1, .int q.2 t2], fun _ => ⟨?_, q, t1, t2, hq, rfl⟩⟩
        have e2 := hTs j hj
        rw [e] at e2
        injection e2 with e2
        injection e2 with e2
        rw [← e2]
        exact ht
      · exact ⟨#[], fun h => absurd h hj⟩
    exact ⟨fun j => (ch j).choose, fun j hj => (ch j).choose_spec hj⟩
  obtain ⟨vals, hvals⟩ := tv
  have ltT : ∀ j, j < its.toArray.size → Ts j < s1.heap.objs.size := fun j hj => by
    obtain ⟨_, e, _⟩ := (hvals j hj).1
    exact Heap.lt_size e
  have neTP : ∀ j, j < its.toArray.size → Ts j ≠ P := fun j hj z => by
    obtain ⟨o', ho', hc', _⟩ := (hvals j hj).1
    rw [z, oP] at ho'
    cases ho'
    cases hc'
  have W : ∀ B : Around, B.handled = none → WalksU X.prog X.w B s1.heap.objs.size (s1.heap.objs.size :: l :: (List.range its.toArray.size).map Ts) [s1.heap.objs.size] its.toArray.size (fun j v => j < its.toArray.size ∧ v = vals j) (fun j h => h.IsListIter s1.heap.objs.size l j ∧ h.IsList l its.toArray ∧ ∀ k, k < its.toArray.size → h.IsTuple (Ts k) (vals k)) (fun j T h => (j < its.toArray.size ∧ T = Ts j) ∧ h.IsListIter s1.heap.objs.size l (j + 1) ∧ h.IsList l its.toArray ∧ ∀ k, k < its.toArray.size → h.IsTuple (Ts k) (vals k)) := fun B hB => (WalksU.listOfTuples hB s1.heap.objs.size l neI its.toArray Ts vals hTs fun j hj => Nat.ne_of_lt (ltT j hj)).bound
  have st : (s1.heap.push o).IsListIter s1.heap.objs.size l 0 ∧ (s1.heap.push o).IsList l its.toArray ∧ ∀ k, k < its.toArray.size → (s1.heap.push o).IsTuple (Ts k) (vals k) := ⟨⟨o, lit, by rw [← ho], by rw [← ho]; rfl⟩, isl.at fun u e => Heap.get?_push_of_some _ e, fun k hk => (hvals k hk).1.at fun u e => Heap.get?_push_of_some _ e⟩
  obtain ⟨mb, hb1, hb2⟩ := J.mod.blt
  have go : ∀ (cv : Value) (h3 : Heap) (t3 : Nat) (ps3 : Array Value), Heap.ExtBut P (s1.heap.push o) h3 → (s1.heap.push o).objs.size ≤ h3.objs.size → h3.get? P = some { cls := .none, data := .fields ps3 } → (∃ more, ps3 = ps ++ more) → TriplesOk ps3.toList →
      wpAny (model X.prog X.w) X.A (builtinsFor X.env.globals X.env.builtins) (fun bi s4 => ∃ Ia fp wr n0 Pf St0 Mid pz F, Value.ref s1.heap.objs.size = .ref Ia ∧ (∀ B : Around, B.handled = none → WalksU X.prog X.w B Ia fp wr n0 Pf St0 Mid) ∧ (∀ i vals, Pf i vals → ∃ va vb, vals = #[va, vb]) ∧ St0 0 s4.heap ∧
          (∀ b ∈ fp, b < s4.heap.objs.size) ∧ s4.heap.NoLimit ∧ cStatics ∉ wr ∧
          (∀ href : Heap, (∀ b o, s4.heap.get? b = some o → href.get? b = some o) → QuietGenT X.prog X.w (genEnv sc (cloFrom X.env.cells sc.names []) s4.heap.objs.size cv bi X.env) xa xb [] (.Name xb pe) (List.range s4.heap.objs.size) wr Pf pz F href) ∧
          (∀ g h5 t5 gst, gst.bare = true → s4.heap.objs.size < g → h5.objs.size = g + 1 → (∀ b o, s4.heap.get? b = some o → h5.get? b = some o) →
            WalksS X.prog X.w X.A.in4 g (g :: s4.heap.objs.size :: List.range s4.heap.objs.size) (s4.heap.objs.size :: wr) (GenOnlyQ s4.gens.size) (passing pz n0 0).length (fun j y => ∃ i, (passing pz n0 0)[j]? = some i ∧ F i y)
              (GenAt X.prog X.w X.A.in4 g s4.gens.size s4.heap.objs.size (List.range s4.heap.objs.size) wr pz n0 F) →
            GenAt X.prog X.w X.A.in4 g s4.gens.size s4.heap.objs.size (List.range s4.heap.objs.size) wr pz n0 F 0 { s4 with gens := s4.gens.push gst, toks := t5, heap := h5 } →
            Z (.ref g) { s4 with gens := s4.gens.push gst, toks := t5, heap := h5 })) X.xe { s1 with heap := h3, toks := t3 } := by
    intro cv h3 t3 ps3 ext szl oP3 hmore tri3
    have keep : ∀ b u, b ≠ P → s1.heap.get? b = some u → h3.get? b = some u := fun b u nb e => ext b u nb (Heap.get?_push_of_some _ e)
    have glob3 : h3.Ns mainGlobals X.mg := ((J.mod.glob.keeps J.bk).push o).extBut ext tb.gP
    have neC : cStatics ≠ P := fun e => by
      obtain ⟨_, ⟨o', es, ep, ho, hdt, _⟩, _⟩ := J.nolimit
      rw [e, oP] at ho
      cases ho
      cases hdt
    have neB : builtinsNs ≠ P := fun e => by
      obtain ⟨o', es, ep, ho, hdt, _⟩ := hb1.keeps J.bk
      rw [e, oP] at ho
      cases ho
      cases hdt
    have blt3 : h3.Ns builtinsNs mb := ((hb1.keeps J.bk).push o).extBut ext neB
    have ltC : cStatics < s1.heap.objs.size := let ⟨_, hns, _⟩ := J.nolimit; hns.lt
    have ltG : mainGlobals < s1.heap.objs.size := (J.mod.glob.keeps J.bk).lt
    have ltB : builtinsNs < s1.heap.objs.size := (hb1.keeps J.bk).lt
    have szp : (s1.heap.push o).objs.size = s1.heap.objs.size + 1 := Heap.size_push ..
    obtain ⟨bm, ob, b1, b2, b3, b4, b5, b6, b7, b8⟩ := tb.bm
    refine wpAny_builtinsFor (m := X.mg) (by rw [J.ok.glob]; exact glob3) b1 b2 (keep _ _ b4 (J.bk _ _ b5)) b6 b7 b8 ?_
    refine ⟨s1.heap.objs.size, _, [s1.heap.objs.size], its.toArray.size, _, _, _, fun _ => true, fun i y => ∃ q, qs[i]? = some q ∧ ∃ t, y = .int q.2 t, rfl, W, fun i v hv => ?_, ?_, ?_, nl.extBut ext neC, ?_, ?_, ?_⟩
    · obtain ⟨hi, rfl⟩ := hv
      obtain ⟨_, q, t1, t2, _, e⟩ := hvals i hi
      exact ⟨_, _, e⟩
    · refine (W X.A hr.hd).frame _ _ _ st fun b hb u e => ext b u ?_ e
      rcases List.mem_cons.mp hb with z | z
      · rw [z]
        exact (Nat.ne_of_lt ltP).symm
      · rcases List.mem_cons.mp z with y | y
        · rw [y]
          exact neP
        · obtain ⟨k, hk, rfl⟩ := List.mem_map.mp y
          exact neTP k (List.mem_range.mp hk)
    · intro b hb
      have h3s : s1.heap.objs.size + 1 ≤ h3.objs.size := by rw [← szp]; exact szl
      show b < h3.objs.size
      rcases List.mem_cons.mp hb with z | z
      · rw [z]
        exact h3s
      · rcases List.mem_cons.mp z with y | y
        · rw [y]
          exact Nat.lt_trans ltl h3s
        · obtain ⟨k, hk, rfl⟩ := List.mem_map.mp y
          exact Nat.lt_trans (ltT k (List.mem_range.mp hk)) h3s
    · intro e
      exact Nat.ne_of_lt ltC (List.mem_singleton.mp e)
    · intro href hx
      constructor
      · intro B R i va vb z ml _ _ _ _ _ _
        rw [List.forIn_nil]
        exact wpAny_pure ⟨rfl, keeps_refl _⟩
      · intro B R i va vb z ml _ pv' _ hL hma hmb hold
        obtain ⟨hi, pv'⟩ := pv'
        obtain ⟨_, q, t1, t2, hq, e⟩ := hvals i hi
        rw [e] at pv'
        obtain ⟨ea, eb⟩ : va = .int q.1 t1 ∧ vb = .int q.2 t2 := by simpa using congrArg Array.toList pv'
        subst ea eb
        exact wpAny_Name (wpAny_loadName_local gs.kind gb hL hmb ⟨⟨q, hq, t2, rfl⟩, keeps_refl _⟩) d1
    · intro g h5 t5 gst gbr lg sz5 keep5 W5 at5
      simp only [GxR.passing_true, List.length_range] at W5
      have ln : its.toArray.size = qs.length := by rw [List.size_toArray, ← rvs.length, hpr.len]
      rw [ln] at W5 at5
      refine hZ l qs H1 g _ hY ⟨_, _, _, _, _, fun j => match qs[j]? with | some v => v.2 | none => 0, W5.in4_1, at5, ?_, fun j y fy => ?_, fun j v hj => by show (match qs[j]? with | some v => v.2 | none => 0) = v.2; rw [hj], fun s' mv => ?_⟩
      · intro b hb
        show b < h5.objs.size
        have lg' : h3.objs.size < g := lg
        have g5 : g < h5.objs.size := by rw [sz5]; exact Nat.lt_succ_self _
        rcases List.mem_cons.mp hb with z | z
        · rw [z]
          exact g5
        · rcases List.mem_cons.mp z with y | y
          · rw [y]
            exact Nat.lt_trans lg' g5
          · exact Nat.lt_trans (List.mem_range.mp y) (Nat.lt_trans lg' g5)
      · obtain ⟨i, ei, v, hv, t, rfl⟩ := fy
        obtain ⟨hj, ej⟩ := List.getElem?_eq_some_iff.mp ei
        rw [List.getElem_range] at ej
        subst ej
        show ∃ t', Value.int v.2 t = .int (match qs[j]? with | some v => v.2 | none => 0) t'
        rw [hv]
        exact ⟨t, rfl⟩
      · obtain ⟨more, rfl⟩ := hmore
        have nw : ∀ b u, s1.heap.get? b = some u → b ∉ h3.objs.size :: [s1.heap.objs.size] := fun b u e hb => by
          have lb := Heap.lt_size e
          rcases List.mem_cons.mp hb with q | q
          · rw [q] at lb
            have : (h3.objs.size : Nat) < s1.heap.objs.size := lb
            omega
          · rw [List.mem_singleton.mp q] at lb
            exact Nat.lt_irrefl _ lb
        have V := inv_tab (more := more) (h' := s'.heap) (g' := s'.gens) (d' := s'.drawn) (t' := s'.toks) J eP (fun b u nb e => mv.heap b u (nw b u e) (keep5 b u (keep b u nb e))) (mv.heap P _ (nw P _ oP) (keep5 P _ oP3)) (AllBare.movedS (J.bare.push gbr) mv)
        rw [sh_eta s1 s' mv.os] at V
        exact ⟨_, ⟨⟨ps ++ more, upd_same, tri3⟩, fun b nb => upd_ne nb⟩, V⟩
  refine ⟨nl, ?_⟩
  cases cf : codeAmong gp ps.toList with
  | some cv => exact wpAny_genexprCode_hit hc (hd.code oP2 tri) cf (go cv (s1.heap.push o) s1.toks ps (Heap.ExtBut.refl _ _) (Nat.le_refl _) oP2 ⟨#[], by simp⟩ tri)
  | none =>
    refine wpAny_genexprCodeX hc (hd.code oP2 tri) (hd.tab oP2) cf fun c' h' tk' hx ge lt co _ tab _ => ?_
    obtain ⟨o1, vs, f1, tf, fl, tg, inF, tx, tt, op, _, _, _, _, _, _, _, _, _, htr, _⟩ := co
    exact go _ h' tk' _ hx (Nat.le_trans ge (Nat.le_of_lt lt)) tab.2 ⟨_, rfl⟩ htr
theorem presum_pairs {vn : Nat → Int} : ∀ (n : Nat) {qs : List (Int × Int)}, (∀ j q, qs[j]? = some q → vn j = q.2) → n ≤ qs.length → preSum vn n = ((qs.take n).map (·.2)).sum
  | 0, qs, _, _ => rfl
  | n + 1, qs, h, hn => by
    obtain ⟨v, hv⟩ : ∃ v, qs[n]? = some v := ⟨_, List.getElem?_eq_getElem (by omega)⟩
    show preSum vn n + vn n = _
    rw [presum_pairs n h (by omega), h n v hv, List.take_add_one, hv, List.map_append, List.sum_append]
    show _ = _ + (v.2 + 0)
    omega
def sm2 (qs : List (Int × Int)) : Int := (qs.map (·.2)).sum
def tSumP (P : Addr) (K : PySem.W.Frag) (te : TE) : TE := fun σ H Q => te σ H fun v H1 => ∃ l xs qs, v = .ref l ∧ SqL K H1 l xs ∧ Prs K H1 xs qs ∧ TabG H1 P ∧ ∀ H2, Tabbed P H1 H2 → Q (.int (sm2 qs)) H2
theorem pe_sumP {c P : Addr} {it : Expr} {xa xb : Str} {pa pb pt pe p pos gp : Pos} {kt : Nat} {sc : Scope} {te : TE} {k : Nat} (hr : Room k X.A) (hg : Gl X "sum") (hm : X.mg "sum" = none) (tb : TabB X.base X.mg c P) (hc : X.env.code = .ref c)
    (gs : GenS X.env sc xa) (gb : sc.names.lookup xb = some .local) (hab : xa ≠ xb) (d1 : (xb == ("__debug__" : Str)) = false) (pit : PE X it te) (hf : ∀ v, genFold it X.env v = pure v)
    (he : starEach [.GeneratorExp (.Name xb pe) [⟨.Tuple [.Name xa pa, .Name xb pb] kt pt, it, [], 0⟩] sc gp] X.env = (false, eval (.GeneratorExp (.Name xb pe) [⟨.Tuple [.Name xa pa, .Name xb pb] kt pt, it, [], 0⟩] sc gp) X.env) :: starEach [] X.env := by rfl) :
    PE X (.Call (.Name "sum" p) [.GeneratorExp (.Name xb pe) [⟨.Tuple [.Name xa pa, .Name xb pb] kt pt, it, [], 0⟩] sc gp] [] pos) (tSumP P X.K te) := by
  constructor
  intro pins s σ H Q I h
  have hb : bootBuiltins "sum" = some (.builtin "sum") := by decide +kernel
  refine wpAny_Call_Name_kw (ld_blt I hg hm hb (PyProof.Rows.callWith_builtin1 ?_ he (by rfl)))
  rw [he]
  show wpAny _ _ (spliced ((false, eval (.GeneratorExp (.Name xb pe) [⟨.Tuple [.Name xa pa, .Name xb pb] kt pt, it, [], 0⟩] sc gp) X.env) :: backTo pos (starEach [] X.env))) _ _ s
  refine Calls.spliced_cons (gen_pairG (Y := fun (l : Addr) (qs : List (Int × Int)) (H1 : Hp) => ∀ H2, Tabbed P H1 H2 → Q (.int (sm2 qs)) H2) hr tb hc gs gb hab d1 pit hf I h fun l qs H1 g z hY rd => Calls.spliced_nil ?_)
  obtain ⟨fp, wr, G, F, St, vn, W, st, hfp, hval, hvn, back⟩ := rd
  refine call_sum_walkAnyS (W.self 0 _ _ _ st ⟨g, fp, wr, G, _, F, St, vn, rfl, W, st, hfp, hval, fun z' t' mv => ?_⟩)
  obtain ⟨H2, tbd, J⟩ := back z' mv
  have e : preSum vn qs.length = sm2 qs := by
    have e := presum_pairs qs.length hvn (Nat.le_refl _)
    rw [List.take_length] at e
    exact e
  exact ⟨.int _, H2, J, ⟨t', by rw [e]⟩, hY H2 tbd⟩
end
end R
namespace R
open PySem PySem.Spec PyProof.Rows L2
/-! ### rules for the moving part: text times number, slices of tuples in blocks, comprehensions with two loops -/
theorem sl_tupK {X : Cx} {K : PySem.W.Frag} (h : X.K = K) : SlR X (rSlT K) := h ▸ sl_tup
theorem pi_listK {X : Cx} {tg e : Expr} {te : TE} {K : PySem.W.Frag} (h : X.K = K) (he : PE X e te) : PI X tg e (iList K te) := h ▸ pi_list he
theorem pi_tupK {X : Cx} {tg e : Expr} {te : TE} {K : PySem.W.Frag} (h : X.K = K) (he : PE X e te) : PI X tg e (iTup K te) := h ▸ pi_tup he
theorem call_isiK {X : Cx} {K : PySem.W.Frag} (h : X.K = K) : CallR X (.builtin "isinstance") (rIsi K) := h ▸ call_isi
theorem call_len_seqK {X : Cx} {K : PySem.W.Frag} (h : X.K = K) : CallR X (.builtin "len") (fun xs H Q => ∃ p ys, xs = [.ref p] ∧ (SqL K H p ys ∨ SqT K H p ys) ∧ Q (.int ys.length) H) := by
  subst h
  exact call_len_seq
theorem foldl_cps (x : Array Nat) : ∀ (n : Nat) (z : Array Nat), ((List.replicate n x).foldl (· ++ ·) z).size = z.size + n * x.size
  | 0, z => by simp
  | n + 1, z => by
    rw [List.replicate_succ, List.foldl_cons, foldl_cps x n (z ++ x), Array.size_append, Nat.add_mul]
    omega
theorem foldl_all (p : Nat → Bool) (x : Array Nat) (hx : x.all p = true) : ∀ (n : Nat) (z : Array Nat), z.all p = true → ((List.replicate n x).foldl (· ++ ·) z).all p = true
  | 0, z, h => h
  | n + 1, z, h => by
    rw [List.replicate_succ, List.foldl_cons]
    refine foldl_all p x hx n (z ++ x) ?_
    rw [Array.all_append, h, hx]
    rfl
/-- a text times a small number: its length is told, and that it is lawful -/
theorem op_repS {X : Cx} : OpR X (binaryOp .Mult) (fun x y H Q => ∃ (a : Str) (k : Nat), x = .str a ∧ y = .int (k : Int) ∧ 1 ≤ k ∧ k ≤ 1000 ∧ a.length = 1 ∧ ∀ z : Str, z.length = k → (PyData.strOk a = true → PyData.strOk z = true) → Q (.str z) H) := by
  intro pins s σ H x y v u Q I rx ry h
  obtain ⟨a, k, rfl, rfl, k1, k2, ha, q⟩ := h
  obtain ⟨t, rfl⟩ := rx
  obtain ⟨t', rfl⟩ := ry
  refine PySem.P.mul_str ?_ (fun _ _ => ?_) (fun _ _ => ?_) ?_
  · rw [decide_eq_false (by omega), decide_eq_false (by omega)]
    rfl
  · rw [ha]
    intro h
    have h2 : (1 : Int) ≤ (2 ^ 63 - 1) / (k : Int) := by
      rw [Int.le_ediv_iff_mul_le (by omega)]
      omega
    exact absurd h (Int.not_lt.mpr h2)
  · rw [ha]
    have e : ¬ 1 * (k : Int).toNat > sizeLine := by
      have : (1000 : Nat) ≤ sizeLine := by decide
      rw [Int.toNat_natCast]
      omega
    exact decide_eq_false e
  · rw [if_neg (by omega)]
    by_cases k1' : k = 1
    · subst k1'
      rw [if_pos (by simp)]
      exact ⟨.str a, H, I, ⟨_, rfl⟩, q a ha fun h => h⟩
    · have hz : (⟨(List.replicate (k : Int).toNat a.cps).foldl (· ++ ·) #[]⟩ : Str).length = k := by
        have := foldl_cps a.cps (k : Int).toNat #[]
        have e : a.cps.size = 1 := ha
        show ((List.replicate (k : Int).toNat a.cps).foldl (· ++ ·) #[]).size = k
        rw [this, e, Int.toNat_natCast]
        simp
      rw [if_neg (by
        have e1 : ((k : Int) == 1) = false := by
          simp only [beq_eq_false_iff_ne]
          omega
        rw [e1, ha]
        simp)]
      exact ⟨by show _ ≤ sizeLine; rw [hz]; exact Nat.le_trans k2 (by decide), .str _, H, I.tok _, ⟨_, rfl⟩, q _ hz fun h => foldl_all _ _ h _ _ (by simp)⟩
section
variable {J J1 : It} {n : Nat} {G : Hp → Prop} {Y : Nat → Hp → V → Hp → Prop}
/-- the outer loop of a comprehension with two -/
theorem lc2_it (w : Walk J n G Y) {g g1 : TG} {tt tt1 : TT} {wi1 : TI} {te : TE} {vs vs1 : List Nat} {σ : L2.St} {H1 : Hp} {D : Addr} {Qd : Hp → Prop} (Pv : Nat → Hp → Prop) (h0 : Pv 0 (upd H1 D (.lst []))) (hG : ∀ i H, i ≤ n → Pv i H → G H)
    (hs : ∀ i x H H', i < n → Pv i H → Y i H x H' → g x (wipe σ vs) H' fun σ2 H2 => wipe σ2 vs = wipe σ vs ∧ tt σ2 H2 fun b H3 =>
      if b = true then wi1 σ2 H3 fun J1 H4 => ∃ W1 : Nat → Nat → Hp → Prop, (∃ m, W1 0 m H4) ∧ ∀ j k H, W1 j k H →
      (J1.stop j H ∧ Pv (i + 1) H) ∨ (J1.go j H ∧ ∃ Nx1 : Hp → Prop, (∀ H', Nx1 H' → ∃ k', k' < k ∧ W1 (j + 1) k' H') ∧ ∀ x H', J1.yld j H x H' → g1 x (wipe σ2 vs1) H' fun σ3 H5 => wipe σ3 vs1 = wipe σ2 vs1 ∧ tt1 σ3 H5 fun b H6 =>
        if b = true then te σ3 H6 fun y H7 => ∃ acc, H7 D = some (.lst acc) ∧ acc.length < sizeLine ∧ Nx1 (upd H7 D (.lst (acc ++ [y]))) else Nx1 H6)
      else Pv (i + 1) H3) (hd : ∀ H, Pv n H → Qd H) :
    ∃ W : Nat → Nat → Hp → Prop, (∃ m, W 0 m (upd H1 D (.lst []))) ∧ ∀ i m H, W i m H →
  (J.stop i H ∧ Qd H) ∨ (J.go i H ∧ ∃ Nx : Hp → Prop, (∀ H', Nx H' → ∃ m', m' < m ∧ W (i + 1) m' H') ∧ ∀ x H', J.yld i H x H' → g x (wipe σ vs) H' fun σ2 H2 => wipe σ2 vs = wipe σ vs ∧ tt σ2 H2 fun b H3 =>
    if b = true then wi1 σ2 H3 fun J1 H4 => ∃ W1 : Nat → Nat → Hp → Prop, (∃ m, W1 0 m H4) ∧ ∀ j k H, W1 j k H →
      (J1.stop j H ∧ Nx H) ∨ (J1.go j H ∧ ∃ Nx1 : Hp → Prop, (∀ H', Nx1 H' → ∃ k', k' < k ∧ W1 (j + 1) k' H') ∧ ∀ x H', J1.yld j H x H' → g1 x (wipe σ2 vs1) H' fun σ3 H5 => wipe σ3 vs1 = wipe σ2 vs1 ∧ tt1 σ3 H5 fun b H6 =>
        if b = true then te σ3 H6 fun y H7 => ∃ acc, H7 D = some (.lst acc) ∧ acc.length < sizeLine ∧ Nx1 (upd H7 D (.lst (acc ++ [y]))) else Nx1 H6)
    else Nx H3) := by
  refine ⟨fun i m H => m = n - i ∧ i ≤ n ∧ Pv i H, ⟨n, by simp, Nat.zero_le _, h0⟩, ?_⟩
  rintro i m H ⟨rfl, hi, p⟩
  have q := hG i H hi p
  by_cases hlt : i < n
  · exact .inr ⟨w.goes i H hlt q, Pv (i + 1), fun H' p' => ⟨n - (i + 1), by omega, rfl, hlt, p'⟩, fun x H' y => hs i x H H' hlt p (w.yields i H x H' hlt q y)⟩
  · have e : i = n := by omega
    subst e
    exact .inl ⟨w.stops H q, hd H p⟩
/-- the inner loop -/
theorem lc2_in (w : Walk J1 n G Y) {g1 : TG} {tt1 : TT} {te : TE} {vs1 : List Nat} {σ2 : L2.St} {H4 : Hp} {D : Addr} {Nx : Hp → Prop} (Pv : Nat → Hp → Prop) (h0 : Pv 0 H4) (hG : ∀ i H, i ≤ n → Pv i H → G H)
    (hs : ∀ j x H H', j < n → Pv j H → Y j H x H' → g1 x (wipe σ2 vs1) H' fun σ3 H5 => wipe σ3 vs1 = wipe σ2 vs1 ∧ tt1 σ3 H5 fun b H6 =>
        if b = true then te σ3 H6 fun y H7 => ∃ acc, H7 D = some (.lst acc) ∧ acc.length < sizeLine ∧ Pv (j + 1) (upd H7 D (.lst (acc ++ [y]))) else Pv (j + 1) H6) (hd : ∀ H, Pv n H → Nx H) :
    ∃ W1 : Nat → Nat → Hp → Prop, (∃ m, W1 0 m H4) ∧ ∀ j k H, W1 j k H →
      (J1.stop j H ∧ Nx H) ∨ (J1.go j H ∧ ∃ Nx1 : Hp → Prop, (∀ H', Nx1 H' → ∃ k', k' < k ∧ W1 (j + 1) k' H') ∧ ∀ x H', J1.yld j H x H' → g1 x (wipe σ2 vs1) H' fun σ3 H5 => wipe σ3 vs1 = wipe σ2 vs1 ∧ tt1 σ3 H5 fun b H6 =>
        if b = true then te σ3 H6 fun y H7 => ∃ acc, H7 D = some (.lst acc) ∧ acc.length < sizeLine ∧ Nx1 (upd H7 D (.lst (acc ++ [y]))) else Nx1 H6) := by
  refine ⟨fun i m H => m = n - i ∧ i ≤ n ∧ Pv i H, ⟨n, by simp, Nat.zero_le _, h0⟩, ?_⟩
  rintro i m H ⟨rfl, hi, p⟩
  have q := hG i H hi p
  by_cases hlt : i < n
  · exact .inr ⟨w.goes i H hlt q, Pv (i + 1), fun H' p' => ⟨n - (i + 1), by omega, rfl, hlt, p'⟩, fun x H' y => hs i x H H' hlt p (w.yields i H x H' hlt q y)⟩
  · have e : i = n := by omega
    subst e
    exact .inl ⟨w.stops H q, hd H p⟩
end
end R
namespace R
/-! ### ways of prices: each step lies between its least and its most, no price is below nought -/
def sL : List (Int × Int) → Int
  | [] => 0
  | x :: r => x.1 + sL r
def sM : List (Int × Int) → Int
  | [] => 0
  | x :: r => x.2 + sM r
theorem sL_app : ∀ a b, sL (a ++ b) = sL a + sL b
  | [], b => by show sL b = 0 + sL b; omega
  | x :: a, b => by show x.1 + sL (a ++ b) = x.1 + sL a + sL b; rw [sL_app a b]; omega
theorem sM_app : ∀ a b, sM (a ++ b) = sM a + sM b
  | [], b => by show sM b = 0 + sM b; omega
  | x :: a, b => by show x.2 + sM (a ++ b) = x.2 + sM a + sM b; rw [sM_app a b]; omega
theorem sL_le : ∀ {st : List (Int × Int)}, (∀ x ∈ st, x.1 ≤ x.2) → sL st ≤ sM st
  | [], _ => Int.le_refl _
  | x :: r, h => by
    have h1 := h x List.mem_cons_self
    have h2 := sL_le (st := r) fun y hy => h y (List.mem_cons_of_mem _ hy)
    show x.1 + sL r ≤ x.2 + sM r
    omega
def Way : List (Int × Int) → Int → Int → Prop
  | [], a, b => a = b ∧ 0 ≤ a
  | x :: r, a, b => 0 ≤ a ∧ ∃ d, x.1 ≤ d ∧ d ≤ x.2 ∧ Way r (a + d) b
theorem way_app : ∀ {s1 s2 : List (Int × Int)} {a c b : Int}, Way s1 a c → Way s2 c b → Way (s1 ++ s2) a b
  | [], _, a, c, b, h, k => by
    obtain ⟨rfl, _⟩ := h
    exact k
  | x :: s1, s2, a, c, b, h, k => by
    obtain ⟨h0, d, h1, h2, h3⟩ := h
    exact ⟨h0, d, h1, h2, way_app h3 k⟩
theorem way_mk : ∀ {st : List (Int × Int)} {a b : Int}, 0 ≤ a → (∀ x ∈ st, x.1 ≤ x.2) → (∀ s1 s2, st = s1 ++ s2 → 0 ≤ a + sM s1 ∧ sL s2 ≤ b) → a + sL st ≤ b → b ≤ a + sM st → Way st a b
  | [], a, b, h0, _, _, h1, h2 => by
    have h1 : a + 0 ≤ b := h1
    have h2 : b ≤ a + 0 := h2
    exact ⟨by omega, h0⟩
  | x :: r, a, b, h0, hx, h, h1, h2 => by
    have h1 : a + (x.1 + sL r) ≤ b := h1
    have h2 : b ≤ a + (x.2 + sM r) := h2
    have hr : ∀ y ∈ r, y.1 ≤ y.2 := fun y hy => hx y (List.mem_cons_of_mem _ hy)
    have x12 := hx x List.mem_cons_self
    have lm := sL_le hr
    have q := h [x] r rfl
    have q1 : 0 ≤ a + (x.2 + 0) ∧ sL r ≤ b := q
    have low : ∀ d, d = min x.2 (b - sL r - a) → x.1 ≤ d ∧ d ≤ x.2 := fun d e => by omega
    obtain ⟨l1, l2⟩ := low _ rfl
    generalize hd : min x.2 (b - sL r - a) = d at l1 l2
    have hd' : d = x.2 ∨ d = b - sL r - a := by omega
    refine ⟨h0, d, l1, l2, way_mk ?_ hr (fun s1 s2 e => ?_) (by omega) (by omega)⟩
    · omega
    · have k := h (x :: s1) s2 (by rw [e]; rfl)
      have k1 : 0 ≤ a + (x.2 + sM s1) ∧ sL s2 ≤ b := k
      have e1 : sL r = sL s1 + sL s2 := by rw [e, sL_app]
      have lm1 : sL s1 ≤ sM s1 := sL_le fun y hy => hr y (by rw [e]; exact List.mem_append_left _ hy)
      exact ⟨by omega, k1.2⟩
def PreM (st : List (Int × Int)) : Prop := ∀ s1 s2, st = s1 ++ s2 → 0 ≤ sM s1
def SufL (st : List (Int × Int)) : Prop := ∀ s1 s2, st = s1 ++ s2 → sL s2 ≤ 0
theorem way_seg {st : List (Int × Int)} (hx : ∀ x ∈ st, x.1 ≤ x.2) (h1 : PreM st) (h2 : SufL st) : Way st 0 0 := by
  have a1 := h1 st [] (by simp)
  have a2 := h2 [] st rfl
  exact way_mk (Int.le_refl _) hx (fun s1 s2 e => ⟨by have := h1 s1 s2 e; omega, h2 s1 s2 e⟩) (by omega) (by omega)
theorem way_left {st : List (Int × Int)} (hx : ∀ x ∈ st, x.1 ≤ x.2) (h2 : SufL st) : ∃ a, 0 ≤ a ∧ Way st a 0 := by
  have a2 := h2 [] st rfl
  have lm := sL_le hx
  refine ⟨- sL st, by omega, way_mk (by omega) hx (fun s1 s2 e => ⟨?_, h2 s1 s2 e⟩) (by omega) (by omega)⟩
  have e1 : sL st = sL s1 + sL s2 := by rw [e, sL_app]
  have lm1 : sL s1 ≤ sM s1 := sL_le fun y hy => hx y (by rw [e]; exact List.mem_append_left _ hy)
  have := h2 s1 s2 e
  omega
theorem way_right {st : List (Int × Int)} (hx : ∀ x ∈ st, x.1 ≤ x.2) (h1 : PreM st) : ∃ b, 0 ≤ b ∧ Way st 0 b := by
  have a1 := h1 st [] (by simp)
  have lm := sL_le hx
  refine ⟨sM st, by omega, way_mk (Int.le_refl _) hx (fun s1 s2 e => ⟨by have := h1 s1 s2 e; omega, ?_⟩) (by omega) (by omega)⟩
  have e1 : sM st = sM s1 + sM s2 := by rw [e, sM_app]
  have lm1 : sL s2 ≤ sM s2 := sL_le fun y hy => hx y (by rw [e]; exact List.mem_append_right _ hy)
  have := h1 s1 s2 e
  omega
/-! ### the least prices -/
def LO (low : Int) : List (Int × Int) → Int
  | [] => low
  | x :: r => LO (max 0 (low + x.1)) r
def PR (low : Int) : List (Int × Int) → Int
  | [] => low
  | x :: r => max low (PR (max 0 (low + x.1)) r - x.2)
def PL (low : Int) : List (Int × Int) → List Int
  | [] => [low]
  | x :: r => max low (PR (max 0 (low + x.1)) r - x.2) :: PL (max 0 (low + x.1)) r
theorem way_nonneg : ∀ {st : List (Int × Int)} {a b : Int}, Way st a b → 0 ≤ a
  | [], _, _, h => h.2
  | _ :: _, _, _, h => h.1
theorem LO_le : ∀ {st : List (Int × Int)} {low a c : Int}, low ≤ a → Way st a c → LO low st ≤ c
  | [], low, a, c, h, k => by
    obtain ⟨rfl, _⟩ := k
    exact h
  | x :: r, low, a, c, h, k => by
    obtain ⟨_, d, k1, k2, k3⟩ := k
    have := way_nonneg k3
    show LO (max 0 (low + x.1)) r ≤ c
    exact LO_le (by omega) k3
theorem PR_le : ∀ {st : List (Int × Int)} {low a b : Int}, low ≤ a → Way st a b → PR low st ≤ a
  | [], low, a, b, h, k => h
  | x :: r, low, a, b, h, k => by
    obtain ⟨_, d, k1, k2, k3⟩ := k
    have := way_nonneg k3
    have ih := PR_le (low := max 0 (low + x.1)) (by omega) k3
    show max low (PR (max 0 (low + x.1)) r - x.2) ≤ a
    omega
theorem PR_ge : ∀ (st : List (Int × Int)) (low : Int), low ≤ PR low st
  | [], low => Int.le_refl _
  | x :: r, low => by
    show low ≤ max low (PR (max 0 (low + x.1)) r - x.2)
    omega
theorem LO_nonneg : ∀ (st : List (Int × Int)) {low : Int}, 0 ≤ low → 0 ≤ LO low st
  | [], _, h => h
  | x :: r, low, h => LO_nonneg r (by omega)
/-- where a way passes nought, the least price is nought -/
theorem price_nought {s1 s2 : List (Int × Int)} {a b : Int} (h1 : Way s1 a 0) (h2 : Way s2 0 b) : PR (LO 0 s1) s2 = 0 := by
  have k1 := LO_le (way_nonneg h1) h1
  have k2 := PR_le k1 h2
  have k3 := PR_ge s2 (LO 0 s1)
  have k4 := LO_nonneg s1 (Int.le_refl 0)
  omega
theorem PL_len : ∀ (st : List (Int × Int)) (low : Int), (PL low st).length = st.length + 1
  | [], _ => rfl
  | x :: r, low => by
    show (PL _ r).length + 1 = r.length + 1 + 1
    rw [PL_len r]
theorem PL_at : ∀ (s1 s2 : List (Int × Int)) (low : Int), (PL low (s1 ++ s2))[s1.length]? = some (PR (LO low s1) s2)
  | [], [], low => rfl
  | [], x :: r, low => rfl
  | y :: s1, s2, low => PL_at s1 s2 (max 0 (low + y.1))
theorem LO_snoc : ∀ (s1 : List (Int × Int)) (x : Int × Int) (low : Int), LO low (s1 ++ [x]) = max 0 (LO low s1 + x.1)
  | [], x, low => rfl
  | y :: s1, x, low => LO_snoc s1 x _
/-- neighbouring prices keep to the step between them -/
theorem PR_step (low : Int) (x : Int × Int) (r : List (Int × Int)) (h : x.1 ≤ x.2) : x.1 ≤ PR (max 0 (low + x.1)) r - PR low (x :: r) ∧ PR (max 0 (low + x.1)) r - PR low (x :: r) ≤ x.2 := by
  have k := PR_ge r (max 0 (low + x.1))
  have e : PR low (x :: r) = max low (PR (max 0 (low + x.1)) r - x.2) := rfl
  rw [e]
  omega
end R
namespace R
/-! ### weights of wishes -/
def ws (p : Int → Bool) : List (Int × Int) → Int
  | [] => 0
  | x :: r => (if p x.1 then x.2 else 0) + ws p r
abbrev tot (s : List (Int × Int)) : Int := ws (fun _ => true) s
def Pos (s : List (Int × Int)) : Prop := ∀ x ∈ s, 0 < x.2
theorem Pos.app {a b : List (Int × Int)} (ha : Pos a) (hb : Pos b) : Pos (a ++ b) := fun x hx => (List.mem_append.mp hx).elim (ha x) (hb x)
theorem Pos.left {a b : List (Int × Int)} (h : Pos (a ++ b)) : Pos a := fun x hx => h x (List.mem_append_left _ hx)
theorem Pos.right {a b : List (Int × Int)} (h : Pos (a ++ b)) : Pos b := fun x hx => h x (List.mem_append_right _ hx)
theorem ws_app (p : Int → Bool) : ∀ a b, ws p (a ++ b) = ws p a + ws p b
  | [], b => by show ws p b = 0 + ws p b; omega
  | x :: a, b => by
    show (if p x.1 then x.2 else 0) + ws p (a ++ b) = (if p x.1 then x.2 else 0) + ws p a + ws p b
    rw [ws_app p a b]
    omega
theorem ws_mono {p q : Int → Bool} (h : ∀ w, p w = true → q w = true) : ∀ {s : List (Int × Int)}, Pos s → ws p s ≤ ws q s
  | [], _ => Int.le_refl _
  | x :: r, hs => by
    have h1 := hs x List.mem_cons_self
    have h2 := ws_mono h (s := r) fun y hy => hs y (List.mem_cons_of_mem _ hy)
    show (if p x.1 then x.2 else 0) + ws p r ≤ (if q x.1 then x.2 else 0) + ws q r
    cases e : p x.1 with
    | true =>
      rw [h _ e, if_pos rfl]
      omega
    | false =>
      cases q x.1 <;> simp <;> omega
theorem ws_both {p q : Int → Bool} (h : ∀ w, q w = !p w) : ∀ (s : List (Int × Int)), ws p s + ws q s = tot s
  | [] => rfl
  | x :: r => by
    have ih := ws_both h r
    show (if p x.1 then x.2 else 0) + ws p r + ((if q x.1 then x.2 else 0) + ws q r) = (if true = true then x.2 else 0) + tot r
    rw [h x.1]
    cases p x.1 <;> simp <;> omega
theorem ws_perm (p : Int → Bool) {a b : List (Int × Int)} (h : a.Perm b) : ws p a = ws p b := by
  induction h with
  | nil => rfl
  | cons x _ ih => show _ + _ = _ + _; rw [ih]
  | swap x y l =>
    show (if p y.1 then y.2 else 0) + ((if p x.1 then x.2 else 0) + ws p l) = (if p x.1 then x.2 else 0) + ((if p y.1 then y.2 else 0) + ws p l)
    omega
  | trans _ _ h1 h2 => rw [h1, h2]
theorem ws_nonneg {p : Int → Bool} : ∀ {s : List (Int × Int)}, Pos s → 0 ≤ ws p s
  | [], _ => Int.le_refl _
  | x :: r, hs => by
    have h1 := hs x List.mem_cons_self
    have h2 := ws_nonneg (p := p) (s := r) fun y hy => hs y (List.mem_cons_of_mem _ hy)
    show 0 ≤ (if p x.1 then x.2 else 0) + ws p r
    cases p x.1 <;> simp <;> omega
abbrev lt' (u : Int) : Int → Bool := fun w => decide (w < u)
abbrev le' (u : Int) : Int → Bool := fun w => decide (w ≤ u)
abbrev ge' (u : Int) : Int → Bool := fun w => decide (u ≤ w)
abbrev gt' (u : Int) : Int → Bool := fun w => decide (u < w)
theorem two_lt (u : Int) (s : List (Int × Int)) : ws (lt' u) s + ws (ge' u) s = tot s := ws_both (fun w => by
  show decide (u ≤ w) = !decide (w < u)
  by_cases c : w < u
  · rw [decide_eq_true c, decide_eq_false (by omega)]
    rfl
  · rw [decide_eq_false c, decide_eq_true (by omega)]
    rfl) s
theorem two_le (u : Int) (s : List (Int × Int)) : ws (le' u) s + ws (gt' u) s = tot s := ws_both (fun w => by
  show decide (u < w) = !decide (w ≤ u)
  by_cases c : w ≤ u
  · rw [decide_eq_true c, decide_eq_false (by omega)]
    rfl
  · rw [decide_eq_false c, decide_eq_true (by omega)]
    rfl) s
/-! ### the middle wish -/
def Med (c : Int) (s : List (Int × Int)) : Prop := 2 * ws (lt' c) s < tot s ∧ tot s ≤ 2 * ws (le' c) s
def midF (total passed last : Int) : List (Int × Int) → Int
  | [] => last
  | x :: r => if total ≤ 2 * (passed + x.2) then x.1 else midF total (passed + x.2) x.1 r
def midM (s : List (Int × Int)) : Int := midF (tot s) 0 0 s
theorem ws_none {p : Int → Bool} : ∀ {s : List (Int × Int)}, (∀ x ∈ s, p x.1 = false) → ws p s = 0
  | [], _ => rfl
  | x :: r, h => by
    show (if p x.1 then x.2 else 0) + ws p r = 0
    rw [h x List.mem_cons_self, ws_none fun y hy => h y (List.mem_cons_of_mem _ hy)]
    rfl
theorem ws_all {p : Int → Bool} : ∀ {s : List (Int × Int)}, (∀ x ∈ s, p x.1 = true) → ws p s = tot s
  | [], _ => rfl
  | x :: r, h => by
    show (if p x.1 then x.2 else 0) + ws p r = (if true = true then x.2 else 0) + tot r
    rw [h x List.mem_cons_self, ws_all fun y hy => h y (List.mem_cons_of_mem _ hy)]
theorem mid_med : ∀ {r pre : List (Int × Int)} {last : Int}, (pre ++ r).Pairwise (fun x y => x.1 ≤ y.1) → Pos (pre ++ r) → 2 * tot pre < tot (pre ++ r) → Med (midF (tot (pre ++ r)) (tot pre) last r) (pre ++ r)
  | [], pre, last, _, hp, h => by
    rw [List.append_nil] at h hp
    have : 0 ≤ tot pre := ws_nonneg hp
    omega
  | x :: r, pre, last, hs, hp, h => by
    have e1 : pre ++ x :: r = (pre ++ [x]) ++ r := by simp
    have et : tot (pre ++ [x]) = tot pre + x.2 := by
      rw [show tot (pre ++ [x]) = tot pre + tot [x] from ws_app _ _ _]
      show tot pre + (x.2 + 0) = _
      omega
    unfold midF
    by_cases c : tot (pre ++ x :: r) ≤ 2 * (tot pre + x.2)
    · rw [if_pos c]
      have hs' := hs
      rw [List.pairwise_append] at hs'
      obtain ⟨_, h2, h3⟩ := hs'
      obtain ⟨h4, _⟩ := List.pairwise_cons.mp h2
      constructor
      · have k1 : ws (lt' x.1) (pre ++ x :: r) = ws (lt' x.1) pre + ws (lt' x.1) (x :: r) := ws_app _ _ _
        have k2 : ws (lt' x.1) (x :: r) = 0 := ws_none fun y hy => decide_eq_false (by
          rcases List.mem_cons.mp hy with z | z
          · rw [z]; omega
          · have := h4 y z; omega)
        have k3 : ws (lt' x.1) pre ≤ tot pre := ws_mono (fun _ _ => rfl) hp.left
        omega
      · have k1 : ws (le' x.1) (pre ++ x :: r) = ws (le' x.1) (pre ++ [x]) + ws (le' x.1) r := by rw [e1]; exact ws_app _ _ _
        have k2 : ws (le' x.1) (pre ++ [x]) = tot (pre ++ [x]) := ws_all fun y hy => decide_eq_true (by
          rcases List.mem_append.mp hy with z | z
          · exact h3 y z x List.mem_cons_self
          · rw [List.mem_singleton.mp z]; exact Int.le_refl _)
        have k3 : 0 ≤ ws (le' x.1) r := ws_nonneg (by rw [e1] at hp; exact hp.right)
        omega
    · rw [if_neg c]
      rw [e1] at hs hp ⊢
      rw [e1] at c
      rw [← et]
      exact mid_med hs hp (by rw [et]; omega)
theorem midM_med {s : List (Int × Int)} (hs : s.Pairwise fun x y => x.1 ≤ y.1) (hp : Pos s) (hne : s ≠ []) : Med (midM s) s := by
  refine mid_med (pre := []) hs hp ?_
  show 2 * 0 < tot s
  cases s with
  | nil => exact absurd rfl hne
  | cons x r =>
    have h1 := hp x List.mem_cons_self
    have h2 := ws_nonneg (p := fun _ => true) (s := r) fun y hy => hp y (List.mem_cons_of_mem _ hy)
    show 2 * 0 < x.2 + tot r
    have h2 : 0 ≤ tot r := h2
    omega
theorem Med.perm {c : Int} {a b : List (Int × Int)} (p : a.Perm b) (h : Med c a) : Med c b := by
  unfold Med at *
  have e : tot a = tot b := ws_perm _ p
  rw [← ws_perm _ p, ← ws_perm (le' c) p, ← e]
  exact h
/-! ### blocks -/
def PreOK (u : Int) (s : List (Int × Int)) : Prop := ∀ s1 s2, s = s1 ++ s2 → ws (lt' u) s1 ≤ ws (ge' u) s1
def SufOK (u : Int) (s : List (Int × Int)) : Prop := ∀ s1 s2, s = s1 ++ s2 → ws (gt' u) s2 ≤ ws (le' u) s2
structure G (u : Int) (s : List (Int × Int)) : Prop where
  med : Med u s
  pre : PreOK u s
  suf : SufOK u s
  pos : Pos s
theorem PreOK.down {u v : Int} {s : List (Int × Int)} (h : PreOK u s) (hv : v ≤ u) (hp : Pos s) : PreOK v s := fun s1 s2 e => by
  have k := h s1 s2 e
  rw [e] at hp
  have k1 : ws (lt' v) s1 ≤ ws (lt' u) s1 := ws_mono (fun w hw => decide_eq_true (by have := of_decide_eq_true hw; omega)) hp.left
  have k2 : ws (ge' u) s1 ≤ ws (ge' v) s1 := ws_mono (fun w hw => decide_eq_true (by have := of_decide_eq_true hw; omega)) hp.left
  omega
theorem SufOK.up {u v : Int} {s : List (Int × Int)} (h : SufOK u s) (hv : u ≤ v) (hp : Pos s) : SufOK v s := fun s1 s2 e => by
  have k := h s1 s2 e
  rw [e] at hp
  have k1 : ws (gt' v) s2 ≤ ws (gt' u) s2 := ws_mono (fun w hw => decide_eq_true (by have := of_decide_eq_true hw; omega)) hp.right
  have k2 : ws (le' u) s2 ≤ ws (le' v) s2 := ws_mono (fun w hw => decide_eq_true (by have := of_decide_eq_true hw; omega)) hp.right
  omega
theorem app_split {α : Type} {a b s1 s2 : List α} (h : a ++ b = s1 ++ s2) : (∃ t, a = s1 ++ t ∧ s2 = t ++ b) ∨ (∃ t, s1 = a ++ t ∧ b = t ++ s2) := by
  rcases List.append_eq_append_iff.mp h with ⟨t, h1, h2⟩ | ⟨t, h1, h2⟩
  · exact .inr ⟨t, h1, h2⟩
  · exact .inl ⟨t, h1, h2⟩
theorem PreOK.app {u : Int} {a b : List (Int × Int)} (ha : PreOK u a) (hb : PreOK u b) : PreOK u (a ++ b) := fun s1 s2 e => by
  rcases app_split e with ⟨t, h1, _⟩ | ⟨t, h1, h2⟩
  · exact ha s1 t h1
  · rw [h1, ws_app, ws_app]
    have k1 := ha a [] (by simp)
    have k2 := hb t s2 h2
    omega
theorem SufOK.app {u : Int} {a b : List (Int × Int)} (ha : SufOK u a) (hb : SufOK u b) : SufOK u (a ++ b) := fun s1 s2 e => by
  rcases app_split e with ⟨t, h1, h2⟩ | ⟨t, _, h2⟩
  · rw [h2, ws_app, ws_app]
    have k1 := ha s1 t h1
    have k2 := hb [] b rfl
    omega
  · exact hb t s2 h2
theorem G.one {w g : Int} (h : 0 < g) : G w [(w, g)] := by
  have e1 : ws (lt' w) [(w, g)] = 0 := ws_none fun x hx => by rw [List.mem_singleton.mp hx]; exact decide_eq_false (by show ¬ w < w; omega)
  have e2 : ws (gt' w) [(w, g)] = 0 := ws_none fun x hx => by rw [List.mem_singleton.mp hx]; exact decide_eq_false (by show ¬ w < w; omega)
  have e3 : tot [(w, g)] = g + 0 := rfl
  have p : Pos [(w, g)] := fun x hx => by rw [List.mem_singleton.mp hx]; exact h
  have t1 := two_lt w [(w, g)]
  have t2 := two_le w [(w, g)]
  refine ⟨⟨by omega, by omega⟩, fun s1 s2 e => ?_, fun s1 s2 e => ?_, p⟩
  · cases s1 with
    | nil => exact Int.le_refl _
    | cons y t =>
      obtain ⟨rfl, e'⟩ := List.cons.inj (show (w, g) :: [] = y :: (t ++ s2) from e)
      obtain ⟨rfl, rfl⟩ := List.append_eq_nil_iff.mp e'.symm
      omega
  · cases s1 with
    | nil =>
      have e : [(w, g)] = s2 := e
      rw [← e]
      omega
    | cons y t =>
      obtain ⟨rfl, e'⟩ := List.cons.inj (show (w, g) :: [] = y :: (t ++ s2) from e)
      obtain ⟨rfl, rfl⟩ := List.append_eq_nil_iff.mp e'.symm
      exact Int.le_refl _
theorem G.merge {a b c : Int} {A B : List (Int × Int)} (ha : G a A) (hb : G b B) (hab : b < a) (hm : Med c (A ++ B)) : G c (A ++ B) := by
  have pA := ha.pos
  have pB := hb.pos
  obtain ⟨m1, m2⟩ := hm
  obtain ⟨a1, a2⟩ := ha.med
  obtain ⟨b1, b2⟩ := hb.med
  have eT : tot (A ++ B) = tot A + tot B := ws_app _ _ _
  have cb : b ≤ c := by
    by_cases h : b ≤ c
    · exact h
    · exfalso
      have k0 : ws (le' c) (A ++ B) = ws (le' c) A + ws (le' c) B := ws_app _ _ _
      have k1 : ws (le' c) A ≤ ws (lt' a) A := ws_mono (fun w hw => decide_eq_true (by have := of_decide_eq_true hw; omega)) pA
      have k2 : ws (le' c) B ≤ ws (lt' b) B := ws_mono (fun w hw => decide_eq_true (by have := of_decide_eq_true hw; omega)) pB
      omega
  have ca : c ≤ a := by
    by_cases h : c ≤ a
    · exact h
    · exfalso
      have k0 : ws (lt' c) (A ++ B) = ws (lt' c) A + ws (lt' c) B := ws_app _ _ _
      have k1 : ws (le' a) A ≤ ws (lt' c) A := ws_mono (fun w hw => decide_eq_true (by have := of_decide_eq_true hw; omega)) pA
      have k2 : ws (le' b) B ≤ ws (lt' c) B := ws_mono (fun w hw => decide_eq_true (by have := of_decide_eq_true hw; omega)) pB
      omega
  have preA := ha.pre.down ca pA
  have sufB := hb.suf.up cb pB
  refine ⟨⟨m1, m2⟩, fun s1 s2 e => ?_, fun s1 s2 e => ?_, pA.app pB⟩
  · rcases app_split e with ⟨t, h1, _⟩ | ⟨t, h1, h2⟩
    · exact preA s1 t h1
    · rw [h1]
      by_cases z : c = b
      · rw [z]
        have k1 := (ha.pre.down (by omega : b ≤ a) pA) A [] (by simp)
        have k2 := hb.pre t s2 h2
        rw [ws_app, ws_app]
        omega
      · have k := hb.suf t s2 h2
        have p2 : Pos s2 := by rw [h2] at pB; exact pB.right
        have k1 : ws (ge' c) s2 ≤ ws (gt' b) s2 := ws_mono (fun w hw => decide_eq_true (by have := of_decide_eq_true hw; omega)) p2
        have k2 : ws (le' b) s2 ≤ ws (lt' c) s2 := ws_mono (fun w hw => decide_eq_true (by have := of_decide_eq_true hw; omega)) p2
        have e1 : ws (lt' c) (A ++ B) = ws (lt' c) (A ++ t) + ws (lt' c) s2 := by rw [h2, ← List.append_assoc]; exact ws_app _ _ _
        have t1 := two_lt c (A ++ B)
        have e2 : ws (ge' c) (A ++ B) = ws (ge' c) (A ++ t) + ws (ge' c) s2 := by rw [h2, ← List.append_assoc]; exact ws_app _ _ _
        omega
  · rcases app_split e with ⟨t, h1, h2⟩ | ⟨t, _, h2⟩
    · rw [h2]
      by_cases z : c = a
      · rw [z]
        have k1 := ha.suf s1 t h1
        have k2 := (hb.suf.up (by omega : b ≤ a) pB) [] B rfl
        rw [ws_app, ws_app]
        omega
      · have k := ha.pre s1 t h1
        have p1 : Pos s1 := by rw [h1] at pA; exact pA.left
        have k1 : ws (le' c) s1 ≤ ws (lt' a) s1 := ws_mono (fun w hw => decide_eq_true (by have := of_decide_eq_true hw; omega)) p1
        have k2 : ws (ge' a) s1 ≤ ws (gt' c) s1 := ws_mono (fun w hw => decide_eq_true (by have := of_decide_eq_true hw; omega)) p1
        have e1 : ws (gt' c) (A ++ B) = ws (gt' c) s1 + ws (gt' c) (t ++ B) := by rw [h1, List.append_assoc]; exact ws_app _ _ _
        have e2 : ws (le' c) (A ++ B) = ws (le' c) s1 + ws (le' c) (t ++ B) := by rw [h1, List.append_assoc]; exact ws_app _ _ _
        have t1 := two_le c (A ++ B)
        omega
    · exact sufB t s2 h2
end R
namespace R
/-! ### the steps of prices at a level -/
def stepM (move g : Int) : Int × Int := if 0 < move then (-g, -g) else if move < 0 then (g, g) else (-g, g)
def stepsAt (u : Int) (s : List (Int × Int)) : List (Int × Int) := s.map fun x => stepM (u - x.1) x.2
theorem step_cases (u w g : Int) : (w < u ∧ stepM (u - w) g = (-g, -g)) ∨ (u < w ∧ stepM (u - w) g = (g, g)) ∨ (w = u ∧ stepM (u - w) g = (-g, g)) := by
  unfold stepM
  by_cases c1 : 0 < u - w
  · rw [if_pos c1]
    exact .inl ⟨by omega, rfl⟩
  · rw [if_neg c1]
    by_cases c2 : u - w < 0
    · rw [if_pos c2]
      exact .inr (.inl ⟨by omega, rfl⟩)
    · rw [if_neg c2]
      exact .inr (.inr ⟨by omega, rfl⟩)
theorem ws_cons (p : Int → Bool) (x : Int × Int) (r : List (Int × Int)) : ws p (x :: r) = (if p x.1 then x.2 else 0) + ws p r := rfl
theorem sM_steps (u : Int) : ∀ s : List (Int × Int), sM (stepsAt u s) = ws (ge' u) s - ws (lt' u) s
  | [] => rfl
  | x :: r => by
    have ih := sM_steps u r
    show (stepM (u - x.1) x.2).2 + sM (stepsAt u r) = _
    rw [ws_cons, ws_cons, ih]
    rcases step_cases u x.1 x.2 with ⟨h, e⟩ | ⟨h, e⟩ | ⟨h, e⟩ <;> rw [e]
    · rw [if_neg (show ¬ decide (u ≤ x.1) = true by simp; omega), if_pos (show decide (x.1 < u) = true by simp; omega)]
      omega
    · rw [if_pos (show decide (u ≤ x.1) = true by simp; omega), if_neg (show ¬ decide (x.1 < u) = true by simp; omega)]
      omega
    · rw [if_pos (show decide (u ≤ x.1) = true by simp; omega), if_neg (show ¬ decide (x.1 < u) = true by simp; omega)]
      omega
theorem sL_steps (u : Int) : ∀ s : List (Int × Int), sL (stepsAt u s) = ws (gt' u) s - ws (le' u) s
  | [] => rfl
  | x :: r => by
    have ih := sL_steps u r
    show (stepM (u - x.1) x.2).1 + sL (stepsAt u r) = _
    rw [ws_cons, ws_cons, ih]
    rcases step_cases u x.1 x.2 with ⟨h, e⟩ | ⟨h, e⟩ | ⟨h, e⟩ <;> rw [e]
    · rw [if_neg (show ¬ decide (u < x.1) = true by simp; omega), if_pos (show decide (x.1 ≤ u) = true by simp; omega)]
      omega
    · rw [if_pos (show decide (u < x.1) = true by simp; omega), if_neg (show ¬ decide (x.1 ≤ u) = true by simp; omega)]
      omega
    · rw [if_neg (show ¬ decide (u < x.1) = true by simp; omega), if_pos (show decide (x.1 ≤ u) = true by simp; omega)]
      omega
theorem steps_le {u : Int} {s : List (Int × Int)} (h : Pos s) : ∀ x ∈ stepsAt u s, x.1 ≤ x.2 := fun x hx => by
  obtain ⟨y, hy, rfl⟩ := List.mem_map.mp hx
  have := h y hy
  rcases step_cases u y.1 y.2 with ⟨_, e⟩ | ⟨_, e⟩ | ⟨_, e⟩ <;> rw [e]
  · exact Int.le_refl _
  · exact Int.le_refl _
  · show -y.2 ≤ y.2
    omega
theorem steps_app (u : Int) (a b : List (Int × Int)) : stepsAt u (a ++ b) = stepsAt u a ++ stepsAt u b := List.map_append
theorem steps_pre {u : Int} {s : List (Int × Int)} (h : PreOK u s) : PreM (stepsAt u s) := fun s1 s2 e => by
  obtain ⟨a, b, e1, e2, _⟩ := List.map_eq_append_iff.mp e
  have k := h a b e1
  have : sM s1 = ws (ge' u) a - ws (lt' u) a := by rw [← e2]; exact sM_steps u a
  omega
theorem steps_suf {u : Int} {s : List (Int × Int)} (h : SufOK u s) : SufL (stepsAt u s) := fun s1 s2 e => by
  obtain ⟨a, b, e1, _, e2⟩ := List.map_eq_append_iff.mp e
  have k := h a b e1
  have : sL s2 = ws (gt' u) b - ws (le' u) b := by rw [← e2]; exact sL_steps u b
  omega
/-! ### blocks in a row -/
abbrev Blk := Int × List (Int × Int)
def clM (room u : Int) : Int := min (max u 0) room
def stepsOf (room : Int) (bl : List Blk) : List (Int × Int) := bl.flatMap fun b => stepsAt (clM room b.1) b.2
def usOf (room : Int) (bl : List Blk) : List Int := bl.flatMap fun b => List.replicate b.2.length (clM room b.1)
def segsOf (bl : List Blk) : List (Int × Int) := bl.flatMap fun b => b.2
structure Gs (bl : List Blk) : Prop where
  g : ∀ b ∈ bl, G b.1 b.2
  up : bl.Pairwise fun a b => a.1 ≤ b.1
theorem Gs.left {a b : List Blk} (h : Gs (a ++ b)) : Gs a := ⟨fun x hx => h.g x (List.mem_append_left _ hx), (List.pairwise_append.mp h.up).1⟩
theorem Gs.right {a b : List Blk} (h : Gs (a ++ b)) : Gs b := ⟨fun x hx => h.g x (List.mem_append_right _ hx), (List.pairwise_append.mp h.up).2.1⟩
theorem stepsOf_app (room : Int) (a b : List Blk) : stepsOf room (a ++ b) = stepsOf room a ++ stepsOf room b := List.flatMap_append
theorem stepsOf_same {room u : Int} : ∀ {bl : List Blk}, (∀ b ∈ bl, clM room b.1 = u) → stepsOf room bl = stepsAt u (segsOf bl)
  | [], _ => rfl
  | b :: r, h => by
    show stepsAt (clM room b.1) b.2 ++ stepsOf room r = stepsAt u (b.2 ++ segsOf r)
    rw [h b List.mem_cons_self, stepsOf_same fun x hx => h x (List.mem_cons_of_mem _ hx), steps_app]
theorem segs_pos : ∀ {bl : List Blk}, (∀ b ∈ bl, G b.1 b.2) → Pos (segsOf bl)
  | [], _ => fun x hx => nomatch hx
  | b :: r, h => (h b List.mem_cons_self).pos.app (segs_pos fun x hx => h x (List.mem_cons_of_mem _ hx))
theorem segs_suf {u : Int} : ∀ {bl : List Blk}, (∀ b ∈ bl, G b.1 b.2 ∧ b.1 ≤ u) → SufOK u (segsOf bl)
  | [], _ => fun s1 s2 e => by
    obtain ⟨_, rfl⟩ := List.append_eq_nil_iff.mp e.symm
    exact Int.le_refl _
  | b :: r, h => by
    obtain ⟨h1, h2⟩ := h b List.mem_cons_self
    exact (h1.suf.up h2 h1.pos).app (segs_suf fun x hx => h x (List.mem_cons_of_mem _ hx))
theorem segs_pre {u : Int} : ∀ {bl : List Blk}, (∀ b ∈ bl, G b.1 b.2 ∧ u ≤ b.1) → PreOK u (segsOf bl)
  | [], _ => fun s1 s2 e => by
    obtain ⟨rfl, _⟩ := List.append_eq_nil_iff.mp e.symm
    exact Int.le_refl _
  | b :: r, h => by
    obtain ⟨h1, h2⟩ := h b List.mem_cons_self
    exact (h1.pre.down h2 h1.pos).app (segs_pre fun x hx => h x (List.mem_cons_of_mem _ hx))
theorem snocI {α : Type} {P : List α → Prop} (h0 : P []) (h1 : ∀ b s, P b → P (b ++ [s])) (b : List α) : P b := by
  have : ∀ (n : Nat) (b : List α), b.length = n → P b := fun n => by
    induction n with
    | zero =>
      intro b hb
      rw [List.length_eq_zero_iff.mp hb]
      exact h0
    | succ n ih =>
      intro b hb
      rcases List.eq_nil_or_concat b with e | ⟨a, x, e⟩
      · rw [e]
        exact h0
      · rw [List.concat_eq_append] at e
        rw [e, List.length_append] at hb
        have hb : a.length + 1 = n + 1 := hb
        rw [e]
        exact h1 a x (ih a (by omega))
  exact this b.length b rfl
theorem way_before {room : Int} (r0 : 0 ≤ room) : ∀ {bl : List Blk}, Gs bl → (∀ b ∈ bl, b.1 < room) → ∃ a, 0 ≤ a ∧ Way (stepsOf room bl) a 0 := by
  intro bl
  refine snocI (P := fun bl => Gs bl → (∀ b ∈ bl, b.1 < room) → ∃ a, 0 ≤ a ∧ Way (stepsOf room bl) a 0) (fun _ _ => ⟨0, Int.le_refl _, rfl, Int.le_refl _⟩) (fun bl b ih gs hr => ?_) bl
  have hb := hr b (by simp)
  by_cases c : 0 < b.1
  · obtain ⟨a, a0, w⟩ := ih gs.left (fun x hx => hr x (List.mem_append_left _ hx))
    have gb := gs.g b (by simp)
    have e : clM room b.1 = b.1 := by unfold clM; omega
    refine ⟨a, a0, ?_⟩
    rw [stepsOf_app]
    refine way_app w ?_
    show Way (stepsAt (clM room b.1) b.2 ++ []) 0 0
    rw [List.append_nil, e]
    exact way_seg (steps_le gb.pos) (steps_pre gb.pre) (steps_suf gb.suf)
  · have le : ∀ x ∈ bl ++ [b], x.1 ≤ 0 := fun x hx => by
      rcases List.mem_append.mp hx with z | z
      · have := (List.pairwise_append.mp gs.up).2.2 x z b (by simp)
        omega
      · rw [List.mem_singleton.mp z]
        omega
    rw [stepsOf_same (u := 0) fun x hx => by
      have := le x hx
      unfold clM
      omega]
    exact way_left (steps_le (segs_pos gs.g)) (steps_suf (segs_suf fun x hx => ⟨gs.g x hx, le x hx⟩))
theorem way_after {room : Int} (r0 : 0 ≤ room) : ∀ {bl : List Blk}, Gs bl → (∀ b ∈ bl, 0 < b.1) → ∃ b, 0 ≤ b ∧ Way (stepsOf room bl) 0 b
  | [], _, _ => ⟨0, Int.le_refl _, rfl, Int.le_refl _⟩
  | x :: r, gs, h0 => by
    have hx := h0 x List.mem_cons_self
    have gx := gs.g x List.mem_cons_self
    have gr : Gs r := Gs.right (a := [x]) gs
    by_cases c : x.1 < room
    · obtain ⟨b, b0, w⟩ := way_after r0 gr fun y hy => h0 y (List.mem_cons_of_mem _ hy)
      have e : clM room x.1 = x.1 := by unfold clM; omega
      refine ⟨b, b0, way_app (s1 := stepsAt (clM room x.1) x.2) ?_ w⟩
      rw [e]
      exact way_seg (steps_le gx.pos) (steps_pre gx.pre) (steps_suf gx.suf)
    · have ge : ∀ y ∈ x :: r, room ≤ y.1 := fun y hy => by
        rcases List.mem_cons.mp hy with z | z
        · rw [z]
          omega
        · have := (List.pairwise_cons.mp gs.up).1 y z
          omega
      rw [stepsOf_same (u := room) fun y hy => by
        have := ge y hy
        unfold clM
        omega]
      exact way_right (steps_le (segs_pos gs.g)) (steps_pre (segs_pre fun y hy => ⟨gs.g y hy, ge y hy⟩))
/-! ### prices are nought where there is room -/
def Tt (room : Int) (v : Int) : List Int → List (Int × Int) → Int → Prop
  | [], [], low => low * (room - v) = 0
  | u :: us, x :: st, low => PR low (x :: st) * (u - v) = 0 ∧ Tt room u us st (max 0 (low + x.1))
  | _, _, _ => False
theorem Tt_seg {room u : Int} : ∀ {s : List (Int × Int)} {us : List Int} {st : List (Int × Int)} {low : Int}, Tt room u us st (LO low s) → Tt room u (List.replicate s.length u ++ us) (s ++ st) low
  | [], us, st, low, h => h
  | x :: s, us, st, low, h => by
    refine ⟨?_, Tt_seg (s := s) h⟩
    rw [Int.sub_self, Int.mul_zero]
theorem LO_app : ∀ (a b : List (Int × Int)) (low : Int), LO low (a ++ b) = LO (LO low a) b
  | [], b, low => rfl
  | x :: a, b, low => LO_app a b _
theorem steps_len (u : Int) (s : List (Int × Int)) : (stepsAt u s).length = s.length := List.length_map _
theorem Tt_blocks {room : Int} (r0 : 0 ≤ room) : ∀ {b2 b1 : List Blk} {v : Int}, Gs (b1 ++ b2) → (∀ b ∈ b2, b.2 ≠ []) → 0 ≤ v → v ≤ room → (∀ x ∈ b1, clM room x.1 ≤ v) → (∀ x ∈ b2, v ≤ clM room x.1) → Tt room v (usOf room b2) (stepsOf room b2) (LO 0 (stepsOf room b1))
  | [], b1, v, gs, _, v0, v1, hv, hb => by
    show LO 0 (stepsOf room b1) * (room - v) = 0
    by_cases c : v = room
    · rw [c, Int.sub_self, Int.mul_zero]
    · rw [List.append_nil] at gs
      obtain ⟨a, a0, w⟩ := way_before r0 gs fun x hx => by
        have := hv x hx
        unfold clM at this
        omega
      have e := price_nought (s2 := []) w (b := 0) ⟨rfl, Int.le_refl _⟩
      have e : LO 0 (stepsOf room b1) = 0 := e
      rw [e, Int.zero_mul]
  | b :: b2, b1, v, gs, hne, v0, v1, hv, hb => by
    have gs' : Gs ((b1 ++ [b]) ++ b2) := by rw [List.append_assoc]; exact gs
    have cb : 0 ≤ clM room b.1 ∧ clM room b.1 ≤ room := by unfold clM; omega
    have ih := Tt_blocks r0 (b2 := b2) (b1 := b1 ++ [b]) (v := clM room b.1) gs' (fun x hx => hne x (List.mem_cons_of_mem _ hx)) cb.1 cb.2 (fun x hx => by
      rcases List.mem_append.mp hx with z | z
      · have := (List.pairwise_append.mp gs.up).2.2 x z b List.mem_cons_self
        unfold clM
        omega
      · rw [List.mem_singleton.mp z]
        exact Int.le_refl _) (fun x hx => by
      have := (List.pairwise_cons.mp (List.pairwise_append.mp gs.up).2.1).1 x hx
      unfold clM
      omega)
    rw [stepsOf_app, LO_app] at ih
    have e1 : stepsOf room [b] = stepsAt (clM room b.1) b.2 := by
      show stepsAt (clM room b.1) b.2 ++ [] = _
      rw [List.append_nil]
    rw [e1] at ih
    -- the first item of the block
    cases hs : b.2 with
    | nil => exact absurd hs (hne b List.mem_cons_self)
    | cons y s =>
      have eu : usOf room (b :: b2) = clM room b.1 :: (List.replicate s.length (clM room b.1) ++ usOf room b2) := by
        show List.replicate b.2.length (clM room b.1) ++ usOf room b2 = _
        rw [hs]
        rfl
      have est : stepsOf room (b :: b2) = stepM (clM room b.1 - y.1) y.2 :: (stepsAt (clM room b.1) s ++ stepsOf room b2) := by
        show stepsAt (clM room b.1) b.2 ++ stepsOf room b2 = _
        rw [hs]
        rfl
      rw [eu, est]
      rw [hs] at ih
      refine ⟨?_, ?_⟩
      · rw [← est]
        by_cases c : clM room b.1 = v
        · rw [c, Int.sub_self, Int.mul_zero]
        · have lt : v < clM room b.1 := by
            have := hb b List.mem_cons_self
            omega
          obtain ⟨a, a0, w1⟩ := way_before r0 gs.left fun x hx => by
            have := hv x hx
            unfold clM at this lt
            omega
          have hb0 : 0 < b.1 := by
            unfold clM at lt
            omega
          obtain ⟨b', b0, w2⟩ := way_after r0 gs.right fun x hx => by
            rcases List.mem_cons.mp hx with z | z
            · rw [z]
              exact hb0
            · have := (List.pairwise_cons.mp (List.pairwise_append.mp gs.up).2.1).1 x z
              omega
          rw [price_nought w1 w2, Int.zero_mul]
      · have e2 : (stepsAt (clM room b.1) s).length = s.length := steps_len _ _
        rw [← e2]
        exact Tt_seg ih
theorem Tt_all {room : Int} (r0 : 0 ≤ room) {bl : List Blk} (gs : Gs bl) (hne : ∀ b ∈ bl, b.2 ≠ []) : Tt room 0 (usOf room bl) (stepsOf room bl) 0 :=
  Tt_blocks r0 (b1 := []) gs hne (Int.le_refl _) r0 (fun x hx => nomatch hx) (fun x _ => by unfold clM; omega)
/-! ### what prices come to -/
def AB : List Int → List (Int × Int) → Int → Int
  | u :: us, x :: st, low => u * (PR (max 0 (low + x.1)) st - PR low (x :: st)) + AB us st (max 0 (low + x.1))
  | _, _, _ => 0
def Chain (room : Int) (v : Int) : List Int → Prop
  | [] => v ≤ room
  | u :: us => v ≤ u ∧ Chain room u us
theorem AB_le {room : Int} : ∀ {us : List Int} {st : List (Int × Int)} {v low : Int}, us.length = st.length → Chain room v us → 0 ≤ low → AB us st low ≤ room * LO low st - v * PR low st
  | [], [], v, low, _, h, h0 => by
    have h : v ≤ room := h
    show 0 ≤ room * low - v * low
    have := Int.mul_le_mul_of_nonneg_right h h0
    omega
  | u :: us, x :: st, v, low, hl, h, h0 => by
    obtain ⟨h1, h2⟩ := h
    have ih := AB_le (us := us) (st := st) (low := max 0 (low + x.1)) (by simpa using hl) h2 (by omega)
    have p0 : 0 ≤ PR low (x :: st) := by
      have := PR_ge (x :: st) low
      omega
    have k := Int.mul_le_mul_of_nonneg_right h1 p0
    show u * (PR (max 0 (low + x.1)) st - PR low (x :: st)) + AB us st (max 0 (low + x.1)) ≤ room * LO (max 0 (low + x.1)) st - v * PR low (x :: st)
    rw [Int.mul_sub]
    omega
  | [], _ :: _, _, _, hl, _, _ => by simp at hl
  | _ :: _, [], _, _, hl, _, _ => by simp at hl
theorem AB_eq {room : Int} : ∀ {us : List Int} {st : List (Int × Int)} {v low : Int}, Tt room v us st low → AB us st low = room * LO low st - v * PR low st
  | [], [], v, low, h => by
    have h : low * (room - v) = 0 := h
    show 0 = room * low - v * low
    rw [Int.mul_sub] at h
    rw [Int.mul_comm room, Int.mul_comm v]
    omega
  | u :: us, x :: st, v, low, h => by
    obtain ⟨h1, h2⟩ := h
    have ih := AB_eq h2
    show u * (PR (max 0 (low + x.1)) st - PR low (x :: st)) + AB us st (max 0 (low + x.1)) = room * LO (max 0 (low + x.1)) st - v * PR low (x :: st)
    rw [Int.mul_sub, ih]
    rw [Int.mul_sub, Int.mul_comm _ u, Int.mul_comm _ v] at h1
    omega
  | [], _ :: _, _, _, h => h.elim
  | _ :: _, [], _, _, h => h.elim
end R
namespace R
/-! ### the best levels, as the program makes them: the last block first -/
def pushR (srt : List (Int × Int) → List (Int × Int)) : List Blk → Blk → List Blk
  | [], b => [b]
  | a :: r, b => if b.1 < a.1 then pushR srt r (midM (srt (a.2 ++ b.2)), srt (a.2 ++ b.2)) else b :: a :: r
def levOf (bl : List Blk) : List Int := bl.flatMap fun b => List.replicate b.2.length b.1
def levelsM (srt : List (Int × Int) → List (Int × Int)) (s : List (Int × Int)) : List Int := levOf (s.foldl (fun bs w => pushR srt bs (w.1, [w])) []).reverse
inductive BR : List Blk → List Blk → Prop
  | nil : BR [] []
  | cons {a b : Blk} {r s : List Blk} : a.1 = b.1 → a.2.Perm b.2 → BR r s → BR (a :: r) (b :: s)
structure PI (pb mb : List Blk) : Prop where
  br : BR pb mb
  gs : Gs mb.reverse
  ne : ∀ b ∈ mb, b.2 ≠ []
theorem segsOf_app (a b : List Blk) : segsOf (a ++ b) = segsOf a ++ segsOf b := List.flatMap_append
theorem segsOf_one (b : Blk) : segsOf [b] = b.2 := by
  show b.2 ++ [] = b.2
  rw [List.append_nil]
theorem push_ok {srt : List (Int × Int) → List (Int × Int)} (hs : ∀ l, (srt l).Perm l ∧ (srt l).Pairwise fun x y => x.1 ≤ y.1) : ∀ {pb mb : List Blk} {b : Blk} {sb : List (Int × Int)}, PI pb mb → G b.1 sb → b.2.Perm sb → sb ≠ [] →
    ∃ mb', PI (pushR srt pb b) mb' ∧ segsOf mb'.reverse = segsOf mb.reverse ++ sb
  | [], mb, b, sb, h, g, p, n => by
    cases h.br
    refine ⟨[(b.1, sb)], ⟨.cons rfl p .nil, ⟨fun x hx => ?_, List.pairwise_singleton _ _⟩, fun x hx => ?_⟩, ?_⟩
    · rw [List.mem_singleton.mp (show x ∈ [(b.1, sb)] from hx)]
      exact g
    · rw [List.mem_singleton.mp hx]
      exact n
    · show segsOf [(b.1, sb)] = [] ++ sb
      rw [segsOf_one]
      rfl
  | a :: r, mb, b, sb, h, g, p, n => by
    obtain ⟨br, gs, ne⟩ := h
    cases br with
    | @cons _ a' _ r' e1 e2 e3 =>
      rw [List.reverse_cons] at gs
      have ga := gs.g a' (by simp)
      unfold pushR
      by_cases c : b.1 < a.1
      · rw [if_pos c]
        have pm : (srt (a.2 ++ b.2)).Perm (a'.2 ++ sb) := (hs _).1.trans (e2.append p)
        have pp : Pos (a'.2 ++ sb) := ga.pos.app g.pos
        have md : Med (midM (srt (a.2 ++ b.2))) (a'.2 ++ sb) := by
          refine Med.perm pm (midM_med (hs _).2 (fun x hx => pp x (pm.mem_iff.mp hx)) fun z => ?_)
          have := pm.length_eq
          rw [z, List.length_append] at this
          have h1 : sb.length ≠ 0 := fun y => n (List.length_eq_zero_iff.mp y)
          have this : 0 = a'.2.length + sb.length := this
          omega
        have gm := ga.merge g (by rw [← e1]; exact c) md
        obtain ⟨mb', h1, h2⟩ := push_ok hs (pb := r) (mb := r') (b := (midM (srt (a.2 ++ b.2)), srt (a.2 ++ b.2))) (sb := a'.2 ++ sb) ⟨e3, gs.left, fun x hx => ne x (List.mem_cons_of_mem _ hx)⟩ gm pm (fun z => n (List.append_eq_nil_iff.mp z).2)
        refine ⟨mb', h1, ?_⟩
        rw [h2, List.reverse_cons, segsOf_app, segsOf_one, List.append_assoc]
      · rw [if_neg c]
        refine ⟨(b.1, sb) :: a' :: r', ⟨.cons rfl p (.cons e1 e2 e3), ?_, fun x hx => ?_⟩, ?_⟩
        · rw [List.reverse_cons, List.reverse_cons]
          refine ⟨fun x hx => ?_, ?_⟩
          · rcases List.mem_append.mp hx with z | z
            · exact gs.g x z
            · rw [List.mem_singleton.mp z]
              exact g
          · rw [List.pairwise_append]
            refine ⟨gs.up, List.pairwise_singleton _ _, fun x hx y hy => ?_⟩
            rw [List.mem_singleton.mp hy]
            rcases List.mem_append.mp hx with z | z
            · have := (List.pairwise_append.mp gs.up).2.2 x z a' (by simp)
              show x.1 ≤ b.1
              omega
            · rw [List.mem_singleton.mp z]
              show a'.1 ≤ b.1
              omega
        · rcases List.mem_cons.mp hx with z | z
          · rw [z]
            exact n
          · exact ne x z
        · rw [List.reverse_cons, segsOf_app, segsOf_one]
theorem fold_ok {srt : List (Int × Int) → List (Int × Int)} (hs : ∀ l, (srt l).Perm l ∧ (srt l).Pairwise fun x y => x.1 ≤ y.1) : ∀ (s : List (Int × Int)) {pb mb : List Blk}, PI pb mb → Pos s → ∃ mb', PI (s.foldl (fun bs w => pushR srt bs (w.1, [w])) pb) mb' ∧ segsOf mb'.reverse = segsOf mb.reverse ++ s
  | [], pb, mb, h, _ => ⟨mb, h, by rw [List.append_nil]⟩
  | w :: s, pb, mb, h, hp => by
    obtain ⟨m1, h1, h2⟩ := push_ok hs (b := (w.1, [w])) (sb := [w]) h (G.one (hp w List.mem_cons_self)) (.refl _) (by simp)
    obtain ⟨m2, h3, h4⟩ := fold_ok hs s h1 fun x hx => hp x (List.mem_cons_of_mem _ hx)
    refine ⟨m2, h3, ?_⟩
    rw [h4, h2, List.append_assoc]
    rfl
theorem lev_br : ∀ {pb mb : List Blk}, BR pb mb → levOf pb.reverse = levOf mb.reverse
  | _, _, .nil => rfl
  | _, _, @BR.cons a b r s e1 e2 e3 => by
    have ap : ∀ x y : List Blk, levOf (x ++ y) = levOf x ++ levOf y := fun x y => List.flatMap_append
    rw [List.reverse_cons, List.reverse_cons, ap, ap, lev_br e3]
    show _ ++ (List.replicate a.2.length a.1 ++ []) = _ ++ (List.replicate b.2.length b.1 ++ [])
    rw [e1, e2.length_eq]
theorem levels_ok {srt : List (Int × Int) → List (Int × Int)} (hs : ∀ l, (srt l).Perm l ∧ (srt l).Pairwise fun x y => x.1 ≤ y.1) {s : List (Int × Int)} (hp : Pos s) : ∃ bl, Gs bl ∧ (∀ b ∈ bl, b.2 ≠ []) ∧ segsOf bl = s ∧ levelsM srt s = levOf bl := by
  obtain ⟨mb, h1, h2⟩ := fold_ok hs s (pb := []) (mb := []) ⟨.nil, ⟨(fun x hx => nomatch hx), List.Pairwise.nil⟩, (fun x hx => nomatch hx)⟩ hp
  refine ⟨mb.reverse, h1.gs, fun b hb => h1.ne b (List.mem_reverse.mp hb), h2, lev_br h1.br⟩
theorem us_lev (room : Int) : ∀ bl : List Blk, usOf room bl = (levOf bl).map (clM room)
  | [] => rfl
  | b :: r => by
    show List.replicate b.2.length (clM room b.1) ++ usOf room r = (List.replicate b.2.length b.1 ++ levOf r).map (clM room)
    rw [List.map_append, List.map_replicate, us_lev room r]
/-! ### costs -/
def costM : List Int → List (Int × Int) → Int
  | u :: us, x :: s => x.2 * (u - x.1).natAbs + costM us s
  | _, _ => 0
def stepsU : List Int → List (Int × Int) → List (Int × Int)
  | u :: us, x :: s => stepM (u - x.1) x.2 :: stepsU us s
  | _, _ => []
theorem stepsU_rep (u : Int) : ∀ (s : List (Int × Int)) (us : List Int) (t : List (Int × Int)), stepsU (List.replicate s.length u ++ us) (s ++ t) = stepsAt u s ++ stepsU us t
  | [], us, t => rfl
  | x :: s, us, t => by
    show stepM (u - x.1) x.2 :: stepsU (List.replicate s.length u ++ us) (s ++ t) = stepM (u - x.1) x.2 :: (stepsAt u s ++ stepsU us t)
    rw [stepsU_rep u s us t]
theorem stepsU_of (room : Int) : ∀ bl : List Blk, stepsU (usOf room bl) (segsOf bl) = stepsOf room bl
  | [] => rfl
  | b :: r => by
    show stepsU (List.replicate b.2.length (clM room b.1) ++ usOf room r) (b.2 ++ segsOf r) = stepsAt (clM room b.1) b.2 ++ stepsOf room r
    rw [stepsU_rep, stepsU_of room r]
theorem one_eq {u w g d : Int} (hg : 0 < g) (h1 : (stepM (u - w) g).1 ≤ d) (h2 : d ≤ (stepM (u - w) g).2) : g * (u - w).natAbs = w * d - u * d := by
  rcases step_cases u w g with ⟨h, e⟩ | ⟨h, e⟩ | ⟨h, e⟩ <;> rw [e] at h1 h2
  · obtain rfl : d = -g := by
      have h1 : -g ≤ d := h1
      have h2 : d ≤ -g := h2
      omega
    rw [show ((u - w).natAbs : Int) = u - w by omega, Int.mul_sub, Int.mul_neg, Int.mul_neg, Int.mul_comm g u, Int.mul_comm g w]
    omega
  · obtain rfl : d = g := by
      have h1 : g ≤ d := h1
      have h2 : d ≤ g := h2
      omega
    rw [show ((u - w).natAbs : Int) = w - u by omega, Int.mul_sub, Int.mul_comm d w, Int.mul_comm d u]
  · subst h
    simp
theorem one_ge {v w g d : Int} (h1 : -g ≤ d) (h2 : d ≤ g) : w * d - v * d ≤ g * (v - w).natAbs := by
  have e : w * d - v * d = (w - v) * d := by rw [Int.sub_mul]
  rw [e]
  by_cases c : v ≤ w
  · rw [show ((v - w).natAbs : Int) = w - v by omega, Int.mul_comm g]
    exact Int.mul_le_mul_of_nonneg_left h2 (by omega)
  · rw [show ((v - w).natAbs : Int) = v - w by omega, Int.mul_comm g]
    have : (v - w) * (-d) ≤ (v - w) * g := Int.mul_le_mul_of_nonneg_left (by omega) (by omega)
    rw [Int.mul_neg] at this
    have e2 : (w - v) * d = -((v - w) * d) := by rw [← Int.neg_mul, Int.neg_sub]
    omega
theorem cost_eq : ∀ {us : List Int} {s : List (Int × Int)} {low : Int}, us.length = s.length → Pos s → costM us s = AB (s.map (·.1)) (stepsU us s) low - AB us (stepsU us s) low
  | [], [], low, _, _ => rfl
  | u :: us, x :: s, low, hl, hp => by
    have gx := hp x List.mem_cons_self
    have ih := cost_eq (us := us) (s := s) (low := max 0 (low + (stepM (u - x.1) x.2).1)) (by simpa using hl) fun y hy => hp y (List.mem_cons_of_mem _ hy)
    have sl : (stepM (u - x.1) x.2).1 ≤ (stepM (u - x.1) x.2).2 := by
      rcases step_cases u x.1 x.2 with ⟨_, e⟩ | ⟨_, e⟩ | ⟨_, e⟩ <;> rw [e]
      · exact Int.le_refl _
      · exact Int.le_refl _
      · show -x.2 ≤ x.2
        omega
    obtain ⟨k1, k2⟩ := PR_step low (stepM (u - x.1) x.2) (stepsU us s) sl
    have k := one_eq gx k1 k2
    show x.2 * (u - x.1).natAbs + costM us s = (x.1 * (PR (max 0 (low + (stepM (u - x.1) x.2).1)) (stepsU us s) - PR low (stepM (u - x.1) x.2 :: stepsU us s)) + AB (s.map (·.1)) (stepsU us s) _) - (u * (PR (max 0 (low + (stepM (u - x.1) x.2).1)) (stepsU us s) - PR low (stepM (u - x.1) x.2 :: stepsU us s)) + AB us (stepsU us s) _)
    omega
  | [], _ :: _, _, hl, _ => by simp at hl
  | _ :: _, [], _, hl, _ => by simp at hl
theorem cost_ge : ∀ {us vs : List Int} {s : List (Int × Int)} {low : Int}, us.length = s.length → vs.length = s.length → Pos s → AB (s.map (·.1)) (stepsU us s) low - AB vs (stepsU us s) low ≤ costM vs s
  | [], [], [], low, _, _, _ => Int.le_refl _
  | u :: us, v :: vs, x :: s, low, hl, hv, hp => by
    have gx := hp x List.mem_cons_self
    have ih := cost_ge (us := us) (vs := vs) (s := s) (low := max 0 (low + (stepM (u - x.1) x.2).1)) (by simpa using hl) (by simpa using hv) fun y hy => hp y (List.mem_cons_of_mem _ hy)
    have sl : (stepM (u - x.1) x.2).1 ≤ (stepM (u - x.1) x.2).2 ∧ -x.2 ≤ (stepM (u - x.1) x.2).1 ∧ (stepM (u - x.1) x.2).2 ≤ x.2 := by
      rcases step_cases u x.1 x.2 with ⟨_, e⟩ | ⟨_, e⟩ | ⟨_, e⟩ <;> rw [e]
      · exact ⟨Int.le_refl _, Int.le_refl _, by show -x.2 ≤ x.2; omega⟩
      · exact ⟨Int.le_refl _, by show -x.2 ≤ x.2; omega, Int.le_refl _⟩
      · exact ⟨by show -x.2 ≤ x.2; omega, Int.le_refl _, Int.le_refl _⟩
    obtain ⟨k1, k2⟩ := PR_step low (stepM (u - x.1) x.2) (stepsU us s) sl.1
    have k := one_ge (v := v) (w := x.1) (Int.le_trans sl.2.1 k1) (Int.le_trans k2 sl.2.2)
    show (x.1 * (PR (max 0 (low + (stepM (u - x.1) x.2).1)) (stepsU us s) - PR low (stepM (u - x.1) x.2 :: stepsU us s)) + AB (s.map (·.1)) (stepsU us s) _) - (v * (PR (max 0 (low + (stepM (u - x.1) x.2).1)) (stepsU us s) - PR low (stepM (u - x.1) x.2 :: stepsU us s)) + AB vs (stepsU us s) _) ≤ x.2 * (v - x.1).natAbs + costM vs s
    omega
  | [], _, _ :: _, _, hl, _, _ => by simp at hl
  | _, [], _ :: _, _, _, hv, _ => by simp at hv
  | _ :: _, _, [], _, hl, _, _ => by simp at hl
  | [], _ :: _, [], _, _, hv, _ => by simp at hv
/-! ### the best levels keep the rule, and none is cheaper -/
theorem lev_len : ∀ bl : List Blk, (levOf bl).length = (segsOf bl).length
  | [] => rfl
  | b :: r => by
    show (List.replicate b.2.length b.1 ++ levOf r).length = (b.2 ++ segsOf r).length
    rw [List.length_append, List.length_append, List.length_replicate, lev_len r]
theorem chain_rep {room v u : Int} : ∀ (n : Nat) {us : List Int}, v ≤ u → Chain room u us → Chain room v (List.replicate n u ++ us)
  | 0, us, h, k => by
    show Chain room v us
    cases us with
    | nil => exact Int.le_trans h (show u ≤ room from k)
    | cons w t => exact ⟨Int.le_trans h k.1, k.2⟩
  | n + 1, us, h, k => ⟨h, chain_rep n (Int.le_refl _) k⟩
theorem us_chain {room : Int} (r0 : 0 ≤ room) : ∀ {bl : List Blk} {v : Int}, bl.Pairwise (fun a b => a.1 ≤ b.1) → v ≤ room → (∀ b ∈ bl, v ≤ clM room b.1) → Chain room v (usOf room bl)
  | [], v, _, h, _ => h
  | b :: r, v, hp, h, hv => by
    obtain ⟨h1, h2⟩ := List.pairwise_cons.mp hp
    refine chain_rep _ (hv b List.mem_cons_self) (us_chain r0 h2 (by unfold clM; omega) fun x hx => ?_)
    have := h1 x hx
    unfold clM
    omega
structure Best (room : Int) (s : List (Int × Int)) (us : List Int) : Prop where
  len : us.length = s.length
  keep : Chain room 0 us
  cost : costM us s = AB (s.map (·.1)) (stepsU us s) 0 - room * LO 0 (stepsU us s)
  least : ∀ vs, vs.length = s.length → Chain room 0 vs → costM us s ≤ costM vs s
theorem best {srt : List (Int × Int) → List (Int × Int)} (hs : ∀ l, (srt l).Perm l ∧ (srt l).Pairwise fun x y => x.1 ≤ y.1) {s : List (Int × Int)} (hp : Pos s) {room : Int} (r0 : 0 ≤ room) : Best room s ((levelsM srt s).map (clM room)) := by
  obtain ⟨bl, gs, ne, rfl, e⟩ := levels_ok hs hp
  rw [e, ← us_lev]
  have hl : (usOf room bl).length = (segsOf bl).length := by rw [us_lev, List.length_map, lev_len]
  have tt := Tt_all r0 gs ne
  have ab := AB_eq tt
  rw [Int.zero_mul, Int.sub_zero] at ab
  have ec := cost_eq (low := 0) hl hp
  rw [stepsU_of, ab] at ec
  refine ⟨hl, us_chain r0 gs.up r0 fun b _ => by unfold clM; omega, by rw [stepsU_of]; exact ec, fun vs hv hc => ?_⟩
  have k1 := cost_ge (us := usOf room bl) (vs := vs) (low := 0) hl hv hp
  rw [stepsU_of] at k1
  have sl : (stepsOf room bl).length = (segsOf bl).length := by
    rw [← stepsU_of]
    have : ∀ (us : List Int) (s : List (Int × Int)), us.length = s.length → (stepsU us s).length = s.length := fun us => by
      induction us with
      | nil =>
        intro s h
        cases s with
        | nil => rfl
        | cons _ _ => simp at h
      | cons u us ih =>
        intro s h
        cases s with
        | nil => simp at h
        | cons x s => show (stepsU us s).length + 1 = s.length + 1; rw [ih s (by simpa using h)]
    exact this _ _ hl
  have k2 := AB_le (room := room) (us := vs) (st := stepsOf room bl) (v := 0) (low := 0) (by rw [hv, sl]) hc (Int.le_refl _)
  omega
end R
namespace R
/-! ### the moving over one bottom -/
/-- the sums of the numbers up to each -/
def rsM (t : Int) : List Int → List Int
  | [] => []
  | x :: xs => (t + x) :: rsM (t + x) xs
theorem rsM_snoc : ∀ (xs : List Int) (t x : Int), rsM t (xs ++ [x]) = rsM t xs ++ [t + xs.sum + x]
  | [], t, x => by show [t + x] = [t + 0 + x]; rw [Int.add_zero]
  | y :: ys, t, x => by
    show (t + y) :: rsM (t + y) (ys ++ [x]) = (t + y) :: (rsM (t + y) ys ++ [t + (y + ys.sum) + x])
    rw [rsM_snoc ys, Int.add_assoc t y]
theorem rsM_len : ∀ (xs : List Int) (t : Int), (rsM t xs).length = xs.length
  | [], _ => rfl
  | x :: xs, t => by show (rsM (t + x) xs).length + 1 = _; rw [rsM_len xs]; rfl
def lastM (l : List Int) : Int := l.getLastD 0
theorem rsM_lc (x : Int) (xs : List Int) (t : Int) : (rsM t (x :: xs)).getLastD t = (rsM (t + x) xs).getLastD (t + x) := by
  show ((t + x) :: rsM (t + x) xs).getLastD t = _
  rw [List.getLastD_cons]
theorem rsM_last : ∀ (xs : List Int) (t : Int), (rsM t xs).getLastD t = t + xs.sum
  | [], t => by show t = t + 0; omega
  | x :: xs, t => by
    rw [rsM_lc, rsM_last xs]
    show t + x + xs.sum = t + (x + xs.sum)
    omega
theorem lastM_sum (xs : List Int) : lastM (rsM 0 xs) = xs.sum := by
  unfold lastM
  rw [rsM_last, Int.zero_add]
def shiftM (ws os : List Int) : List Int := List.zipWith (fun a b => a - b) ws os
def timesM (room : Int) (lv os : List Int) : List Int := List.zipWith (fun l o => clM room l + o) lv os
def bestG (srt : List (Int × Int) → List (Int × Int)) (ws as : List Int) (e : Int) (gs : List Int) : List Int := timesM (e - lastM (rsM 0 as)) (levelsM srt (List.zip (shiftM ws (rsM 0 as)) gs)) (rsM 0 as)
def costI (ms gs : List Int) : Int := (List.zipWith (fun (m g : Int) => g * (m.natAbs : Int)) ms gs).sum
def stepsI (ms gs : List Int) : List (Int × Int) := List.zipWith stepM ms gs
/-! ### the same over fractions -/
def absR (x : Rat) : Rat := if x < 0 then -x else x
theorem absR_ge (x : Rat) : x ≤ absR x ∧ -x ≤ absR x ∧ 0 ≤ absR x := by
  unfold absR
  split <;> grind
theorem absR_or (x : Rat) : absR x = x ∨ absR x = -x := by
  unfold absR
  split <;> grind
def costR : List Rat → List Rat → List Int → Rat
  | t :: ts, w :: ws, g :: gs => (g : Rat) * absR (t - w) + costR ts ws gs
  | _, _, _ => 0
def worthR (E : Rat) : List Int → List Rat → List Rat → Rat
  | p :: q :: ps, w :: ws, a :: as => (p : Rat) * a + ((q : Rat) - (p : Rat)) * w + worthR E (q :: ps) ws as
  | p :: _, _, _ => -((p : Rat) * E)
  | [], _, _ => 0
def RiseOk : List Int → List Int → Prop
  | p :: q :: ps, g :: gs => 0 ≤ p ∧ q - p ≤ g ∧ p - q ≤ g ∧ RiseOk (q :: ps) gs
  | [p], [] => 0 ≤ p
  | _, _ => False
def KeepR (E : Rat) : Rat → List Rat → List Rat → Prop
  | v, t :: ts, a :: as => v + a ≤ t ∧ KeepR E t ts as
  | v, [], [] => v ≤ E
  | _, _, _ => False
theorem mul_le_l {p a b : Rat} (hp : 0 ≤ p) (h : a ≤ b) : p * a ≤ p * b := Rat.mul_le_mul_of_nonneg_left h hp
theorem abs_bound {d g x : Rat} (h1 : d ≤ g) (h2 : -g ≤ d) : d * x ≤ g * absR x := by
  have g0 : 0 ≤ g := by grind
  obtain ⟨k1, k2, k3⟩ := absR_ge x
  by_cases c : 0 ≤ x
  · have a1 := Rat.mul_le_mul_of_nonneg_right h1 c
    have a2 := mul_le_l g0 k1
    grind
  · have c : 0 ≤ -x := by grind
    have a1 := Rat.mul_le_mul_of_nonneg_right h2 c
    have a2 := mul_le_l g0 k2
    grind
/-- no times that keep the rule cost less than the prices come to -/
theorem weak {E : Rat} : ∀ {ts as ws : List Rat} {p : Int} {ps gs : List Int} {v : Rat}, KeepR E v ts as → ws.length = ts.length → RiseOk (p :: ps) gs → gs.length = ts.length → worthR E (p :: ps) ws as + (p : Rat) * v ≤ costR ts ws gs
  | [], [], [], p, [], [], v, h, _, hr, _ => by
    have h : v ≤ E := h
    have p0 : (0 : Rat) ≤ (p : Rat) := Rat.intCast_nonneg.mpr (show 0 ≤ p from hr)
    have := mul_le_l p0 h
    show -((p : Rat) * E) + (p : Rat) * v ≤ 0
    grind
  | t :: ts, a :: as, w :: ws, p, q :: ps, g :: gs, v, h, hl, hr, hg => by
    obtain ⟨h1, h2⟩ := h
    obtain ⟨r1, r2, r3, r4⟩ := hr
    have ih := weak (ws := ws) h2 (by simpa using hl) r4 (by simpa using hg)
    have p0 : (0 : Rat) ≤ (p : Rat) := Rat.intCast_nonneg.mpr r1
    have k1 := mul_le_l p0 h1
    have d1 : (p : Rat) - (q : Rat) ≤ (g : Rat) := by
      rw [← Rat.intCast_sub]
      exact Rat.intCast_le_intCast.mpr r3
    have d2 : -(g : Rat) ≤ (p : Rat) - (q : Rat) := by
      have : (q : Rat) - (p : Rat) ≤ (g : Rat) := by
        rw [← Rat.intCast_sub]
        exact Rat.intCast_le_intCast.mpr r2
      grind
    have k2 := abs_bound (x := t - w) d1 d2
    show (p : Rat) * a + ((q : Rat) - (p : Rat)) * w + worthR E (q :: ps) ws as + (p : Rat) * v ≤ (g : Rat) * absR (t - w) + costR ts ws gs
    grind
  | [], [], [], _, _ :: _, [], _, _, _, hr, hg => hr.elim
  | [], [], [], _, _ :: _, _ :: _, _, _, _, hr, hg => by simp at hg
  | [], [], [], _, [], _ :: _, _, _, _, hr, hg => by simp at hg
  | [], [], _ :: _, _, _, _, _, _, hl, _, _ => by simp at hl
  | [], _ :: _, _, _, _, _, _, h, _, _, _ => h.elim
  | _ :: _, [], _, _, _, _, _, h, _, _, _ => h.elim
  | _ :: _, _ :: _, [], _, _, _, _, _, hl, _, _ => by simp at hl
  | _ :: _, _ :: _, _ :: _, _, [], [], _, _, _, hr, hg => by simp at hg
  | _ :: _, _ :: _, _ :: _, _, [], _ :: _, _, _, _, hr, hg => hr.elim
  | _ :: _, _ :: _, _ :: _, _, _ :: _, [], _, _, _, hr, _ => hr.elim
/-! ### what is told is what the maths tells -/
theorem PL_head (st : List (Int × Int)) (low : Int) : ∃ r, PL low st = PR low st :: r := by
  cases st with
  | nil => exact ⟨[], rfl⟩
  | cons x s => exact ⟨_, rfl⟩
theorem PL_cons (x : Int × Int) (st : List (Int × Int)) (low : Int) : PL low (x :: st) = PR low (x :: st) :: PL (max 0 (low + x.1)) st := rfl
def StG : List (Int × Int) → List Int → Prop
  | x :: st, g :: gs => -g ≤ x.1 ∧ x.1 ≤ x.2 ∧ x.2 ≤ g ∧ StG st gs
  | [], [] => True
  | _, _ => False
theorem rise_PL : ∀ {st : List (Int × Int)} {gs : List Int} {low : Int}, StG st gs → 0 ≤ low → RiseOk (PL low st) gs
  | [], [], low, _, h0 => h0
  | x :: st, g :: gs, low, h, h0 => by
    obtain ⟨h1, h2, h3, h4⟩ := h
    have ih := rise_PL (low := max 0 (low + x.1)) h4 (by omega)
    have k := PR_step low x st h2
    have k0 := PR_ge (x :: st) low
    rw [PL_cons]
    obtain ⟨r, e⟩ := PL_head st (max 0 (low + x.1))
    rw [e] at ih ⊢
    exact ⟨by omega, by omega, by omega, ih⟩
  | [], _ :: _, _, h, _ => h.elim
  | _ :: _, [], _, h, _ => h.elim
theorem stG_I : ∀ {ms gs : List Int}, ms.length = gs.length → (∀ g ∈ gs, 0 < g) → StG (stepsI ms gs) gs
  | [], [], _, _ => trivial
  | m :: ms, g :: gs, h, hp => by
    have ih := stG_I (ms := ms) (gs := gs) (by simpa using h) fun x hx => hp x (List.mem_cons_of_mem _ hx)
    have g0 := hp g List.mem_cons_self
    show -g ≤ (stepM m g).1 ∧ (stepM m g).1 ≤ (stepM m g).2 ∧ (stepM m g).2 ≤ g ∧ StG (stepsI ms gs) gs
    refine ⟨?_, ?_, ?_, ih⟩ <;> · unfold stepM; split <;> (try split) <;> (simp; try omega)
  | [], _ :: _, h, _ => by simp at h
  | _ :: _, [], h, _ => by simp at h
theorem U_I : ∀ {us ws os gs : List Int}, us.length = os.length → ws.length = os.length → gs.length = os.length → stepsU us (List.zip (shiftM ws os) gs) = stepsI (List.zipWith (fun a b => a - b) (List.zipWith (fun u o => u + o) us os) ws) gs ∧ costM us (List.zip (shiftM ws os) gs) = costI (List.zipWith (fun a b => a - b) (List.zipWith (fun u o => u + o) us os) ws) gs
  | [], [], [], [], _, _, _ => ⟨rfl, rfl⟩
  | u :: us, w :: ws, o :: os, g :: gs, h1, h2, h3 => by
    obtain ⟨e1, e2⟩ := U_I (us := us) (ws := ws) (os := os) (gs := gs) (by simpa using h1) (by simpa using h2) (by simpa using h3)
    have e : u - (w - o) = u + o - w := by omega
    constructor
    · show stepM (u - (w - o)) g :: _ = stepM (u + o - w) g :: _
      rw [e]
      exact congrArg _ e1
    · show g * ((u - (w - o)).natAbs : Int) + costM us (List.zip (shiftM ws os) gs) = g * ((u + o - w).natAbs : Int) + costI _ gs
      rw [e, e2]
  | [], _, _ :: _, _, h, _, _ => by simp at h
  | _ :: _, _, [], _, h, _, _ => by simp at h
  | _, [], _ :: _, _, _, h, _ => by simp at h
  | _, _ :: _, [], _, _, h, _ => by simp at h
  | _, _, [], _ :: _, _, _, h => by simp at h
  | _, _, _ :: _, [], _, _, h => by simp at h
def worthI (E : Int) : List Int → List Int → List Int → Int
  | p :: q :: ps, w :: ws, a :: as => p * a + (q - p) * w + worthI E (q :: ps) ws as
  | p :: _, _, _ => -(p * E)
  | [], _, _ => 0
theorem AB_worth {E : Int} : ∀ {ws as : List Int} {st : List (Int × Int)} {t low : Int}, ws.length = as.length → st.length = as.length → AB (shiftM ws (rsM t as)) st low - (E - (rsM t as).getLastD t) * LO low st = worthI E (PL low st) ws as + t * PR low st
  | [], [], [], t, low, _, _ => by
    show 0 - (E - t) * low = -(low * E) + t * low
    grind
  | w :: ws, a :: as, x :: st, t, low, h1, h2 => by
    have ih := AB_worth (E := E) (ws := ws) (as := as) (st := st) (t := t + a) (low := max 0 (low + x.1)) (by simpa using h1) (by simpa using h2)
    rw [PL_cons]
    obtain ⟨r, e⟩ := PL_head st (max 0 (low + x.1))
    rw [e] at ih ⊢
    rw [rsM_lc]
    show (w - (t + a)) * (PR (max 0 (low + x.1)) st - PR low (x :: st)) + AB (shiftM ws (rsM (t + a) as)) st (max 0 (low + x.1)) - (E - (rsM (t + a) as).getLastD (t + a)) * LO (max 0 (low + x.1)) st = PR low (x :: st) * a + (PR (max 0 (low + x.1)) st - PR low (x :: st)) * w + worthI E (PR (max 0 (low + x.1)) st :: r) ws as + t * PR low (x :: st)
    generalize PR (max 0 (low + x.1)) st = q at *
    generalize PR low (x :: st) = p at *
    generalize AB (shiftM ws (rsM (t + a) as)) st (max 0 (low + x.1)) = ab at *
    generalize (E - (rsM (t + a) as).getLastD (t + a)) * LO (max 0 (low + x.1)) st = el at *
    grind
  | [], _ :: _, _, _, _, h, _ => by simp at h
  | _ :: _, [], _, _, _, h, _ => by simp at h
  | _, [], _ :: _, _, _, _, h => by simp at h
  | _, _ :: _, [], _, _, _, h => by simp at h
/-- whole numbers that are fractions over one bottom -/
def Sc (B : Nat) (is : List Int) (xs : List Rat) : Prop := is.map (fun i : Int => (i : Rat)) = xs.map fun x => x * (B : Rat)
theorem Sc.len {B : Nat} {is : List Int} {xs : List Rat} (h : Sc B is xs) : is.length = xs.length := by
  have := congrArg List.length h
  simpa using this
theorem Sc.tl {B : Nat} {i : Int} {is : List Int} {x : Rat} {xs : List Rat} (h : Sc B (i :: is) (x :: xs)) : (i : Rat) = x * (B : Rat) ∧ Sc B is xs := by
  have h : (i : Rat) :: is.map (fun i : Int => (i : Rat)) = (x * (B : Rat)) :: xs.map (fun x => x * (B : Rat)) := h
  injection h with h1 h2
  exact ⟨h1, h2⟩
theorem worth_sc {B : Nat} {e : Int} {E : Rat} (he : (e : Rat) = E * (B : Rat)) : ∀ {ps ws as : List Int} {W A : List Rat}, Sc B ws W → Sc B as A → ((worthI e ps ws as : Int) : Rat) = worthR E ps W A * (B : Rat)
  | [], _, _, _, _, _, _ => by
    show ((0 : Int) : Rat) = 0 * (B : Rat)
    grind
  | [p], ws, as, W, A, _, _ => by
    have e1 : worthI e [p] ws as = -(p * e) := by cases ws <;> cases as <;> rfl
    have e2 : worthR E [p] W A = -((p : Rat) * E) := by cases W <;> cases A <;> rfl
    rw [e1, e2, Rat.intCast_neg, Rat.intCast_mul, he]
    grind
  | p :: q :: ps, [], as, W, A, h1, _ => by
    have : W = [] := by have := h1.len; exact List.length_eq_zero_iff.mp this.symm
    subst this
    show ((-(p * e) : Int) : Rat) = -((p : Rat) * E) * (B : Rat)
    rw [Rat.intCast_neg, Rat.intCast_mul, he]
    grind
  | p :: q :: ps, w :: ws, [], W, A, h1, h2 => by
    have : A = [] := by have := h2.len; exact List.length_eq_zero_iff.mp this.symm
    subst this
    have e2 : worthR E (p :: q :: ps) W [] = -((p : Rat) * E) := by cases W <;> rfl
    rw [e2]
    show ((-(p * e) : Int) : Rat) = -((p : Rat) * E) * (B : Rat)
    rw [Rat.intCast_neg, Rat.intCast_mul, he]
    grind
  | p :: q :: ps, w :: ws, a :: as, [], _, h1, _ => by have := h1.len; simp at this
  | p :: q :: ps, w :: ws, a :: as, _ :: _, [], _, h2 => by have := h2.len; simp at this
  | p :: q :: ps, w :: ws, a :: as, w' :: W, a' :: A, h1, h2 => by
    obtain ⟨k1, k2⟩ := h1.tl
    obtain ⟨m1, m2⟩ := h2.tl
    have ih := worth_sc he (ps := q :: ps) k2 m2
    show ((p * a + (q - p) * w + worthI e (q :: ps) ws as : Int) : Rat) = ((p : Rat) * a' + ((q : Rat) - (p : Rat)) * w' + worthR E (q :: ps) W A) * (B : Rat)
    rw [Rat.intCast_add, Rat.intCast_add, Rat.intCast_mul, Rat.intCast_mul, Rat.intCast_sub, ih, k1, m1]
    grind
/-- a whole number by the bottom -/
def qB (B : Nat) (t : Int) : Rat := Rat.divInt t (B : Int)
theorem qB_mul {B : Nat} (hB : 0 < B) (t : Int) : qB B t * (B : Rat) = (t : Rat) := by
  have h : (B : Rat) ≠ 0 := fun z => by
    have := Rat.natCast_inj.mp (show (B : Rat) = ((0 : Nat) : Rat) from z)
    omega
  unfold qB
  rw [Rat.divInt_eq_div, Rat.intCast_natCast, Rat.div_def]
  have := Rat.mul_inv_cancel _ h
  grind
theorem qB_le {B : Nat} (hB : 0 < B) {x y : Rat} (h : x * (B : Rat) ≤ y * (B : Rat)) : x ≤ y := Rat.le_of_mul_le_mul_right h (Rat.natCast_pos.mpr hB)
theorem qB_eq {B : Nat} (hB : 0 < B) {x y : Rat} (h : x * (B : Rat) = y * (B : Rat)) : x = y := by
  have h1 : x ≤ y := qB_le hB (by rw [h]; exact Rat.le_refl)
  have h2 : y ≤ x := qB_le hB (by rw [h]; exact Rat.le_refl)
  grind
theorem abs_sc {B : Nat} (hB : 0 < B) {m : Int} {x : Rat} (h : (m : Rat) = x * (B : Rat)) : ((m.natAbs : Int) : Rat) = absR x * (B : Rat) := by
  have b0 : (0 : Rat) < (B : Rat) := Rat.natCast_pos.mpr hB
  unfold absR
  by_cases c : x < 0
  · rw [if_pos c]
    have k := Rat.mul_lt_mul_of_pos_right c b0
    rw [← h] at k
    have k : ((m : Int) : Rat) < ((0 : Int) : Rat) := by
      have : (0 : Rat) * (B : Rat) = ((0 : Int) : Rat) := by grind
      rw [← this]
      exact k
    have k := Rat.intCast_lt_intCast.mp k
    have e : (m.natAbs : Int) = -m := by omega
    rw [e, Rat.intCast_neg, h]
    grind
  · rw [if_neg c]
    have k := Rat.mul_le_mul_of_nonneg_right (show (0 : Rat) ≤ x by grind) (Rat.le_of_lt b0)
    rw [← h] at k
    have k : ((0 : Int) : Rat) ≤ ((m : Int) : Rat) := by
      have : (0 : Rat) * (B : Rat) = ((0 : Int) : Rat) := by grind
      rw [← this]
      exact k
    have k := Rat.intCast_le_intCast.mp k
    have e : (m.natAbs : Int) = m := by omega
    rw [e, h]
theorem cost_sc {B : Nat} (hB : 0 < B) : ∀ {ts ws gs : List Int} {W : List Rat}, Sc B ws W → ts.length = ws.length → gs.length = ws.length → ((costI (List.zipWith (fun a b => a - b) ts ws) gs : Int) : Rat) = costR (ts.map (qB B)) W gs * (B : Rat)
  | [], [], [], [], _, _, _ => by
    show ((0 : Int) : Rat) = 0 * (B : Rat)
    grind
  | t :: ts, w :: ws, g :: gs, w' :: W, h, hl, hg => by
    obtain ⟨k1, k2⟩ := h.tl
    have ih := cost_sc hB (ts := ts) (gs := gs) k2 (by simpa using hl) (by simpa using hg)
    have k : ((t - w : Int) : Rat) = (qB B t - w') * (B : Rat) := by
      rw [Rat.intCast_sub, ← qB_mul hB t, k1]
      grind
    have a := abs_sc hB k
    show ((g * ((t - w).natAbs : Int) + costI (List.zipWith (fun a b => a - b) ts ws) gs : Int) : Rat) = ((g : Rat) * absR (qB B t - w') + costR (ts.map (qB B)) W gs) * (B : Rat)
    rw [Rat.intCast_add, Rat.intCast_mul, a, ih]
    grind
  | _, _ :: _, _, [], h, _, _ => by have := h.len; simp at this
  | _, [], _, _ :: _, h, _, _ => by have := h.len; simp at this
  | _ :: _, [], _, _, _, h, _ => by simp at h
  | [], _ :: _, _, _, _, h, _ => by simp at h
  | _, [], _ :: _, _, _, _, h => by simp at h
  | _, _ :: _, [], _, _, _, h => by simp at h
theorem keep_sc {B : Nat} (hB : 0 < B) {e : Int} {E : Rat} (he : (e : Rat) = E * (B : Rat)) : ∀ {us as : List Int} {A : List Rat} {v t : Int} {x : Rat}, Sc B as A → us.length = as.length → Chain (e - (rsM t as).getLastD t) v us → x * (B : Rat) = ((v + t : Int) : Rat) → KeepR E x ((List.zipWith (fun u o => u + o) us (rsM t as)).map (qB B)) A
  | [], [], [], v, t, x, _, _, h, hx => by
    have h : v ≤ e - t := h
    refine qB_le hB ?_
    rw [hx, ← he]
    exact Rat.intCast_le_intCast.mpr (by omega)
  | u :: us, a :: as, a' :: A, v, t, x, hs, hl, h, hx => by
    obtain ⟨k1, k2⟩ := hs.tl
    obtain ⟨h1, h2⟩ := h
    rw [rsM_lc] at h2
    refine ⟨qB_le hB ?_, keep_sc hB he k2 (by simpa using hl) h2 (qB_mul hB _)⟩
    rw [qB_mul hB]
    have : (x + a') * (B : Rat) = ((v + t + a : Int) : Rat) := by
      rw [Rat.intCast_add, ← hx, k1]
      grind
    rw [this]
    exact Rat.intCast_le_intCast.mpr (show v + t + a ≤ u + (t + a) by omega)
  | _, _ :: _, [], _, _, _, h, _, _, _ => by have := h.len; simp at this
  | _, [], _ :: _, _, _, _, h, _, _, _ => by have := h.len; simp at this
  | [], _ :: _, _, _, _, _, _, h, _, _ => by simp at h
  | _ :: _, [], _, _, _, _, _, h, _, _ => by simp at h
theorem times_map (room : Int) : ∀ (lv os : List Int), timesM room lv os = List.zipWith (fun u o => u + o) (lv.map (clM room)) os
  | [], _ => by cases ‹List Int› <;> rfl
  | _ :: _, [] => rfl
  | l :: lv, o :: os => congrArg (List.cons _) (times_map room lv os)
theorem zip_pos : ∀ {xs gs : List Int}, (∀ g ∈ gs, 0 < g) → Pos (List.zip xs gs) := fun {xs gs} h x hx => h x.2 (List.of_mem_zip hx).2
/-- what is told of the moving: times, cost, prices -/
structure MovOk (B : Nat) (W A : List Rat) (E : Rat) (gs : List Int) (ts : List Int) (c : Int) (ps : List Int) : Prop where
  tl : ts.length = W.length
  pl : ps.length = W.length + 1
  keep : KeepR E 0 (ts.map (qB B)) A
  cost : costR (ts.map (qB B)) W gs = qB B c
  rise : RiseOk ps gs
  worth : worthR E ps W A = qB B c
theorem mov_ok {srt : List (Int × Int) → List (Int × Int)} (hs : ∀ l, (srt l).Perm l ∧ (srt l).Pairwise fun x y => x.1 ≤ y.1) {B : Nat} (hB : 0 < B) {ws as gs : List Int} {e : Int} {W A : List Rat} {E : Rat} (sw : Sc B ws W) (sa : Sc B as A) (he : (e : Rat) = E * (B : Rat)) (lw : ws.length = as.length) (lg : gs.length = as.length) (hg : ∀ g ∈ gs, 0 < g) (hr : 0 ≤ e - lastM (rsM 0 as)) :
    MovOk B W A E gs (bestG srt ws as e gs) (costI (List.zipWith (fun a b => a - b) (bestG srt ws as e gs) ws) gs) (PL 0 (stepsI (List.zipWith (fun a b => a - b) (bestG srt ws as e gs) ws) gs)) := by
  have bs := best hs (s := List.zip (shiftM ws (rsM 0 as)) gs) (zip_pos hg) hr
  have lo : (rsM 0 as).length = as.length := rsM_len as 0
  have lsh : (shiftM ws (rsM 0 as)).length = as.length := by unfold shiftM; rw [List.length_zipWith]; omega
  have lz : (List.zip (shiftM ws (rsM 0 as)) gs).length = as.length := by rw [List.length_zip]; omega
  have bl := bs.len
  have hT : bestG srt ws as e gs = List.zipWith (fun u o => u + o) ((levelsM srt (List.zip (shiftM ws (rsM 0 as)) gs)).map (clM (e - lastM (rsM 0 as)))) (rsM 0 as) := times_map _ _ _
  rw [hT]
  generalize (levelsM srt (List.zip (shiftM ws (rsM 0 as)) gs)).map (clM (e - lastM (rsM 0 as))) = us at *
  have lu : us.length = as.length := by omega
  obtain ⟨e1, e2⟩ := U_I (us := us) (ws := ws) (os := rsM 0 as) (gs := gs) (by omega) (by omega) (by omega)
  have lt : (List.zipWith (fun u o => u + o) us (rsM 0 as)).length = as.length := by rw [List.length_zipWith]; omega
  have lms : (List.zipWith (fun a b => a - b) (List.zipWith (fun u o => u + o) us (rsM 0 as)) ws).length = as.length := by rw [List.length_zipWith]; omega
  have lst : (stepsI (List.zipWith (fun a b => a - b) (List.zipWith (fun u o => u + o) us (rsM 0 as)) ws) gs).length = as.length := by
    unfold stepsI
    rw [List.length_zipWith]
    omega
  have bc := bs.cost
  rw [e1, e2, List.map_fst_zip (by omega)] at bc
  have aw := AB_worth (E := e) (ws := ws) (as := as) (st := stepsI (List.zipWith (fun a b => a - b) (List.zipWith (fun u o => u + o) us (rsM 0 as)) ws) gs) (t := 0) (low := 0) lw lst
  rw [Int.zero_mul, Int.add_zero] at aw
  have bc : costI (List.zipWith (fun a b => a - b) (List.zipWith (fun u o => u + o) us (rsM 0 as)) ws) gs = worthI e (PL 0 (stepsI (List.zipWith (fun a b => a - b) (List.zipWith (fun u o => u + o) us (rsM 0 as)) ws) gs)) ws as := by
    rw [← aw]
    exact bc
  have wl := sw.len
  refine ⟨by rw [lt]; omega, by rw [PL_len, lst]; omega, ?_, ?_, ?_, ?_⟩
  · refine keep_sc hB he sa lu bs.keep ?_
    show (0 : Rat) * (B : Rat) = ((0 : Int) : Rat)
    grind
  · refine qB_eq hB ?_
    rw [← cost_sc hB sw (by omega) (by omega), qB_mul hB]
  · exact rise_PL (stG_I (by omega) hg) (Int.le_refl _)
  · refine qB_eq hB ?_
    rw [← worth_sc he sw sa, qB_mul hB, bc]
theorem sum_sc {B : Nat} : ∀ {as : List Int} {A : List Rat}, Sc B as A → ((as.sum : Int) : Rat) = A.sum * (B : Rat)
  | [], [], _ => by
    show ((0 : Int) : Rat) = 0 * (B : Rat)
    grind
  | a :: as, x :: A, h => by
    obtain ⟨k1, k2⟩ := h.tl
    show ((a + as.sum : Int) : Rat) = (x + A.sum) * (B : Rat)
    rw [Rat.intCast_add, k1, sum_sc k2]
    grind
  | [], _ :: _, h => by have := h.len; simp at this
  | _ :: _, [], h => by have := h.len; simp at this
theorem room_sc {B : Nat} (hB : 0 < B) {as : List Int} {A : List Rat} {e : Int} {E : Rat} (sa : Sc B as A) (he : (e : Rat) = E * (B : Rat)) : e - lastM (rsM 0 as) < 0 ↔ E - A.sum < 0 := by
  have b0 : (0 : Rat) < (B : Rat) := Rat.natCast_pos.mpr hB
  have k : ((e - lastM (rsM 0 as) : Int) : Rat) = (E - A.sum) * (B : Rat) := by
    rw [lastM_sum, Rat.intCast_sub, sum_sc sa, he]
    grind
  have z : (0 : Rat) * (B : Rat) = ((0 : Int) : Rat) := by grind
  constructor
  · intro h
    have h := Rat.intCast_lt_intCast.mpr h
    rw [k, ← z] at h
    exact Rat.lt_of_mul_lt_mul_right h (Rat.le_of_lt b0)
  · intro h
    have h := Rat.mul_lt_mul_of_pos_right h b0
    rw [← k, z] at h
    exact Rat.intCast_lt_intCast.mp h
end R
namespace R
/-! ### sizes of what the moving laws reckon with -/
def BG : Rat := 1099511627776
theorem BG_eq : ((1099511627776 : Nat) : Rat) = BG := rfl
/-- whole by D, and not far from nought -/
structure Bd (D : Nat) (m : Nat) (x : Rat) : Prop where
  z : Iz D x
  lo : -(m : Rat) ≤ x
  hi : x ≤ (m : Rat)
theorem Bd.sz {D m : Nat} {x : Rat} (hD : 0 < D) (hd : D < 2 ^ 100) (hm : m ≤ 1099511627776) (h : Bd D m x) : Sz 150 x := by
  refine h.z.sz (M := m) hD h.lo h.hi ?_ (Nat.lt_of_lt_of_le hd (by decide))
  calc m * D ≤ 1099511627776 * D := Nat.mul_le_mul_right _ hm
    _ < 1099511627776 * 2 ^ 100 := Nat.mul_lt_mul_of_pos_left hd (by decide)
    _ ≤ 2 ^ 150 := by decide
theorem Bd.add {D a b : Nat} {x y : Rat} (hx : Bd D a x) (hy : Bd D b y) : Bd D (a + b) (x + y) := by
  obtain ⟨z1, l1, h1⟩ := hx
  obtain ⟨z2, l2, h2⟩ := hy
  exact ⟨z1.add z2, by rw [Rat.natCast_add]; grind, by rw [Rat.natCast_add]; grind⟩
theorem Bd.sub {D a b : Nat} {x y : Rat} (hx : Bd D a x) (hy : Bd D b y) : Bd D (a + b) (x - y) := by
  obtain ⟨z1, l1, h1⟩ := hx
  obtain ⟨z2, l2, h2⟩ := hy
  exact ⟨z1.sub z2, by rw [Rat.natCast_add]; grind, by rw [Rat.natCast_add]; grind⟩
theorem Bd.mono {D a b : Nat} {x : Rat} (hx : Bd D a x) (h : a ≤ b) : Bd D b x := by
  have : (a : Rat) ≤ (b : Rat) := Rat.natCast_le_natCast.mpr h
  obtain ⟨z1, l1, h1⟩ := hx
  exact ⟨z1, by grind, by grind⟩
theorem Bd.dvd {D E a : Nat} {x : Rat} (hx : Bd D a x) (h : D ∣ E) : Bd E a x := ⟨hx.z.dvd h, hx.lo, hx.hi⟩
theorem Bd.neg {D a : Nat} {x : Rat} (hx : Bd D a x) : Bd D a (-x) := by
  obtain ⟨⟨k, e⟩, l1, h1⟩ := hx
  refine ⟨⟨-k, ?_⟩, by grind, by grind⟩
  rw [Rat.intCast_neg, ← e]
  grind
theorem Bd.abs {D a : Nat} {x : Rat} (hx : Bd D a x) : Bd D a (absR x) := by
  rcases absR_or x with e | e <;> rw [e]
  · exact hx
  · exact hx.neg
theorem bd_zero (D m : Nat) : Bd D m 0 := by
  have : (0 : Rat) ≤ (m : Rat) := Rat.natCast_nonneg
  exact ⟨iz_zero D, by grind, this⟩
/-- times a whole number -/
theorem Bd.muli {D a b : Nat} {x : Rat} {i : Int} (hx : Bd D a x) (h : i.natAbs ≤ b) : Bd D (b * a) ((i : Rat) * x) := by
  obtain ⟨z, l1, h1⟩ := hx
  have zi : Iz D ((i : Rat) * x) := by
    obtain ⟨k, e⟩ := z
    refine ⟨i * k, ?_⟩
    rw [Rat.intCast_mul, ← e]
    grind
  have a0 : (0 : Rat) ≤ (a : Rat) := Rat.natCast_nonneg
  have b0 : (0 : Rat) ≤ (b : Rat) := Rat.natCast_nonneg
  have i1 : (i : Rat) ≤ (b : Rat) := by
    rw [← Rat.intCast_natCast]
    exact Rat.intCast_le_intCast.mpr (by omega)
  have i2 : -(b : Rat) ≤ (i : Rat) := by
    rw [← Rat.intCast_natCast, ← Rat.intCast_neg]
    exact Rat.intCast_le_intCast.mpr (by omega)
  have k1 := abs_bound (x := x) i1 i2
  have k2 := abs_bound (d := -(i : Rat)) (g := (b : Rat)) (x := x) (by grind) (by grind)
  have k3 : absR x ≤ (a : Rat) := by
    rcases absR_or x with e | e <;> rw [e] <;> grind
  have k4 := mul_le_l b0 k3
  exact ⟨zi, by rw [Rat.natCast_mul]; grind, by rw [Rat.natCast_mul]; grind⟩
/-! ### the cost, time by time -/
theorem costR_more : ∀ {ts ws : List Rat} {gs : List Int} {k : Nat} {t w : Rat} {g : Int}, ts[k]? = some t → ws[k]? = some w → gs[k]? = some g → costR (ts.take (k + 1)) (ws.take (k + 1)) (gs.take (k + 1)) = costR (ts.take k) (ws.take k) (gs.take k) + absR (t - w) * (g : Rat)
  | t' :: ts, w' :: ws, g' :: gs, 0, t, w, g, h1, h2, h3 => by
    obtain rfl : t' = t := Option.some.inj h1
    obtain rfl : w' = w := Option.some.inj h2
    obtain rfl : g' = g := Option.some.inj h3
    show (g' : Rat) * absR (t' - w') + costR (ts.take 0) (ws.take 0) (gs.take 0) = 0 + absR (t' - w') * (g' : Rat)
    rw [List.take_zero, List.take_zero, List.take_zero]
    show (g' : Rat) * absR (t' - w') + 0 = _
    grind
  | t' :: ts, w' :: ws, g' :: gs, k + 1, t, w, g, h1, h2, h3 => by
    have ih := costR_more (ts := ts) (ws := ws) (gs := gs) (k := k) h1 h2 h3
    show (g' : Rat) * absR (t' - w') + costR (ts.take (k + 1)) (ws.take (k + 1)) (gs.take (k + 1)) = (g' : Rat) * absR (t' - w') + costR (ts.take k) (ws.take k) (gs.take k) + absR (t - w) * (g : Rat)
    rw [ih]
    grind
  | [], _, _, k, _, _, _, h, _, _ => by simp at h
  | _ :: _, [], _, k, _, _, _, _, h, _ => by simp at h
  | _ :: _, _ :: _, [], k, _, _, _, _, _, h => by simp at h
/-! ### what the prices come to, time by time -/
def sumTo (f : Nat → Rat) : Nat → Rat
  | 0 => 0
  | n + 1 => sumTo f n + f n
theorem sumTo_shift (f : Nat → Rat) : ∀ n, sumTo f (n + 1) = f 0 + sumTo (fun i => f (i + 1)) n
  | 0 => by
    show 0 + f 0 = f 0 + 0
    grind
  | n + 1 => by
    show sumTo f (n + 1) + f (n + 1) = f 0 + (sumTo (fun i => f (i + 1)) n + f (n + 1))
    rw [sumTo_shift f n]
    grind
def termW (ps : List Int) (ws as : List Rat) (j : Nat) : Rat := ((ps.getD j 0 : Int) : Rat) * as.getD j 0 + (((ps.getD (j + 1) 0 : Int) : Rat) - ((ps.getD j 0 : Int) : Rat)) * ws.getD j 0
theorem worth_sum {E : Rat} : ∀ {ws as : List Rat} {ps : List Int}, as.length = ws.length → ps.length = ws.length + 1 → worthR E ps ws as = sumTo (termW ps ws as) ws.length - ((ps.getLastD 0 : Int) : Rat) * E
  | [], [], [p], _, _ => by
    show -((p : Rat) * E) = 0 - (p : Rat) * E
    grind
  | w :: ws, a :: as, p :: q :: ps, h1, h2 => by
    have ih := worth_sum (E := E) (ws := ws) (as := as) (ps := q :: ps) (by simpa using h1) (by simpa using h2)
    show (p : Rat) * a + ((q : Rat) - (p : Rat)) * w + worthR E (q :: ps) ws as = sumTo (termW (p :: q :: ps) (w :: ws) (a :: as)) (ws.length + 1) - _
    rw [sumTo_shift, ih, List.getLastD_cons, List.getLastD_cons, List.getLastD_cons]
    have e : termW (p :: q :: ps) (w :: ws) (a :: as) 0 = (p : Rat) * a + ((q : Rat) - (p : Rat)) * w := rfl
    have e2 : (fun i => termW (p :: q :: ps) (w :: ws) (a :: as) (i + 1)) = termW (q :: ps) ws as := rfl
    rw [e, e2]
    grind
  | [], _ :: _, _, h, _ => by simp at h
  | _ :: _, [], _, h, _ => by simp at h
  | [], [], [], _, h => by simp at h
  | [], [], _ :: _ :: _, _, h => by simp at h
  | _ :: _, _ :: _, [], _, h => by simp at h
  | _ :: _, _ :: _, [_], _, h => by simp at h
/-! ### prices are small -/
theorem LO_small : ∀ {st : List (Int × Int)} {gs : List Int} {low : Int}, StG st gs → (∀ g ∈ gs, g ≤ 9) → 0 ≤ low → (∀ x ∈ st, x.1 ≤ 9) → LO low st ≤ low + 9 * st.length
  | [], [], low, _, _, _, _ => by show low ≤ low + 9 * 0; omega
  | x :: st, g :: gs, low, h, hg, h0, hx => by
    have ih := LO_small (low := max 0 (low + x.1)) h.2.2.2 (fun y hy => hg y (List.mem_cons_of_mem _ hy)) (by omega) (fun y hy => hx y (List.mem_cons_of_mem _ hy))
    have k := hx x List.mem_cons_self
    show LO (max 0 (low + x.1)) st ≤ low + 9 * ((st.length + 1 : Nat) : Int)
    omega
  | [], _ :: _, _, h, _, _, _ => h.elim
  | _ :: _, [], _, h, _, _, _ => h.elim
theorem stG_9 : ∀ {st : List (Int × Int)} {gs : List Int}, StG st gs → (∀ g ∈ gs, g ≤ 9) → ∀ x ∈ st, x.1 ≤ 9
  | x :: st, g :: gs, h, hg, y, hy => by
    rcases List.mem_cons.mp hy with rfl | hy
    · have := hg g List.mem_cons_self
      have := h.1
      have := h.2.1
      have := h.2.2.1
      omega
    · exact stG_9 h.2.2.2 (fun z hz => hg z (List.mem_cons_of_mem _ hz)) y hy
  | [], _, _, _, y, hy => by cases hy
  | _ :: _, [], h, _, _, _ => h.elim
theorem PL_last : ∀ (st : List (Int × Int)) (low d : Int), (PL low st).getLastD d = LO low st
  | [], low, d => rfl
  | x :: st, low, d => by
    rw [PL_cons, List.getLastD_cons, PL_last st]
    rfl
theorem rise_small : ∀ {ps gs : List Int} {L : Int}, RiseOk ps gs → (∀ g ∈ gs, g ≤ 9) → ps.getLastD 0 ≤ L → ∀ p ∈ ps, 0 ≤ p ∧ p ≤ L + 9 * gs.length
  | [p], [], L, h, _, hl, x, hx => by
    rw [List.mem_singleton.mp hx]
    exact ⟨h, by show p ≤ L + 9 * 0; have : p ≤ L := hl; omega⟩
  | p :: q :: ps, g :: gs, L, h, hg, hl, x, hx => by
    have ih := rise_small (L := L) h.2.2.2 (fun z hz => hg z (List.mem_cons_of_mem _ hz)) (by rw [List.getLastD_cons, List.getLastD_cons] at hl; rw [List.getLastD_cons]; exact hl)
    have k := hg g List.mem_cons_self
    have k1 := h.1
    have k2 := h.2.2.1
    have e : ((g :: gs).length : Int) = gs.length + 1 := rfl
    rcases List.mem_cons.mp hx with rfl | hx
    · have := ih q List.mem_cons_self
      omega
    · have := ih x hx
      omega
  | [], [], _, h, _, _, _, _ => h.elim
  | [], _ :: _, _, h, _, _, _, _ => h.elim
  | [_], _ :: _, _, h, _, _, _, _ => h.elim
  | _ :: _ :: _, [], _, h, _, _, _, _ => h.elim
/-- all prices -/
theorem prices_small {ms gs : List Int} (hl : ms.length = gs.length) (h0 : ∀ g ∈ gs, 0 < g) (h9 : ∀ g ∈ gs, g ≤ 9) : ∀ p ∈ PL 0 (stepsI ms gs), 0 ≤ p ∧ p ≤ 18 * gs.length := by
  have st := stG_I hl h0
  have r := rise_PL (low := 0) st (Int.le_refl _)
  have k := LO_small (low := 0) st h9 (Int.le_refl _) (stG_9 st h9)
  have sl : (stepsI ms gs).length = gs.length := by
    unfold stepsI
    rw [List.length_zipWith]
    omega
  rw [sl] at k
  intro p hp
  have := rise_small r h9 (by rw [PL_last]; exact k) p hp
  omega
/-! ### times that keep the rule lie from nought to the end -/
theorem keep_in {E : Rat} : ∀ {ts as : List Rat} {v : Rat}, KeepR E v ts as → (∀ a ∈ as, 0 ≤ a) → v ≤ E ∧ ∀ t ∈ ts, v ≤ t ∧ t ≤ E
  | [], [], v, h, _ => ⟨h, fun _ ht => nomatch ht⟩
  | t :: ts, a :: as, v, h, ha => by
    obtain ⟨h1, h2⟩ := h
    obtain ⟨k1, k2⟩ := keep_in h2 fun x hx => ha x (List.mem_cons_of_mem _ hx)
    have a0 := ha a List.mem_cons_self
    refine ⟨by grind, fun x hx => ?_⟩
    rcases List.mem_cons.mp hx with rfl | hx
    · exact ⟨by grind, k1⟩
    · have := k2 x hx
      exact ⟨by grind, this.2⟩
  | [], _ :: _, _, h, _ => h.elim
  | _ :: _, [], _, h, _ => h.elim
theorem keep_at {E : Rat} : ∀ {ts as : List Rat} {v : Rat} {k : Nat} {s t a : Rat}, KeepR E v ts as → ts[k]? = some s → ts[k + 1]? = some t → as[k + 1]? = some a → s + a ≤ t
  | t1 :: t2 :: ts, a1 :: a2 :: as, v, 0, s, t, a, h, h1, h2, h3 => by
    obtain rfl : t1 = s := Option.some.inj h1
    obtain rfl : t2 = t := Option.some.inj h2
    obtain rfl : a2 = a := Option.some.inj h3
    exact h.2.1
  | t1 :: ts, a1 :: as, v, k + 1, s, t, a, h, h1, h2, h3 => keep_at (k := k) h.2 h1 h2 h3
  | [t1], a1 :: as, v, 0, s, t, a, h, h1, h2, h3 => by simp at h2
  | t1 :: t2 :: ts, [a1], v, 0, s, t, a, h, h1, h2, h3 => by simp at h3
  | [], _, _, _, _, _, _, _, h, _, _ => by simp at h
  | _ :: _, [], _, _, _, _, _, h, _, _, _ => h.elim
theorem keep_len {E : Rat} : ∀ {ts as : List Rat} {v : Rat}, KeepR E v ts as → ts.length = as.length
  | [], [], _, _ => rfl
  | t :: ts, a :: as, v, h => by show ts.length + 1 = as.length + 1; rw [keep_len h.2]
  | [], _ :: _, _, h => h.elim
  | _ :: _, [], _, h => h.elim
/-- so told, times keep the rule -/
theorem keep_of {E : Rat} : ∀ {ts as : List Rat} {v : Rat}, ts.length = as.length → ts ≠ [] → (∀ t a, ts[0]? = some t → as[0]? = some a → v + a ≤ t) → (∀ k s t a, ts[k]? = some s → ts[k + 1]? = some t → as[k + 1]? = some a → s + a ≤ t) → ts.getLastD 0 ≤ E → KeepR E v ts as
  | [t], [a], v, _, _, h0, _, hl => ⟨h0 t a rfl rfl, hl⟩
  | t :: t2 :: ts, a :: a2 :: as, v, hl, _, h0, hs, he => by
    refine ⟨h0 t a rfl rfl, keep_of (by simpa using hl) (by simp) (fun x y hx hy => hs 0 t x y rfl hx hy) (fun k s x y h1 h2 h3 => hs (k + 1) s x y h1 h2 h3) ?_⟩
    rw [List.getLastD_cons, List.getLastD_cons] at he
    rw [List.getLastD_cons]
    exact he
  | [], _, _, _, h, _, _, _ => absurd rfl h
  | _ :: _, [], _, h, _, _, _, _ => by simp at h
  | [_], _ :: _ :: _, _, h, _, _, _, _ => by simp at h
  | _ :: _ :: _, [_], _, h, _, _, _, _ => by simp at h
end R
namespace R
open PySem PySem.Spec PyProof.Rows L2
open TL (tl)
def topS (i : Nat) : Stmt := PySem.Challenge.pw_reels_k16_whole_none_is_cheaper.main.body.getD i (.Pass ⟨0, 0, 0, 0⟩)
abbrev s_common_divisor : Stmt := topS 5
theorem sc_common_divisor : FnScope ["one", "two"] ["one", "two"] (defScope s_common_divisor) := ⟨rfl, rfl, rfl, by decide +kernel, rfl, by decide +kernel, by decide +kernel⟩
abbrev s_made : Stmt := topS 6
theorem sc_made : FnScope ["top", "bottom", "divisor"] ["top", "bottom"] (defScope s_made) := ⟨rfl, rfl, rfl, by decide +kernel, rfl, by decide +kernel, by decide +kernel⟩
abbrev s_timed : Stmt := topS 7
theorem sc_timed : FnScope ["one", "two"] ["one", "two"] (defScope s_timed) := ⟨rfl, rfl, rfl, by decide +kernel, rfl, by decide +kernel, by decide +kernel⟩
abbrev s_is_below : Stmt := topS 8
theorem sc_is_below : FnScope ["one", "two"] ["one", "two"] (defScope s_is_below) := ⟨rfl, rfl, rfl, by decide +kernel, rfl, by decide +kernel, by decide +kernel⟩
abbrev s_larger : Stmt := topS 9
theorem sc_larger : FnScope ["one", "two"] ["one", "two"] (defScope s_larger) := ⟨rfl, rfl, rfl, by decide +kernel, rfl, by decide +kernel, by decide +kernel⟩
abbrev s_common_bottom : Stmt := topS 10
theorem sc_common_bottom : FnScope ["fractions", "bottom", "fraction"] ["fractions"] (defScope s_common_bottom) := ⟨rfl, rfl, rfl, by decide +kernel, rfl, by decide +kernel, by decide +kernel⟩
abbrev s_scaled : Stmt := topS 11
theorem sc_scaled : FnScope ["fraction", "bottom"] ["fraction", "bottom"] (defScope s_scaled) := ⟨rfl, rfl, rfl, by decide +kernel, rfl, by decide +kernel, by decide +kernel⟩
abbrev s_moved : Stmt := topS 13
theorem sc_moved : FnScope ["rows", "rule", "end", "wishes", "asked", "weights", "bottom", "times", "moves", "cost", "prices", "distance", "move", "row", "time", "weight", "wish"] ["rows", "rule", "end"] (defScope s_moved) := ⟨rfl, rfl, rfl, by decide +kernel, rfl, by decide +kernel, by decide +kernel⟩
abbrev s_distances : Stmt := topS 14
theorem sc_distances : FnScope ["rows", "rule", "each", "gap", "least", "asked", "row", "letters"] ["rows", "rule"] (defScope s_distances) := ⟨rfl, rfl, rfl, by decide +kernel, rfl, by decide +kernel, by decide +kernel⟩
abbrev s_as_pairs : Stmt := topS 15
theorem sc_as_pairs : FnScope ["times", "at"] ["times"] (defScope s_as_pairs) := ⟨rfl, rfl, rfl, by decide +kernel, rfl, by decide +kernel, by decide +kernel⟩
abbrev s_best_times : Stmt := topS 16
theorem sc_best_times : FnScope ["wishes", "asked", "end", "weights", "offsets", "room", "levels", "level", "offset", "wish"] ["wishes", "asked", "end", "weights"] (defScope s_best_times) := ⟨rfl, rfl, rfl, by decide +kernel, rfl, by decide +kernel, by decide +kernel⟩
abbrev s_running_sums : Stmt := topS 17
theorem sc_running_sums : FnScope ["numbers", "sums", "total", "number"] ["numbers"] (defScope s_running_sums) := ⟨rfl, rfl, rfl, by decide +kernel, rfl, by decide +kernel, by decide +kernel⟩
abbrev s_best_levels : Stmt := topS 18
theorem sc_best_levels : FnScope ["wishes", "weights", "blocks", "wish", "weight", "block", "together", "level", "member", "members"] ["wishes", "weights"] (defScope s_best_levels) := ⟨rfl, rfl, rfl, by decide +kernel, rfl, by decide +kernel, by decide +kernel⟩
abbrev s_middle : Stmt := topS 19
theorem sc_middle : FnScope ["together", "total", "passed", "wish", "weight"] ["together"] (defScope s_middle) := ⟨rfl, rfl, rfl, by decide +kernel, rfl, by decide +kernel, by decide +kernel⟩
abbrev s_price_step : Stmt := topS 20
theorem sc_price_step : FnScope ["move", "weight"] ["move", "weight"] (defScope s_price_step) := ⟨rfl, rfl, rfl, by decide +kernel, rfl, by decide +kernel, by decide +kernel⟩
abbrev s_least_prices : Stmt := topS 21
theorem sc_least_prices : FnScope ["steps", "lows", "least", "most", "prices", "low"] ["steps"] (defScope s_least_prices) := ⟨rfl, rfl, rfl, by decide +kernel, rfl, by decide +kernel, by decide +kernel⟩
abbrev s_Lbegun : Stmt := topS 23
theorem sc_Lbegun : FnScope ["_law_script", "_law_stirred", "_law_cell"] ["_law_script"] (defScope s_Lbegun) := ⟨rfl, rfl, rfl, by decide +kernel, rfl, by decide +kernel, by decide +kernel⟩
abbrev s_Ltake : Stmt := topS 24
theorem sc_Ltake : FnScope ["_law_box", "_law_many", "_law_number"] ["_law_box", "_law_many"] (defScope s_Ltake) := ⟨rfl, rfl, rfl, by decide +kernel, rfl, by decide +kernel, by decide +kernel⟩
abbrev s_Lfr : Stmt := topS 26
theorem sc_Lfr : FnScope ["_law_top", "_law_bottom", "_law_one", "_law_two", "_law_rest"] ["_law_top", "_law_bottom"] (defScope s_Lfr) := ⟨rfl, rfl, rfl, by decide +kernel, rfl, by decide +kernel, by decide +kernel⟩
abbrev s_Lsum : Stmt := topS 27
theorem sc_Lsum : FnScope ["_law_one", "_law_two"] ["_law_one", "_law_two"] (defScope s_Lsum) := ⟨rfl, rfl, rfl, by decide +kernel, rfl, by decide +kernel, by decide +kernel⟩
abbrev s_Lminus : Stmt := topS 28
theorem sc_Lminus : FnScope ["_law_one", "_law_two"] ["_law_one", "_law_two"] (defScope s_Lminus) := ⟨rfl, rfl, rfl, by decide +kernel, rfl, by decide +kernel, by decide +kernel⟩
abbrev s_Ltimes : Stmt := topS 29
theorem sc_Ltimes : FnScope ["_law_one", "_law_two"] ["_law_one", "_law_two"] (defScope s_Ltimes) := ⟨rfl, rfl, rfl, by decide +kernel, rfl, by decide +kernel, by decide +kernel⟩
abbrev s_Llow : Stmt := topS 31
theorem sc_Llow : FnScope ["_law_one", "_law_two"] ["_law_one", "_law_two"] (defScope s_Llow) := ⟨rfl, rfl, rfl, by decide +kernel, rfl, by decide +kernel, by decide +kernel⟩
abbrev s_Ltime : Stmt := topS 32
theorem sc_Ltime : FnScope ["_law_box", "_law_most", "_law_top", "_law_bottom"] ["_law_box", "_law_most"] (defScope s_Ltime) := ⟨rfl, rfl, rfl, by decide +kernel, rfl, by decide +kernel, by decide +kernel⟩
abbrev s_Lrows : Stmt := topS 33
theorem sc_Lrows : FnScope ["_law_box", "_law_rows_here", "_law_begin", "_law_k", "_law_words", "_law_end_here", "_law_j"] ["_law_box"] (defScope s_Lrows) := ⟨rfl, rfl, rfl, by decide +kernel, rfl, by decide +kernel, by decide +kernel⟩
abbrev s_Lrule : Stmt := topS 34
theorem sc_Lrule : FnScope ["_law_box", "_law_each", "_law_gap"] ["_law_box"] (defScope s_Lrule) := ⟨rfl, rfl, rfl, by decide +kernel, rfl, by decide +kernel, by decide +kernel⟩
abbrev s_Lfar : Stmt := topS 35
theorem sc_Lfar : FnScope ["_law_rows_here", "_law_rule_here", "_law_found", "_law_row", "_law_one", "_law_word"] ["_law_rows_here", "_law_rule_here"] (defScope s_Lfar) := ⟨rfl, rfl, rfl, by decide +kernel, rfl, by decide +kernel, by decide +kernel⟩
abbrev s_Lend : Stmt := topS 36
theorem sc_Lend : FnScope ["_law_box", "_law_gaps", "_law_whole", "_law_one", "_law_way"] ["_law_box", "_law_gaps"] (defScope s_Lend) := ⟨rfl, rfl, rfl, by decide +kernel, rfl, by decide +kernel, by decide +kernel⟩
abbrev s_Lwanted : Stmt := topS 37
theorem sc_Lwanted : FnScope ["_law_rows_here", "_law_found", "_law_row"] ["_law_rows_here"] (defScope s_Lwanted) := ⟨rfl, rfl, rfl, by decide +kernel, rfl, by decide +kernel, by decide +kernel⟩
abbrev s_Lcost : Stmt := topS 38
theorem sc_Lcost : FnScope ["_law_wanted_here", "_law_times_here", "_law_rule_here", "_law_whole", "_law_k", "_law_far_here"] ["_law_wanted_here", "_law_times_here", "_law_rule_here"] (defScope s_Lcost) := ⟨rfl, rfl, rfl, by decide +kernel, rfl, by decide +kernel, by decide +kernel⟩
abbrev s_Lmoved : Stmt := topS 39
theorem sc_Lmoved : FnScope ["_law_rows_here", "_law_rule_here", "_law_end_here", "e"] ["_law_rows_here", "_law_rule_here", "_law_end_here"] (defScope s_Lmoved) := ⟨rfl, rfl, rfl, by decide +kernel, rfl, by decide +kernel, by decide +kernel⟩
abbrev s_Lother : Stmt := topS 40
theorem sc_Lother : FnScope ["_law_box", "_law_told", "_law_gaps", "_law_end_here", "_law_left", "_law_one", "_law_k", "_law_shares", "_law_whole", "_law_times_here", "_law_half"] ["_law_box", "_law_told", "_law_gaps", "_law_end_here"] (defScope s_Lother) := ⟨rfl, rfl, rfl, by decide +kernel, rfl, by decide +kernel, by decide +kernel⟩
abbrev s_law : Stmt := topS 41
theorem sc_law : FnScope ["_law_script", "_law_box", "_law_rows_here", "_law_rule_here", "_law_gaps", "_law_end_here", "_law_found", "_law_wanted_here", "_law_turn", "_law_times_here"] ["_law_script"] (defScope s_law) := ⟨rfl, rfl, rfl, by decide +kernel, rfl, by decide +kernel, by decide +kernel⟩
structure Txt (K : PySem.W.Frag) (mg : Str → Option Value) : Prop where
  d_common_divisor : Df K mg "common_divisor" s_common_divisor ["one", "two"]
  d_made : Df K mg "made" s_made ["top", "bottom"]
  d_timed : Df K mg "timed" s_timed ["one", "two"]
  d_is_below : Df K mg "is_below" s_is_below ["one", "two"]
  d_larger : Df K mg "larger" s_larger ["one", "two"]
  d_common_bottom : Df K mg "common_bottom" s_common_bottom ["fractions"]
  d_scaled : Df K mg "scaled" s_scaled ["fraction", "bottom"]
  d_moved : Df K mg "moved" s_moved ["rows", "rule", "end"]
  d_distances : Df K mg "distances" s_distances ["rows", "rule"]
  d_as_pairs : Df K mg "as_pairs" s_as_pairs ["times"]
  d_best_times : Df K mg "best_times" s_best_times ["wishes", "asked", "end", "weights"]
  d_running_sums : Df K mg "running_sums" s_running_sums ["numbers"]
  d_best_levels : Df K mg "best_levels" s_best_levels ["wishes", "weights"]
  d_middle : Df K mg "middle" s_middle ["together"]
  d_price_step : Df K mg "price_step" s_price_step ["move", "weight"]
  d_least_prices : Df K mg "least_prices" s_least_prices ["steps"]
  d_Lbegun : Df K mg "_law_begun" s_Lbegun ["_law_script"]
  d_Ltake : Df K mg "_law_take" s_Ltake ["_law_box", "_law_many"]
  d_Lfr : Df K mg "_law_fr" s_Lfr ["_law_top", "_law_bottom"]
  d_Lsum : Df K mg "_law_sum" s_Lsum ["_law_one", "_law_two"]
  d_Lminus : Df K mg "_law_minus" s_Lminus ["_law_one", "_law_two"]
  d_Ltimes : Df K mg "_law_times" s_Ltimes ["_law_one", "_law_two"]
  d_Llow : Df K mg "_law_low" s_Llow ["_law_one", "_law_two"]
  d_Ltime : Df K mg "_law_time" s_Ltime ["_law_box", "_law_most"]
  d_Lrows : Df K mg "_law_rows" s_Lrows ["_law_box"]
  d_Lrule : Df K mg "_law_rule" s_Lrule ["_law_box"]
  d_Lfar : Df K mg "_law_far" s_Lfar ["_law_rows_here", "_law_rule_here"]
  d_Lend : Df K mg "_law_end" s_Lend ["_law_box", "_law_gaps"]
  d_Lwanted : Df K mg "_law_wanted" s_Lwanted ["_law_rows_here"]
  d_Lcost : Df K mg "_law_cost" s_Lcost ["_law_wanted_here", "_law_times_here", "_law_rule_here"]
  d_Lmoved : Df K mg "_law_moved" s_Lmoved ["_law_rows_here", "_law_rule_here", "_law_end_here"]
  d_Lother : Df K mg "_law_other" s_Lother ["_law_box", "_law_told", "_law_gaps", "_law_end_here"]
  d_law : Df K mg "law" s_law ["_law_script"]
  m_abs : mg "abs" = none
  m_len : mg "len" = none
  m_zip : mg "zip" = none
  m_sum : mg "sum" = none
  m_range : mg "range" = none
  m_min : mg "min" = none
  m_max : mg "max" = none
  m_sorted : mg "sorted" = none
  m_list : mg "list" = none
  m_int : mg "int" = none
  m_isinstance : mg "isinstance" = none
  m_ValueError : mg "ValueError" = none
  e_TooTight : ∃ C, ExcT K mg "TooTight" C
  e_ReelError : ∃ C, ExcT K mg "ReelError" C
  x_own : ∀ C : Addr, mg "TooTight" = some (.ref C) → ExcC K C
  x_reel : ∀ C C2 : Addr, mg "TooTight" = some (.ref C) → mg "ReelError" = some (.ref C2) → PySem.W.exmOne K (.ref C) (.ref C2) = some true
  x_self : ∀ C : Addr, mg "TooTight" = some (.ref C) → PySem.W.kitOne K (.ref C) (.ref C) = some true
  x_ve : ∀ C : Addr, mg "TooTight" = some (.ref C) → PySem.W.kitOne K (.ref C) (.type "ValueError") = some true
  c_NOUGHT : ∃ a : Addr, (∃ u, mg "NOUGHT" = some u ∧ RelV (.ref a) u) ∧ ∀ H : Hp, SqT K H a [.int 0, .int 1]
/-! ### fractions on the heap -/
def dF (q : Rat) : PyData := .tuple [.int q.num, .int (q.den : Int)]
theorem dF_at {K : PySem.W.Frag} {H : Hp} {v : V} {q : Rat} (h : Dp K H v (dF q)) : ∃ a, v = .ref a ∧ SqT K H a [.int q.num, .int (q.den : Int)] := by
  unfold dF at h
  cases h with
  | tup hs ha =>
    cases ha with
    | cons h1 h2 =>
      cases h1
      cases h2 with
      | cons h3 h4 =>
        cases h3
        cases h4
        exact ⟨_, rfl, hs⟩
theorem dF_mk {K : PySem.W.Frag} {H : Hp} {p : Addr} {q : Rat} (h : SqT K H p [.int q.num, .int (q.den : Int)]) : Dp K H (.ref p) (dF q) := .tup h (.cons (.int _) (.cons (.int _) .nil))
def spGcd : Sp := fun vs H Q _ => ∃ i j : Int, vs = [.int i, .int j] ∧ Q (.int (Nat.gcd i.natAbs j.natAbs : Nat)) H
def spMade (K : PySem.W.Frag) : Sp := fun vs H Q _ => ∃ t b : Int, vs = [.int t, .int b] ∧ b ≠ 0 ∧ b.natAbs < 2 ^ 9000 ∧ ∀ H' v, Same H H' → Dp K H' v (dF (Rat.divInt t b)) → Q v H'
def spF2 (K : PySem.W.Frag) (f : Rat → Rat → Rat) (C : Rat → Rat → Prop) : Sp := fun vs H Q _ => ∃ (u v : V) (x y : Rat) (n m : Nat), vs = [u, v] ∧ Dp K H u (dF x) ∧ Dp K H v (dF y) ∧ Sz n x ∧ Sz m y ∧ n + m ≤ 9000 ∧ C x y ∧
  ∀ H' z, Same H H' → Dp K H' z (dF (f x y)) → Q z H'
def spLow (K : PySem.W.Frag) : Sp := fun vs H Q _ => ∃ (u v : V) (x y : Rat) (n m : Nat), vs = [u, v] ∧ Dp K H u (dF x) ∧ Dp K H v (dF y) ∧ Sz n x ∧ Sz m y ∧ n + m ≤ 9000 ∧ Q (.bl (decide (x < y))) H
theorem Sz.pos {n : Nat} {x : Rat} (h : Sz n x) : 0 < n := by
  have h1 := h.den
  have h2 := x.den_nz
  cases n with
  | zero =>
    have : x.den < 1 := h1
    omega
  | succ n => exact Nat.succ_pos n
theorem mnd {n m : Nat} {x y : Rat} (hx : Sz n x) (hy : Sz m y) (h : n + m ≤ 9000) : CMulW x.num (y.den : Int) := wide_mul hx.num hy.den' hx.pos hy.pos (by omega)
theorem mnd' {n m : Nat} {x y : Rat} (hx : Sz n x) (hy : Sz m y) (h : n + m ≤ 9000) : CMulW y.num (x.den : Int) := wide_mul hy.num hx.den' hy.pos hx.pos (by omega)
theorem mdd {n m : Nat} {x y : Rat} (hx : Sz n x) (hy : Sz m y) (h : n + m ≤ 9000) : CMulW (x.den : Int) (y.den : Int) := wide_mul hx.den' hy.den' hx.pos hy.pos (by omega)
theorem mnn {n m : Nat} {x y : Rat} (hx : Sz n x) (hy : Sz m y) (h : n + m ≤ 9000) : CMulW x.num y.num := wide_mul hx.num hy.num hx.pos hy.pos (by omega)
theorem mdn {n m : Nat} {x y : Rat} (hx : Sz n x) (hy : Sz m y) (h : n + m ≤ 9000) : CMulW (x.den : Int) y.num := wide_mul hx.den' hy.num hx.pos hy.pos (by omega)
theorem up9 {i : Int} {n : Nat} (h : i.natAbs < 2 ^ n) (k : n ≤ 9000) : i.natAbs < 2 ^ 9000 := Nat.lt_of_lt_of_le h (Nat.pow_le_pow_right (by decide) k)
theorem num_zero {y : Rat} (h : y.num ≠ 0) : y ≠ 0 := fun e => h (by rw [e]; rfl)
theorem p20 {i : Int} (h : i.natAbs < 2 ^ 20) : i.natAbs < 2 ^ 9000 := Nat.lt_of_lt_of_le h (Nat.pow_le_pow_right (by decide) (by decide))
/-! ### the box of draws: a list of ints and a number, at b and l -/
def hid (b l : Addr) (H : Hp) : Hp := fun a => if a = b ∨ a = l then none else H a
structure Bx (H : Hp) (b l : Addr) : Prop where
  ne : b ≠ l
  ex : ∃ (xs : List Int) (st : Int), H b = some (.lst [.ref l, .int st]) ∧ H l = some (.lst (xs.map V.int))
theorem hid_b {b l : Addr} {H : Hp} {o : HO} : hid b l (upd H b o) = hid b l H := by
  funext a
  unfold hid upd
  split
  · rfl
  · rename_i h
    rw [if_neg (fun e => h (.inl e))]
theorem hid_l {b l : Addr} {H : Hp} {o : HO} : hid b l (upd H l o) = hid b l H := by
  funext a
  unfold hid upd
  split
  · rfl
  · rename_i h
    rw [if_neg (fun e => h (.inr e))]
theorem Same.hid {b l : Addr} {H H' : Hp} (s : Same H H') : Same (hid b l H) (hid b l H') := fun a o h => by
  unfold R.hid at h ⊢
  split at h
  · cases h
  · rename_i k
    rw [if_neg k]
    exact s _ _ h
theorem hid_same {b l : Addr} {H : Hp} : Same (hid b l H) H := fun a o h => by
  unfold hid at h
  split at h
  · cases h
  · exact h
theorem Bx.mono {b l : Addr} {H H' : Hp} (B : Bx H b l) (s : Same H H') : Bx H' b l := by
  obtain ⟨xs, st, h1, h2⟩ := B.ex
  exact ⟨B.ne, xs, st, s _ _ h1, s _ _ h2⟩
theorem dpa_ints {K : PySem.W.Frag} {H : Hp} : ∀ xs : List Int, DpAll K H (xs.map V.int) (xs.map PyData.int)
  | [] => .nil
  | _ :: r => .cons (.int _) (dpa_ints r)
theorem lay_ints : ∀ xs : List Int, PyData.canLayAll0 (xs.map PyData.int) = true
  | [] => rfl
  | _ :: r => by
    show (PyData.canLay0 _ && PyData.canLayAll0 (r.map PyData.int)) = true
    rw [lay_ints r]
    rfl
theorem depth_ints : ∀ xs : List Int, PyData.depthAll (xs.map PyData.int) = 0
  | [] => rfl
  | _ :: r => by
    show max (PyData.depth _) (PyData.depthAll (r.map PyData.int)) = 0
    rw [depth_ints r]
    rfl
theorem shaped_ints (xs : List Int) : SeqAt.shaped (.list (xs.map PyData.int)) = true := by
  unfold SeqAt.shaped
  rw [show PyData.canLay0 (.list (xs.map PyData.int)) = true from lay_ints xs, show PyData.depth (.list (xs.map PyData.int)) = 1 by
    show PyData.depthAll (xs.map PyData.int) + 1 = 1
    rw [depth_ints]]
  rfl
theorem fmod_rg {x m : Int} (h : 0 < m) : 0 ≤ x.fmod m ∧ x.fmod m < m := by
  rw [Int.fmod_eq_emod_of_nonneg _ (by omega)]
  exact ⟨Int.emod_nonneg _ (by omega), Int.emod_lt_of_pos _ h⟩
def spBegun (K : PySem.W.Frag) : Sp := fun vs H Q _ => ∃ (a : Addr) (ns : List Int), vs = [.ref a] ∧ SqL K H a (ns.map V.int) ∧ ∀ H' b l, Same H H' → H b = none → H l = none → Bx H' b l → Q (.ref b) H'
def spTake (K : PySem.W.Frag) : Sp := fun vs H Q _ => ∃ (b l : Addr) (m : Int), vs = [.ref b, .int m] ∧ Bx H b l ∧ 0 < m ∧ m < 1073741824 ∧ ∀ H' (r : Int), Same (hid b l H) (hid b l H') → Bx H' b l → 0 ≤ r → r < m → Q (.int r) H'
theorem ixN0 {n : Nat} : ixN (n + 1) 0 = some 0 := by
  unfold ixN
  rw [if_pos (by decide), if_pos (by omega)]
  rfl
theorem hid_at {b l p : Addr} {H : Hp} {o : HO} (B : Bx H b l) (hp : H p = none) : hid b l (upd H p o) p = some o := by
  obtain ⟨xs, st, h1, h2⟩ := B.ex
  unfold hid
  rw [if_neg, upd_same]
  rintro (e | e)
  · rw [e, h1] at hp
    cases hp
  · rw [e, h2] at hp
    cases hp
theorem hid_tup {K : PySem.W.Frag} {b l a : Addr} {H : Hp} {xs : List V} (B : Bx H b l) (h : SqT K H a xs) : SqT K (hid b l H) a xs := by
  obtain ⟨ys, st, h1, h2⟩ := B.ex
  have key : ∀ u : HO, H a = some u → (∀ zs, u ≠ .lst zs) → hid b l H a = some u := by
    intro u hu hn
    unfold hid
    rw [if_neg, hu]
    rintro (e | e)
    · rw [e, h1] at hu
      exact hn _ (Option.some.inj hu).symm
    · rw [e, h2] at hu
      exact hn _ (Option.some.inj hu).symm
  rcases h with (h | ⟨o, h⟩) | h
  · exact .inl (.inl (key _ h (fun _ z => nomatch z)))
  · exact .inl (.inr ⟨o, key _ h (fun _ z => nomatch z)⟩)
  · exact .inr h
theorem frac_hid {K : PySem.W.Frag} {b l : Addr} {H : Hp} {v : V} {q : Rat} (B : Bx H b l) (h : Dp K H v (dF q)) : Dp K (hid b l H) v (dF q) := by
  obtain ⟨a, rfl, h2⟩ := dF_at h
  exact dF_mk (hid_tup B h2)
theorem frac_keep {K : PySem.W.Frag} {b l : Addr} {H H' : Hp} {v : V} {q : Rat} (h : Dp K H v (dF q)) (B : Bx H b l) (s : Same (hid b l H) (hid b l H')) : Dp K H' v (dF q) := dp_mono hid_same _ _ (dp_mono s _ _ (frac_hid B h))
/-! ### alike: the same data -/
theorem iteY {c : Bool} {A B : Prop} (h : c = true) (a : A) : if c = true then A else B := by
  rw [if_pos h]
  exact a
theorem iteN {c : Bool} {A B : Prop} (h : c = false) (b : B) : if c = true then A else B := by
  rw [if_neg (by rw [h]; exact Bool.false_ne_true)]
  exact b
theorem tyL {K : PySem.W.Frag} {H : Hp} {a : Addr} {xs : List V} (h : SqL K H a xs) : TyX K H (.ref a) (.type "list") := by
  rcases h with (h | ⟨o, h⟩) | ⟨o, its, n, h1, h2, _⟩
  · exact .base (.lst h)
  · exact .base (.frz h)
  · exact .kList h1 h2
theorem tyT {K : PySem.W.Frag} {H : Hp} {a : Addr} {xs : List V} (h : SqT K H a xs) : TyX K H (.ref a) (.type "tuple") := by
  rcases h with (h | ⟨o, h⟩) | ⟨o, its, n, h1, h2, _⟩
  · exact .base (.tup h)
  · exact .fTuple h
  · exact .kTuple h1 h2
theorem rIx_of {K : PySem.W.Frag} {H : Hp} {a : Addr} {xs : List V} {j : Nat} {v : V} {Q : VK} (h : SqL K H a xs ∨ SqT K H a xs) (hv : xs[j]? = some v) (q : Q v H) : rIx K (.ref a) (.int (j : Int)) H Q := by
  rcases h with h | h
  · exact .inl ⟨_, _, _, _, rfl, rfl, h, atI_nat hv, q⟩
  · exact .inr (.inl ⟨_, _, _, _, rfl, rfl, h, atI_nat hv, q⟩)
mutual
def szOk : PyData → Bool
  | .list xs | .tuple xs => decide (xs.length < 2 ^ 62) && szAll xs
  | _ => true
def szAll : List PyData → Bool
  | [] => true
  | x :: xs => szOk x && szAll xs
end
theorem szAll_at : ∀ {ds : List PyData} {i : Nat} {d : PyData}, szAll ds = true → ds[i]? = some d → szOk d = true
  | [], _, _, _, h => by simp at h
  | x :: r, 0, d, a, h => by
    have e : x = d := Option.some.inj h
    have := Bool.and_eq_true_iff.mp (show (szOk x && szAll r) = true from a)
    rw [← e]
    exact this.1
  | x :: r, i + 1, d, a, h => szAll_at (ds := r) (i := i) (Bool.and_eq_true_iff.mp (show (szOk x && szAll r) = true from a)).2 h
theorem depth_at : ∀ {ds : List PyData} {i : Nat} {d : PyData}, ds[i]? = some d → d.depth ≤ PyData.depthAll ds
  | [], _, _, h => by simp at h
  | x :: r, 0, d, h => by
    have e : x = d := Option.some.inj h
    rw [← e]
    exact Nat.le_max_left _ _
  | x :: r, i + 1, d, h => Nat.le_trans (depth_at (ds := r) (i := i) h) (Nat.le_max_right _ _)
theorem dpa_at {K : PySem.W.Frag} {H : Hp} : ∀ {vs : List V} {ds : List PyData} {i : Nat} {v : V}, DpAll K H vs ds → vs[i]? = some v → ∃ d, ds[i]? = some d ∧ Dp K H v d
  | [], _, _, _, _, h => by simp at h
  | x :: r, _, 0, v, .cons h1 h2, h => by
    have e : x = v := Option.some.inj h
    rw [← e]
    exact ⟨_, rfl, h1⟩
  | x :: r, _, i + 1, v, .cons h1 h2, h => dpa_at (vs := r) (i := i) h2 h
theorem dpa_len {K : PySem.W.Frag} {H : Hp} : ∀ {vs : List V} {ds : List PyData}, DpAll K H vs ds → vs.length = ds.length
  | _, _, .nil => rfl
  | _, _, .cons _ h => by rw [List.length_cons, List.length_cons, dpa_len h]
def spAlike (K : PySem.W.Frag) (n : Nat) : Sp := fun vs H Q _ => ∃ (u v : V) (d : PyData), vs = [u, v] ∧ Dp K H u d ∧ Dp K H v d ∧ d.depth < n ∧ szOk d = true ∧ Q (.bl true) H
/-! ### shows on the heap -/
def dS (s : St3) : PyData := .tuple [dF s.1, dF s.2.1, dF s.2.2]
def dSh (xs : List St3) : PyData := .list (xs.map dS)
def dRow (x : Rat × Rat × St3) : PyData := .tuple [dF x.1, dF x.2.1, dS x.2.2]
mutual
def tupD : PyData → Bool
  | .list _ | .dict _ => false
  | .tuple xs => tupA xs
  | _ => true
def tupA : List PyData → Bool
  | [] => true
  | x :: xs => tupD x && tupA xs
end
def IsL (H : Hp) (a : Addr) : Prop := ∃ xs, H a = some (.lst xs)
theorem hid_tupL {K : PySem.W.Frag} {b l a : Addr} {H : Hp} {xs : List V} (Lb : IsL H b) (Ll : IsL H l) (h : SqT K H a xs) : SqT K (hid b l H) a xs := by
  obtain ⟨x1, h1⟩ := Lb
  obtain ⟨x2, h2⟩ := Ll
  have key : ∀ u : HO, H a = some u → (∀ zs, u ≠ .lst zs) → hid b l H a = some u := by
    intro u hu hn
    unfold hid
    rw [if_neg, hu]
    rintro (e | e)
    · rw [e, h1] at hu
      exact hn _ (Option.some.inj hu).symm
    · rw [e, h2] at hu
      exact hn _ (Option.some.inj hu).symm
  rcases h with (h | ⟨o, h⟩) | h
  · exact .inl (.inl (key _ h (fun _ z => nomatch z)))
  · exact .inl (.inr ⟨o, key _ h (fun _ z => nomatch z)⟩)
  · exact .inr h
mutual
theorem dp_hid {K : PySem.W.Frag} {b l : Addr} {H : Hp} (Lb : IsL H b) (Ll : IsL H l) : ∀ (d : PyData) (v : V), tupD d = true → Dp K H v d → Dp K (hid b l H) v d
  | .none, _, _, h => by cases h; exact .non
  | .bool _, _, _, h => by cases h; exact .bl _
  | .int _, _, _, h => by cases h; exact .int _
  | .str _, _, _, h => by cases h; exact .str _
  | .list ds, _, z, _ => by cases z
  | .tuple ds, _, z, h => by
    cases h with
    | tup hs ha => exact .tup (hid_tupL Lb Ll hs) (dpa_hid Lb Ll ds _ z ha)
  | .dict _, _, z, _ => by cases z
theorem dpa_hid {K : PySem.W.Frag} {b l : Addr} {H : Hp} (Lb : IsL H b) (Ll : IsL H l) : ∀ (ds : List PyData) (vs : List V), tupA ds = true → DpAll K H vs ds → DpAll K (hid b l H) vs ds
  | [], _, _, h => by cases h; exact .nil
  | d :: ds, _, z, h => by
    have z2 := Bool.and_eq_true_iff.mp (show (tupD d && tupA ds) = true from z)
    cases h with
    | cons h1 h2 => exact .cons (dp_hid Lb Ll d _ z2.1 h1) (dpa_hid Lb Ll ds _ z2.2 h2)
end
theorem tupD_dF (q : Rat) : tupD (dF q) = true := rfl
theorem tupD_dS (s : St3) : tupD (dS s) = true := rfl
theorem tupA_dS : ∀ xs : List St3, tupA (xs.map dS) = true
  | [] => rfl
  | s :: r => by
    show (tupD (dS s) && tupA (r.map dS)) = true
    rw [tupA_dS r]
    rfl
theorem dS_at {K : PySem.W.Frag} {H : Hp} {v : V} {s : St3} (h : Dp K H v (dS s)) : ∃ a v1 v2 v3, v = .ref a ∧ SqT K H a [v1, v2, v3] ∧ Dp K H v1 (dF s.1) ∧ Dp K H v2 (dF s.2.1) ∧ Dp K H v3 (dF s.2.2) := by
  unfold dS at h
  cases h with
  | tup hs ha =>
    cases ha with
    | cons h1 h2 =>
      cases h2 with
      | cons h3 h4 =>
        cases h4 with
        | cons h5 h6 =>
          cases h6
          exact ⟨_, _, _, _, rfl, hs, h1, h3, h5⟩
theorem dS_mk {K : PySem.W.Frag} {H : Hp} {p : Addr} {v1 v2 v3 : V} {s : St3} (h : SqT K H p [v1, v2, v3]) (h1 : Dp K H v1 (dF s.1)) (h2 : Dp K H v2 (dF s.2.1)) (h3 : Dp K H v3 (dF s.2.2)) : Dp K H (.ref p) (dS s) := .tup h (.cons h1 (.cons h2 (.cons h3 .nil)))
theorem dRow_at {K : PySem.W.Frag} {H : Hp} {v : V} {x : Rat × Rat × St3} (h : Dp K H v (dRow x)) : ∃ a v1 v2 v3, v = .ref a ∧ SqT K H a [v1, v2, v3] ∧ Dp K H v1 (dF x.1) ∧ Dp K H v2 (dF x.2.1) ∧ Dp K H v3 (dS x.2.2) := by
  unfold dRow at h
  cases h with
  | tup hs ha =>
    cases ha with
    | cons h1 h2 =>
      cases h2 with
      | cons h3 h4 =>
        cases h4 with
        | cons h5 h6 =>
          cases h6
          exact ⟨_, _, _, _, rfl, hs, h1, h3, h5⟩
theorem dRow_mk {K : PySem.W.Frag} {H : Hp} {p : Addr} {v1 v2 v3 : V} {x : Rat × Rat × St3} (h : SqT K H p [v1, v2, v3]) (h1 : Dp K H v1 (dF x.1)) (h2 : Dp K H v2 (dF x.2.1)) (h3 : Dp K H v3 (dS x.2.2)) : Dp K H (.ref p) (dRow x) := .tup h (.cons h1 (.cons h2 (.cons h3 .nil)))
theorem dSh_at {K : PySem.W.Frag} {H : Hp} {v : V} {xs : List St3} (h : Dp K H v (dSh xs)) : ∃ a vs, v = .ref a ∧ SqL K H a vs ∧ DpAll K H vs (xs.map dS) := by
  unfold dSh at h
  cases h with
  | lst hs ha => exact ⟨_, _, rfl, hs, ha⟩
theorem dpa_map {α : Type} {K : PySem.W.Frag} {H : Hp} {f : α → PyData} {vs : List V} {xs : List α} {i : Nat} {v : V} (h : DpAll K H vs (xs.map f)) (hv : vs[i]? = some v) : ∃ s, xs[i]? = some s ∧ Dp K H v (f s) := by
  obtain ⟨d, h1, h2⟩ := dpa_at h hv
  rw [List.getElem?_map] at h1
  cases e : xs[i]? with
  | none =>
    rw [e] at h1
    cases h1
  | some s =>
    rw [e] at h1
    exact ⟨s, rfl, by rw [show d = f s from (Option.some.inj h1).symm] at h2; exact h2⟩
theorem dpa_snoc {K : PySem.W.Frag} {H : Hp} : ∀ {vs : List V} {ds : List PyData} {v : V} {d : PyData}, DpAll K H vs ds → Dp K H v d → DpAll K H (vs ++ [v]) (ds ++ [d])
  | _, _, _, _, .nil, h => .cons h .nil
  | _, _, _, _, .cons h1 h2, h => .cons h1 (dpa_snoc h2 h)
/-- what stood at the entry stands beside a list r that was made since -/
theorem hid_old {H H' : Hp} {r : Addr} (s : Same H H') (hr : H r = none) : Same H (hid r r H') := fun a o h => by
  unfold hid
  rw [if_neg, s _ _ h]
  rintro (e | e)
  · rw [e, hr] at h
    cases h
  · rw [e, hr] at h
    cases h
def spSt (K : PySem.W.Frag) (g : St3 → Rat) : Sp := fun vs H Q _ => ∃ (v : V) (s : St3) (N : Nat), vs = [v] ∧ Dp K H v (dS s) ∧ StOk N s ∧ N ≤ 2240 ∧ ∀ H' z, Same H H' → Dp K H' z (dF (g s)) → Q z H'
def spLen (K : PySem.W.Frag) : Sp := fun vs H Q _ => ∃ (v : V) (xs : List St3) (N : Nat), vs = [v] ∧ Dp K H v (dSh xs) ∧ ShOk N xs ∧ N ≤ 2240 ∧ ∀ H' z, Same H H' → Dp K H' z (dF (lenS xs)) → Q z H'
def spTab (K : PySem.W.Frag) : Sp := fun vs H Q _ => ∃ (v : V) (xs : List St3) (N : Nat), vs = [v] ∧ Dp K H v (dSh xs) ∧ ShOk N xs ∧ N ≤ 2240 ∧ xs.length ≤ 1000 ∧ ∀ H' p ys, Same H H' → H p = none → H' p = some (.lst ys) → DpAll K H' ys ((tabF 0 xs).map dRow) → Q (.ref p) H'
def spNorm (K : PySem.W.Frag) : Sp := fun vs H Q _ => ∃ (v : V) (xs : List St3), vs = [v] ∧ Dp K H v (dSh xs) ∧ xs.length ≤ 1000 ∧ ∀ H' p ys, Same H H' → H p = none → H' p = some (.lst ys) → DpAll K H' ys ((normM xs).map dS) → Q (.ref p) H'
def spPlace (K : PySem.W.Frag) : Sp := fun vs H Q _ => ∃ (v u : V) (s : St3) (t : Rat) (N : Nat), vs = [v, u] ∧ Dp K H v (dS s) ∧ Dp K H u (dF t) ∧ StOk N s ∧ Sz (2 * N + 1) t ∧ N ≤ 2240 ∧ ∀ H' z, Same H H' → Dp K H' z (dF (s.1 + t * s.2.2)) → Q z H'
/-! ### data of tuples alone stays, whatever is done to lists -/
theorem keepT {K : PySem.W.Frag} {b l : Addr} {H H' : Hp} {v : V} {d : PyData} (h : Dp K H v d) (hd : tupD d = true) (Lb : IsL H b) (Ll : IsL H l) (s : Same (hid b l H) (hid b l H')) : Dp K H' v d := dp_mono hid_same _ _ (dp_mono s _ _ (dp_hid Lb Ll _ _ hd h))
theorem keepA {K : PySem.W.Frag} {b l : Addr} {H H' : Hp} {vs : List V} {ds : List PyData} (h : DpAll K H vs ds) (hd : tupA ds = true) (Lb : IsL H b) (Ll : IsL H l) (s : Same (hid b l H) (hid b l H')) : DpAll K H' vs ds := dpa_mono hid_same _ _ (dpa_mono s _ _ (dpa_hid Lb Ll _ _ hd h))
theorem keepU {K : PySem.W.Frag} {r : Addr} {H : Hp} {o : HO} {v : V} {d : PyData} (h : Dp K H v d) (hd : tupD d = true) (Lr : IsL H r) : Dp K (upd H r o) v d := keepT h hd Lr Lr (by rw [hid_b]; exact Same.refl _)
theorem keepAU {K : PySem.W.Frag} {r : Addr} {H : Hp} {o : HO} {vs : List V} {ds : List PyData} (h : DpAll K H vs ds) (hd : tupA ds = true) (Lr : IsL H r) : DpAll K (upd H r o) vs ds := keepA h hd Lr Lr (by rw [hid_b]; exact Same.refl _)
theorem Bx.lb {H : Hp} {b l : Addr} (B : Bx H b l) : IsL H b := let ⟨_, _, h, _⟩ := B.ex; ⟨_, h⟩
theorem Bx.ll {H : Hp} {b l : Addr} (B : Bx H b l) : IsL H l := let ⟨_, _, _, h⟩ := B.ex; ⟨_, h⟩
theorem dpa_split {K : PySem.W.Frag} {H : Hp} : ∀ {ds : List PyData} {vs : List V} {d : PyData}, DpAll K H vs (ds ++ [d]) → ∃ vs' v, vs = vs' ++ [v] ∧ DpAll K H vs' ds ∧ Dp K H v d
  | [], _, _, .cons h .nil => ⟨[], _, rfl, .nil, h⟩
  | _ :: ds, _, _, .cons h1 h2 => by
    obtain ⟨vs', v, rfl, h3, h4⟩ := dpa_split (ds := ds) h2
    exact ⟨_ :: vs', v, rfl, .cons h1 h3, h4⟩
theorem rat_eq {x y : Rat} (h1 : x.num = y.num) (h2 : (x.den : Int) = (y.den : Int)) : x = y := Rat.ext h1 (by omega)
theorem eqv_dF (x y : Rat) : PyData.eqv (dF x) (dF y) = decide (x = y) := by
  show ((x.num == y.num) && (((x.den : Int) == (y.den : Int)) && true)) = _
  by_cases h : x = y
  · rw [h, decide_eq_true rfl, beq_self_eq_true, beq_self_eq_true]
    rfl
  · rw [decide_eq_false h]
    cases c1 : (x.num == y.num) with
    | false => rfl
    | true =>
      cases c2 : ((x.den : Int) == (y.den : Int)) with
      | false => rfl
      | true => exact absurd (rat_eq (eq_of_beq c1) (eq_of_beq c2)) h
theorem shaped_dF (x : Rat) : SeqAt.shaped (dF x) = true := rfl
theorem lay_dS : ∀ xs : List St3, PyData.canLayAll0 (xs.map dS) = true
  | [] => rfl
  | s :: r => by
    show (PyData.canLay0 (dS s) && PyData.canLayAll0 (r.map dS)) = true
    rw [lay_dS r]
    rfl
theorem depth_dS : ∀ xs : List St3, PyData.depthAll (xs.map dS) ≤ 2
  | [] => Nat.zero_le _
  | s :: r => Nat.max_le.mpr ⟨Nat.le_refl 2, depth_dS r⟩
theorem shaped_dSh (xs : List St3) : SeqAt.shaped (dSh xs) = true := by
  unfold SeqAt.shaped
  rw [show PyData.canLay0 (dSh xs) = true from lay_dS xs]
  have : PyData.depth (dSh xs) ≤ 64 := by
    show PyData.depthAll (xs.map dS) + 1 ≤ 64
    have := depth_dS xs
    omega
  rw [decide_eq_true this]
  rfl
theorem sz_dS : ∀ xs : List St3, szAll (xs.map dS) = true
  | [] => rfl
  | s :: r => by
    show (szOk (dS s) && szAll (r.map dS)) = true
    rw [sz_dS r]
    rfl
theorem sz_dSh (xs : List St3) (h : xs.length < 2 ^ 62) : szOk (dSh xs) = true := by
  show (decide ((xs.map dS).length < 2 ^ 62) && szAll (xs.map dS)) = true
  rw [sz_dS, List.length_map, decide_eq_true h]
  rfl
theorem dep_dSh (xs : List St3) : (dSh xs).depth < 4 := by
  show PyData.depthAll (xs.map dS) + 1 < 4
  have := depth_dS xs
  omega
def spPick (K : PySem.W.Frag) (g : Rat → Rat → Bool) : Sp := fun vs H Q _ => ∃ (u v : V) (x y : Rat) (n m : Nat), vs = [u, v] ∧ Dp K H u (dF x) ∧ Dp K H v (dF y) ∧ Sz n x ∧ Sz m y ∧ n + m ≤ 9000 ∧ Q (if g x y = true then v else u) H
def spPiece (K : PySem.W.Frag) : Sp := fun vs H Q _ => ∃ (v u1 u2 : V) (s : St3) (t1 t2 : Rat) (N : Nat), vs = [v, u1, u2] ∧ Dp K H v (dS s) ∧ Dp K H u1 (dF t1) ∧ Dp K H u2 (dF t2) ∧ StOk N s ∧ Sz (2 * N + 1) t1 ∧ Sz (2 * N + 1) t2 ∧ N ≤ 2240 ∧
  ∀ H' z, Same H H' → Dp K H' z (dS (s.1 + t1 * s.2.2, s.1 + t2 * s.2.2, s.2.2)) → Q z H'
def refused (xs : List St3) (b e : Rat) : Prop := e < b ∨ lenS xs < e
def spTaken (K : PySem.W.Frag) (C : Addr) : Sp := fun vs H Q E => ∃ (v u1 u2 : V) (xs : List St3) (b e : Rat) (N : Nat), vs = [v, u1, u2] ∧ Dp K H v (dSh xs) ∧ Dp K H u1 (dF b) ∧ Dp K H u2 (dF e) ∧ ShOk N xs ∧ Sz N b ∧ Sz N e ∧ N ≤ 2240 ∧ xs.length ≤ 900 ∧
  (refused xs b e → ∀ H', Same H H' → E (.ref C) none H') ∧
  (¬ refused xs b e → ∀ H' p ys, Same H H' → H p = none → H' p = some (.lst ys) → DpAll K H' ys ((normM (cutM xs b e)).map dS) → Q (.ref p) H')
section
variable {P : Program} {w : World} {K : PySem.W.Frag} {mg : Str → Option Value} {base : Heap}
theorem cl_common_divisor (T : Txt K mg) : Cl P w K mg base CX0 1 "common_divisor" spGcd := by
  refine T.d_common_divisor.cl sc_common_divisor (fun vs H Q E h => ?_) (fun f cdv A outer s H vs Q E hr h => ?_)
  · obtain ⟨i, j, rfl, _⟩ := h
    rfl
  · obtain ⟨i, j, rfl, q⟩ := h
    refine ⟨_, (pss_cons (ps_set (i := 0) sc_common_divisor.nd rfl (.inl rfl) (pe_callB call_abs (by rfl) T.m_abs (by decide +kernel) (pa_cons (pv 0) pa_nil)))
      (pss_cons (ps_set (i := 1) sc_common_divisor.nd rfl (.inl rfl) (pe_callB call_abs (by rfl) T.m_abs (by decide +kernel) (pa_cons (pv 1) pa_nil)))
      (pss_cons (ps_while PassesOwn.never (pt_cmpR op_gt (pv 1) pe_int (nomark _))
        (pss_one (ps_par (i := 0) (j := 1) (by rfl) sc_common_divisor.nd rfl rfl (by decide) rfl rfl (pa_cons (pv 1) (pa_cons (pe_op op_modN (pv 0) (pv 1)) pa_nil)) (by rfl))))
      (pss_one (ps_ret (pv 0)))))), ?_⟩
    refine ⟨_, rfl, _, rfl, _, rfl, _, rfl, ?_⟩
    refine while_by (fun σ H' => ∃ a b : Nat, σ = [some (.int (a : Int)), some (.int (b : Int))] ∧ H' = H ∧ Nat.gcd a b = Nat.gcd i.natAbs j.natAbs) (fun σ _ => match σ with | [_, some (.int b)] => b.natAbs | _ => 0) ?_ ?_ ?_
    · refine ⟨i.natAbs, j.natAbs, ?_, rfl, rfl⟩
      show [some (V.int (if i < 0 then -i else i)), some (V.int (if j < 0 then -j else j))] = _
      rw [abs_nat, abs_nat]
    · intro σ H' h
      obtain ⟨a, b, rfl, rfl, e⟩ := h
      refine ⟨_, rfl, _, _, rfl, rfl, _, rfl, ite2 (fun z => ?_) (fun z => ?_)⟩
      · have hb : 0 < b := by
          have := of_decide_eq_true z
          omega
        refine ⟨_, rfl, _, rfl, _, rfl, _, _, rfl, rfl, (by omega), _, _, rfl, ⟨b, a % b, ?_, rfl, ?_⟩, ?_⟩
        · show [some (V.int (b : Int)), some (V.int ((a : Int).fmod (b : Int)))] = _
          rw [fmod_nat]
        · rw [gcd_turn]
          exact e
        · show Int.natAbs (Int.fmod (a : Int) (b : Int)) < Int.natAbs (b : Int)
          rw [fmod_nat]
          have := Nat.mod_lt a hb
          omega
      · have hb : b = 0 := by
          have z2 : ¬ ((0 : Int) < (b : Int)) := fun y => z (decide_eq_true y)
          omega
        subst hb
        refine ⟨_, rfl, ?_⟩
        rw [Nat.gcd_zero_right] at e
        rw [← e] at q
        exact q
    · intro σ H' Q1 Q2 h12 h
      obtain ⟨v, e, i, j, e1, e2, k, e3, h⟩ := h
      exact ⟨v, e, i, j, e1, e2, k, e3, h12 _ _ h⟩
theorem cl_made (T : Txt K mg) : Cl P w K mg base CX0 2 "made" (spMade K) := by
  have c_common_divisor := cl_common_divisor (P := P) (w := w) (base := base) T
  refine T.d_made.cl sc_made (fun vs H Q E h => ?_) (fun f cdv A outer s H vs Q E hr h => ?_)
  · obtain ⟨i, j, rfl, _⟩ := h
    rfl
  · obtain ⟨t, b, rfl, hb, hs, q⟩ := h
    refine ⟨_, (pss_cons (ps_set (i := 2) sc_made.nd rfl (.inl rfl) (pe_cl c_common_divisor hr (by decide) (by rfl) (pa_cons (pv 0) (pa_cons (pv 1) pa_nil))))
      (pss_cons (ps_if (pt_cmpR op_lt (pv 1) pe_int (nomark _))
        (pss_one (ps_set (i := 2) sc_made.nd rfl (.inl rfl) (pe_un un_neg (pv 2))))
        pss_nil)
      (pss_one (ps_ret (pe_tup (pa_cons (pe_op op_fdivX (pv 0) (pv 2)) (pa_cons (pe_op op_fdivX (pv 1) (pv 2)) pa_nil))))))), ?_⟩
    have last : ∀ d : Int, d = frI t b → ∀ p, H p = none → Q (.ref p) (upd H p (.tup [.int (t.fdiv d), .int (b.fdiv d)])) := by
      intro d e p hp
      subst e
      refine q _ _ (Same.new hp) (dF_mk ?_)
      rw [fr_num hb, fr_den hb]
      exact .inl (.inl upd_same)
    have hd : ∀ d : Int, d = frI t b → CDivX t d ∧ CDivX b d := by
      intro d e
      subst e
      have h1 := Nat.lt_of_le_of_lt (frI_natAbs (t := t) hb) hs
      exact ⟨cdiv (frI_ne hb) h1 (by decide) (by decide), cdiv (frI_ne hb) h1 (by decide) (by decide)⟩
    refine ⟨_, rfl, _, rfl, _, _, rfl, _, rfl, _, _, rfl, rfl, _, rfl, ite2 (fun z => ?_) (fun z => ?_)⟩
    · have z1 : b < 0 := of_decide_eq_true z
      have e : -((Nat.gcd t.natAbs b.natAbs : Nat) : Int) = frI t b := by
        unfold frI
        rw [if_pos z1]
      refine ⟨_, rfl, _, rfl, _, rfl, _, rfl, _, _, rfl, rfl, (hd _ e).1, _, rfl, _, rfl, _, _, rfl, rfl, (hd _ e).2, (show 2 ≤ sizeLine by decide), fun p hp => last _ e p hp⟩
    · have z1 : ¬ b < 0 := fun y => z (decide_eq_true y)
      have e : ((Nat.gcd t.natAbs b.natAbs : Nat) : Int) = frI t b := by
        unfold frI
        rw [if_neg z1]
      refine ⟨_, rfl, _, rfl, _, _, rfl, rfl, (hd _ e).1, _, rfl, _, rfl, _, _, rfl, rfl, (hd _ e).2, (show 2 ≤ sizeLine by decide), fun p hp => last _ e p hp⟩
theorem cl_timed (T : Txt K mg) : Cl P w K mg base CX0 3 "timed" (spF2 K (fun x y => x * y) (fun x y => True)) := by
  have c_made := cl_made (P := P) (w := w) (base := base) T
  refine T.d_timed.cl sc_timed (fun vs H Q E h => ?_) (fun f cdv A outer s H vs Q E hr h => ?_)
  · obtain ⟨u, v, x, y, n, m, rfl, _⟩ := h
    rfl
  · obtain ⟨u, v, x, y, n, m, rfl, hu, hv, sx, sy, hnm, hc, q⟩ := h
    obtain ⟨a, rfl, h0⟩ := dF_at hu
    obtain ⟨b, rfl, h1⟩ := dF_at hv
    refine ⟨_, (pss_one (ps_ret (pe_cl c_made hr (by decide) (by rfl) (pa_cons (pe_op op_mulW (pe_ix ix_tup (pv 0) pe_int (fun _ _ => rfl)) (pe_ix ix_tup (pv 1) pe_int (fun _ _ => rfl))) (pa_cons (pe_op op_mulW (pe_ix ix_tup (pv 0) pe_int (fun _ _ => rfl)) (pe_ix ix_tup (pv 1) pe_int (fun _ _ => rfl))) pa_nil))))), ?_⟩
    refine ⟨_, rfl, _, _, _, _, rfl, rfl, h0, atI_nat (j := 0) rfl, _, rfl, _, _, _, _, rfl, rfl, h1, atI_nat (j := 0) rfl, _, _, rfl, rfl, mnn sx sy hnm, _, rfl, _, _, _, _, rfl, rfl, h0, atI_nat (j := 1) rfl, _, rfl, _, _, _, _, rfl, rfl, h1, atI_nat (j := 1) rfl, _, _, rfl, rfl, mdd sx sy hnm, _, _, rfl, ?_, ?_, fun H2 z s2 r2 => ?_⟩
    · exact den_mul_ne x y
    · exact up9 (mul_bits sx.den' sy.den') hnm
    · change Dp K H2 z (dF (Rat.divInt (x.num * y.num) ((x.den : Int) * (y.den : Int)))) at r2
      rw [mul_parts] at r2
      exact q _ _ s2 r2
theorem cl_Lbegun (T : Txt K mg) : Cl P w K mg base CX0 1 "_law_begun" (spBegun K) := by
  refine T.d_Lbegun.cl sc_Lbegun (fun vs H Q E h => ?_) (fun f cdv A outer s H vs Q E hr h => ?_)
  · obtain ⟨i, j, rfl, _⟩ := h
    rfl
  · obtain ⟨a, ns, rfl, hS, q⟩ := h
    refine ⟨_, (pss_cons (ps_set (i := 1) sc_Lbegun.nd rfl (.inl rfl) pe_int)
      (pss_cons (ps_for PassesOwn.never rfl (pi_list (pv 0)) (pg_name (i := 2) sc_Lbegun.nd rfl (.inl rfl))
        (pss_one (ps_set (i := 1) sc_Lbegun.nd rfl (.inl rfl) (pe_op op_mod (pe_op op_add (pe_op op_add (pe_op op_mul (pv 1) pe_int) (pe_op op_mul (pv 2) pe_int)) pe_int) pe_int))))
      (pss_one (ps_ret (pe_lst (pa_cons (pe_callTy call_list_of (by rfl) T.m_list (by decide +kernel) (pa_cons (pv 0) pa_nil)) (pa_cons (pe_op op_mul (pv 1) (pe_callTy call_int1 (by rfl) T.m_int (by decide +kernel) (pa_cons (pe_cmpR op_gt (pe_callB call_len_seq (by rfl) T.m_len (by decide +kernel) (pa_cons (pv 0) pa_nil)) pe_int (nomark _)) pa_nil))) pa_nil))))))), ?_⟩
    refine ⟨_, rfl, a, rfl, ⟨_, hS⟩, for_list (K := K) (a := a) (xs := ns.map V.int) (fun i σ H' => ∃ (x : Int) (c : Option V), σ = [some (.ref a), some (.int x), c] ∧ H' = H) ⟨0, none, rfl, rfl⟩ (fun i σ H' _ h => ?_) (fun i x σ H' hx h => ?_) (fun σ H' h => ?_)⟩
    · obtain ⟨x, c, rfl, rfl⟩ := h
      exact hS
    · obtain ⟨y, c, rfl, rfl⟩ := h
      obtain ⟨z, hz, rfl⟩ : ∃ z : Int, z ∈ ns ∧ V.int z = x := by
        have := List.mem_of_getElem? hx
        exact List.mem_map.mp this
      refine ⟨_, rfl, _, _, rfl, rfl, .inr ⟨by decide, by decide⟩, _, rfl, _, _, rfl, rfl, .inr ⟨by decide, by decide⟩, _, _, rfl, rfl, _, _, rfl, rfl, _, _, rfl, rfl, (show (0 : Int) < 2147483647 by decide), _, _, rfl, rfl⟩
    · obtain ⟨y, c, rfl, rfl⟩ := h
      refine ⟨_, rfl, a, _, rfl, .inl hS, fun l hl => ?_⟩
      have hS2 : SqL K (upd H' l (.lst (ns.map V.int))) a (ns.map V.int) := (Same.new hl).seq hS
      refine ⟨_, rfl, _, rfl, a, _, rfl, .inl hS2, _, _, rfl, rfl, .inr ⟨_, rfl, _, _, rfl, rfl, .inr ?_, (show 2 ≤ sizeLine by decide), fun b hb => ?_⟩⟩
      · split <;> exact ⟨by decide, by decide⟩
      · refine q _ b l ((Same.new hl).trans (Same.new hb)) ((Same.new hl).free hb) hl ⟨fun e => ?_, ns, _, upd_same, ?_⟩
        · rw [e, upd_same] at hb
          cases hb
        · rw [upd_ne (fun e => ?_), upd_same]
          rw [← e, upd_same] at hb
          cases hb
theorem cl_Ltake (T : Txt K mg) : Cl P w K mg base CX0 1 "_law_take" (spTake K) := by
  refine T.d_Ltake.cl sc_Ltake (fun vs H Q E h => ?_) (fun f cdv A outer s H vs Q E hr h => ?_)
  · obtain ⟨b, l, m, rfl, _⟩ := h
    rfl
  · obtain ⟨b, l, m, rfl, B, m0, m1, q⟩ := h
    obtain ⟨xs, st, hb, hl⟩ := B.ex
    have ne := B.ne
    refine ⟨_, (pss_cons (ps_if (pt_cmpR (op_eqD hr.units) (pe_ix ix_list (pv 0) pe_int (fun _ _ => rfl)) (pe_lst pa_nil) (nomark _))
        (pss_cons (ps_asg (pe_op op_mod (pe_op op_mul (pe_ix ix_list (pv 0) pe_int (fun _ _ => rfl)) pe_int) pe_int) (pg_sub (pv 0) pe_int set_list))
      (pss_one (ps_ret (pe_op op_modN (pe_op op_fdiv (pe_ix ix_list (pv 0) pe_int (fun _ _ => rfl)) pe_int) (pv 1)))))
        pss_nil)
      (pss_cons (ps_set (i := 2) sc_Ltake.nd rfl (.inl rfl) (pe_ix ix_list (pe_ix ix_list (pv 0) pe_int (fun _ _ => rfl)) pe_int (fun _ _ => rfl)))
      (pss_cons (ps_asg (pe_op op_fdivX (pv 2) (pv 1)) (pg_sub (pe_ix ix_list (pv 0) pe_int (fun _ _ => rfl)) pe_int set_list))
      (pss_cons (ps_if (PW.pt (pw_or (pt_cmpR op_eq (pe_ix ix_list (pe_ix ix_list (pv 0) pe_int (fun _ _ => rfl)) pe_int (fun _ _ => rfl)) pe_int (nomark _)) (pw_or1 (pt_cmpR op_eq (pe_ix ix_list (pe_ix ix_list (pv 0) pe_int (fun _ _ => rfl)) pe_int (fun _ _ => rfl)) (pe_un un_neg pe_int) (nomark _)))))
        (pss_one (ps_expr (pe_bm PySem.F.plainAttrs_list PySem.F.slot_list_pop PySem.F.type_list_pop mt_popAt (pe_ix ix_list (pv 0) pe_int (fun _ _ => rfl)) (pa_cons pe_int pa_nil))))
        pss_nil)
      (pss_one (ps_ret (pe_op op_modN (pv 2) (pv 1)))))))), ?_⟩
    refine ⟨_, rfl, _, _, _, _, rfl, rfl, .inl (.inl hb), atI_nat (j := 0) rfl, Nat.zero_le _, fun o no => ?_⟩
    have sH : Same H (upd H o (.lst [])) := Same.new no
    have hb1 := sH _ _ hb
    have hl1 := sH _ _ hl
    have s0 : Same (hid b l H) (hid b l (upd H o (.lst []))) := Same.hid sH
    have he : SqL K (upd H o (.lst [])) o [] := .inl (.inl upd_same)
    generalize upd H o (.lst []) = H1 at hb1 hl1 s0 he ⊢
    refine ⟨.list (xs.map PyData.int), .list [], .lst (.inl (.inl hl1)) (dpa_ints xs), .lst he .nil, shaped_ints xs, rfl, _, rfl, ite2 (fun z => ?_) (fun z => ?_)⟩
    · refine ⟨_, rfl, _, _, _, _, rfl, rfl, .inl (.inl hb1), atI_nat (j := 1) rfl, _, _, rfl, rfl, .inr ⟨by decide, by decide⟩, _, _, rfl, rfl, (show (0 : Int) < 2147483647 by decide), _, rfl, _, _, _, 1, rfl, rfl, hb1, rfl, ?_⟩
      refine ⟨_, rfl, _, _, _, _, rfl, rfl, .inl (.inl upd_same), atI_nat (j := 1) rfl, _, _, rfl, rfl, ⟨by decide, by decide⟩, _, rfl, _, _, rfl, rfl, (by omega), ?_⟩
      refine q _ _ ?_ ⟨ne, xs, _, upd_same, ?_⟩ (fmod_rg m0).1 (fmod_rg m0).2
      · rw [hid_b]
        exact s0
      · rw [upd_ne ne.symm]
        exact hl1
    · cases xs with
      | nil => exact absurd rfl z
      | cons x r =>
        have fin : ∀ H', Same (hid b l H) (hid b l H') → Bx H' b l → Q (.int (x.fmod m)) H' := fun H' s1 B1 => q _ _ s1 B1 (fmod_rg m0).1 (fmod_rg m0).2
        refine ⟨_, rfl, _, _, _, _, rfl, rfl, .inl (.inl hb1), atI_nat (j := 0) rfl, _, _, _, _, rfl, rfl, .inl (.inl hl1), atI_nat (j := 0) rfl, ?_⟩
        refine ⟨_, rfl, _, rfl, _, _, rfl, rfl, cdiv (b := 30) (by omega) (by omega) (by decide) (by decide), _, rfl, _, _, _, _, rfl, rfl, .inl (.inl hb1), atI_nat (j := 0) rfl, _, _, _, 0, rfl, rfl, hl1, ixN0, ?_⟩
        have hb2 : (upd H1 l (.lst ((V.int (x.fdiv m)) :: r.map V.int))) b = some (.lst [.ref l, .int st]) := by
          rw [upd_ne ne]
          exact hb1
        have hl2 : (upd H1 l (.lst ((V.int (x.fdiv m)) :: r.map V.int))) l = some (.lst ((V.int (x.fdiv m)) :: r.map V.int)) := upd_same
        have s2 : Same (hid b l H) (hid b l (upd H1 l (.lst ((V.int (x.fdiv m)) :: r.map V.int)))) := by
          rw [hid_l]
          exact s0
        change tSeq _ _ _ _ (upd H1 l (.lst ((V.int (x.fdiv m)) :: r.map V.int)))
        generalize upd H1 l (.lst ((V.int (x.fdiv m)) :: r.map V.int)) = H2 at hb2 hl2 s2 ⊢
        have pop : ∀ D : Ends, D.nx [some (.ref b), some (.int m), some (.int x)] (upd H2 l (.lst (r.map V.int))) → tDrop (tBM K "list" rPopAt (tOp (rIxL K) (tVar 0) (tC (.int 0))) (tCons (tC (.int 0)) tNil)) D [some (.ref b), some (.int m), some (.int x)] H2 := by
          intro D hD
          exact ⟨_, rfl, _, _, _, _, rfl, rfl, .inl (.inl hb2), atI_nat (j := 0) rfl, .inl ⟨rfl, _, .inl (.inl hl2)⟩, l, _, 0, 0, _, rfl, rfl, hl2, by decide, by decide, (ixN_seq ixN0).1, rfl, hD⟩
        have fin2 : Q (.int (x.fmod m)) (upd H2 l (.lst (r.map V.int))) := by
          refine fin _ ?_ ⟨ne, r, st, ?_, upd_same⟩
          · rw [hid_l]
            exact s2
          · rw [upd_ne ne]
            exact hb2
        refine ⟨_, rfl, _, _, _, _, rfl, rfl, .inl (.inl hb2), atI_nat (j := 0) rfl, _, _, _, _, rfl, rfl, .inl (.inl hl2), atI_nat (j := 0) rfl, rfl, _, rfl, ite2 (fun z => ?_) (fun z => ?_)⟩
        · refine iteT (pop _ ?_)
          exact ⟨_, rfl, _, rfl, _, _, rfl, rfl, (by omega), fin2⟩
        · refine ⟨_, rfl, _, _, _, _, rfl, rfl, .inl (.inl hb2), atI_nat (j := 0) rfl, _, _, _, _, rfl, rfl, .inl (.inl hl2), atI_nat (j := 0) rfl, _, rfl, rfl, _, rfl, ite2 (fun z => ?_) (fun z => ?_)⟩
          · refine pop _ ?_
            exact ⟨_, rfl, _, rfl, _, _, rfl, rfl, (by omega), fin2⟩
          · exact ⟨_, rfl, _, rfl, _, _, rfl, rfl, (by omega), fin _ s2 ⟨ne, x.fdiv m :: r, st, hb2, hl2⟩⟩
theorem cl_Lfr (T : Txt K mg) : Cl P w K mg base CX0 1 "_law_fr" (spMade K) := by
  refine T.d_Lfr.cl sc_Lfr (fun vs H Q E h => ?_) (fun f cdv A outer s H vs Q E hr h => ?_)
  · obtain ⟨i, j, rfl, _⟩ := h
    rfl
  · obtain ⟨t, b, rfl, hb, hs, q⟩ := h
    refine ⟨_, (pss_cons (ps_set (i := 2) sc_Lfr.nd rfl (.inl rfl) (pe_callB call_abs (by rfl) T.m_abs (by decide +kernel) (pa_cons (pv 0) pa_nil)))
      (pss_cons (ps_set (i := 3) sc_Lfr.nd rfl (.inl rfl) (pe_callB call_abs (by rfl) T.m_abs (by decide +kernel) (pa_cons (pv 1) pa_nil)))
      (pss_cons (ps_while PassesOwn.never (pt_cmpR op_gt (pv 3) pe_int (nomark _))
        (pss_cons (ps_set (i := 4) sc_Lfr.nd rfl (.inl rfl) (pe_op op_modN (pv 2) (pv 3)))
      (pss_cons (ps_set (i := 2) sc_Lfr.nd rfl (.inl rfl) (pv 3))
      (pss_one (ps_set (i := 3) sc_Lfr.nd rfl (.inl rfl) (pv 4))))))
      (pss_cons (ps_if (pt_cmpR op_lt (pv 1) pe_int (nomark _))
        (pss_one (ps_set (i := 2) sc_Lfr.nd rfl (.inl rfl) (pe_op op_sub pe_int (pv 2))))
        pss_nil)
      (pss_one (ps_ret (pe_tup (pa_cons (pe_op op_fdivX (pv 0) (pv 2)) (pa_cons (pe_op op_fdivX (pv 1) (pv 2)) pa_nil))))))))), ?_⟩
    have last : ∀ d : Int, d = frI t b → ∀ p, H p = none → Q (.ref p) (upd H p (.tup [.int (t.fdiv d), .int (b.fdiv d)])) := by
      intro d e p hp
      subst e
      refine q _ _ (Same.new hp) (dF_mk ?_)
      rw [fr_num hb, fr_den hb]
      exact .inl (.inl upd_same)
    have hd : ∀ d : Int, d = frI t b → CDivX t d ∧ CDivX b d := by
      intro d e
      subst e
      have h1 := Nat.lt_of_le_of_lt (frI_natAbs (t := t) hb) hs
      exact ⟨cdiv (frI_ne hb) h1 (by decide) (by decide), cdiv (frI_ne hb) h1 (by decide) (by decide)⟩
    refine ⟨_, rfl, _, rfl, _, rfl, _, rfl, ?_⟩
    refine while_by (fun σ H' => ∃ (a c : Nat) (o : Option V), σ = [some (.int t), some (.int b), some (.int (a : Int)), some (.int (c : Int)), o] ∧ H' = H ∧ Nat.gcd a c = Nat.gcd t.natAbs b.natAbs) (fun σ _ => match σ with | [_, _, _, some (.int b), _] => b.natAbs | _ => 0) ?_ ?_ ?_
    · refine ⟨t.natAbs, b.natAbs, none, ?_, rfl, rfl⟩
      show [some (V.int t), some (V.int b), some (V.int (if t < 0 then -t else t)), some (V.int (if b < 0 then -b else b)), none] = _
      rw [abs_nat, abs_nat]
    · intro σ H' h
      obtain ⟨a, c, o, rfl, rfl, e⟩ := h
      refine ⟨_, rfl, _, _, rfl, rfl, _, rfl, ite2 (fun z => ?_) (fun z => ?_)⟩
      · have hc : 0 < c := by
          have := of_decide_eq_true z
          omega
        refine ⟨_, rfl, _, rfl, _, _, rfl, rfl, (by omega), _, rfl, _, rfl, ⟨c, a % c, some (V.int ((a : Int).fmod (c : Int))), ?_, rfl, ?_⟩, ?_⟩
        · show [some (V.int t), some (V.int b), some (V.int (c : Int)), some (V.int ((a : Int).fmod (c : Int))), some (V.int ((a : Int).fmod (c : Int)))] = _
          rw [fmod_nat]
        · rw [gcd_turn]
          exact e
        · show Int.natAbs (Int.fmod (a : Int) (c : Int)) < Int.natAbs (c : Int)
          rw [fmod_nat]
          have := Nat.mod_lt a hc
          omega
      · have hc : c = 0 := by
          have z2 : ¬ ((0 : Int) < (c : Int)) := fun y => z (decide_eq_true y)
          omega
        subst hc
        rw [Nat.gcd_zero_right] at e
        refine ⟨_, rfl, _, _, rfl, rfl, _, rfl, ite2 (fun z => ?_) (fun z => ?_)⟩
        · have z1 : b < 0 := of_decide_eq_true z
          have e : 0 - (a : Int) = frI t b := by
            unfold frI
            rw [if_pos z1, ← e]
            omega
          refine ⟨_, rfl, _, _, rfl, rfl, _, rfl, _, rfl, _, _, rfl, rfl, (hd _ e).1, _, rfl, _, rfl, _, _, rfl, rfl, (hd _ e).2, (show 2 ≤ sizeLine by decide), fun p hp => last _ e p hp⟩
        · have z1 : ¬ b < 0 := fun y => z (decide_eq_true y)
          have e : (a : Int) = frI t b := by
            unfold frI
            rw [if_neg z1, ← e]
          refine ⟨_, rfl, _, rfl, _, _, rfl, rfl, (hd _ e).1, _, rfl, _, rfl, _, _, rfl, rfl, (hd _ e).2, (show 2 ≤ sizeLine by decide), fun p hp => last _ e p hp⟩
    · intro σ H' Q1 Q2 h12 h
      obtain ⟨v, e, i, j, e1, e2, k, e3, h⟩ := h
      exact ⟨v, e, i, j, e1, e2, k, e3, h12 _ _ h⟩
theorem cl_Lsum (T : Txt K mg) : Cl P w K mg base CX0 2 "_law_sum" (spF2 K (fun x y => x + y) (fun x y => True)) := by
  have c_Lfr := cl_Lfr (P := P) (w := w) (base := base) T
  refine T.d_Lsum.cl sc_Lsum (fun vs H Q E h => ?_) (fun f cdv A outer s H vs Q E hr h => ?_)
  · obtain ⟨u, v, x, y, n, m, rfl, _⟩ := h
    rfl
  · obtain ⟨u, v, x, y, n, m, rfl, hu, hv, sx, sy, hnm, hc, q⟩ := h
    obtain ⟨a, rfl, h0⟩ := dF_at hu
    obtain ⟨b, rfl, h1⟩ := dF_at hv
    refine ⟨_, (pss_one (ps_ret (pe_cl c_Lfr hr (by decide) (by rfl) (pa_cons (pe_op op_add (pe_op op_mulW (pe_ix ix_tup (pv 0) pe_int (fun _ _ => rfl)) (pe_ix ix_tup (pv 1) pe_int (fun _ _ => rfl))) (pe_op op_mulW (pe_ix ix_tup (pv 1) pe_int (fun _ _ => rfl)) (pe_ix ix_tup (pv 0) pe_int (fun _ _ => rfl)))) (pa_cons (pe_op op_mulW (pe_ix ix_tup (pv 0) pe_int (fun _ _ => rfl)) (pe_ix ix_tup (pv 1) pe_int (fun _ _ => rfl))) pa_nil))))), ?_⟩
    refine ⟨_, rfl, _, _, _, _, rfl, rfl, h0, atI_nat (j := 0) rfl, _, rfl, _, _, _, _, rfl, rfl, h1, atI_nat (j := 1) rfl, _, _, rfl, rfl, mnd sx sy hnm, _, rfl, _, _, _, _, rfl, rfl, h1, atI_nat (j := 0) rfl, _, rfl, _, _, _, _, rfl, rfl, h0, atI_nat (j := 1) rfl, _, _, rfl, rfl, mnd' sx sy hnm, _, _, rfl, rfl, _, rfl, _, _, _, _, rfl, rfl, h0, atI_nat (j := 1) rfl, _, rfl, _, _, _, _, rfl, rfl, h1, atI_nat (j := 1) rfl, _, _, rfl, rfl, mdd sx sy hnm, _, _, rfl, ?_, ?_, fun H2 z s2 r2 => ?_⟩
    · exact den_mul_ne x y
    · exact up9 (mul_bits sx.den' sy.den') hnm
    · change Dp K H2 z (dF (Rat.divInt (x.num * (y.den : Int) + y.num * (x.den : Int)) ((x.den : Int) * (y.den : Int)))) at r2
      rw [add_parts] at r2
      exact q _ _ s2 r2
theorem cl_Lminus (T : Txt K mg) : Cl P w K mg base CX0 2 "_law_minus" (spF2 K (fun x y => x - y) (fun x y => True)) := by
  have c_Lfr := cl_Lfr (P := P) (w := w) (base := base) T
  refine T.d_Lminus.cl sc_Lminus (fun vs H Q E h => ?_) (fun f cdv A outer s H vs Q E hr h => ?_)
  · obtain ⟨u, v, x, y, n, m, rfl, _⟩ := h
    rfl
  · obtain ⟨u, v, x, y, n, m, rfl, hu, hv, sx, sy, hnm, hc, q⟩ := h
    obtain ⟨a, rfl, h0⟩ := dF_at hu
    obtain ⟨b, rfl, h1⟩ := dF_at hv
    refine ⟨_, (pss_one (ps_ret (pe_cl c_Lfr hr (by decide) (by rfl) (pa_cons (pe_op op_sub (pe_op op_mulW (pe_ix ix_tup (pv 0) pe_int (fun _ _ => rfl)) (pe_ix ix_tup (pv 1) pe_int (fun _ _ => rfl))) (pe_op op_mulW (pe_ix ix_tup (pv 1) pe_int (fun _ _ => rfl)) (pe_ix ix_tup (pv 0) pe_int (fun _ _ => rfl)))) (pa_cons (pe_op op_mulW (pe_ix ix_tup (pv 0) pe_int (fun _ _ => rfl)) (pe_ix ix_tup (pv 1) pe_int (fun _ _ => rfl))) pa_nil))))), ?_⟩
    refine ⟨_, rfl, _, _, _, _, rfl, rfl, h0, atI_nat (j := 0) rfl, _, rfl, _, _, _, _, rfl, rfl, h1, atI_nat (j := 1) rfl, _, _, rfl, rfl, mnd sx sy hnm, _, rfl, _, _, _, _, rfl, rfl, h1, atI_nat (j := 0) rfl, _, rfl, _, _, _, _, rfl, rfl, h0, atI_nat (j := 1) rfl, _, _, rfl, rfl, mnd' sx sy hnm, _, _, rfl, rfl, _, rfl, _, _, _, _, rfl, rfl, h0, atI_nat (j := 1) rfl, _, rfl, _, _, _, _, rfl, rfl, h1, atI_nat (j := 1) rfl, _, _, rfl, rfl, mdd sx sy hnm, _, _, rfl, ?_, ?_, fun H2 z s2 r2 => ?_⟩
    · exact den_mul_ne x y
    · exact up9 (mul_bits sx.den' sy.den') hnm
    · change Dp K H2 z (dF (Rat.divInt (x.num * (y.den : Int) - y.num * (x.den : Int)) ((x.den : Int) * (y.den : Int)))) at r2
      rw [sub_parts] at r2
      exact q _ _ s2 r2
theorem cl_Ltimes (T : Txt K mg) : Cl P w K mg base CX0 2 "_law_times" (spF2 K (fun x y => x * y) (fun x y => True)) := by
  have c_Lfr := cl_Lfr (P := P) (w := w) (base := base) T
  refine T.d_Ltimes.cl sc_Ltimes (fun vs H Q E h => ?_) (fun f cdv A outer s H vs Q E hr h => ?_)
  · obtain ⟨u, v, x, y, n, m, rfl, _⟩ := h
    rfl
  · obtain ⟨u, v, x, y, n, m, rfl, hu, hv, sx, sy, hnm, hc, q⟩ := h
    obtain ⟨a, rfl, h0⟩ := dF_at hu
    obtain ⟨b, rfl, h1⟩ := dF_at hv
    refine ⟨_, (pss_one (ps_ret (pe_cl c_Lfr hr (by decide) (by rfl) (pa_cons (pe_op op_mulW (pe_ix ix_tup (pv 0) pe_int (fun _ _ => rfl)) (pe_ix ix_tup (pv 1) pe_int (fun _ _ => rfl))) (pa_cons (pe_op op_mulW (pe_ix ix_tup (pv 0) pe_int (fun _ _ => rfl)) (pe_ix ix_tup (pv 1) pe_int (fun _ _ => rfl))) pa_nil))))), ?_⟩
    refine ⟨_, rfl, _, _, _, _, rfl, rfl, h0, atI_nat (j := 0) rfl, _, rfl, _, _, _, _, rfl, rfl, h1, atI_nat (j := 0) rfl, _, _, rfl, rfl, mnn sx sy hnm, _, rfl, _, _, _, _, rfl, rfl, h0, atI_nat (j := 1) rfl, _, rfl, _, _, _, _, rfl, rfl, h1, atI_nat (j := 1) rfl, _, _, rfl, rfl, mdd sx sy hnm, _, _, rfl, ?_, ?_, fun H2 z s2 r2 => ?_⟩
    · exact den_mul_ne x y
    · exact up9 (mul_bits sx.den' sy.den') hnm
    · change Dp K H2 z (dF (Rat.divInt (x.num * y.num) ((x.den : Int) * (y.den : Int)))) at r2
      rw [mul_parts] at r2
      exact q _ _ s2 r2
theorem cl_is_below (T : Txt K mg) : Cl P w K mg base CX0 1 "is_below" (spLow K) := by
  refine T.d_is_below.cl sc_is_below (fun vs H Q E h => ?_) (fun f cdv A outer s H vs Q E hr h => ?_)
  · obtain ⟨u, v, x, y, n, m, rfl, _⟩ := h
    rfl
  · obtain ⟨u, v, x, y, n, m, rfl, hu, hv, sx, sy, hnm, q⟩ := h
    obtain ⟨a, rfl, h0⟩ := dF_at hu
    obtain ⟨b, rfl, h1⟩ := dF_at hv
    refine ⟨_, (pss_one (ps_ret (pe_cmpR op_lt (pe_op op_mulW (pe_ix ix_tup (pv 0) pe_int (fun _ _ => rfl)) (pe_ix ix_tup (pv 1) pe_int (fun _ _ => rfl))) (pe_op op_mulW (pe_ix ix_tup (pv 1) pe_int (fun _ _ => rfl)) (pe_ix ix_tup (pv 0) pe_int (fun _ _ => rfl))) (nomark _)))), ?_⟩
    refine ⟨_, rfl, _, _, _, _, rfl, rfl, h0, atI_nat (j := 0) rfl, _, rfl, _, _, _, _, rfl, rfl, h1, atI_nat (j := 1) rfl, _, _, rfl, rfl, mnd sx sy hnm, _, rfl, _, _, _, _, rfl, rfl, h1, atI_nat (j := 0) rfl, _, rfl, _, _, _, _, rfl, rfl, h0, atI_nat (j := 1) rfl, _, _, rfl, rfl, mnd' sx sy hnm, _, _, rfl, rfl, ?_⟩
    show Q (.bl (decide (x.num * (y.den : Int) < y.num * (x.den : Int)))) H
    rw [lt_parts]
    exact q
theorem cl_Llow (T : Txt K mg) : Cl P w K mg base CX0 1 "_law_low" (spLow K) := by
  refine T.d_Llow.cl sc_Llow (fun vs H Q E h => ?_) (fun f cdv A outer s H vs Q E hr h => ?_)
  · obtain ⟨u, v, x, y, n, m, rfl, _⟩ := h
    rfl
  · obtain ⟨u, v, x, y, n, m, rfl, hu, hv, sx, sy, hnm, q⟩ := h
    obtain ⟨a, rfl, h0⟩ := dF_at hu
    obtain ⟨b, rfl, h1⟩ := dF_at hv
    refine ⟨_, (pss_one (ps_ret (pe_cmpR op_lt (pe_op op_mulW (pe_ix ix_tup (pv 0) pe_int (fun _ _ => rfl)) (pe_ix ix_tup (pv 1) pe_int (fun _ _ => rfl))) (pe_op op_mulW (pe_ix ix_tup (pv 1) pe_int (fun _ _ => rfl)) (pe_ix ix_tup (pv 0) pe_int (fun _ _ => rfl))) (nomark _)))), ?_⟩
    refine ⟨_, rfl, _, _, _, _, rfl, rfl, h0, atI_nat (j := 0) rfl, _, rfl, _, _, _, _, rfl, rfl, h1, atI_nat (j := 1) rfl, _, _, rfl, rfl, mnd sx sy hnm, _, rfl, _, _, _, _, rfl, rfl, h1, atI_nat (j := 0) rfl, _, rfl, _, _, _, _, rfl, rfl, h0, atI_nat (j := 1) rfl, _, _, rfl, rfl, mnd' sx sy hnm, _, _, rfl, rfl, ?_⟩
    show Q (.bl (decide (x.num * (y.den : Int) < y.num * (x.den : Int)))) H
    rw [lt_parts]
    exact q
theorem le1000 {n : Nat} (h : n ≤ 1000) : n ≤ sizeLine := Nat.le_trans h (by decide)
theorem cl_larger (T : Txt K mg) : Cl P w K mg base CX0 2 "larger" (spPick K (fun x y => decide (x < y))) := by
  have c_is_below := cl_is_below (P := P) (w := w) (base := base) T
  refine T.d_larger.cl sc_larger (fun vs H Q E h => ?_) (fun f cdv A outer s H vs Q E hr h => ?_)
  · obtain ⟨u, v, x, y, n, m, rfl, _⟩ := h
    rfl
  · obtain ⟨u, v, x, y, n, m, rfl, hu, hv, sx, sy, hnm, q⟩ := h
    refine ⟨_, (pss_one (ps_ret (pe_ifExp (pt_val (pe_cl c_is_below hr (by decide) (by rfl) (pa_cons (pv 0) (pa_cons (pv 1) pa_nil)))) (pv 1) (pv 0)))), ?_⟩
    refine ⟨_, rfl, _, rfl, _, _, x, y, n, m, rfl, hu, hv, sx, sy, by omega, _, rfl, ite2 (fun z => ?_) (fun z => ?_)⟩
    · rw [if_pos z] at q
      exact ⟨_, rfl, q⟩
    · rw [if_neg z] at q
      exact ⟨_, rfl, q⟩
def botM (qs : List Rat) : Nat := qs.foldl (fun B q => Nat.lcm B q.den) 1
theorem botM_snoc (qs : List Rat) (q : Rat) : botM (qs ++ [q]) = Nat.lcm (botM qs) q.den := by
  unfold botM
  rw [List.foldl_append]
  rfl
theorem botM_more {qs : List Rat} {i : Nat} {q : Rat} (h : qs[i]? = some q) : botM (qs.take (i + 1)) = Nat.lcm (botM (qs.take i)) q.den := by
  rw [take_more h, botM_snoc]
theorem botM_ok (qs : List Rat) : 0 < botM qs ∧ (∀ q ∈ qs, q.den ∣ botM qs) ∧ ∀ D : Nat, (∀ q ∈ qs, q.den ∣ D) → botM qs ∣ D := by
  refine snocI (P := fun qs => 0 < botM qs ∧ (∀ q ∈ qs, q.den ∣ botM qs) ∧ ∀ D : Nat, (∀ q ∈ qs, q.den ∣ D) → botM qs ∣ D) ⟨by decide, by simp, fun D _ => Nat.one_dvd D⟩ (fun b q ih => ?_) qs
  obtain ⟨h1, h2, h3⟩ := ih
  rw [botM_snoc]
  refine ⟨Nat.lcm_pos h1 q.den_pos, fun r hr => ?_, fun D h => Nat.lcm_dvd (h3 D fun r hr => h r (List.mem_append_left _ hr)) (h q (List.mem_append_right _ (List.mem_singleton.mpr rfl)))⟩
  rcases List.mem_append.mp hr with z | z
  · exact Nat.dvd_trans (h2 r z) (Nat.dvd_lcm_left _ _)
  · rw [List.mem_singleton.mp z]
    exact Nat.dvd_lcm_right _ _
def spBottom (K : PySem.W.Frag) : Sp := fun vs H Q _ => ∃ (p : Addr) (ys : List V) (qs : List Rat) (D n : Nat), vs = [.ref p] ∧ SqL K H p ys ∧ DpAll K H ys (qs.map dF) ∧ 0 < D ∧ D < 2 ^ n ∧ n ≤ 8000 ∧ (∀ q ∈ qs, q.den ∣ D) ∧ Q (.int (botM qs : Nat)) H
theorem lcm_fdiv {B d : Nat} (hB : 0 < B) : ((B : Int).fdiv ((Nat.gcd (B : Int).natAbs (d : Int).natAbs : Nat) : Int)) * (d : Int) = ((Nat.lcm B d : Nat) : Int) := by
  rw [Int.natAbs_natCast, Int.natAbs_natCast, Int.fdiv_eq_ediv_of_nonneg _ (by omega)]
  unfold Nat.lcm
  rw [← Nat.div_mul_right_comm (Nat.gcd_dvd_left B d) d, Int.natCast_mul, Int.natCast_ediv]
theorem cl_common_bottom (T : Txt K mg) : Cl P w K mg base CX0 2 "common_bottom" (spBottom K) := by
  have c_common_divisor := cl_common_divisor (P := P) (w := w) (base := base) T
  refine T.d_common_bottom.cl sc_common_bottom (fun vs H Q E h => ?_) (fun f cdv A outer s H vs Q E hr h => ?_)
  · obtain ⟨p, ys, qs, D, n, rfl, _⟩ := h
    rfl
  · obtain ⟨p, ys, qs, D, n, rfl, hp, dq, D0, Dn, n0, hd, q⟩ := h
    have el : ys.length = qs.length := by rw [dpa_len dq, List.length_map]
    have nz : 0 < n := by
      cases n with
      | zero => exact absurd Dn (by show ¬ D < 1; omega)
      | succ n => omega
    refine ⟨_, (pss_cons (ps_set (i := 1) sc_common_bottom.nd rfl (.inl rfl) pe_int)
      (pss_cons (ps_for PassesOwn.never rfl (pi_list (pv 0)) (pg_name (i := 2) sc_common_bottom.nd rfl (.inl rfl))
        (pss_one (ps_set (i := 1) sc_common_bottom.nd rfl (.inl rfl) (pe_op op_mulW (pe_op op_fdivX (pv 1) (pe_cl c_common_divisor hr (by decide) (by rfl) (pa_cons (pv 1) (pa_cons (pe_ix ix_tup (pv 2) pe_int (fun _ _ => rfl)) pa_nil)))) (pe_ix ix_tup (pv 2) pe_int (fun _ _ => rfl))))))
      (pss_one (ps_ret (pv 1))))), ?_⟩
    refine ⟨_, rfl, p, rfl, ⟨_, hp⟩, for_list (K := K) (a := p) (xs := ys) (fun i σ H' => ∃ (B : Nat) (c : Option V), σ = [some (.ref p), some (.int (B : Int)), c] ∧ H' = H ∧ B = botM (qs.take i)) ⟨1, none, rfl, rfl, rfl⟩ (fun i σ H' _ h => ?_) (fun i y σ H' hy h => ?_) (fun σ H' h => ?_)⟩
    · obtain ⟨B, c, rfl, rfl, _⟩ := h
      exact hp
    · obtain ⟨B, c, rfl, rfl, eB⟩ := h
      obtain ⟨B0, _, b3⟩ := botM_ok (qs.take i)
      have BD := b3 D fun r hr => hd r (List.mem_of_mem_take hr)
      rw [← eB] at B0 BD
      obtain ⟨x, hx, dx⟩ := dpa_map dq hy
      obtain ⟨a, rfl, hq⟩ := dF_at dx
      have xd := hd x (List.mem_of_getElem? hx)
      have bB : B < 2 ^ n := Nat.lt_of_le_of_lt (Nat.le_of_dvd D0 BD) Dn
      have bx : x.den < 2 ^ n := Nat.lt_of_le_of_lt (Nat.le_of_dvd D0 xd) Dn
      have g0 : 0 < Nat.gcd B x.den := Nat.gcd_pos_of_pos_left _ B0
      have gn : Nat.gcd B x.den < 2 ^ n := Nat.lt_of_le_of_lt (Nat.le_of_dvd B0 (Nat.gcd_dvd_left _ _)) bB
      refine ⟨_, rfl, _, rfl, _, rfl, _, _, _, _, rfl, rfl, hq, atI_nat (j := 1) rfl, _, _, rfl, _, _, rfl, rfl, ?_, _, rfl, _, _, _, _, rfl, rfl, hq, atI_nat (j := 1) rfl, _, _, rfl, rfl, ?_, ?_⟩
      · refine cdiv ?_ (b := n) ?_ nz (by omega)
        · rw [Int.natAbs_natCast, Int.natAbs_natCast]
          omega
        · rw [Int.natAbs_natCast, Int.natAbs_natCast, Int.natAbs_natCast]
          exact gn
      · refine wide_mul (a := n) (b := n) ?_ (by rw [Int.natAbs_natCast]; exact bx) nz nz (by omega)
        rw [Int.natAbs_natCast, Int.natAbs_natCast, Int.fdiv_eq_ediv_of_nonneg _ (by omega), ← Int.natCast_ediv, Int.natAbs_natCast]
        exact Nat.lt_of_le_of_lt (Nat.div_le_self _ _) bB
      · refine ⟨Nat.lcm B x.den, some (.ref a), congrArg (fun z : Int => [some (V.ref p), some (V.int z), some (V.ref a)]) (lcm_fdiv B0), rfl, by rw [botM_more hx, ← eB]⟩
    · obtain ⟨B, c, rfl, rfl, rfl⟩ := h
      rw [el, List.take_length]
      exact ⟨_, rfl, q⟩
def spScaled (K : PySem.W.Frag) : Sp := fun vs H Q _ => ∃ (v : V) (x : Rat) (B n m : Nat), vs = [v, .int (B : Int)] ∧ Dp K H v (dF x) ∧ Sz n x ∧ B < 2 ^ m ∧ n ≤ 8000 ∧ 0 < m ∧ m ≤ 8000 ∧ Q (.int (scI B x)) H
theorem cl_scaled (T : Txt K mg) : Cl P w K mg base CX0 1 "scaled" (spScaled K) := by
  refine T.d_scaled.cl sc_scaled (fun vs H Q E h => ?_) (fun f cdv A outer s H vs Q E hr h => ?_)
  · obtain ⟨v, x, B, n, m, rfl, _⟩ := h
    rfl
  · obtain ⟨v, x, B, n, m, rfl, dv, sx, bB, n0, m0, m1, q⟩ := h
    obtain ⟨a, rfl, hq⟩ := dF_at dv
    have xp := x.den_pos
    refine ⟨_, (pss_one (ps_ret (pe_op op_mulW (pe_ix ix_tup (pv 0) pe_int (fun _ _ => rfl)) (pe_op op_fdivX (pv 1) (pe_ix ix_tup (pv 0) pe_int (fun _ _ => rfl)))))), ?_⟩
    have e : (B : Int).fdiv (x.den : Int) = (B : Int) / (x.den : Int) := Int.fdiv_eq_ediv_of_nonneg _ (by omega)
    refine ⟨_, rfl, _, _, _, _, rfl, rfl, hq, atI_nat (j := 0) rfl, _, rfl, _, rfl, _, _, _, _, rfl, rfl, hq, atI_nat (j := 1) rfl, _, _, rfl, rfl, cdiv (by omega) (b := n) (by rw [Int.natAbs_natCast]; exact sx.den) sx.pos (by omega), _, _, rfl, rfl, ?_, ?_⟩
    · refine wide_mul (a := n) (b := m) sx.num ?_ sx.pos m0 (by omega)
      rw [e, ← Int.natCast_ediv, Int.natAbs_natCast]
      exact Nat.lt_of_le_of_lt (Nat.div_le_self _ _) bB
    · rw [e]
      exact q
/-! ### whole numbers and pairs of them on the heap -/
def dII (x : Int × Int) : PyData := .tuple [.int x.1, .int x.2]
theorem dII_at {K : PySem.W.Frag} {H : Hp} {v : V} {x : Int × Int} (h : Dp K H v (dII x)) : ∃ a, v = .ref a ∧ SqT K H a [.int x.1, .int x.2] := by
  unfold dII at h
  cases h with
  | tup hs ha =>
    cases ha with
    | cons h1 h2 =>
      cases h1
      cases h2 with
      | cons h3 h4 =>
        cases h3
        cases h4
        exact ⟨_, rfl, hs⟩
theorem dII_mk {K : PySem.W.Frag} {H : Hp} {p : Addr} {x : Int × Int} (h : SqT K H p [.int x.1, .int x.2]) : Dp K H (.ref p) (dII x) := .tup h (.cons (.int _) (.cons (.int _) .nil))
theorem dpa_prs {K : PySem.W.Frag} {H : Hp} : ∀ {vs : List V} {ps : List (Int × Int)}, DpAll K H vs (ps.map dII) → Prs K H vs ps
  | _, [], h => by
    cases h
    exact .nil
  | _, p :: ps, h => by
    cases h with
    | cons h1 h2 =>
      obtain ⟨a, rfl, h3⟩ := dII_at h1
      exact .cons h3 (dpa_prs h2)
def spStep (K : PySem.W.Frag) : Sp := fun vs H Q _ => ∃ m g : Int, vs = [.int m, .int g] ∧ ∀ H' p, Same H H' → Dp K H' (.ref p) (dII (stepM m g)) → Q (.ref p) H'
theorem cl_price_step (T : Txt K mg) : Cl P w K mg base CX0 1 "price_step" (spStep K) := by
  refine T.d_price_step.cl sc_price_step (fun vs H Q E h => ?_) (fun f cdv A outer s H vs Q E hr h => ?_)
  · obtain ⟨m, g, rfl, _⟩ := h
    rfl
  · obtain ⟨m, g, rfl, q⟩ := h
    refine ⟨_, (pss_cons (ps_if (pt_cmpR op_gt (pv 0) pe_int (nomark _))
        (pss_one (ps_ret (pe_tup (pa_cons (pe_un un_neg (pv 1)) (pa_cons (pe_un un_neg (pv 1)) pa_nil)))))
        pss_nil)
      (pss_cons (ps_if (pt_cmpR op_lt (pv 0) pe_int (nomark _))
        (pss_one (ps_ret (pe_tup (pa_cons (pv 1) (pa_cons (pv 1) pa_nil)))))
        pss_nil)
      (pss_one (ps_ret (pe_tup (pa_cons (pe_un un_neg (pv 1)) (pa_cons (pv 1) pa_nil))))))), ?_⟩
    unfold stepM at q
    refine ⟨_, rfl, _, _, rfl, rfl, _, rfl, ite2 (fun z => ?_) (fun z => ?_)⟩
    · rw [if_pos (show (0 : Int) < m from of_decide_eq_true z)] at q
      refine ⟨_, rfl, _, rfl, _, rfl, _, rfl, (show 2 ≤ sizeLine by decide), fun p np => ?_⟩
      exact q _ p (Same.new np) (dII_mk (.inl (.inl upd_same)))
    · rw [if_neg (show ¬ (0 : Int) < m from fun y => z (decide_eq_true y))] at q
      refine ⟨_, rfl, _, _, rfl, rfl, _, rfl, ite2 (fun z => ?_) (fun z => ?_)⟩
      · rw [if_pos (show m < 0 from of_decide_eq_true z)] at q
        refine ⟨_, rfl, _, rfl, (show 2 ≤ sizeLine by decide), fun p np => ?_⟩
        exact q _ p (Same.new np) (dII_mk (.inl (.inl upd_same)))
      · rw [if_neg (show ¬ m < 0 from fun y => z (decide_eq_true y))] at q
        refine ⟨_, rfl, _, rfl, _, rfl, (show 2 ≤ sizeLine by decide), fun p np => ?_⟩
        exact q _ p (Same.new np) (dII_mk (.inl (.inl upd_same)))
def spSums (K : PySem.W.Frag) : Sp := fun vs H Q _ => ∃ (p : Addr) (ns : List Int), vs = [.ref p] ∧ SqL K H p (ns.map V.int) ∧ ns.length ≤ 900 ∧ ∀ H' r, Same H H' → H r = none → H' r = some (.lst ((rsM 0 ns).map V.int)) → Q (.ref r) H'
theorem int_at {ns : List Int} {i : Nat} {y : V} (h : (ns.map V.int)[i]? = some y) : ∃ n, ns[i]? = some n ∧ y = .int n := by
  rw [List.getElem?_map] at h
  cases e : ns[i]? with
  | none => rw [e] at h; cases h
  | some n =>
    rw [e] at h
    exact ⟨n, rfl, (Option.some.inj h).symm⟩
theorem cl_running_sums (T : Txt K mg) : Cl P w K mg base CX0 1 "running_sums" (spSums K) := by
  refine T.d_running_sums.cl sc_running_sums (fun vs H Q E h => ?_) (fun f cdv A outer s H vs Q E hr h => ?_)
  · obtain ⟨p, ns, rfl, _⟩ := h
    rfl
  · obtain ⟨p, ns, rfl, hp, hl, q⟩ := h
    refine ⟨_, (pss_cons (ps_set (i := 1) sc_running_sums.nd rfl (.inl rfl) (pe_lst pa_nil))
      (pss_cons (ps_set (i := 2) sc_running_sums.nd rfl (.inl rfl) pe_int)
      (pss_cons (ps_for PassesOwn.never rfl (pi_list (pv 0)) (pg_name (i := 3) sc_running_sums.nd rfl (.inl rfl))
        (pss_cons (ps_aug (i := 2) sc_running_sums.nd rfl (.inl rfl) (pv 3) ip_add)
      (pss_one (ps_expr (pe_bm PySem.F.plainAttrs_list PySem.F.slot_list_append PySem.F.type_list_append mt_append (pv 1) (pa_cons (pv 2) pa_nil))))))
      (pss_one (ps_ret (pv 1)))))), ?_⟩
    refine ⟨Nat.zero_le _, fun r nr => ?_⟩
    have sr := Same.new (o := .lst []) nr
    refine ⟨_, rfl, p, rfl, ⟨_, sr.seq hp⟩, for_list (K := K) (a := p) (xs := ns.map V.int) (fun i σ H' => ∃ c : Option V, σ = [some (.ref p), some (.ref r), some (.int (ns.take i).sum), c] ∧ Same H (R.hid r r H') ∧ H' r = some (.lst ((rsM 0 (ns.take i)).map V.int))) ⟨none, rfl, hid_old sr nr, upd_same⟩ (fun i σ H' _ h => ?_) (fun i y σ H' hy h => ?_) (fun σ H' h => ?_)⟩
    · obtain ⟨c, rfl, s1, h1⟩ := h
      exact (s1.trans hid_same).seq hp
    · obtain ⟨c, rfl, s1, h1⟩ := h
      obtain ⟨n, hn, rfl⟩ := int_at hy
      have li : ((rsM 0 (ns.take i)).map V.int).length ≤ 1000 := by
        rw [List.length_map, rsM_len, List.length_take]
        omega
      refine ⟨_, rfl, _, rfl, _, _, rfl, rfl, ?_⟩
      refine ⟨_, rfl, .inl ⟨rfl, _, .inl (.inl h1)⟩, _, rfl, r, _, _, rfl, rfl, h1, small1000 li, ?_⟩
      refine ⟨some (V.int n), ?_, by rw [hid_b]; exact s1, ?_⟩
      · rw [take_more hn, List.sum_append]
        show _ = [some (V.ref p), some (V.ref r), some (V.int ((ns.take i).sum + (n + 0))), _]
        rw [Int.add_zero]
        rfl
      · rw [upd_same, take_more hn, rsM_snoc, List.map_append, Int.zero_add]
        rfl
    · obtain ⟨c, rfl, s1, h1⟩ := h
      rw [List.length_map, List.take_length] at h1
      exact ⟨_, rfl, q _ r (s1.trans hid_same) nr h1⟩
/-! ### the table of read_number's code may grow; all else stays -/
def Tb (P : Addr) (H H' : Hp) : Prop := GxR.TabG H' P ∧ ∀ a o, a ≠ P → H a = some o → H' a = some o
theorem Tb.refl {P : Addr} {H : Hp} (t : GxR.TabG H P) : Tb P H H := ⟨t, fun _ _ _ h => h⟩
theorem Tb.trans {P : Addr} {H H1 H2 : Hp} (a : Tb P H H1) (b : Tb P H1 H2) : Tb P H H2 := ⟨b.1, fun x o n h => b.2 x o n (a.2 x o n h)⟩
theorem tabG_same {P : Addr} {H H' : Hp} (t : GxR.TabG H P) (s : Same H H') : GxR.TabG H' P := let ⟨ps, h, q⟩ := t; ⟨ps, s _ _ h, q⟩
theorem Tb.same {P : Addr} {H H' : Hp} (t : GxR.TabG H P) (s : Same H H') : Tb P H H' := ⟨tabG_same t s, fun a o _ h => s a o h⟩
theorem Tb.tabbed {P : Addr} {H H' : Hp} (t : GxR.Tabbed P H H') : Tb P H H' := ⟨t.1, fun a o n h => by rw [t.2 a n]; exact h⟩
theorem Tb.at {P a : Addr} {H H' : Hp} {o : HO} (t : GxR.TabG H P) (s : Tb P H H') (h : H a = some o) (ho : ∀ q, o ≠ .tbl q) : H' a = some o := by
  refine s.2 a o (fun e => ?_) h
  obtain ⟨ps, hp, _⟩ := t
  rw [e, hp] at h
  exact ho _ (Option.some.inj h).symm
theorem tb_list {K : PySem.W.Frag} {P a : Addr} {H H' : Hp} {xs : List V} (t : GxR.TabG H P) (s : Tb P H H') (h : SqL K H a xs) : SqL K H' a xs := by
  rcases h with (h | ⟨o, h⟩) | h
  · exact .inl (.inl (s.at t h (fun _ z => nomatch z)))
  · exact .inl (.inr ⟨o, s.at t h (fun _ z => nomatch z)⟩)
  · exact .inr h
theorem tb_tup {K : PySem.W.Frag} {P a : Addr} {H H' : Hp} {xs : List V} (t : GxR.TabG H P) (s : Tb P H H') (h : SqT K H a xs) : SqT K H' a xs := by
  rcases h with (h | ⟨o, h⟩) | h
  · exact .inl (.inl (s.at t h (fun _ z => nomatch z)))
  · exact .inl (.inr ⟨o, s.at t h (fun _ z => nomatch z)⟩)
  · exact .inr h
theorem tb_dF {K : PySem.W.Frag} {P : Addr} {H H' : Hp} {v : V} {q : Rat} (t : GxR.TabG H P) (s : Tb P H H') (h : Dp K H v (dF q)) : Dp K H' v (dF q) := by
  obtain ⟨a, rfl, h2⟩ := dF_at h
  exact dF_mk (tb_tup t s h2)
structure Dfc (K : PySem.W.Frag) (mg : Str → Option Value) (x : Str) (st : Stmt) (ps : List Str) (c : Addr) : Prop where
  ex : ∃ (f : Addr) (oc : Value) (od : Option Addr) (kV doc pm : Value) (an : Option Addr) (ct : Value) (osl : Array (Option Value)),
    K.lookup f = some ⟨oc, od, .func (PySem.W.fnOf x x (defArgs st) (defBody st) (defScope st) .none kV doc pm an (.ref c) ct), osl⟩ ∧ PySem.W.codeIn K (.ref c) x = true ∧ PySem.W.keepIn K (.ref f) = true ∧ mg x = some (.ref f) ∧
    Binds K (PySem.W.fnOf x x (defArgs st) (defBody st) (defScope st) .none kV doc pm an (.ref c) ct) ps []
theorem Dfc.clN {x : Str} {st : Stmt} {N ps : List Str} {k : Nat} {sp : Sp} {c : Addr} (D : Dfc K mg x st ps c) (S : FnScope N ps (defScope st)) (len : ∀ vs H Q E, sp vs H Q E → vs.length = ps.length)
    (hbody : ∀ (f : Addr) (A : Around) (outer : List Env) (s : Shared) (H : Hp) (vs : List V) (Q : VK) (E : XK), Room k (A.deeper (envOfC x (defScope st) s.heap.objs.size f (.ref c))) → sp vs H Q E →
      ∃ t, PSs (cxOf CX0 P w K mg base N x (defScope st) f (.ref c) A outer s H E).nox (defBody st) t ∧ t { nx := fun _ H' => Q .non H', rt := Q } (start N vs) H) : Cl P w K mg base CX0 (k + 1) x sp := by
  obtain ⟨f, oc, od, kV, doc, pm, an, ct, osl, lk, hcd, kp, g, b⟩ := D.ex
  exact ⟨f, _, ps, fn_of lk hcd S len fun A outer s H vs Q E hr hsp => let ⟨t, h1, h2⟩ := hbody f A outer s H vs Q E hr hsp; ⟨t, h1.nox, h2⟩, g, kp, b⟩
structure Ts (P0 P1 : Addr) (H : Hp) : Prop where
  n : P0 ≠ P1
  t0 : GxR.TabG H P0
  t1 : GxR.TabG H P1
def Tb2 (P0 P1 : Addr) (H H' : Hp) : Prop := Ts P0 P1 H' ∧ ∀ a o, a ≠ P0 → a ≠ P1 → H a = some o → H' a = some o
theorem Tb2.refl {P0 P1 : Addr} {H : Hp} (t : Ts P0 P1 H) : Tb2 P0 P1 H H := ⟨t, fun _ _ _ _ h => h⟩
theorem Tb2.trans {P0 P1 : Addr} {H H1 H2 : Hp} (a : Tb2 P0 P1 H H1) (b : Tb2 P0 P1 H1 H2) : Tb2 P0 P1 H H2 := ⟨b.1, fun x o n m h => b.2 x o n m (a.2 x o n m h)⟩
theorem Tb2.same {P0 P1 : Addr} {H H' : Hp} (t : Ts P0 P1 H) (s : Same H H') : Tb2 P0 P1 H H' := ⟨⟨t.n, tabG_same t.t0 s, tabG_same t.t1 s⟩, fun a o _ _ h => s a o h⟩
theorem Tb2.of0 {P0 P1 : Addr} {H H' : Hp} (t : Ts P0 P1 H) (s : Tb P0 H H') : Tb2 P0 P1 H H' := ⟨⟨t.n, s.1, let ⟨ps, h, q⟩ := t.t1; ⟨ps, s.2 _ _ t.n.symm h, q⟩⟩, fun a o n _ h => s.2 a o n h⟩
theorem Tb2.of1 {P0 P1 : Addr} {H H' : Hp} (t : Ts P0 P1 H) (s : Tb P1 H H') : Tb2 P0 P1 H H' := ⟨⟨t.n, (let ⟨ps, h, q⟩ := t.t0; ⟨ps, s.2 _ _ t.n h, q⟩), s.1⟩, fun a o _ m h => s.2 a o m h⟩
theorem Tb2.at {P0 P1 a : Addr} {H H' : Hp} {o : HO} (t : Ts P0 P1 H) (s : Tb2 P0 P1 H H') (h : H a = some o) (ho : ∀ q, o ≠ .tbl q) : H' a = some o := by
  refine s.2 a o (fun e => ?_) (fun e => ?_) h
  · obtain ⟨ps, hp, _⟩ := t.t0
    rw [e, hp] at h
    exact ho _ (Option.some.inj h).symm
  · obtain ⟨ps, hp, _⟩ := t.t1
    rw [e, hp] at h
    exact ho _ (Option.some.inj h).symm
theorem tb2_list {K : PySem.W.Frag} {P0 P1 a : Addr} {H H' : Hp} {xs : List V} (t : Ts P0 P1 H) (s : Tb2 P0 P1 H H') (h : SqL K H a xs) : SqL K H' a xs := by
  rcases h with (h | ⟨o, h⟩) | h
  · exact .inl (.inl (s.at t h (fun _ z => nomatch z)))
  · exact .inl (.inr ⟨o, s.at t h (fun _ z => nomatch z)⟩)
  · exact .inr h
theorem tb2_tup {K : PySem.W.Frag} {P0 P1 a : Addr} {H H' : Hp} {xs : List V} (t : Ts P0 P1 H) (s : Tb2 P0 P1 H H') (h : SqT K H a xs) : SqT K H' a xs := by
  rcases h with (h | ⟨o, h⟩) | h
  · exact .inl (.inl (s.at t h (fun _ z => nomatch z)))
  · exact .inl (.inr ⟨o, s.at t h (fun _ z => nomatch z)⟩)
  · exact .inr h
theorem tb2_dF {K : PySem.W.Frag} {P0 P1 : Addr} {H H' : Hp} {v : V} {q : Rat} (t : Ts P0 P1 H) (s : Tb2 P0 P1 H H') (h : Dp K H v (dF q)) : Dp K H' v (dF q) := by
  obtain ⟨a, rfl, h2⟩ := dF_at h
  exact dF_mk (tb2_tup t s h2)
/-! ### the middle of sorted wishes -/
def spMid (K : PySem.W.Frag) (P1 : Addr) : Sp := fun vs H Q _ => ∃ (p : Addr) (ys : List V) (qs : List (Int × Int)), vs = [.ref p] ∧ SqL K H p ys ∧ DpAll K H ys (qs.map dII) ∧ qs ≠ [] ∧ GxR.TabG H P1 ∧ ∀ H', Tb P1 H H' → Q (.int (midM qs)) H'
theorem midF_drop : ∀ {qs : List (Int × Int)} {i : Nat} {q : Int × Int} (t p l : Int), qs[i]? = some q → midF t p l (qs.drop i) = if t ≤ 2 * (p + q.2) then q.1 else midF t (p + q.2) q.1 (qs.drop (i + 1))
  | [], _, _, _, _, _, h => by simp at h
  | x :: xs, 0, q, t, p, l, h => by
    have : x = q := Option.some.inj h
    subst this
    rfl
  | x :: xs, i + 1, q, t, p, l, h => midF_drop (qs := xs) (i := i) t p l h
theorem sm2_tot : ∀ qs : List (Int × Int), sm2 qs = tot qs
  | [] => rfl
  | q :: qs => by
    show q.2 + sm2 qs = (if true then q.2 else 0) + tot qs
    rw [sm2_tot qs]
    rfl
theorem cl_middle (T : Txt K mg) {c P1 : Addr} (D : Dfc K mg "middle" s_middle ["together"] c) (TB : GxR.TabB base mg c P1) : Cl P w K mg base CX0 1 "middle" (spMid K P1) := by
  refine D.clN sc_middle (fun vs H Q E h => ?_) (fun f A outer s H vs Q E hr h => ?_)
  · obtain ⟨p, ys, qs, rfl, _⟩ := h
    rfl
  · obtain ⟨p, ys, qs, rfl, hp, dq, ne, tb, q⟩ := h
    have el : ys.length = qs.length := by rw [dpa_len dq, List.length_map]
    refine ⟨_, (pss_cons (ps_set (i := 1) sc_middle.nd rfl (.inl rfl) (pe_sumP hr (by rfl) T.m_sum TB rfl ⟨rfl, rfl, by decide +kernel, rfl, rfl, noFree (by decide +kernel)⟩ rfl (by decide) (by decide) (pv 0) (fun _ => rfl)))
      (pss_cons (ps_set (i := 2) sc_middle.nd rfl (.inl rfl) pe_int)
      (pss_cons (ps_for PassesOwn.never rfl (pi_list (pv 0)) (pg_tup rfl (pgs_cons (pg_name (i := 3) sc_middle.nd rfl (.inl rfl)) (pgs_cons (pg_name (i := 4) sc_middle.nd rfl (.inl rfl)) pgs_nil)))
        (pss_cons (ps_aug (i := 2) sc_middle.nd rfl (.inl rfl) (pv 4) ip_add)
      (pss_one (ps_if (pt_cmpR op_ge (pe_op op_mul pe_int (pv 2)) (pv 1) (nomark _))
        (pss_one ps_break)
        pss_nil))))
      (pss_one (ps_ret (pv 3)))))), ?_⟩
    refine ⟨_, rfl, p, ys, qs, rfl, hp, dpa_prs dq, tb, fun H1 tbd => ?_⟩
    have t1 := Tb.tabbed tbd
    have hp1 := tb_list tb t1 hp
    have q1 := q H1 t1
    rw [sm2_tot]
    refine ⟨_, rfl, p, rfl, ⟨_, hp1⟩, for_list (K := K) (a := p) (xs := ys) (fun i σ H' => ∃ (a : Int) (u g : Option V), σ = [some (.ref p), some (.int (tot qs)), some (.int a), u, g] ∧ Same H1 H' ∧ Tb P1 H H' ∧ ∃ l, (i = 0 ∨ u = some (.int l)) ∧ midF (tot qs) a l (qs.drop i) = midM qs) ⟨0, none, none, rfl, Same.refl _, t1, 0, .inl rfl, rfl⟩ (fun i σ H' _ h => ?_) (fun i y σ H' hy h => ?_) (fun σ H' h => ?_)⟩
    · obtain ⟨a, u, g, rfl, s1, _⟩ := h
      exact s1.seq hp1
    · obtain ⟨a, u, g, rfl, s1, t2, l, _, hm⟩ := h
      obtain ⟨x, hx, dx⟩ := dpa_map dq hy
      obtain ⟨ax, rfl, hax⟩ := dII_at dx
      have hax2 : SqT K H' ax [.int x.1, .int x.2] := tb_tup tb t2 hax
      rw [midF_drop _ _ _ hx] at hm
      refine ⟨ax, _, rfl, hax2, rfl, _, _, rfl, _, _, rfl, rfl, ?_⟩
      refine ⟨_, rfl, _, rfl, _, _, rfl, rfl, ?_⟩
      refine ⟨_, rfl, _, _, rfl, rfl, ?_, _, rfl, _, _, rfl, rfl, _, rfl, ite2 (fun z => ?_) (fun z => ?_)⟩
      · exact .inl (by decide)
      · have z : tot qs ≤ 2 * (a + x.2) := of_decide_eq_true z
        rw [if_pos z] at hm
        refine ⟨_, rfl, ?_⟩
        rw [hm]
        exact q _ t2
      · have z : ¬ tot qs ≤ 2 * (a + x.2) := fun y => z (decide_eq_true y)
        rw [if_neg z] at hm
        exact ⟨_, _, _, rfl, s1, t2, x.1, .inr rfl, hm⟩
    · obtain ⟨a, u, g, rfl, s1, t2, l, hu, hm⟩ := h
      rw [el, List.drop_length] at hm
      rcases hu with hu | rfl
      · exfalso
        rw [el] at hu
        exact ne (List.length_eq_zero_iff.mp hu)
      · refine ⟨_, rfl, ?_⟩
        have hm : l = midM qs := hm
        rw [hm]
        exact q _ t2
/-! ### the least prices -/
def lowAt (st : List (Int × Int)) (k : Nat) : Int := LO 0 (st.take k)
def prcAt (st : List (Int × Int)) (k : Nat) : Int := PR (lowAt st k) (st.drop k)
theorem lowAt_more {st : List (Int × Int)} {k : Nat} {x : Int × Int} (h : st[k]? = some x) : lowAt st (k + 1) = max 0 (lowAt st k + x.1) := by
  unfold lowAt
  rw [take_more h, LO_snoc]
theorem drop_at {α : Type} : ∀ {l : List α} {k : Nat} {x : α}, l[k]? = some x → l.drop k = x :: l.drop (k + 1)
  | [], _, _, h => by simp at h
  | y :: l, 0, x, h => by
    have : y = x := Option.some.inj h
    rw [this]
    rfl
  | y :: l, k + 1, x, h => drop_at (l := l) (k := k) h
theorem prcAt_less {st : List (Int × Int)} {k : Nat} {x : Int × Int} (h : st[k]? = some x) : prcAt st k = max (lowAt st k) (prcAt st (k + 1) - x.2) := by
  unfold prcAt
  rw [drop_at h, lowAt_more h]
  rfl
theorem PL_range (st : List (Int × Int)) : PL 0 st = (List.range (st.length + 1)).map (prcAt st) := by
  apply List.ext_getElem?
  intro k
  by_cases hk : k ≤ st.length
  · have e := PL_at (st.take k) (st.drop k) 0
    rw [List.take_append_drop, List.length_take, Nat.min_eq_left hk] at e
    rw [e, List.getElem?_map, List.getElem?_range (by omega)]
    rfl
  · rw [List.getElem?_eq_none (by rw [PL_len]; omega), List.getElem?_eq_none (by rw [List.length_map, List.length_range]; omega)]
theorem rev_range (f : Nat → Int) (n : Nat) : ((List.range (n + 1)).map fun i => f (n - i)).reverse = (List.range (n + 1)).map f := by
  apply List.ext_getElem?
  intro k
  by_cases hk : k < n + 1
  · rw [List.getElem?_reverse (by rw [List.length_map, List.length_range]; exact hk), List.length_map, List.length_range, List.getElem?_map, List.getElem?_map, List.getElem?_range (by omega), List.getElem?_range hk]
    show some (f (n - (n + 1 - 1 - k))) = some (f k)
    congr 2
    omega
  · rw [List.getElem?_eq_none (by rw [List.length_reverse, List.length_map, List.length_range]; omega), List.getElem?_eq_none (by rw [List.length_map, List.length_range]; omega)]
theorem max_if (a b : Int) : (if b > a then b else a) = max a b := by
  by_cases h : b > a
  · rw [if_pos h]; omega
  · rw [if_neg h]; omega
theorem min_if (a b : Int) : (if b < a then b else a) = min a b := by
  by_cases h : b < a
  · rw [if_pos h]; omega
  · rw [if_neg h]; omega
def spPrices (K : PySem.W.Frag) : Sp := fun vs H Q _ => ∃ (p : Addr) (ys : List V) (st : List (Int × Int)), vs = [.ref p] ∧ SqL K H p ys ∧ DpAll K H ys (st.map dII) ∧ st.length ≤ 900 ∧ ∀ H' r, Same H H' → H r = none → H' r = some (.lst ((PL 0 st).map V.int)) → Q (.ref r) H'
theorem cl_least_prices (T : Txt K mg) : Cl P w K mg base CX0 1 "least_prices" (spPrices K) := by
  refine T.d_least_prices.cl sc_least_prices (fun vs H Q E h => ?_) (fun f cdv A outer s H vs Q E hr h => ?_)
  · obtain ⟨p, ys, st, rfl, _⟩ := h
    rfl
  · obtain ⟨p, ys, st, rfl, hp, dq, hl, q⟩ := h
    have el : ys.length = st.length := by rw [dpa_len dq, List.length_map]
    refine ⟨_, (pss_cons (ps_set (i := 1) sc_least_prices.nd rfl (.inl rfl) (pe_lst (pa_cons pe_int pa_nil)))
      (pss_cons (ps_for PassesOwn.never rfl (pi_list (pv 0)) (pg_tup rfl (pgs_cons (pg_name (i := 2) sc_least_prices.nd rfl (.inl rfl)) (pgs_cons (pg_name (i := 3) sc_least_prices.nd rfl (.inl rfl)) pgs_nil)))
        (pss_one (ps_expr (pe_bm PySem.F.plainAttrs_list PySem.F.slot_list_append PySem.F.type_list_append mt_append (pv 1) (pa_cons (pe_callB (call_max2 rfl) (by rfl) T.m_max (by decide +kernel) (pa_cons pe_int (pa_cons (pe_op op_add (pe_ix ix_list (pv 1) (pe_un un_neg pe_int) (fun _ _ => rfl)) (pv 2)) pa_nil))) pa_nil)))))
      (pss_cons (ps_set (i := 4) sc_least_prices.nd rfl (.inl rfl) (pe_lst (pa_cons (pe_bm0 PySem.F.plainAttrs_list PySem.F.slot_list_pop PySem.F.type_list_pop mt_pop (pv 1)) pa_nil)))
      (pss_cons (ps_for PassesOwn.never rfl (pi_zip (by rfl) T.m_zip (pa_cons (pe_revL (pv 1)) (pa_cons (pe_revL (pv 0)) pa_nil))) (pg_tup rfl (pgs_cons (pg_name (i := 5) sc_least_prices.nd rfl (.inl rfl)) (pgs_cons (pg_tup rfl (pgs_cons (pg_name (i := 2) sc_least_prices.nd rfl (.inl rfl)) (pgs_cons (pg_name (i := 3) sc_least_prices.nd rfl (.inl rfl)) pgs_nil))) pgs_nil)))
        (pss_one (ps_expr (pe_bm PySem.F.plainAttrs_list PySem.F.slot_list_append PySem.F.type_list_append mt_append (pv 4) (pa_cons (pe_callB (call_max2 rfl) (by rfl) T.m_max (by decide +kernel) (pa_cons (pv 5) (pa_cons (pe_op op_sub (pe_ix ix_list (pv 4) (pe_un un_neg pe_int) (fun _ _ => rfl)) (pv 3)) pa_nil))) pa_nil)))))
      (pss_one (ps_ret (pe_revL (pv 4)))))))), ?_⟩
    refine ⟨(show 1 ≤ sizeLine by decide), fun r nr => ?_⟩
    have sr := Same.new (o := .lst [V.int 0]) nr
    refine ⟨_, rfl, p, rfl, ⟨_, sr.seq hp⟩, for_list (K := K) (a := p) (xs := ys) (fun i σ H' => ∃ c d : Option V, σ = [some (.ref p), some (.ref r), c, d, none, none] ∧ Same H (R.hid r r H') ∧ H' r = some (.lst (((List.range (i + 1)).map (lowAt st)).map V.int))) ⟨none, none, rfl, hid_old sr nr, upd_same⟩ (fun i σ H' _ h => ?_) (fun i y σ H' hy h => ?_) (fun σ H' h => ?_)⟩
    · obtain ⟨c, d, rfl, s1, h1⟩ := h
      exact (s1.trans hid_same).seq hp
    · obtain ⟨c, d, rfl, s1, h1⟩ := h
      obtain ⟨x, hx, dx⟩ := dpa_map dq hy
      obtain ⟨ax, rfl, hax⟩ := dII_at dx
      have hax1 := Same.tup (s1.trans hid_same) hax
      have il : i < st.length := by rw [← el]; exact (List.getElem?_eq_some_iff.mp hy).1
      rw [List.range_succ, List.map_append, List.map_append] at h1
      have h1 : H' r = some (.lst (((List.range i).map (lowAt st)).map V.int ++ [V.int (lowAt st i)])) := h1
      refine ⟨ax, _, rfl, hax1, rfl, _, _, rfl, _, _, rfl, rfl, ?_⟩
      refine ⟨_, rfl, .inl ⟨rfl, _, .inl (.inl h1)⟩, _, rfl, _, rfl, _, _, _, _, rfl, rfl, .inl (.inl h1), atI_last _ _, _, rfl, _, _, rfl, rfl, _, _, rfl, r, _, _, rfl, rfl, h1, small1000 ?_, ?_⟩
      · rw [List.length_append, List.length_map, List.length_map, List.length_range]
        show i + 1 ≤ 1000
        omega
      · refine ⟨_, _, rfl, by rw [hid_b]; exact s1, ?_⟩
        rw [upd_same, List.range_succ (n := i + 1), List.map_append, List.map_append, List.range_succ, List.map_append, List.map_append]
        show some (HO.lst (_ ++ [V.int (lowAt st i)] ++ [V.int (if lowAt st i + x.1 > 0 then lowAt st i + x.1 else 0)])) = some (HO.lst (_ ++ [V.int (lowAt st i)] ++ [V.int (lowAt st (i + 1))]))
        rw [max_if, lowAt_more hx]
    · obtain ⟨c, d, rfl, s1, h1⟩ := h
      rw [el, List.range_succ, List.map_append, List.map_append] at h1
      have h1 : H' r = some (.lst (((List.range st.length).map (lowAt st)).map V.int ++ [V.int (lowAt st st.length)])) := h1
      refine ⟨_, rfl, .inl ⟨rfl, _, .inl (.inl h1)⟩, r, _, V.int (lowAt st st.length), rfl, rfl, h1, by simp, ?_⟩
      have hU : (upd H' r (.lst (((List.range st.length).map (lowAt st)).map V.int ++ [V.int (lowAt st st.length)]).dropLast)) r = some (.lst (((List.range st.length).map (lowAt st)).map V.int)) := by rw [upd_same, List.dropLast_concat]
      have sU : Same H (R.hid r r (upd H' r (.lst (((List.range st.length).map (lowAt st)).map V.int ++ [V.int (lowAt st st.length)]).dropLast))) := by
        rw [hid_b]
        exact s1
      generalize upd H' r (.lst (((List.range st.length).map (lowAt st)).map V.int ++ [V.int (lowAt st st.length)]).dropLast) = H2 at hU sU ⊢
      have s2 := sU.trans hid_same
      refine ⟨(show 1 ≤ sizeLine by decide), fun r2 n2 => ?_⟩
      have nr2 : H r2 = none := s2.free n2
      have n12 : r2 ≠ r := fun e => by rw [e, hU] at n2; cases n2
      have sr2 := Same.new (o := .lst [V.int (lowAt st st.length)]) n2
      have h3 : (upd H2 r2 (.lst [V.int (lowAt st st.length)])) r2 = some (.lst [V.int (lowAt st st.length)]) := upd_same
      generalize upd H2 r2 (.lst [V.int (lowAt st st.length)]) = H3 at sr2 h3 ⊢
      have s3 := s2.trans sr2
      have hU3 := sr2 _ _ hU
      refine ⟨_, rfl, r, _, rfl, .inl (.inl hU3), fun r3 n3 => ?_⟩
      have sr3 := Same.new (o := .lst (((List.range st.length).map (lowAt st)).map V.int).reverse) n3
      have n23 : r3 ≠ r2 := fun e => by rw [e, h3] at n3; cases n3
      have h4 : (upd H3 r3 (.lst (((List.range st.length).map (lowAt st)).map V.int).reverse)) r3 = some (.lst (((List.range st.length).map (lowAt st)).map V.int).reverse) := upd_same
      generalize upd H3 r3 (.lst (((List.range st.length).map (lowAt st)).map V.int).reverse) = H4 at sr3 h4 ⊢
      have s4 := s3.trans sr3
      have h34 := sr3 _ _ h3
      refine ⟨_, rfl, p, ys, rfl, s4.seq hp, fun r4 n4 => ?_⟩
      have sr4 := Same.new (o := .lst ys.reverse) n4
      have n24 : r4 ≠ r2 := fun e => by rw [e, h34] at n4; cases n4
      have h5 : (upd H4 r4 (.lst ys.reverse)) r4 = some (.lst ys.reverse) := upd_same
      generalize upd H4 r4 (.lst ys.reverse) = H5 at sr4 h5 ⊢
      have s5 := s4.trans sr4
      have h35 := sr4 _ _ h34
      have h45 := sr4 _ _ h4
      have e1 : ((((List.range st.length).map (lowAt st)).map V.int).reverse).length = (ys.reverse).length := by simp [el]
      have en : ((((List.range st.length).map (lowAt st)).map V.int).reverse).length = st.length := by simp
      have h53 : R.hid r2 r2 H5 r3 = some (.lst (((List.range st.length).map (lowAt st)).map V.int).reverse) := by
        unfold R.hid
        rw [if_neg (by rintro (z | z) <;> exact n23 z)]
        exact h45
      have h54 : R.hid r2 r2 H5 r4 = some (.lst ys.reverse) := by
        unfold R.hid
        rw [if_neg (by rintro (z | z) <;> exact n24 z)]
        exact h5
      have h5p : Same H (R.hid r2 r2 H5) := hid_old s5 nr2
      refine ⟨r3, r4, _, _, rfl, .inl (.inl h45), .inl (.inl h5), RZ.for_zipL (K := K) e1 (fun j σ Hx => ∃ c d e : Option V, σ = [some (.ref p), some (.ref r), c, d, some (.ref r2), e] ∧ Same (R.hid r2 r2 H5) (R.hid r2 r2 Hx) ∧ Hx r2 = some (.lst (((List.range (j + 1)).map fun i => prcAt st (st.length - i)).map V.int))) ⟨_, _, _, rfl, Same.refl _, ?_⟩ (fun j σ Hx h => ?_) (fun j x y t σ Hx hx hy h nt => ?_) (fun σ Hx h => ?_)⟩
      · rw [h35]
        show _ = some (HO.lst [V.int (prcAt st (st.length - 0))])
        unfold prcAt
        rw [Nat.sub_zero, List.drop_length]
        rfl
      · obtain ⟨c, d, e, rfl, sx, hx⟩ := h
        have := sx.trans hid_same
        exact ⟨.inl (.inl (this _ _ h53)), .inl (.inl (this _ _ h54))⟩
      · obtain ⟨c, d, e, rfl, sx, hr2⟩ := h
        have jl : j < st.length := by rw [← en]; exact (List.getElem?_eq_some_iff.mp hx).1
        rw [List.getElem?_reverse (by rw [← List.length_reverse, en]; exact jl), List.length_map, List.length_map, List.length_range, List.getElem?_map, List.getElem?_map, List.getElem?_range (by omega)] at hx
        obtain rfl : V.int (lowAt st (st.length - 1 - j)) = x := Option.some.inj hx
        rw [List.getElem?_reverse (by rw [el]; exact jl), el] at hy
        obtain ⟨z, hz, dz⟩ := dpa_map dq hy
        obtain ⟨az, rfl, haz⟩ := dII_at dz
        have st1 := Same.new (o := .tup [V.int (lowAt st (st.length - 1 - j)), V.ref az]) nt
        have ht : (upd Hx t (.tup [V.int (lowAt st (st.length - 1 - j)), V.ref az])) t = some (.tup [V.int (lowAt st (st.length - 1 - j)), V.ref az]) := upd_same
        generalize upd Hx t (.tup [V.int (lowAt st (st.length - 1 - j)), V.ref az]) = Hy at st1 ht ⊢
        have hr2y := st1 _ _ hr2
        have haz2 : SqT K Hy az [.int z.1, .int z.2] := Same.tup ((h5p.trans sx).trans (hid_same.trans st1)) haz
        rw [List.range_succ, List.map_append, List.map_append] at hr2y
        have hr2y : Hy r2 = some (.lst (((List.range j).map fun i => prcAt st (st.length - i)).map V.int ++ [V.int (prcAt st (st.length - j))])) := hr2y
        refine ⟨t, _, rfl, .inl (.inl ht), rfl, _, _, rfl, _, _, rfl, ?_⟩
        refine ⟨az, _, rfl, haz2, rfl, _, _, rfl, _, _, rfl, rfl, rfl, ?_⟩
        refine ⟨_, rfl, .inl ⟨rfl, _, .inl (.inl hr2y)⟩, _, rfl, _, rfl, _, rfl, _, _, _, _, rfl, rfl, .inl (.inl hr2y), atI_last _ _, _, rfl, _, _, rfl, rfl, _, _, rfl, r2, _, _, rfl, rfl, hr2y, small1000 ?_, ?_⟩
        · rw [List.length_append, List.length_map, List.length_map, List.length_range]
          show j + 1 ≤ 1000
          omega
        · refine ⟨_, _, _, rfl, by rw [hid_b]; exact sx.trans (Same.hid st1), ?_⟩
          rw [upd_same, List.range_succ (n := j + 1), List.map_append, List.map_append, List.range_succ, List.map_append, List.map_append]
          show some (HO.lst (_ ++ [V.int (prcAt st (st.length - j))] ++ [V.int (if prcAt st (st.length - j) - z.2 > lowAt st (st.length - 1 - j) then prcAt st (st.length - j) - z.2 else lowAt st (st.length - 1 - j))])) = some (HO.lst (_ ++ [V.int (prcAt st (st.length - j))] ++ [V.int (prcAt st (st.length - (j + 1)))]))
          have ek : st.length - (j + 1) = st.length - 1 - j := by omega
          have ek2 : st.length - j = st.length - 1 - j + 1 := by omega
          rw [max_if, ek, ek2, prcAt_less hz]
      · obtain ⟨c, d, e, rfl, sx, hr2⟩ := h
        rw [en] at hr2
        refine ⟨_, rfl, r2, _, rfl, .inl (.inl hr2), fun p5 n5 => ?_⟩
        have s6 := (h5p.trans sx).trans hid_same
        refine q _ p5 (s6.trans (Same.new n5)) (s6.free n5) ?_
        rw [upd_same, ← List.map_reverse, rev_range, PL_range]
/-! ### times as pairs -/
theorem size2 {n : Nat} : Builtin.Range.rangeSize 0 ((2 * n : Nat) : Int) 2 = (n : Int) := by
  unfold Builtin.Range.rangeSize
  simp only [show ((2 : Int) > 0) by decide, if_true]
  split <;> omega
theorem rg2 {n : Nat} (h : n ≤ 400) : RgC 0 ((2 * n : Nat) : Int) 2 n := by
  refine ⟨by decide, by decide, ?_, size2⟩
  have k : ∀ m : Fin 401, Builtin.Range.small 0 ((2 * m.1 : Nat) : Int) 2 = true := by decide +kernel
  exact k ⟨n, by omega⟩
def dFF (x : Rat × Rat) : PyData := .tuple [dF x.1, dF x.2]
def prsOf : List Rat → List (Rat × Rat)
  | a :: b :: r => (a, b) :: prsOf r
  | _ => []
theorem prsOf_at : ∀ {ts : List Rat} {k : Nat} {a b : Rat}, ts[2 * k]? = some a → ts[2 * k + 1]? = some b → (prsOf ts)[k]? = some (a, b)
  | [], _, _, _, h, _ => by simp at h
  | [x], 0, _, _, _, h => by simp at h
  | [x], k + 1, _, _, h, _ => by simp at h
  | x :: y :: r, 0, a, b, h1, h2 => by
    obtain rfl : x = a := Option.some.inj h1
    obtain rfl : y = b := Option.some.inj h2
    rfl
  | x :: y :: r, k + 1, a, b, h1, h2 => by
    show (prsOf r)[k]? = _
    exact prsOf_at (by rw [show 2 * (k + 1) = 2 * k + 1 + 1 by omega] at h1; exact h1) (by rw [show 2 * (k + 1) + 1 = 2 * k + 1 + 1 + 1 by omega] at h2; exact h2)
theorem prsOf_len : ∀ {n : Nat} {ts : List Rat}, ts.length = 2 * n → (prsOf ts).length = n
  | 0, [], _ => rfl
  | 0, _ :: _, h => by simp at h
  | n + 1, [], h => by simp at h
  | n + 1, [_], h => by simp at h; omega
  | n + 1, a :: b :: r, h => by
    show (prsOf r).length + 1 = n + 1
    rw [prsOf_len (n := n) (ts := r) (by simp at h; omega)]
def spPairs (K : PySem.W.Frag) : Sp := fun vs H Q _ => ∃ (p : Addr) (ys : List V) (ts : List Rat) (n : Nat), vs = [.ref p] ∧ SqL K H p ys ∧ DpAll K H ys (ts.map dF) ∧ ts.length = 2 * n ∧ n ≤ 400 ∧ ∀ H' r zs, Same H H' → H r = none → H' r = some (.lst zs) → DpAll K H' zs ((prsOf ts).map dFF) → Q (.ref r) H'
theorem dpa_get {α : Type} {K : PySem.W.Frag} {H : Hp} {f : α → PyData} {vs : List V} {xs : List α} {i : Nat} {x : α} (h : DpAll K H vs (xs.map f)) (hx : xs[i]? = some x) : ∃ v, vs[i]? = some v ∧ Dp K H v (f x) := by
  have il : i < vs.length := by
    rw [dpa_len h, List.length_map]
    exact (List.getElem?_eq_some_iff.mp hx).1
  obtain ⟨y, hy, dy⟩ := dpa_map h (List.getElem?_eq_getElem il)
  rw [hx] at hy
  cases hy
  exact ⟨_, List.getElem?_eq_getElem il, dy⟩
theorem cl_as_pairs (T : Txt K mg) : Cl P w K mg base CX0 1 "as_pairs" (spPairs K) := by
  refine T.d_as_pairs.cl sc_as_pairs (fun vs H Q E h => ?_) (fun f cdv A outer s H vs Q E hr h => ?_)
  · obtain ⟨p, ys, ts, n, rfl, _⟩ := h
    rfl
  · obtain ⟨p, ys, ts, n, rfl, hp, dq, hl, hn, q⟩ := h
    have el : ys.length = 2 * n := by rw [dpa_len dq, List.length_map, hl]
    refine ⟨_, (pss_one (ps_ret (pe_lc (own := [("at", 1)]) (g := (gName 1)) (tt := tYes) (by rfl) sc_as_pairs.nd (pi_range3 (by rfl) T.m_range (pa_cons pe_int (pa_cons (pe_callB call_len_seq (by rfl) T.m_len (by decide +kernel) (pa_cons (pv 0) pa_nil)) (pa_cons pe_int pa_nil)))) (blkOk_by (N := ["times", "at"]) (sc := defScope s_as_pairs) (by decide +kernel)) (fun _ _ _ _ _ => (pg_name (i := 1) sc_as_pairs.nd rfl (Or.inl rfl))) (fun _ _ _ _ _ => pts_nil) (fun _ _ _ _ _ => (pe_tup (pa_cons (pe_ix (ix_listK (K := K) rfl) (pv 0) (pv 1) (fun _ _ => rfl)) (pa_cons (pe_ix (ix_listK (K := K) rfl) (pv 0) (pe_op op_add (pv 1) pe_int) (fun _ _ => rfl)) pa_nil))))))), ?_⟩
    refine ⟨_, rfl, p, ys, rfl, .inl hp, 0, _, 2, n, rfl, ?_, fun D nD => ?_⟩
    · rw [el]
      exact rg2 hn
    have sD := Same.new (o := .lst []) nD
    refine lc_it walk_rangeC (fun j H' => ∃ acc, H' D = some (.lst acc) ∧ Same H (R.hid D D H') ∧ DpAll K (R.hid D D H') acc (((prsOf ts).take j).map dFF)) ⟨[], upd_same, hid_old sD nD, .nil⟩ (fun _ _ _ _ => trivial) (fun j x H1 H2 hj h hy => ?_) (fun H1 h => ?_)
    · obtain ⟨acc, hd, s1, da⟩ := h
      obtain ⟨rfl, rfl⟩ := hy
      obtain ⟨a, ha⟩ : ∃ a, ts[2 * j]? = some a := ⟨_, List.getElem?_eq_getElem (by omega)⟩
      obtain ⟨b, hb⟩ : ∃ b, ts[2 * j + 1]? = some b := ⟨_, List.getElem?_eq_getElem (by omega)⟩
      obtain ⟨u, hu, du⟩ := dpa_get dq ha
      obtain ⟨v, hv, dv⟩ := dpa_get dq hb
      have hp1 := (s1.trans hid_same).seq hp
      have e1 : (0 : Int) + ((j : Nat) : Int) * 2 = ((2 * j : Nat) : Int) := by omega
      have e2 : (0 : Int) + ((j : Nat) : Int) * 2 + 1 = ((2 * j + 1 : Nat) : Int) := by omega
      have la : acc.length ≤ 900 := by
        rw [dpa_len da, List.length_map, List.length_take]
        omega
      refine ⟨rfl, _, rfl, _, rfl, _, _, _, _, rfl, rfl, hp1, by rw [e1]; exact atI_nat hu, _, rfl, _, rfl, _, _, rfl, rfl, _, _, _, _, rfl, rfl, hp1, by rw [e2]; exact atI_nat hv, (show 2 ≤ sizeLine by decide), fun t nt => ?_⟩
      have st := Same.new (o := .tup [u, v]) nt
      have ht : (upd H2 t (.tup [u, v])) t = some (.tup [u, v]) := upd_same
      have hdt := st _ _ hd
      generalize upd H2 t (.tup [u, v]) = H3 at st ht hdt ⊢
      refine ⟨acc, hdt, small1000 (by omega), _, upd_same, by rw [hid_b]; exact s1.trans (Same.hid st), ?_⟩
      rw [hid_b, take_more (prsOf_at ha hb), List.map_append]
      have sh := s1.trans (Same.hid st)
      exact dpa_snoc (dpa_mono (Same.hid st) _ _ da) (.tup (hid_tupL ⟨_, hdt⟩ ⟨_, hdt⟩ (.inl (.inl ht))) (.cons (dp_mono sh _ _ du) (.cons (dp_mono sh _ _ dv) .nil)))
    · obtain ⟨acc, hd, s1, da⟩ := h
      rw [List.take_of_length_le (by rw [prsOf_len hl]; exact Nat.le_refl _)] at da
      exact q _ D acc (s1.trans hid_same) nD hd (dpa_mono hid_same _ _ da)
inductive A2 {α β : Type} (R : α → β → Prop) : List α → List β → Prop
  | nil : A2 R [] []
  | cons {x : α} {y : β} {xs : List α} {ys : List β} : R x y → A2 R xs ys → A2 R (x :: xs) (y :: ys)
section
variable {α β : Type} {R R' : α → β → Prop}
theorem A2.mono (h : ∀ x y, R x y → R' x y) : ∀ {xs : List α} {ys : List β}, A2 R xs ys → A2 R' xs ys
  | _, _, .nil => .nil
  | _, _, .cons a b => .cons (h _ _ a) (A2.mono h b)
theorem A2.snoc {x : α} {y : β} (r : R x y) : ∀ {xs : List α} {ys : List β}, A2 R xs ys → A2 R (xs ++ [x]) (ys ++ [y])
  | _, _, .nil => .cons r .nil
  | _, _, .cons a b => .cons a (A2.snoc r b)
theorem A2.len : ∀ {xs : List α} {ys : List β}, A2 R xs ys → xs.length = ys.length
  | _, _, .nil => rfl
  | _, _, .cons _ b => by rw [List.length_cons, List.length_cons, A2.len b]
theorem A2.at : ∀ {xs : List α} {ys : List β} {i : Nat} {x : α}, A2 R xs ys → xs[i]? = some x → ∃ y, ys[i]? = some y ∧ R x y
  | _, _, _, _, .nil, h => by simp at h
  | _, _, 0, _, .cons a b, h => ⟨_, rfl, by
    have e := Option.some.inj h
    rw [← e]
    exact a⟩
  | _, _, i + 1, _, .cons a b, h => A2.at (i := i) b h
theorem A2.split {y : β} : ∀ {ys : List β} {xs : List α}, A2 R xs (ys ++ [y]) → ∃ xs' x, xs = xs' ++ [x] ∧ A2 R xs' ys ∧ R x y
  | [], _, .cons a .nil => ⟨[], _, rfl, .nil, a⟩
  | _ :: ys, _, .cons a b => by
    obtain ⟨xs', x, rfl, h1, h2⟩ := A2.split (ys := ys) b
    exact ⟨_ :: xs', x, rfl, .cons a h1, h2⟩
end
theorem dpa_app {K : PySem.W.Frag} {H : Hp} : ∀ {vs ws : List V} {ds es : List PyData}, DpAll K H vs ds → DpAll K H ws es → DpAll K H (vs ++ ws) (ds ++ es)
  | _, _, _, _, .nil, h => h
  | _, _, _, _, .cons h1 h2, h => .cons h1 (dpa_app h2 h)
/-! ### the best levels -/
theorem ii_lt (x y : Int × Int) : PySem.W.dataLt (dII x) (dII y) = decide (x.1 < y.1 ∨ (x.1 = y.1 ∧ x.2 < y.2)) := by
  have e : PySem.W.dataLt (dII x) (dII y) = PySem.W.rowLt ([x.1, x.2].map .int) ([y.1, y.2].map .int) := by
    unfold dII
    rw [PySem.W.dataLt_tuple]
    rfl
  rw [e, PySem.W.dataLt_ints, decide_eq_decide, List.cons_lt_cons_iff, List.cons_lt_cons_iff]
  simp
def srtII (l : List (Int × Int)) : List (Int × Int) := l.mergeSort (PySem.W.dataLe false dII)
theorem srtII_ok (l : List (Int × Int)) : (srtII l).Perm l ∧ (srtII l).Pairwise fun x y => x.1 ≤ y.1 := by
  have le_iff : ∀ x y : Int × Int, PySem.W.dataLe false dII x y = true ↔ ¬ (y.1 < x.1 ∨ (y.1 = x.1 ∧ y.2 < x.2)) := fun x y => by
    rw [PySem.W.dataLe_eq]
    show (!PySem.W.dataLt (dII y) (dII x)) = true ↔ _
    rw [ii_lt, Bool.not_eq_true', ← Bool.not_eq_true, decide_eq_true_iff]
  refine ⟨List.mergeSort_perm _ _, ?_⟩
  have ps := List.pairwise_mergeSort (le := PySem.W.dataLe false dII) (fun a b c h1 h2 => by
    rw [le_iff] at *
    omega) (fun a b => by
    rw [Bool.or_eq_true, le_iff, le_iff]
    omega) l
  refine ps.imp fun {a b} h => ?_
  rw [le_iff] at h
  omega
theorem dII_alike (bs : List (Int × Int)) : PySem.W.AllAlike (bs.map dII) := PySem.W.AllAlike.of fun _ _ => by simp [PySem.W.alike, PySem.W.alikeAll, dII]
theorem dII_sortable (bs : List (Int × Int)) : PySem.W.Sortable (bs.map dII) := PySem.W.Sortable.tuples fun _ => ⟨_, _, rfl⟩
theorem Tb.hid {P r : Addr} {H H' : Hp} (n : r ≠ P) (s : Tb P H H') : Tb P (R.hid r r H) (R.hid r r H') := by
  obtain ⟨⟨ps, h1, h2⟩, h3⟩ := s
  refine ⟨⟨ps, ?_, h2⟩, fun a o na h => ?_⟩
  · unfold R.hid
    rw [if_neg (by rintro (z | z) <;> exact n z.symm)]
    exact h1
  · unfold R.hid at h ⊢
    by_cases c : a = r ∨ a = r
    · rw [if_pos c] at h
      cases h
    · rw [if_neg c] at h ⊢
      exact h3 a o na h
theorem tabG_hid {P r : Addr} {H : Hp} (n : r ≠ P) (t : GxR.TabG H P) : GxR.TabG (R.hid r r H) P := by
  obtain ⟨ps, h1, h2⟩ := t
  refine ⟨ps, ?_, h2⟩
  unfold R.hid
  rw [if_neg (by rintro (z | z) <;> exact n z.symm)]
  exact h1
theorem Tb.old {P r : Addr} {H H' : Hp} (n : r ≠ P) (nr : H r = none) (s : Tb P H H') : Tb P H (R.hid r r H') := by
  refine ⟨tabG_hid n s.1, fun a o na h => ?_⟩
  unfold R.hid
  rw [if_neg (by rintro (z | z) <;> · rw [z, nr] at h; cases h)]
  exact s.2 a o na h
theorem Tb.out {P r : Addr} {H H' : Hp} (s : Tb P H (R.hid r r H')) : Tb P H H' := ⟨tabG_same s.1 hid_same, fun a o n h => hid_same _ _ (s.2 a o n h)⟩
theorem Tb.ne {P r : Addr} {H : Hp} {xs : List V} (t : GxR.TabG H P) (h : H r = some (.lst xs)) : r ≠ P := fun e => by
  obtain ⟨ps, hp, _⟩ := t
  rw [e, hp] at h
  cases h
theorem Tb.neN {P r : Addr} {H : Hp} (t : GxR.TabG H P) (h : H r = none) : r ≠ P := fun e => by
  obtain ⟨ps, hp, _⟩ := t
  rw [e, hp] at h
  cases h
theorem tb_dII {K : PySem.W.Frag} {P : Addr} {H H' : Hp} (t : GxR.TabG H P) (s : Tb P H H') : ∀ {vs : List V} {ps : List (Int × Int)}, DpAll K H vs (ps.map dII) → DpAll K H' vs (ps.map dII)
  | _, [], h => by
    cases h
    exact .nil
  | _, p :: ps, h => by
    cases h with
    | cons h1 h2 =>
      obtain ⟨a, rfl, h3⟩ := dII_at h1
      exact .cons (dII_mk (tb_tup t s h3)) (tb_dII t s h2)
theorem tupA_dII : ∀ ps : List (Int × Int), tupA (ps.map dII) = true
  | [] => rfl
  | p :: ps => by
    show (tupD (dII p) && tupA (ps.map dII)) = true
    rw [tupA_dII ps]
    rfl
/-- a block stands at v -/
def BlkAt (K : PySem.W.Frag) (H : Hp) (v : V) (b : Blk) : Prop := ∃ a m ys, v = .ref a ∧ SqT K H a [.int b.1, .ref m] ∧ H m = some (.lst ys) ∧ DpAll K H ys (b.2.map dII)
theorem BlkAt.tb {P : Addr} {H H' : Hp} {v : V} {b : Blk} (t : GxR.TabG H P) (s : Tb P H H') (h : BlkAt K H v b) : BlkAt K H' v b := by
  obtain ⟨a, m, ys, e, h1, h2, h3⟩ := h
  exact ⟨a, m, ys, e, tb_tup t s h1, s.at t h2 (fun _ z => nomatch z), tb_dII t s h3⟩
theorem BlkAt.mono {H H' : Hp} {v : V} {b : Blk} (s : Same H H') (h : BlkAt K H v b) : BlkAt K H' v b := by
  obtain ⟨a, m, ys, e, h1, h2, h3⟩ := h
  exact ⟨a, m, ys, e, Same.tup s h1, s _ _ h2, dpa_mono s _ _ h3⟩
def cntB : List Blk → Nat
  | [] => 0
  | b :: r => b.2.length + cntB r
theorem cntB_push : ∀ (pb : List Blk) (b : Blk), cntB (pushR srtII pb b) = cntB pb + b.2.length
  | [], b => by show b.2.length + 0 = 0 + _; omega
  | a :: r, b => by
    show cntB (if b.1 < a.1 then pushR srtII r (midM (srtII (a.2 ++ b.2)), srtII (a.2 ++ b.2)) else b :: a :: r) = _
    by_cases c : b.1 < a.1
    · rw [if_pos c, cntB_push r]
      show cntB r + (srtII (a.2 ++ b.2)).length = a.2.length + cntB r + b.2.length
      unfold srtII
      rw [List.length_mergeSort, List.length_append]
      omega
    · rw [if_neg c]
      show b.2.length + (a.2.length + cntB r) = a.2.length + cntB r + _
      omega
def foldB (s : List (Int × Int)) : List Blk := s.foldl (fun bs w => pushR srtII bs (w.1, [w])) []
theorem foldB_snoc (s : List (Int × Int)) (w : Int × Int) : foldB (s ++ [w]) = pushR srtII (foldB s) (w.1, [w]) := by
  unfold foldB
  rw [List.foldl_append]
  rfl
theorem cnt_fold (s : List (Int × Int)) : cntB (foldB s) = s.length := by
  refine snocI (P := fun s => cntB (foldB s) = s.length) rfl (fun b w ih => ?_) s
  rw [foldB_snoc, cntB_push, ih, List.length_append]
theorem cnt_len {n : Nat} : ∀ {pb : List Blk}, (∀ b ∈ pb, b.2 ≠ []) → cntB pb ≤ n → pb.length ≤ n
  | [], _, _ => Nat.zero_le _
  | b :: r, h, hc => by
    have h1 : 0 < b.2.length := List.length_pos_iff.mpr (h b (List.mem_cons_self))
    have hc : b.2.length + cntB r ≤ n := hc
    have := cnt_len (n := n - 1) (pb := r) (fun x hx => h x (List.mem_cons_of_mem _ hx)) (by omega)
    show r.length + 1 ≤ n
    omega
theorem srtII_ne {l : List (Int × Int)} (h : l ≠ []) : srtII l ≠ [] := fun e => h (by
  have := (srtII_ok l).1
  rw [e] at this
  exact this.symm.eq_nil)
theorem push_ne : ∀ {pb : List Blk} {b : Blk}, (∀ x ∈ pb, x.2 ≠ []) → b.2 ≠ [] → ∀ x ∈ pushR srtII pb b, x.2 ≠ []
  | [], b, _, hb, x, hx => by
    rw [List.mem_singleton.mp hx]
    exact hb
  | a :: r, b, h, hb, x, hx => by
    have hx : x ∈ (if b.1 < a.1 then pushR srtII r (midM (srtII (a.2 ++ b.2)), srtII (a.2 ++ b.2)) else b :: a :: r) := hx
    by_cases c : b.1 < a.1
    · rw [if_pos c] at hx
      refine push_ne (fun y hy => h y (List.mem_cons_of_mem _ hy)) ?_ x hx
      exact srtII_ne (fun e => hb (List.append_eq_nil_iff.mp e).2)
    · rw [if_neg c] at hx
      rcases List.mem_cons.mp hx with rfl | hx
      · exact hb
      · exact h x hx
theorem fold_ne (s : List (Int × Int)) : ∀ x ∈ foldB s, x.2 ≠ [] := by
  refine snocI (P := fun s => ∀ x ∈ foldB s, x.2 ≠ []) (by intro x hx; cases hx) (fun b w ih => ?_) s
  rw [foldB_snoc]
  exact push_ne ih (by simp)
theorem hid_av {r a : Addr} {H : Hp} {o : HO} (n : a ≠ r) (h : H a = some o) : R.hid r r H a = some o := by
  unfold R.hid
  rw [if_neg (by rintro (z | z) <;> exact n z)]
  exact h
theorem cntB_app : ∀ a b : List Blk, cntB (a ++ b) = cntB a + cntB b
  | [], b => by show cntB b = 0 + cntB b; omega
  | x :: a, b => by
    show x.2.length + cntB (a ++ b) = x.2.length + cntB a + cntB b
    rw [cntB_app a b]
    omega
theorem cntB_rev : ∀ a : List Blk, cntB a.reverse = cntB a
  | [] => rfl
  | x :: a => by
    rw [List.reverse_cons, cntB_app, cntB_rev a]
    show cntB a + (x.2.length + 0) = x.2.length + cntB a
    omega
theorem lev_cnt : ∀ a : List Blk, (levOf a).length = cntB a
  | [] => rfl
  | x :: a => by
    show (List.replicate x.2.length x.1 ++ levOf a).length = x.2.length + cntB a
    rw [List.length_append, List.length_replicate, lev_cnt a]
theorem lev_more {bl : List Blk} {j : Nat} {b : Blk} (h : bl[j]? = some b) : levOf (bl.take (j + 1)) = levOf (bl.take j) ++ List.replicate b.2.length b.1 := by
  unfold levOf
  rw [take_more h, List.flatMap_append]
  simp
theorem cnt_at {bl : List Blk} {j : Nat} {b : Blk} (h : bl[j]? = some b) : cntB (bl.take j) + b.2.length ≤ cntB bl := by
  have e : cntB (bl.take (j + 1)) + cntB (bl.drop (j + 1)) = cntB bl := by rw [← cntB_app, List.take_append_drop]
  rw [take_more h, cntB_app] at e
  have : cntB [b] = b.2.length + 0 := rfl
  omega
def spLevels (K : PySem.W.Frag) (P1 : Addr) : Sp := fun vs H Q _ => ∃ (pw pg : Addr) (s : List (Int × Int)), vs = [.ref pw, .ref pg] ∧ SqL K H pw ((s.map (·.1)).map V.int) ∧ SqL K H pg ((s.map (·.2)).map V.int) ∧ s.length ≤ 400 ∧ GxR.TabG H P1 ∧ ∀ H' r, Tb P1 H H' → H r = none → H' r = some (.lst ((levelsM srtII s).map V.int)) → Q (.ref r) H'
theorem cl_best_levels (T : Txt K mg) {c P1 : Addr} (D : Dfc K mg "middle" s_middle ["together"] c) (TB : GxR.TabB base mg c P1) : Cl P w K mg base CX0 2 "best_levels" (spLevels K P1) := by
  have c_middle := cl_middle (P := P) (w := w) (base := base) T D TB
  refine T.d_best_levels.cl sc_best_levels (fun vs H Q E h => ?_) (fun f cdv A outer s H vs Q E hr h => ?_)
  · obtain ⟨pw, pg, l, rfl, _⟩ := h
    rfl
  · obtain ⟨pw, pg, l, rfl, hw, hg, hl, tb, q⟩ := h
    refine ⟨_, (pss_cons (ps_set (i := 2) sc_best_levels.nd rfl (.inl rfl) (pe_lst pa_nil))
      (pss_cons (ps_for PassesOwn.never rfl (pi_zip (by rfl) T.m_zip (pa_cons (pv 0) (pa_cons (pv 1) pa_nil))) (pg_tup rfl (pgs_cons (pg_name (i := 3) sc_best_levels.nd rfl (.inl rfl)) (pgs_cons (pg_name (i := 4) sc_best_levels.nd rfl (.inl rfl)) pgs_nil)))
        (pss_cons (ps_set (i := 5) sc_best_levels.nd rfl (.inl rfl) (pe_tup (pa_cons (pv 3) (pa_cons (pe_lst (pa_cons (pe_tup (pa_cons (pv 3) (pa_cons (pv 4) pa_nil))) pa_nil)) pa_nil))))
      (pss_cons (ps_while PassesOwn.never (PW.pt (pw_and (pt_truth (pv 2) (by intro _; rfl)) (pw_and1 (pt_cmpR op_gt (pe_ix ix_tup (pe_ix ix_list (pv 2) (pe_un un_neg pe_int) (fun _ _ => rfl)) pe_int (fun _ _ => rfl)) (pe_ix ix_tup (pv 5) pe_int (fun _ _ => rfl)) (nomark _)))))
        (pss_cons (ps_set (i := 6) sc_best_levels.nd rfl (.inl rfl) (pe_callB (cr_sortedD dII hr.units) (by rfl) T.m_sorted (by decide +kernel) (pa_cons (pe_op op_cat (pe_ix ix_tup (pe_bm0 PySem.F.plainAttrs_list PySem.F.slot_list_pop PySem.F.type_list_pop mt_pop (pv 2)) pe_int (fun _ _ => rfl)) (pe_ix ix_tup (pv 5) pe_int (fun _ _ => rfl))) pa_nil)))
      (pss_one (ps_set (i := 5) sc_best_levels.nd rfl (.inl rfl) (pe_tup (pa_cons (pe_cl c_middle hr (by decide) (by rfl) (pa_cons (pv 6) pa_nil)) (pa_cons (pv 6) pa_nil)))))))
      (pss_one (ps_expr (pe_bm PySem.F.plainAttrs_list PySem.F.slot_list_append PySem.F.type_list_append mt_append (pv 2) (pa_cons (pv 5) pa_nil)))))))
      (pss_one (ps_ret (pe_lc2 (own := [("level", 7), ("members", 9), ("member", 8)]) (vs1 := [8]) (g := (gTup K 2 (gCons (gName 7) (gCons (gName 9) gNil)))) (g1 := (gName 8)) (tt := tYes) (tt1 := tYes) (by rfl) sc_best_levels.nd (pi_list (pv 2)) (blkOk_by (N := ["wishes", "weights", "blocks", "wish", "weight", "block", "together", "level", "member", "members"]) (sc := defScope s_best_levels) (by decide +kernel)) (by decide) (fun _ _ _ _ _ => (pg_tup rfl (pgs_cons (pg_name (i := 7) sc_best_levels.nd rfl (Or.inl rfl)) (pgs_cons (pg_name (i := 9) sc_best_levels.nd rfl (Or.inl rfl)) pgs_nil)))) (fun _ _ _ _ _ => pts_nil) (fun _ _ _ _ _ => (pi_listK (K := K) rfl (pv 9))) (fun _ _ _ _ _ => (pg_name (i := 8) sc_best_levels.nd rfl (Or.inl rfl))) (fun _ _ _ _ _ => pts_nil) (fun _ _ _ _ _ => (pv 7))))))), ?_⟩
    refine ⟨Nat.zero_le _, fun r nr => ?_⟩
    have sr := Same.new (o := .lst []) nr
    have rP := Tb.neN tb nr
    have el : ((l.map (·.1)).map V.int).length = ((l.map (·.2)).map V.int).length := by simp
    refine ⟨_, rfl, _, rfl, pw, pg, _, _, rfl, sr.seq hw, sr.seq hg, RZ.for_zipL (K := K) el (fun i σ H' => ∃ (ys : List V) (c3 c4 c5 c6 : Option V), σ = [some (.ref pw), some (.ref pg), some (.ref r), c3, c4, c5, c6, none, none, none] ∧ Tb P1 H (R.hid r r H') ∧ H' r = some (.lst ys) ∧ A2 (BlkAt K (R.hid r r H')) ys (foldB (l.take i)).reverse) ⟨[], none, none, none, none, rfl, Tb.old rP nr (Tb.same tb sr), upd_same, .nil⟩ (fun i σ H' h => ?_) (fun i x y t σ H' hx hy h nt => ?_) (fun σ H' h => ?_)⟩
    · obtain ⟨ys, c3, c4, c5, c6, rfl, s1, h1, ha⟩ := h
      exact ⟨tb_list tb s1.out hw, tb_list tb s1.out hg⟩
    · obtain ⟨ys, c3, c4, c5, c6, rfl, s1, h1, ha⟩ := h
      obtain ⟨w1, hw1, rfl⟩ := int_at hx
      obtain ⟨w2, hw2, rfl⟩ := int_at hy
      rw [List.getElem?_map] at hw1 hw2
      obtain ⟨wi, hwi⟩ : ∃ wi, l[i]? = some wi := by
        cases e : l[i]? with
        | none => rw [e] at hw1; cases hw1
        | some wi => exact ⟨wi, rfl⟩
      rw [hwi] at hw1 hw2
      obtain rfl : wi.1 = w1 := Option.some.inj hw1
      obtain rfl : wi.2 = w2 := Option.some.inj hw2
      have il : i < l.length := (List.getElem?_eq_some_iff.mp hwi).1
      have st := Same.new (o := .tup [V.int wi.1, V.int wi.2]) nt
      have ht : (upd H' t (.tup [V.int wi.1, V.int wi.2])) t = some (.tup [V.int wi.1, V.int wi.2]) := upd_same
      generalize upd H' t (.tup [V.int wi.1, V.int wi.2]) = Ha at st ht ⊢
      refine ⟨t, _, rfl, .inl (.inl ht), rfl, _, _, rfl, _, _, rfl, rfl, ?_⟩
      refine ⟨_, rfl, _, rfl, _, rfl, (show 2 ≤ sizeLine by decide), fun t1 n1 => ?_⟩
      have sb := Same.new (o := .tup [V.int wi.1, V.int wi.2]) n1
      have hb1 : (upd Ha t1 (.tup [V.int wi.1, V.int wi.2])) t1 = some (.tup [V.int wi.1, V.int wi.2]) := upd_same
      generalize upd Ha t1 (.tup [V.int wi.1, V.int wi.2]) = Hb at sb hb1 ⊢
      refine ⟨(show 1 ≤ sizeLine by decide), fun m1 nm1 => ?_⟩
      have sc := Same.new (o := .lst [V.ref t1]) nm1
      have hc1 : (upd Hb m1 (.lst [V.ref t1])) m1 = some (.lst [V.ref t1]) := upd_same
      generalize upd Hb m1 (.lst [V.ref t1]) = Hc at sc hc1 ⊢
      refine ⟨(show 2 ≤ sizeLine by decide), fun b1 nb1 => ?_⟩
      have sd := Same.new (o := .tup [V.int wi.1, V.ref m1]) nb1
      have hd1 : (upd Hc b1 (.tup [V.int wi.1, V.ref m1])) b1 = some (.tup [V.int wi.1, V.ref m1]) := upd_same
      generalize upd Hc b1 (.tup [V.int wi.1, V.ref m1]) = Hd at sd hd1 ⊢
      have sad := (st.trans sb).trans (sc.trans sd)
      have hr0 := sad _ _ h1
      have m1r : m1 ≠ r := fun e => by rw [e, (st.trans sb) _ _ h1] at nm1; cases nm1
      have Lr0 : IsL Hd r := ⟨_, hr0⟩
      refine ⟨fun m σ Hx => ∃ (ys : List V) (pb : List Blk) (b : Blk) (bv : Addr) (c6 : Option V), m = pb.length ∧ σ = [some (.ref pw), some (.ref pg), some (.ref r), some (.int wi.1), some (.int wi.2), some (.ref bv), c6, none, none, none] ∧ Tb P1 H (R.hid r r Hx) ∧ Hx r = some (.lst ys) ∧ A2 (BlkAt K (R.hid r r Hx)) ys pb.reverse ∧ BlkAt K (R.hid r r Hx) (.ref bv) b ∧ pushR srtII pb b = foldB (l.take (i + 1)) ∧ cntB pb + b.2.length ≤ 400 ∧ b.2 ≠ [] ∧ ∀ x ∈ pb, x.2 ≠ [], ⟨_, ys, foldB (l.take i), (wi.1, [wi]), b1, c6, rfl, rfl, s1.trans (Tb.same s1.1 (Same.hid sad)), hr0, ha.mono fun _ _ z => z.mono (Same.hid sad), ?_, ?_, ?_, by simp, fold_ne _⟩, fun m σ Hx h => ?_⟩
      · refine ⟨b1, m1, [V.ref t1], rfl, hid_tupL Lr0 Lr0 (.inl (.inl hd1)), hid_av m1r (sd _ _ hc1), ?_⟩
        exact .cons (dII_mk (hid_tupL Lr0 Lr0 (.inl (.inl ((sc.trans sd) _ _ hb1))))) .nil
      · rw [take_more hwi, foldB_snoc]
      · rw [cnt_fold, List.length_take]
        show min i l.length + 1 ≤ 400
        omega
      · obtain ⟨ys, pb, b, bv, c6, rfl, rfl, s2, h2, ha2, hb2, hpush, hcnt, hbne, hpne⟩ := h
        have fin : foldB (l.take (i + 1)) = b :: pb → A2 (BlkAt K (R.hid r r (upd Hx r (.lst (ys ++ [V.ref bv]))))) (ys ++ [V.ref bv]) (foldB (l.take (i + 1))).reverse := fun e => by
          rw [hid_b, e, List.reverse_cons]
          exact A2.snoc hb2 ha2
        have ln : ys.length ≤ 1000 := by
          have := cnt_len (n := 400) hpne (by omega)
          rw [ha2.len, List.length_reverse]
          omega
        cases pb with
        | nil =>
          cases ha2
          refine ⟨_, rfl, false, .inl ⟨[], .inl (.inl h2), rfl⟩, iteN rfl (iteN rfl ?_)⟩
          refine ⟨_, rfl, .inl ⟨rfl, _, .inl (.inl h2)⟩, _, rfl, r, _, _, rfl, rfl, h2, small1000 ln, ?_⟩
          exact ⟨_, _, _, _, _, rfl, by rw [hid_b]; exact s2, upd_same, fin hpush.symm⟩
        | cons p ps =>
          rw [List.reverse_cons] at ha2
          obtain ⟨ys', lv, rfl, ha3, hlv⟩ := ha2.split
          obtain ⟨pa, pm, pys, rfl, k1, k2, k3⟩ := hlv
          obtain ⟨ba, bm, bys, eb, g1, g2, g3⟩ := hb2
          cases eb
          have sq : SqL K Hx r (ys' ++ [V.ref pa]) := .inl (.inl h2)
          have k1' := Same.tup hid_same k1
          have g1' := Same.tup hid_same g1
          refine ⟨_, rfl, true, .inl ⟨_, sq, ?_⟩, iteY rfl ?_⟩
          · cases ys' <;> rfl
          refine ⟨_, rfl, _, rfl, _, _, _, _, rfl, rfl, sq, atI_last _ _, _, _, _, _, rfl, rfl, k1', atI_nat (j := 0) rfl, _, rfl, _, _, _, _, rfl, rfl, g1', atI_nat (j := 0) rfl, _, _, rfl, rfl, _, rfl, ?_⟩
          by_cases c : b.1 < p.1
          · rw [decide_eq_true c]
            refine iteY rfl ?_
            refine ⟨_, fun σ' H' h => ⟨ps.length, Nat.lt_succ_self _, h⟩, ?_⟩
            refine ⟨_, rfl, .inl ⟨rfl, _, sq⟩, r, _, V.ref pa, rfl, rfl, h2, by simp, ?_⟩
            rw [List.dropLast_concat]
            have eU : R.hid r r (upd Hx r (.lst ys')) = R.hid r r Hx := hid_b
            have hU : (upd Hx r (.lst ys')) r = some (.lst ys') := upd_same
            generalize upd Hx r (.lst ys') = Hu at eU hU ⊢
            rw [← eU] at s2 ha3 k1 k2 k3 g1 g2 g3
            clear k1' g1'
            have k1' := Same.tup hid_same k1
            have g1' := Same.tup hid_same g1
            have lk : pys.length = p.2.length := by rw [dpa_len k3, List.length_map]
            have lg : bys.length = b.2.length := by rw [dpa_len g3, List.length_map]
            have hcnt : p.2.length + cntB ps + b.2.length ≤ 400 := hcnt
            refine ⟨_, _, _, _, rfl, rfl, k1', atI_nat (j := 1) rfl, _, rfl, _, _, _, _, rfl, rfl, g1', atI_nat (j := 1) rfl, pm, bm, pys, bys, rfl, rfl, hid_same _ _ k2, hid_same _ _ g2, Nat.le_trans (show pys.length + bys.length ≤ 1000 by omega) (by decide), fun pc nc => ?_⟩
            have s3 := Same.new (o := .lst (pys ++ bys)) nc
            have h3 : (upd Hu pc (.lst (pys ++ bys))) pc = some (.lst (pys ++ bys)) := upd_same
            generalize upd Hu pc (.lst (pys ++ bys)) = H3 at s3 h3 ⊢
            have hr3 := s3 _ _ hU
            have dpb : DpAll K H3 (pys ++ bys) ((p.2 ++ b.2).map dII) := by
              rw [List.map_append]
              exact dpa_mono (hid_same.trans s3) _ _ (dpa_app k3 g3)
            refine ⟨pc, _, p.2 ++ b.2, rfl, .inl (.inl h3), dpb, dII_alike _, dII_sortable _, fun x _ => (by show 1 ≤ 60; decide), fun ys3 p3 n3 d3 => ?_⟩
            have s4 := Same.new (o := .lst ys3) n3
            have h4 : (upd H3 p3 (.lst ys3)) p3 = some (.lst ys3) := upd_same
            have p3r : p3 ≠ r := fun e => by rw [e, hr3] at n3; cases n3
            generalize upd H3 p3 (.lst ys3) = H4 at s4 h4 ⊢
            have hr4 := s4 _ _ hr3
            have d4 : DpAll K H4 ys3 ((srtII (p.2 ++ b.2)).map dII) := dpa_mono s4 _ _ d3
            have t4 : GxR.TabG H4 P1 := tabG_same s2.1 (hid_same.trans (s3.trans s4))
            have ne4 : srtII (p.2 ++ b.2) ≠ [] := srtII_ne (fun e => hbne (List.append_eq_nil_iff.mp e).2)
            refine ⟨_, rfl, p3, ys3, _, rfl, .inl (.inl h4), d4, ne4, t4, fun H5 t45 => ?_⟩
            have hr5 := t45.at t4 hr4 (fun _ z => nomatch z)
            have h5 := t45.at t4 h4 (fun _ z => nomatch z)
            have d5 := tb_dII t4 t45 d4
            refine ⟨_, rfl, (show 2 ≤ sizeLine by decide), fun b2 nb2 => ?_⟩
            have s6 := Same.new (o := .tup [V.int (midM (srtII (p.2 ++ b.2))), V.ref p3]) nb2
            have h6 : (upd H5 b2 (.tup [V.int (midM (srtII (p.2 ++ b.2))), V.ref p3])) b2 = some (.tup [V.int (midM (srtII (p.2 ++ b.2))), V.ref p3]) := upd_same
            generalize upd H5 b2 (.tup [V.int (midM (srtII (p.2 ++ b.2))), V.ref p3]) = H6 at s6 h6 ⊢
            have hr6 := s6 _ _ hr5
            have Lr6 : IsL H6 r := ⟨_, hr6⟩
            have tt : GxR.TabG (R.hid r r Hu) P1 := s2.1
            have step : Tb P1 (R.hid r r Hu) (R.hid r r H6) := ((Tb.same tt (Same.hid (s3.trans s4))).trans (Tb.hid rP t45)).trans (Tb.same (tabG_hid rP t45.1) (Same.hid s6))
            refine ⟨ys', ps, (midM (srtII (p.2 ++ b.2)), srtII (p.2 ++ b.2)), b2, _, rfl, rfl, s2.trans step, hr6, ha3.mono fun _ _ z => z.tb tt step, ?_, ?_, ?_, ne4, fun x hx => hpne x (List.mem_cons_of_mem _ hx)⟩
            · exact ⟨b2, p3, ys3, rfl, hid_tupL Lr6 Lr6 (.inl (.inl h6)), hid_av p3r (s6 _ _ h5), dpa_hid Lr6 Lr6 _ _ (tupA_dII _) (dpa_mono s6 _ _ d5)⟩
            · rw [← hpush]
              exact (if_pos c).symm
            · show cntB ps + (srtII (p.2 ++ b.2)).length ≤ 400
              unfold srtII
              rw [List.length_mergeSort, List.length_append]
              omega
          · rw [decide_eq_false c]
            refine iteN rfl ?_
            refine ⟨_, rfl, .inl ⟨rfl, _, sq⟩, _, rfl, r, _, _, rfl, rfl, h2, small1000 ln, ?_⟩
            refine ⟨_, _, _, _, _, rfl, by rw [hid_b]; exact s2, upd_same, fin ?_⟩
            rw [← hpush]
            exact if_neg c
    · obtain ⟨ys, c3, c4, c5, c6, rfl, s1, h1, ha⟩ := h
      rw [List.length_map, List.length_map, List.take_length] at ha
      have cb : cntB (foldB l).reverse ≤ 400 := by rw [cntB_rev, cnt_fold]; exact hl
      have e0 : levelsM srtII l = levOf (foldB l).reverse := rfl
      rw [e0] at q
      generalize (foldB l).reverse = bl at ha cb q
      refine ⟨_, rfl, r, rfl, ⟨_, .inl (.inl h1)⟩, fun D nD => ?_⟩
      have nDH : H D = none := by
        cases e : H D with
        | none => rfl
        | some o =>
          by_cases c : D = P1
          · obtain ⟨ps, h, _⟩ := s1.out.1
            rw [c, h] at nD
            cases nD
          · have := s1.out.2 D o c e
            rw [nD] at this
            cases this
      have sD := Same.new (o := .lst []) nD
      refine lc2_it (walk_list (K := K) (a := r) (xs := ys)) (fun j Hx => Hx D = some (.lst ((levOf (bl.take j)).map V.int)) ∧ Same H' (R.hid D D Hx)) ⟨upd_same, hid_old sD nD⟩ (fun j Hx _ h => .inl (.inl ((h.2.trans hid_same) _ _ h1))) (fun j x Hx Hy hj h hy => ?_) (fun Hx h => ?_)
      · obtain ⟨rfl, hy⟩ := hy
        obtain ⟨h2, s2⟩ := h
        obtain ⟨b, hb, a, m, zs, rfl, k1, k2, k3⟩ := ha.at hy
        have sx := s2.trans hid_same
        have k1' := Same.tup (hid_same.trans sx) k1
        have lz : zs.length = b.2.length := by rw [dpa_len k3, List.length_map]
        have cj := cnt_at hb
        refine ⟨a, _, rfl, k1', rfl, _, _, rfl, _, _, rfl, rfl, rfl, ?_⟩
        refine ⟨_, rfl, m, rfl, ⟨_, .inl (.inl ((hid_same.trans sx) _ _ k2))⟩, lc2_in (walk_list (K := K) (a := m) (xs := zs)) (fun k Hz => Hz D = some (.lst ((levOf (bl.take j) ++ List.replicate k b.1).map V.int)) ∧ Same H' (R.hid D D Hz)) ⟨?_, s2⟩ (fun k Hz _ h => .inl (.inl ((hid_same.trans (h.2.trans hid_same)) _ _ k2))) (fun k x Hz Hw hk h hy => ?_) (fun Hz h => ?_)⟩
        · rw [h2]
          show _ = some (HO.lst ((levOf (bl.take j) ++ []).map V.int))
          rw [List.append_nil]
        · obtain ⟨rfl, hy⟩ := hy
          obtain ⟨h3, s3⟩ := h
          refine ⟨rfl, _, rfl, _, h3, small1000 ?_, ?_, by rw [hid_b]; exact s3⟩
          · rw [List.length_map, List.length_append, List.length_replicate, lev_cnt]
            omega
          · rw [upd_same, List.replicate_succ', ← List.append_assoc, List.map_append (l₂ := [b.1])]
            rfl
        · rw [lz, ← lev_more hb] at h
          exact h
      · obtain ⟨h2, s2⟩ := h
        rw [ha.len, List.take_length] at h2
        exact q _ D (s1.out.trans (Tb.same s1.out.1 (s2.trans hid_same))) nDH h2
/-! ### comprehensions over one list, and over two lists of whole numbers -/
theorem dpa_iv {K : PySem.W.Frag} {H : Hp} : ∀ {vs : List V} {ns : List Int}, DpAll K H vs (ns.map PyData.int) → vs = ns.map V.int
  | _, [], h => by
    cases h
    rfl
  | _, n :: ns, h => by
    cases h with
    | cons h1 h2 =>
      cases h1
      rw [dpa_iv h2]
      rfl
theorem ints_dpa {K : PySem.W.Frag} {H : Hp} : ∀ (ns : List Int), DpAll K H (ns.map V.int) (ns.map PyData.int)
  | [] => .nil
  | n :: ns => .cons (.int n) (ints_dpa ns)
theorem lc_listE {α β : Type} {a : Addr} {ys : List V} {xs : List α} {ea : α → PyData} {eb : β → PyData} (f : α → β) {g : TG} {te : TE} {vs : List Nat} {σ : L2.St} {H1 : Hp} {D : Addr} {Qd : Hp → Prop} (hx : SqL K H1 a ys) (dx : DpAll K H1 ys (xs.map ea)) (hn : xs.length ≤ 900) (nD : H1 D = none) (tE : ∀ x, tupD (eb x) = true)
    (hs : ∀ (k : Nat) (x : α) (v : V) (Hx : Hp) (Qz : V → Hp → Prop) (Rz : Hp → Prop), xs[k]? = some x → Same H1 Hx → Dp K Hx v (ea x) → (∀ H' y, Same Hx H' → Dp K H' y (eb (f x)) → Qz y H') → g v (wipe σ vs) Hx fun σ2 H2 => wipe σ2 vs = wipe σ vs ∧ tYes σ2 H2 fun b H3 => if b = true then te σ2 H3 Qz else Rz H3)
    (hd : ∀ H' acc, Same H1 H' → H' D = some (.lst acc) → DpAll K H' acc ((xs.map f).map eb) → Qd H') :
    ∃ W : Nat → Nat → Hp → Prop, (∃ m, W 0 m (upd H1 D (.lst []))) ∧ ∀ i m H, W i m H →
      ((Itl K a).stop i H ∧ Qd H) ∨ ((Itl K a).go i H ∧ ∃ Nx : Hp → Prop, (∀ H', Nx H' → ∃ m', m' < m ∧ W (i + 1) m' H') ∧ ∀ x H', (Itl K a).yld i H x H' → g x (wipe σ vs) H' fun σ2 H2 => wipe σ2 vs = wipe σ vs ∧ tYes σ2 H2 fun b H3 =>
        if b = true then te σ2 H3 fun y H4 => ∃ acc, H4 D = some (.lst acc) ∧ acc.length < sizeLine ∧ Nx (upd H4 D (.lst (acc ++ [y]))) else Nx H3) := by
  have sD := Same.new (o := .lst []) nD
  have el : ys.length = xs.length := by rw [dpa_len dx, List.length_map]
  refine lc_list (K := K) (a := a) (xs := ys) (fun j H' => ∃ acc, H' D = some (.lst acc) ∧ Same H1 (R.hid D D H') ∧ DpAll K (R.hid D D H') acc (((xs.take j).map f).map eb)) ⟨[], upd_same, hid_old sD nD, .nil⟩ (fun j H' _ h => ?_) (fun j y H' hy h => ?_) (fun H' h => ?_)
  · obtain ⟨acc, hd, s1, da⟩ := h
    exact (s1.trans hid_same).seq hx
  · obtain ⟨acc, hd, s1, da⟩ := h
    obtain ⟨x, hx', dx'⟩ := dpa_map dx hy
    refine hs j x y H' _ _ hx' (s1.trans hid_same) (dp_mono (s1.trans hid_same) _ _ dx') fun H2 y2 s2 d2 => ?_
    have hd2 := s2 _ _ hd
    refine ⟨acc, hd2, small1000 ?_, _, upd_same, by rw [hid_b]; exact s1.trans (Same.hid s2), ?_⟩
    · rw [dpa_len da, List.length_map, List.length_map, List.length_take]
      omega
    · rw [hid_b, take_more hx', List.map_append, List.map_append]
      exact dpa_snoc (dpa_mono (Same.hid s2) _ _ da) (dp_hid ⟨_, hd2⟩ ⟨_, hd2⟩ _ _ (tE _) d2)
  · obtain ⟨acc, hd1, s1, da⟩ := h
    rw [el, List.take_length] at da
    exact hd _ acc (s1.trans hid_same) hd1 (dpa_mono hid_same _ _ da)
theorem zip_take {β : Type} (f : Int → Int → β) : ∀ (xs ys : List Int) (j : Nat) (x y : Int), xs[j]? = some x → ys[j]? = some y → (List.zipWith f xs ys).take (j + 1) = (List.zipWith f xs ys).take j ++ [f x y] := fun xs ys j x y hx hy => by
  refine take_more ?_
  rw [List.getElem?_zipWith, hx, hy]
theorem lc_zipE {β : Type} {a b : Addr} {xs ys : List Int} {eb : β → PyData} (f : Int → Int → β) {g : TG} {te : TE} {vs : List Nat} {σ : L2.St} {H1 : Hp} {D : Addr} {Qd : Hp → Prop} (hx : SqL K H1 a (xs.map V.int)) (hy : SqL K H1 b (ys.map V.int)) (hl : xs.length = ys.length) (hn : xs.length ≤ 900) (nD : H1 D = none) (tE : ∀ x, tupD (eb x) = true)
    (hs : ∀ (k : Nat) (x y : Int) (T : Addr) (Hx : Hp) (Qz : V → Hp → Prop) (Rz : Hp → Prop), xs[k]? = some x → ys[k]? = some y → Same H1 Hx → SqT K Hx T [.int x, .int y] → (∀ H' z, Same Hx H' → Dp K H' z (eb (f x y)) → Qz z H') → g (.ref T) (wipe σ vs) Hx fun σ2 H2 => wipe σ2 vs = wipe σ vs ∧ tYes σ2 H2 fun b H3 => if b = true then te σ2 H3 Qz else Rz H3)
    (hd : ∀ H' acc, Same H1 H' → H' D = some (.lst acc) → DpAll K H' acc ((List.zipWith f xs ys).map eb) → Qd H') :
    ∃ W : Nat → Nat → Hp → Prop, (∃ m, W 0 m (upd H1 D (.lst []))) ∧ ∀ i m H, W i m H →
      ((Itz K a b).stop i H ∧ Qd H) ∨ ((Itz K a b).go i H ∧ ∃ Nx : Hp → Prop, (∀ H', Nx H' → ∃ m', m' < m ∧ W (i + 1) m' H') ∧ ∀ x H', (Itz K a b).yld i H x H' → g x (wipe σ vs) H' fun σ2 H2 => wipe σ2 vs = wipe σ vs ∧ tYes σ2 H2 fun b H3 =>
        if b = true then te σ2 H3 fun y H4 => ∃ acc, H4 D = some (.lst acc) ∧ acc.length < sizeLine ∧ Nx (upd H4 D (.lst (acc ++ [y]))) else Nx H3) := by
  have sD := Same.new (o := .lst []) nD
  have e1 : xs.length = min ((xs.map V.int).length) ((ys.map V.int).length) := by rw [List.length_map, List.length_map]; omega
  refine lc_it (walk_zip (K := K) (a := a) (b := b) (xs := xs.map V.int) (ys := ys.map V.int) e1) (fun j H' => ∃ acc, H' D = some (.lst acc) ∧ Same H1 (R.hid D D H') ∧ DpAll K (R.hid D D H') acc (((List.zipWith f xs ys).take j).map eb)) ⟨[], upd_same, hid_old sD nD, .nil⟩ (fun j H' _ h => ?_) (fun j v H' H2 hj h hY => ?_) (fun H' h => ?_)
  · obtain ⟨acc, hd, s1, da⟩ := h
    exact ⟨(s1.trans hid_same).seq hx, (s1.trans hid_same).seq hy⟩
  · obtain ⟨acc, hd, s1, da⟩ := h
    obtain ⟨T, vx, vy, rfl, nT, rfl, kx, ky⟩ := hY
    obtain ⟨x, hx', rfl⟩ := int_at kx
    obtain ⟨y, hy', rfl⟩ := int_at ky
    have sT := Same.new (o := .tup [V.int x, V.int y]) nT
    have hT : (upd H' T (.tup [V.int x, V.int y])) T = some (.tup [V.int x, V.int y]) := upd_same
    have hdT := sT _ _ hd
    generalize upd H' T (.tup [V.int x, V.int y]) = H2 at sT hT hdT ⊢
    have s1' := s1.trans (Same.hid sT)
    refine hs j x y T H2 _ _ hx' hy' (s1'.trans hid_same) (.inl (.inl hT)) fun H3 y3 s3 d3 => ?_
    have hd3 := s3 _ _ hdT
    refine ⟨acc, hd3, small1000 ?_, _, upd_same, by rw [hid_b]; exact s1'.trans (Same.hid s3), ?_⟩
    · rw [dpa_len da, List.length_map, List.length_take, List.length_zipWith]
      omega
    · rw [hid_b, zip_take f xs ys j x y hx' hy', List.map_append]
      exact dpa_snoc (dpa_mono ((Same.hid sT).trans (Same.hid s3)) _ _ da) (dp_hid ⟨_, hd3⟩ ⟨_, hd3⟩ _ _ (tE _) d3)
  · obtain ⟨acc, hd1, s1, da⟩ := h
    rw [List.take_of_length_le (by rw [List.length_zipWith]; omega)] at da
    exact hd _ acc (s1.trans hid_same) hd1 (dpa_mono hid_same _ _ da)
/-! ### the best times -/
def bestM (ws as : List Int) (e : Int) (gs : List Int) : List Int := bestG srtII ws as e gs
def spTimes (K : PySem.W.Frag) (P1 C : Addr) : Sp := fun vs H Q E => ∃ (pw pa pg : Addr) (ws as gs : List Int) (e : Int), vs = [.ref pw, .ref pa, .int e, .ref pg] ∧ SqL K H pw (ws.map V.int) ∧ SqL K H pa (as.map V.int) ∧ SqL K H pg (gs.map V.int) ∧ ws.length = as.length ∧ gs.length = as.length ∧ as ≠ [] ∧ as.length ≤ 400 ∧ GxR.TabG H P1 ∧
  (0 ≤ e - lastM (rsM 0 as) → ∀ H' r, Tb P1 H H' → H r = none → H' r = some (.lst ((bestM ws as e gs).map V.int)) → Q (.ref r) H') ∧ (e - lastM (rsM 0 as) < 0 → ∀ H', Tb P1 H H' → E (.ref C) none H')
theorem Tb.free {P a : Addr} {H H' : Hp} (s : Tb P H H') (h : H' a = none) : H a = none := by
  cases e : H a with
  | none => rfl
  | some o =>
    by_cases c : a = P
    · obtain ⟨ps, h1, _⟩ := s.1
      rw [c, h1] at h
      cases h
    · have := s.2 a o c e
      rw [h] at this
      cases this
theorem last_split {l : List Int} (h : l ≠ []) : ∃ pre, l = pre ++ [lastM l] := by
  refine ⟨l.dropLast, ?_⟩
  unfold lastM
  rw [List.getLastD_eq_getLast?, List.getLast?_eq_some_getLast h]
  exact (List.dropLast_concat_getLast h).symm
theorem cl_best_times (T : Txt K mg) {c P1 C : Addr} (D0 : Dfc K mg "middle" s_middle ["together"] c) (TB : GxR.TabB base mg c P1) (e_TooTight : ExcT K mg "TooTight" C) : Cl P w K mg base (L2.CX P w) 3 "best_times" (spTimes K P1 C) := by
  have c_running_sums := cl_running_sums (P := P) (w := w) (base := base) T
  have c_best_levels := cl_best_levels (P := P) (w := w) (base := base) T D0 TB
  refine T.d_best_times.clX sc_best_times (fun vs H Q E h => ?_) (fun f cdv A outer s H vs Q E hr h => ?_)
  · obtain ⟨pw, pa, pg, ws, as, gs, e, rfl, _⟩ := h
    rfl
  · obtain ⟨pw, pa, pg, ws, as, gs, e, rfl, hw, ha, hg, lw, lg, ne, ln, tb, q, qE⟩ := h
    refine ⟨_, (pss_cons (ps_set (i := 4) sc_best_times.nd rfl (.inl rfl) (pe_cl c_running_sums hr (by decide) (by rfl) (pa_cons (pv 1) pa_nil)))
      (pss_cons (ps_set (i := 5) sc_best_times.nd rfl (.inr rfl) (pe_op op_sub (pv 2) (pe_ix ix_list (pv 4) (pe_un un_neg pe_int) (fun _ _ => rfl))))
      (pss_cons (ps_if (pt_cmpR op_lt (pv 5) pe_int (nomark _))
        (pss_one (ps_raise rfl (takes_of rfl rfl rfl rfl) (pmk_own PySem.F.excBase_ValueError e_TooTight.x e_TooTight.g e_TooTight.k (raises_own e_TooTight.b e_TooTight.t) rfl)))
        pss_nil)
      (pss_cons (ps_set (i := 6) sc_best_times.nd rfl (.inl rfl) (pe_cl c_best_levels hr (by decide) (by rfl) (pa_cons (pe_lc (own := [("wish", 9), ("offset", 8)]) (g := (gTup K 2 (gCons (gName 9) (gCons (gName 8) gNil)))) (tt := tYes) (by rfl) sc_best_times.nd (pi_zip (by rfl) T.m_zip (pa_cons (pv 0) (pa_cons (pv 4) pa_nil))) (blkOk_by (N := ["wishes", "asked", "end", "weights", "offsets", "room", "levels", "level", "offset", "wish"]) (sc := defScope s_best_times) (by decide +kernel)) (fun _ _ _ _ _ => (pg_tup rfl (pgs_cons (pg_name (i := 9) sc_best_times.nd rfl (Or.inl rfl)) (pgs_cons (pg_name (i := 8) sc_best_times.nd rfl (Or.inl rfl)) pgs_nil)))) (fun _ _ _ _ _ => pts_nil) (fun _ _ _ _ _ => (pe_op op_sub (pv 9) (pv 8)))) (pa_cons (pv 3) pa_nil))))
      (pss_one (ps_ret (pe_lc (own := [("level", 7), ("offset", 8)]) (g := (gTup K 2 (gCons (gName 7) (gCons (gName 8) gNil)))) (tt := tYes) (by rfl) sc_best_times.nd (pi_zip (by rfl) T.m_zip (pa_cons (pv 6) (pa_cons (pv 4) pa_nil))) (blkOk_by (N := ["wishes", "asked", "end", "weights", "offsets", "room", "levels", "level", "offset", "wish"]) (sc := defScope s_best_times) (by decide +kernel)) (fun _ _ _ _ _ => (pg_tup rfl (pgs_cons (pg_name (i := 7) sc_best_times.nd rfl (Or.inl rfl)) (pgs_cons (pg_name (i := 8) sc_best_times.nd rfl (Or.inl rfl)) pgs_nil)))) (fun _ _ _ _ _ => pts_nil) (fun _ _ _ _ _ => (pe_op op_add (pe_callB (call_min2 rfl) (by rfl) T.m_min (by decide +kernel) (pa_cons (pe_callB (call_max2 rfl) (by rfl) T.m_max (by decide +kernel) (pa_cons (pv 7) (pa_cons pe_int pa_nil))) (pa_cons (pv 5) pa_nil))) (pv 8)))))))))), ?_⟩
    refine ⟨_, rfl, pa, as, rfl, ha, by omega, fun H1 r s1 nr h1 => ?_⟩
    have lo : (rsM 0 as).length = as.length := rsM_len as 0
    have neo : rsM 0 as ≠ [] := fun z => by
      rw [z] at lo
      exact ne (List.length_eq_zero_iff.mp lo.symm)
    unfold bestM bestG at q
    generalize rsM 0 as = os at *
    obtain ⟨pre, epre⟩ := last_split neo
    have h1' : H1 r = some (.lst (pre.map V.int ++ [V.int (lastM os)])) := by
      have e2 : os.map V.int = pre.map V.int ++ [V.int (lastM os)] := by
        conv => lhs; rw [epre]
        rw [List.map_append]
        rfl
      rw [h1, e2]
    have sq1 : SqL K H1 r (os.map V.int) := .inl (.inl h1)
    have t1 := tabG_same tb s1
    refine ⟨_, rfl, _, rfl, _, rfl, _, _, _, _, rfl, rfl, .inl (.inl h1'), atI_last _ _, _, _, rfl, rfl, ?_⟩
    refine ⟨_, rfl, _, _, rfl, rfl, _, rfl, ite2 (fun z => ?_) (fun z => ?_)⟩
    · exact qE (of_decide_eq_true z) _ (Tb.same tb s1)
    · have z : 0 ≤ e - lastM os := by
        have : ¬ e - lastM os < 0 := fun y => z (decide_eq_true y)
        omega
      have q := q z
      refine ⟨_, rfl, _, rfl, pw, r, _, _, rfl, s1.seq hw, sq1, fun D nD => ?_⟩
      refine lc_zipE (eb := PyData.int) (fun a b => a - b) (s1.seq hw) sq1 (by omega) (by omega) nD (fun _ => rfl) (fun k x y t Hx Qz Rz hx hy sx hT qz => ?_) (fun H2 acc s2 h2 d2 => ?_)
      · exact ⟨t, _, rfl, hT, rfl, _, _, rfl, _, _, rfl, rfl, rfl, _, rfl, _, rfl, _, _, rfl, rfl, qz _ _ (Same.refl _) (.int _)⟩
      · obtain rfl := dpa_iv d2
        have s12 := s1.trans s2
        have lsh : (shiftM ws os).length = gs.length := by
          unfold shiftM
          rw [List.length_zipWith]
          omega
        have ez1 : (List.zip (shiftM ws os) gs).map (·.1) = shiftM ws os := List.map_fst_zip (by omega)
        have ez2 : (List.zip (shiftM ws os) gs).map (·.2) = gs := List.map_snd_zip (by omega)
        have lz : (List.zip (shiftM ws os) gs).length = as.length := by rw [List.length_zip]; omega
        refine ⟨_, rfl, D, pg, List.zip (shiftM ws os) gs, rfl, by rw [ez1]; exact .inl (.inl h2), by rw [ez2]; exact s12.seq hg, by omega, tabG_same tb s12, fun H3 r3 t3 n3 h3 => ?_⟩
        have t2 := tabG_same tb s12
        have sq3 := tb_list t2 t3 (s2.seq sq1)
        have T3 : Tb P1 H H3 := (Tb.same tb s12).trans t3
        have ll : (levelsM srtII (List.zip (shiftM ws os) gs)).length = as.length := by
          show (levOf (foldB (List.zip (shiftM ws os) gs)).reverse).length = _
          rw [lev_cnt, cntB_rev, cnt_fold, lz]
        refine ⟨_, rfl, _, rfl, r3, r, _, _, rfl, .inl (.inl h3), sq3, fun D4 n4 => ?_⟩
        refine lc_zipE (eb := PyData.int) (fun l o => clM (e - lastM os) l + o) (.inl (.inl h3)) sq3 (by omega) (by omega) n4 (fun _ => rfl) (fun k x y t Hx Qz Rz hx hy sx hT qz => ?_) (fun H5 acc s5 h5 d5 => ?_)
        · refine ⟨t, _, rfl, hT, rfl, _, _, rfl, _, _, rfl, rfl, rfl, _, rfl, _, _, rfl, _, rfl, _, _, rfl, _, rfl, _, _, rfl, rfl, ?_⟩
          rw [max_if, min_if]
          exact qz _ _ (Same.refl _) (.int _)
        · obtain rfl := dpa_iv d5
          exact q _ D4 (T3.trans (Tb.same T3.1 s5)) (T3.free n4) h5
def dRw (r : Rw) : PyData := .tuple [dF r.1, dF r.2.1, .int r.2.2.1, .list (r.2.2.2.map PyData.str)]
def dRws (rs : List Rw) : PyData := .list (rs.map dRw)
/-! ### the least distances -/
def dRu (r : Rat × Rat × Rat × Int × Int) : PyData := .tuple [dF r.1, dF r.2.1, dF r.2.2.1, .int r.2.2.2.1, .int r.2.2.2.2]
theorem dRu_at {H : Hp} {v : V} {r : Rat × Rat × Rat × Int × Int} (h : Dp K H v (dRu r)) : ∃ a v1 v2 v3, v = .ref a ∧ SqT K H a [v1, v2, v3, .int r.2.2.2.1, .int r.2.2.2.2] ∧ Dp K H v1 (dF r.1) ∧ Dp K H v2 (dF r.2.1) ∧ Dp K H v3 (dF r.2.2.1) := by
  unfold dRu at h
  cases h with
  | tup hs ha =>
    cases ha with
    | cons h1 h2 =>
      cases h2 with
      | cons h3 h4 =>
        cases h4 with
        | cons h5 h6 =>
          cases h6 with
          | cons h7 h8 =>
            cases h7
            cases h8 with
            | cons h9 h10 =>
              cases h9
              cases h10
              exact ⟨_, _, _, _, rfl, hs, h1, h3, h5⟩
abbrev Rul := Rat × Rat × Rat × Int × Int
def ltrM (ws : List Str) : Int := (ws.map fun w => (w.length : Int)).sum
def needM (ru : Rul) (r : Rw) : Rat := if ru.2.2.1 < ru.1 * ((ltrM r.2.2.2 : Int) : Rat) then ru.1 * ((ltrM r.2.2.2 : Int) : Rat) else ru.2.2.1
def askF (ru : Rul) (g : Rat) : List Rw → List Rat
  | [] => []
  | r :: rs => g :: needM ru r :: askF ru ru.2.1 rs
def askM (ru : Rul) (rs : List Rw) : List Rat := askF ru 0 rs
theorem askF_snoc (ru : Rul) : ∀ (rs : List Rw) (g : Rat) (r : Rw), askF ru g (rs ++ [r]) = askF ru g rs ++ [if rs = [] then g else ru.2.1, needM ru r]
  | [], g, r => rfl
  | x :: rs, g, r => by
    show g :: needM ru x :: askF ru ru.2.1 (rs ++ [r]) = g :: needM ru x :: (askF ru ru.2.1 rs ++ [if x :: rs = [] then g else ru.2.1, needM ru r])
    rw [askF_snoc ru rs, if_neg (List.cons_ne_nil _ _)]
    by_cases c : rs = []
    · rw [if_pos c]
    · rw [if_neg c]
theorem askF_len (ru : Rul) : ∀ (rs : List Rw) (g : Rat), (askF ru g rs).length = 2 * rs.length
  | [], _ => rfl
  | x :: rs, g => by
    show (askF ru ru.2.1 rs).length + 1 + 1 = 2 * (rs.length + 1)
    rw [askF_len ru rs]
    omega
structure RuOk (ru : Rul) : Prop where
  z1 : Sz 500 ru.1
  z2 : Sz 500 ru.2.1
  z3 : Sz 500 ru.2.2.1
structure RwOk (r : Rw) : Prop where
  lt : Sz 100 ((ltrM r.2.2.2 : Int) : Rat)
  wd : ∀ w ∈ r.2.2.2, w.length ≤ 1000
theorem dRw_all {K : PySem.W.Frag} {H : Hp} {v : V} {r : Rw} (h : Dp K H v (dRw r)) : ∃ a v1 v2 al, v = .ref a ∧ SqT K H a [v1, v2, .int r.2.2.1, .ref al] ∧ Dp K H v1 (dF r.1) ∧ Dp K H v2 (dF r.2.1) ∧ SqL K H al (r.2.2.2.map V.str) := by
  unfold dRw at h
  cases h with
  | tup hs ha =>
    cases ha with
    | cons h1 h2 =>
      cases h2 with
      | cons h3 h4 =>
        cases h4 with
        | cons h5 h6 =>
          cases h5
          cases h6 with
          | cons h7 h8 =>
            cases h8
            cases h7 with
            | lst hl hd =>
              have e : ∀ {vs : List V} {ws : List Str}, DpAll K H vs (ws.map PyData.str) → vs = ws.map V.str := fun {vs ws} h => by
                induction ws generalizing vs with
                | nil => cases h; rfl
                | cons w ws ih =>
                  cases h with
                  | cons k1 k2 =>
                    cases k1
                    rw [ih k2]
                    rfl
              rw [e hd] at hl
              exact ⟨_, _, _, _, rfl, hs, h1, h3, hl⟩
theorem tupA_dF : ∀ qs : List Rat, tupA (qs.map dF) = true
  | [] => rfl
  | q :: qs => by
    show (tupD (dF q) && tupA (qs.map dF)) = true
    rw [tupA_dF qs]
    rfl
theorem tb_dFs {P : Addr} {H H' : Hp} (t : GxR.TabG H P) (s : Tb P H H') : ∀ {vs : List V} {qs : List Rat}, DpAll K H vs (qs.map dF) → DpAll K H' vs (qs.map dF)
  | _, [], h => by
    cases h
    exact .nil
  | _, p :: ps, h => by
    cases h with
    | cons h1 h2 => exact .cons (tb_dF t s h1) (tb_dFs t s h2)
def spDist (K : PySem.W.Frag) (P0 : Addr) : Sp := fun vs H Q _ => ∃ (p : Addr) (u : V) (ys : List V) (rs : List Rw) (ru : Rul), vs = [.ref p, u] ∧ SqL K H p ys ∧ DpAll K H ys (rs.map dRw) ∧ Dp K H u (dRu ru) ∧ RuOk ru ∧ (∀ r ∈ rs, RwOk r) ∧ rs.length ≤ 200 ∧ GxR.TabG H P0 ∧
  ∀ H' q zs, Tb P0 H H' → H q = none → H' q = some (.lst zs) → DpAll K H' zs ((askM ru rs).map dF) → Q (.ref q) H'
theorem str_len : ∀ ws : List Str, ((ws.map V.str).map lenV).sum = ltrM ws
  | [] => rfl
  | w :: ws => by
    show (w.length : Int) + ((ws.map V.str).map lenV).sum = (w.length : Int) + ltrM ws
    rw [str_len ws]
theorem ifx {b : Bool} {i : Nat} {v u : V} {σ : L2.St} {H : Hp} {k : V → Hp → Prop} (hi : σ[i]? = some (some v)) (h : k (if b = true then v else u) H) : if b = true then tVar i σ H k else tC u σ H k := by
  cases b with
  | true => exact ⟨v, hi, h⟩
  | false => exact h
theorem cl_distances (T : Txt K mg) {c P0 : Addr} (D : Dfc K mg "distances" s_distances ["rows", "rule"] c) (TB : GxR.TabB base mg c P0) : Cl P w K mg base CX0 4 "distances" (spDist K P0) := by
  have c_larger := cl_larger (P := P) (w := w) (base := base) T
  have c_timed := cl_timed (P := P) (w := w) (base := base) T
  obtain ⟨aN, g_NOUGHT, hN⟩ := T.c_NOUGHT
  refine D.clN sc_distances (fun vs H Q E h => ?_) (fun f A outer s H vs Q E hr h => ?_)
  · obtain ⟨p, u, ys, rs, ru, rfl, _⟩ := h
    rfl
  · obtain ⟨p, u, ys, rs, ru, rfl, hp, dr, du, okU, okR, ln, tb, q⟩ := h
    have el : ys.length = rs.length := by rw [dpa_len dr, List.length_map]
    obtain ⟨au, v1, v2, v3, rfl, hau, d1, d2, d3⟩ := dRu_at du
    refine ⟨_, (pss_cons (ps_asg (pe_slice sl_tup (pv 1) po_none (po_some pe_int)) (pg_tup rfl (pgs_cons (pg_name (i := 2) sc_distances.nd rfl (.inl rfl)) (pgs_cons (pg_name (i := 3) sc_distances.nd rfl (.inl rfl)) (pgs_cons (pg_name (i := 4) sc_distances.nd rfl (.inl rfl)) pgs_nil)))))
      (pss_cons (ps_set (i := 5) sc_distances.nd rfl (.inl rfl) (pe_lst pa_nil))
      (pss_cons (ps_for PassesOwn.never rfl (pi_list (pv 0)) (pg_name (i := 6) sc_distances.nd rfl (.inl rfl))
        (pss_cons (ps_set (i := 7) sc_distances.nd rfl (.inl rfl) (pe_sumI hr (by rfl) T.m_sum TB rfl ⟨rfl, rfl, by decide +kernel, rfl, rfl, noFree (by decide +kernel)⟩ (pe_ix ix_tup (pv 6) pe_int (fun _ _ => rfl)) (elt_len rfl rfl rfl T.m_len) (fun _ => rfl)))
      (pss_cons (ps_expr (pe_bm PySem.F.plainAttrs_list PySem.F.slot_list_append PySem.F.type_list_append mt_append (pv 5) (pa_cons (pe_ifExp (pt_truth (pv 5) (by intro _; rfl)) (pv 3) (pe_gl (by rfl) g_NOUGHT)) pa_nil)))
      (pss_one (ps_expr (pe_bm PySem.F.plainAttrs_list PySem.F.slot_list_append PySem.F.type_list_append mt_append (pv 5) (pa_cons (pe_cl c_larger hr (by decide) (by rfl) (pa_cons (pv 4) (pa_cons (pe_cl c_timed hr (by decide) (by rfl) (pa_cons (pv 2) (pa_cons (pe_tup (pa_cons (pv 7) (pa_cons pe_int pa_nil))) pa_nil))) pa_nil))) pa_nil)))))))
      (pss_one (ps_ret (pv 5)))))), ?_⟩
    refine ⟨_, rfl, _, rfl, au, _, rfl, hau, (show ¬ (HT.sIx 5 0 none = 0 ∧ HT.sIx 5 5 (some 3) = 5) by decide), fun sl nsl => ?_⟩
    have s0 := Same.new (o := .tup [v1, v2, v3]) nsl
    have h0 : (upd H sl (.tup [v1, v2, v3])) sl = some (.tup [v1, v2, v3]) := upd_same
    have e0 : cutV [v1, v2, v3, V.int ru.2.2.2.1, V.int ru.2.2.2.2] none (some 3) = [v1, v2, v3] := rfl
    rw [e0]
    generalize upd H sl (.tup [v1, v2, v3]) = H0 at s0 h0 ⊢
    refine ⟨sl, _, rfl, .inl (.inl h0), rfl, _, _, rfl, _, _, rfl, _, _, rfl, rfl, ?_⟩
    refine ⟨Nat.zero_le _, fun r nr => ?_⟩
    have sr := Same.new (o := .lst []) nr
    have nrH : H r = none := s0.free nr
    have rP : r ≠ P0 := Tb.neN tb nrH
    have s01 := s0.trans sr
    refine ⟨_, rfl, p, rfl, ⟨_, s01.seq hp⟩, for_list (K := K) (a := p) (xs := ys) (fun i σ H' => ∃ (zs : List V) (c6 c7 : Option V), σ = [some (.ref p), some (.ref au), some v1, some v2, some v3, some (.ref r), c6, c7] ∧ Tb P0 H (R.hid r r H') ∧ H' r = some (.lst zs) ∧ DpAll K (R.hid r r H') zs ((askM ru (rs.take i)).map dF)) ⟨[], none, none, rfl, Tb.old rP nrH (Tb.same tb s01), upd_same, .nil⟩ (fun i σ H' _ h => ?_) (fun i y σ H' hy h => ?_) (fun σ H' h => ?_)⟩
    · obtain ⟨zs, c6, c7, rfl, s1, h1, da⟩ := h
      exact tb_list tb s1.out hp
    · obtain ⟨zs, c6, c7, rfl, s1, h1, da⟩ := h
      obtain ⟨rw', hrw, dy⟩ := dpa_map dr hy
      obtain ⟨ay, y1, y2, al, rfl, hay, _, _, hal⟩ := dRw_all dy
      have ok := okR rw' (List.mem_of_getElem? hrw)
      have t1 := s1.out.1
      have il : i < rs.length := (List.getElem?_eq_some_iff.mp hrw).1
      have lz : zs.length = 2 * i := by
        rw [dpa_len da, List.length_map]
        show (askF ru 0 (rs.take i)).length = _
        rw [askF_len, List.length_take]
        omega
      have hay1 := tb_tup tb s1.out hay
      have hal1 := tb_list tb s1.out hal
      refine ⟨_, rfl, _, _, _, _, rfl, rfl, hay1, atI_nat (j := 3) rfl, al, _, rfl, hal1, fun y hy => ?_, t1, fun H2 tbd => ?_⟩
      · obtain ⟨w', hw', rfl⟩ := List.mem_map.mp hy
        exact ⟨w', rfl, le1000 (ok.wd w' hw')⟩
      rw [str_len]
      have t2 := Tb.tabbed tbd
      have h2 := t2.at t1 h1 (fun _ z => nomatch z)
      have s2 : Tb P0 H (R.hid r r H2) := s1.trans (Tb.hid rP t2)
      have da2 := tb_dFs s1.1 (Tb.hid rP t2) da
      clear s1 da h1 hay1 hal1 t2 tbd t1
      have hv := tb_dF tb s2.out d2
      have two : ∀ v, Dp K (R.hid r r H2) v (dF (if rs.take i = [] then 0 else ru.2.1)) → ∀ Hq, Hq = upd H2 r (.lst (zs ++ [v])) → Tb P0 H (R.hid r r Hq) ∧ Hq r = some (.lst (zs ++ [v])) ∧ DpAll K (R.hid r r Hq) (zs ++ [v]) ((askM ru (rs.take i) ++ [if rs.take i = [] then 0 else ru.2.1]).map dF) := fun v dv Hq e => by
        subst e
        rw [hid_b, List.map_append]
        exact ⟨s2, upd_same, dpa_snoc da2 dv⟩
      have fin : ∀ (v : V) (Hq : Hp), Tb P0 H (R.hid r r Hq) → Hq r = some (.lst (zs ++ [v])) → DpAll K (R.hid r r Hq) (zs ++ [v]) ((askM ru (rs.take i) ++ [if rs.take i = [] then 0 else ru.2.1]).map dF) → ∀ (v' : V) (Hz : Hp), Same Hq Hz → Dp K Hz v' (dF (needM ru rw')) → Tb P0 H (R.hid r r (upd Hz r (.lst (zs ++ [v] ++ [v'])))) ∧ (upd Hz r (.lst (zs ++ [v] ++ [v']))) r = some (.lst (zs ++ [v] ++ [v'])) ∧ DpAll K (R.hid r r (upd Hz r (.lst (zs ++ [v] ++ [v'])))) (zs ++ [v] ++ [v']) ((askM ru (rs.take (i + 1))).map dF) := fun v Hq k1 k2 k3 v' Hz sz dv => by
        have hz := sz _ _ k2
        rw [hid_b]
        refine ⟨k1.trans (Tb.same k1.1 (Same.hid sz)), upd_same, ?_⟩
        have e : askM ru (rs.take (i + 1)) = askM ru (rs.take i) ++ [if rs.take i = [] then 0 else ru.2.1] ++ [needM ru rw'] := by
          unfold askM
          rw [take_more hrw, askF_snoc, List.append_assoc]
          rfl
        rw [e, List.map_append (l₂ := [needM ru rw'])]
        exact dpa_snoc (dpa_mono (Same.hid sz) _ _ k3) (dp_hid ⟨_, hz⟩ ⟨_, hz⟩ _ _ rfl dv)
      have ev : ∀ bb : Bool, bb = !decide (rs.take i = []) → Dp K (R.hid r r H2) (if bb = true then v2 else .ref aN) (dF (if rs.take i = [] then 0 else ru.2.1)) := fun bb e => by
        by_cases cc : rs.take i = []
        · rw [e, decide_eq_true cc, if_pos cc]
          exact dF_mk (hN _)
        · rw [e, decide_eq_false cc, if_neg cc]
          exact dp_hid ⟨_, h2⟩ ⟨_, h2⟩ _ _ rfl hv
      refine ⟨_, rfl, .inl ⟨rfl, _, .inl (.inl h2)⟩, ?_⟩
      refine ⟨_, rfl, !decide (rs.take i = []), .inl ⟨_, .inl (.inl h2), ?_⟩, ifx rfl ?_⟩
      · by_cases cc : rs.take i = []
        · have zz : zs = [] := by
            rw [cc] at da2
            cases da2
            rfl
          rw [decide_eq_true cc, zz]
          rfl
        · have zz : zs ≠ [] := fun z => cc (by
            rw [z] at lz
            have : i = 0 := by simp at lz; omega
            rw [this]
            rfl)
          rw [decide_eq_false cc]
          cases zs with
          | nil => exact absurd rfl zz
          | cons _ _ => rfl
      have ev := ev _ rfl
      generalize (if (!decide (rs.take i = [])) = true then v2 else V.ref aN) = va at ev ⊢
      refine ⟨r, zs, va, rfl, rfl, h2, small1000 (by omega), ?_⟩
      obtain ⟨t3, h3, da3⟩ := two va ev _ rfl
      generalize upd H2 r (.lst (zs ++ [va])) = H3 at t3 h3 da3 ⊢
      refine ⟨_, rfl, .inl ⟨rfl, _, .inl (.inl h3)⟩, _, rfl, _, rfl, _, rfl, (show 2 ≤ sizeLine by decide), fun pt npt => ?_⟩
      have s4 := Same.new (o := .tup [.int (ltrM rw'.2.2.2), .int 1]) npt
      have d4 : Dp K (upd H3 pt (.tup [.int (ltrM rw'.2.2.2), .int 1])) (.ref pt) (dF ((ltrM rw'.2.2.2 : Int) : Rat)) := dF_mk (.inl (.inl upd_same))
      generalize upd H3 pt (.tup [.int (ltrM rw'.2.2.2), .int 1]) = H4 at s4 d4 ⊢
      have o3 := t3.out
      refine ⟨_, _, ru.1, _, 500, 100, rfl, dp_mono s4 _ _ (tb_dF tb o3 d1), d4, okU.z1, ok.lt, by decide, trivial, fun H5 v5 s5 d5 => ?_⟩
      have s45 := s4.trans s5
      refine ⟨_, _, ru.2.2.1, _, 500, 600, rfl, dp_mono s45 _ _ (tb_dF tb o3 d3), d5, okU.z3, sz_mul okU.z1 ok.lt, by decide, ?_⟩
      have fin' := fun v' dv => fin va H3 t3 h3 da3 v' H5 s45 dv
      have fz : ∀ v', Dp K H5 v' (dF (needM ru rw')) → ∃ (zs' : List V) (c6 c7 : Option V), [some (V.ref p), some (.ref au), some v1, some v2, some v3, some (.ref r), some (.ref ay), some (.int (ltrM rw'.2.2.2))] = [some (.ref p), some (.ref au), some v1, some v2, some v3, some (.ref r), c6, c7] ∧ Tb P0 H (R.hid r r (upd H5 r (.lst (zs ++ [va] ++ [v'])))) ∧ (upd H5 r (.lst (zs ++ [va] ++ [v']))) r = some (.lst zs') ∧ DpAll K (R.hid r r (upd H5 r (.lst (zs ++ [va] ++ [v'])))) zs' ((askM ru (rs.take (i + 1))).map dF) := fun v' dv => by
        obtain ⟨g1, g2, g3⟩ := fin' v' dv
        exact ⟨_, _, _, rfl, g1, g2, g3⟩
      have l3 : (zs ++ [va]).length ≤ 1000 := by
        rw [List.length_append, lz]
        show 2 * i + 1 ≤ 1000
        omega
      refine ⟨r, _, _, rfl, rfl, s45 _ _ h3, small1000 l3, fz _ ?_⟩
      unfold needM
      by_cases c : ru.2.2.1 < ru.1 * ((ltrM rw'.2.2.2 : Int) : Rat)
      · rw [if_pos c, if_pos (decide_eq_true c)]
        exact d5
      · rw [if_neg c, if_neg (fun z => c (of_decide_eq_true z))]
        exact dp_mono s45 _ _ (tb_dF tb o3 d3)
    · obtain ⟨zs, c6, c7, rfl, s1, h1, da⟩ := h
      rw [el, List.take_length] at da
      exact ⟨_, rfl, q _ r zs s1.out nrH h1 (dpa_mono hid_same _ _ da)⟩
/-! ### a lambda handed on: its table may grow; all else stays -/
theorem extN_seq {K : PySem.W.Frag} {H H' : Hp} {a : Addr} {xs : List V} (s : LamX.ExtN H H') (h : SqL K H a xs) : SqL K H' a xs := by
  rcases h with (h | ⟨o, h⟩) | h
  · exact .inl (.inl (s _ _ h (fun _ z => nomatch z)))
  · exact .inl (.inr ⟨o, s _ _ h (fun _ z => nomatch z)⟩)
  · exact .inr h
theorem extN_tup {K : PySem.W.Frag} {H H' : Hp} {a : Addr} {xs : List V} (s : LamX.ExtN H H') (h : SqT K H a xs) : SqT K H' a xs := by
  rcases h with (h | ⟨o, h⟩) | h
  · exact .inl (.inl (s _ _ h (fun _ z => nomatch z)))
  · exact .inl (.inr ⟨o, s _ _ h (fun _ z => nomatch z)⟩)
  · exact .inr h
mutual
theorem dp_extN {K : PySem.W.Frag} {H H' : Hp} (s : LamX.ExtN H H') : ∀ (d : PyData) (v : V), Dp K H v d → Dp K H' v d
  | .none, _, h => by cases h; exact .non
  | .bool _, _, h => by cases h; exact .bl _
  | .int _, _, h => by cases h; exact .int _
  | .str _, _, h => by cases h; exact .str _
  | .list ds, _, h => by
    cases h with
    | lst hs ha => exact .lst (extN_seq s hs) (dpa_extN s ds _ ha)
  | .tuple ds, _, h => by
    cases h with
    | tup hs ha => exact .tup (extN_tup s hs) (dpa_extN s ds _ ha)
  | .dict _, _, h => by cases h
theorem dpa_extN {K : PySem.W.Frag} {H H' : Hp} (s : LamX.ExtN H H') : ∀ (ds : List PyData) (vs : List V), DpAll K H vs ds → DpAll K H' vs ds
  | [], _, h => by cases h; exact .nil
  | d :: ds, _, h => by
    cases h with
    | cons h1 h2 => exact .cons (dp_extN s d _ h1) (dpa_extN s ds _ h2)
end
/-! ### rows moved -/
def wishM (rs : List Rw) : List Rat := rs.flatMap fun r => [r.1, r.2.1]
theorem wishM_cons (r : Rw) (rs : List Rw) : wishM (r :: rs) = r.1 :: r.2.1 :: wishM rs := rfl
theorem wishM_more {rs : List Rw} {i : Nat} {r : Rw} (h : rs[i]? = some r) : wishM (rs.take (i + 1)) = wishM (rs.take i) ++ [r.1, r.2.1] := by
  unfold wishM
  rw [take_more h, List.flatMap_append]
  simp
theorem wishM_len : ∀ rs : List Rw, (wishM rs).length = 2 * rs.length
  | [] => rfl
  | r :: rs => by
    rw [wishM_cons, List.length_cons, List.length_cons, List.length_cons, wishM_len rs]
    omega
def gsM (ru : Rul) (n : Nat) : List Int := (List.replicate n [ru.2.2.2.1, ru.2.2.2.2]).flatten
theorem gsM_succ (ru : Rul) (n : Nat) : gsM ru (n + 1) = ru.2.2.2.1 :: ru.2.2.2.2 :: gsM ru n := by
  unfold gsM
  rw [List.replicate_succ]
  rfl
theorem gsM_len (ru : Rul) : ∀ n, (gsM ru n).length = 2 * n
  | 0 => rfl
  | n + 1 => by
    rw [gsM_succ, List.length_cons, List.length_cons, gsM_len ru n]
    omega
theorem gsM_mem {ru : Rul} : ∀ {n : Nat} {g : Int}, g ∈ gsM ru n → g = ru.2.2.2.1 ∨ g = ru.2.2.2.2
  | 0, g, h => by cases h
  | n + 1, g, h => by
    rw [gsM_succ] at h
    rcases List.mem_cons.mp h with h | h
    · exact .inl h
    · rcases List.mem_cons.mp h with h | h
      · exact .inr h
      · exact gsM_mem h
section
variable (ru : Rul) (rs : List Rw) (E : Rat)
def botR : Nat := botM (wishM rs ++ askM ru rs ++ [E])
def wsI : List Int := (wishM rs).map (scI (botR ru rs E))
def asI : List Int := (askM ru rs).map (scI (botR ru rs E))
def eI : Int := scI (botR ru rs E) E
def tsI : List Int := bestM (wsI ru rs E) (asI ru rs E) (eI ru rs E) (gsM ru rs.length)
def msI : List Int := List.zipWith (fun a b => a - b) (tsI ru rs E) (wsI ru rs E)
def movT : List Rat := (tsI ru rs E).map (qB (botR ru rs E))
def movC : Rat := qB (botR ru rs E) (costI (msI ru rs E) (gsM ru rs.length))
def movP : List Int := if rs = [] then [] else PL 0 (stepsI (msI ru rs E) (gsM ru rs.length))
end
structure MvOk (ru : Rul) (rs : List Rw) (E : Rat) (D n : Nat) : Prop where
  d0 : 0 < D
  dn : D < 2 ^ n
  n0 : n ≤ 1000
  q : ∀ q ∈ wishM rs ++ askM ru rs ++ [E], q.den ∣ D ∧ Sz n q
  a0 : ∀ a ∈ askM ru rs, 0 ≤ a
  g1 : 1 ≤ ru.2.2.2.1 ∧ ru.2.2.2.1 ≤ 9
  g2 : 1 ≤ ru.2.2.2.2 ∧ ru.2.2.2.2 ≤ 9
  ru : RuOk ru
  rw : ∀ r ∈ rs, RwOk r
  len : rs.length ≤ 100
theorem sc_map {B : Nat} : ∀ {xs : List Rat}, (∀ x ∈ xs, x.den ∣ B) → Sc B (xs.map (scI B)) xs
  | [], _ => rfl
  | x :: xs, h => by
    have ih := sc_map (xs := xs) fun y hy => h y (List.mem_cons_of_mem _ hy)
    show ((scI B x : Int) : Rat) :: ((xs.map (scI B)).map fun i : Int => (i : Rat)) = (x * (B : Rat)) :: xs.map (fun x => x * (B : Rat))
    rw [scI_rat (h x List.mem_cons_self)]
    exact congrArg _ ih
section
variable {ru : Rul} {rs : List Rw} {E : Rat} {D n : Nat}
theorem MvOk.n1 (h : MvOk ru rs E D n) : 0 < n := by
  have h1 := h.d0
  have h2 := h.dn
  cases n with
  | zero => exact absurd h2 (by show ¬ D < 1; omega)
  | succ n => omega
theorem MvOk.b0 : 0 < botR ru rs E := (botM_ok _).1
theorem MvOk.bd (h : MvOk ru rs E D n) : botR ru rs E ∣ D := (botM_ok _).2.2 D fun q hq => (h.q q hq).1
theorem MvOk.bn (h : MvOk ru rs E D n) : botR ru rs E < 2 ^ n := Nat.lt_of_le_of_lt (Nat.le_of_dvd h.d0 h.bd) h.dn
theorem MvOk.dw {q : Rat} (hq : q ∈ wishM rs) : q.den ∣ botR ru rs E := (botM_ok _).2.1 q (List.mem_append_left _ (List.mem_append_left _ hq))
theorem MvOk.da {q : Rat} (hq : q ∈ askM ru rs) : q.den ∣ botR ru rs E := (botM_ok _).2.1 q (List.mem_append_left _ (List.mem_append_right _ hq))
theorem MvOk.de : E.den ∣ botR ru rs E := (botM_ok _).2.1 E (List.mem_append_right _ (List.mem_singleton.mpr rfl))
theorem MvOk.sw (h : MvOk ru rs E D n) {q : Rat} (hq : q ∈ wishM rs) : Sz n q := (h.q q (List.mem_append_left _ (List.mem_append_left _ hq))).2
theorem MvOk.sa (h : MvOk ru rs E D n) {q : Rat} (hq : q ∈ askM ru rs) : Sz n q := (h.q q (List.mem_append_left _ (List.mem_append_right _ hq))).2
theorem MvOk.se (h : MvOk ru rs E D n) : Sz n E := (h.q E (List.mem_append_right _ (List.mem_singleton.mpr rfl))).2
theorem wsI_len : (wsI ru rs E).length = 2 * rs.length := by unfold wsI; rw [List.length_map, wishM_len]
theorem asI_len : (asI ru rs E).length = 2 * rs.length := by unfold asI askM; rw [List.length_map, askF_len]
theorem scW : Sc (botR ru rs E) (wsI ru rs E) (wishM rs) := sc_map fun _ hq => MvOk.dw hq
theorem scA : Sc (botR ru rs E) (asI ru rs E) (askM ru rs) := sc_map fun _ hq => MvOk.da hq
theorem scE : ((eI ru rs E : Int) : Rat) = E * (botR ru rs E : Rat) := scI_rat MvOk.de
theorem room_iff : eI ru rs E - lastM (rsM 0 (asI ru rs E)) < 0 ↔ E - (askM ru rs).sum < 0 := room_sc MvOk.b0 scA scE
theorem MvOk.gp (h : MvOk ru rs E D n) : ∀ g ∈ gsM ru rs.length, 0 < g := fun g hg => by
  have h1 := h.g1
  have h2 := h.g2
  rcases gsM_mem hg with e | e <;> omega
theorem MvOk.g9 (h : MvOk ru rs E D n) : ∀ g ∈ gsM ru rs.length, g ≤ 9 := fun g hg => by
  have h1 := h.g1
  have h2 := h.g2
  rcases gsM_mem hg with e | e <;> omega
theorem MvOk.mov (h : MvOk ru rs E D n) (hr : ¬ E - (askM ru rs).sum < 0) : MovOk (botR ru rs E) (wishM rs) (askM ru rs) E (gsM ru rs.length) (tsI ru rs E) (costI (msI ru rs E) (gsM ru rs.length)) (PL 0 (stepsI (msI ru rs E) (gsM ru rs.length))) := by
  refine mov_ok srtII_ok MvOk.b0 scW scA scE (by rw [wsI_len, asI_len]) (by rw [gsM_len, asI_len]) h.gp ?_
  have := mt room_iff.mp hr
  omega
theorem MvOk.tl (h : MvOk ru rs E D n) (hr : ¬ E - (askM ru rs).sum < 0) : (tsI ru rs E).length = 2 * rs.length := by rw [(h.mov hr).tl, wishM_len]
theorem MvOk.ms (h : MvOk ru rs E D n) (hr : ¬ E - (askM ru rs).sum < 0) : (msI ru rs E).length = 2 * rs.length := by
  unfold msI
  rw [List.length_zipWith, h.tl hr, wsI_len]
  omega
/-- times as whole numbers -/
theorem MvOk.ti (h : MvOk ru rs E D n) (hr : ¬ E - (askM ru rs).sum < 0) : ∀ t ∈ tsI ru rs E, 0 ≤ t ∧ t ≤ eI ru rs E := fun t ht => by
  have k := (keep_in (h.mov hr).keep h.a0).2 (qB (botR ru rs E) t) (List.mem_map.mpr ⟨t, ht, rfl⟩)
  have b0 : (0 : Rat) ≤ (botR ru rs E : Rat) := Rat.natCast_nonneg
  have k1 := Rat.mul_le_mul_of_nonneg_right k.1 b0
  have k2 := Rat.mul_le_mul_of_nonneg_right k.2 b0
  rw [qB_mul MvOk.b0] at k1 k2
  rw [← scE] at k2
  have k1 : ((0 : Int) : Rat) ≤ ((t : Int) : Rat) := by
    have : (0 : Rat) * (botR ru rs E : Rat) = ((0 : Int) : Rat) := by grind
    rw [← this]
    exact k1
  exact ⟨Rat.intCast_le_intCast.mp k1, Rat.intCast_le_intCast.mp k2⟩
theorem scI_bits {B n m : Nat} {x : Rat} (hx : Sz n x) (hB : B < 2 ^ m) : (scI B x).natAbs < 2 ^ (n + m) := by
  unfold scI
  refine mul_bits hx.num ?_
  rw [← Int.natCast_ediv, Int.natAbs_natCast]
  exact Nat.lt_of_le_of_lt (Nat.div_le_self _ _) hB
theorem MvOk.mi (h : MvOk ru rs E D n) (hr : ¬ E - (askM ru rs).sum < 0) : ∀ m ∈ msI ru rs E, m.natAbs < 2 ^ (2 * n + 1) := fun m hm => by
  obtain ⟨i, hi⟩ := List.getElem?_of_mem hm
  unfold msI at hi
  rw [List.getElem?_zipWith] at hi
  cases e1 : (tsI ru rs E)[i]? with
  | none => rw [e1] at hi; cases hi
  | some t =>
    cases e2 : (wsI ru rs E)[i]? with
    | none => rw [e1, e2] at hi; cases hi
    | some w =>
      rw [e1, e2] at hi
      obtain rfl : t - w = m := Option.some.inj hi
      have k1 := h.ti hr t (List.mem_of_getElem? e1)
      obtain ⟨q, hq, rfl⟩ := List.mem_map.mp (List.mem_of_getElem? e2)
      have k2 := scI_bits (h.sw hq) h.bn
      have k3 := scI_bits h.se h.bn
      unfold eI at k1
      have e : 2 ^ (2 * n + 1) = 2 ^ (n + n) + 2 ^ (n + n) := by rw [show 2 * n + 1 = n + n + 1 by omega, Nat.pow_succ]; omega
      omega
end
def dMv (x : List (Rat × Rat) × Rat × List Int) : PyData := .tuple [.list (x.1.map dFF), dF x.2.1, .list (x.2.2.map PyData.int)]
/-- what is told of the moving, in two new lists -/
def MvAt (K : PySem.W.Frag) (H0 H : Hp) (z : V) (ts : List Rat) (c : Rat) (ps : List Int) : Prop := ∃ a p1 p2 vc zs, z = .ref a ∧ SqT K H a [.ref p1, vc, .ref p2] ∧ H0 p1 = none ∧ H0 p2 = none ∧ H p1 = some (.lst zs) ∧ DpAll K H zs ((prsOf ts).map dFF) ∧ Dp K H vc (dF c) ∧ H p2 = some (.lst (ps.map V.int))
def spMoved (K : PySem.W.Frag) (P0 P1 C : Addr) : Sp := fun vs H Q X => ∃ (p : Addr) (u v : V) (ys : List V) (rs : List Rw) (ru : Rul) (E : Rat) (D n : Nat), vs = [.ref p, u, v] ∧ SqL K H p ys ∧ DpAll K H ys (rs.map dRw) ∧ Dp K H u (dRu ru) ∧ Dp K H v (dF E) ∧ MvOk ru rs E D n ∧ Ts P0 P1 H ∧
  (rs = [] ∨ ¬ E - (askM ru rs).sum < 0 → ∀ H' z, Tb2 P0 P1 H H' → MvAt K H H' z (movT ru rs E) (movC ru rs E) (movP ru rs E) → Q z H') ∧ (rs ≠ [] → E - (askM ru rs).sum < 0 → ∀ H', Tb2 P0 P1 H H' → X (.ref C) none H')
theorem Tb2.ext {P0 P1 : Addr} {H H' : Hp} (t : Ts P0 P1 H) (s : Tb2 P0 P1 H H') : LamX.ExtN H H' := fun b o h n => s.at t h n
theorem Tb2.free {P0 P1 a : Addr} {H H' : Hp} (s : Tb2 P0 P1 H H') (h : H' a = none) : H a = none := by
  cases e : H a with
  | none => rfl
  | some o =>
    by_cases c : a = P0
    · obtain ⟨ps, h1, _⟩ := s.1.t0
      rw [c, h1] at h
      cases h
    · by_cases c1 : a = P1
      · obtain ⟨ps, h1, _⟩ := s.1.t1
        rw [c1, h1] at h
        cases h
      · have := s.2 a o c c1 e
        rw [h] at this
        cases this
theorem abs_if (m : Int) : (if m < 0 then -m else m) = (m.natAbs : Int) := by
  split <;> omega
theorem map_zip {β γ : Type} (f : β → γ) (g : Int → Int → β) : ∀ (xs ys : List Int), (List.zipWith g xs ys).map f = List.zipWith (fun a b => f (g a b)) xs ys
  | [], _ => by cases ‹List Int› <;> rfl
  | _ :: _, [] => rfl
  | x :: xs, y :: ys => congrArg (List.cons _) (map_zip f g xs ys)
theorem rep_ints (a b : Int) : ∀ n : Nat, (List.replicate n [V.int a, V.int b]).flatten = ((List.replicate n [a, b]).flatten).map V.int
  | 0 => rfl
  | n + 1 => by
    rw [List.replicate_succ, List.replicate_succ]
    show V.int a :: V.int b :: (List.replicate n [V.int a, V.int b]).flatten = V.int a :: V.int b :: ((List.replicate n [a, b]).flatten).map V.int
    rw [rep_ints a b n]
theorem dRu_w {H : Hp} {v : V} {r : Rul} (h : Dp K H v (dRu r)) : ∃ a v1 v2 v3, v = .ref a ∧ SqT K H a [v1, v2, v3, .int r.2.2.2.1, .int r.2.2.2.2] := by
  obtain ⟨a, v1, v2, v3, e, hs, _⟩ := dRu_at h
  exact ⟨a, v1, v2, v3, e, hs⟩
theorem cl_moved (T : Txt K mg) {c0 c1 P0 P1 C : Addr} (D0 : Dfc K mg "distances" s_distances ["rows", "rule"] c0) (TB0 : GxR.TabB base mg c0 P0) (D1 : Dfc K mg "middle" s_middle ["together"] c1) (TB1 : GxR.TabB base mg c1 P1) (e_TooTight : ExcT K mg "TooTight" C) : Cl P w K mg base (L2.CX P w) 5 "moved" (spMoved K P0 P1 C) := by
  have c_distances := cl_distances (P := P) (w := w) (base := base) T D0 TB0
  have c_common_bottom := cl_common_bottom (P := P) (w := w) (base := base) T
  have c_scaled := cl_scaled (P := P) (w := w) (base := base) T
  have c_made := cl_made (P := P) (w := w) (base := base) T
  have c_best_times := cl_best_times (P := P) (w := w) (base := base) T D1 TB1 e_TooTight
  have c_least_prices := cl_least_prices (P := P) (w := w) (base := base) T
  have c_price_step := cl_price_step (P := P) (w := w) (base := base) T
  have c_as_pairs := cl_as_pairs (P := P) (w := w) (base := base) T
  obtain ⟨aN, g_NOUGHT, hN⟩ := T.c_NOUGHT
  refine T.d_moved.clX sc_moved (fun vs H Q E h => ?_) (fun f cdv A outer s H vs Q E hr h => ?_)
  · obtain ⟨p, u, v, ys, rs, ru, E', D, n, rfl, _⟩ := h
    rfl
  · obtain ⟨p, u, v, ys, rs, ru, Ee, D, n, rfl, hp, dr, du, dv, ok, ts, q, qE⟩ := h
    have el : ys.length = rs.length := by rw [dpa_len dr, List.length_map]
    refine ⟨_, (pss_cons (ps_if (pt_not (pt_truth (pv 0) (by intro _; rfl)))
        (pss_one (ps_ret (pe_tup (pa_cons (pe_lst pa_nil) (pa_cons (pe_gl (by rfl) g_NOUGHT) (pa_cons (pe_lst pa_nil) pa_nil))))))
        pss_nil)
      (pss_cons (ps_setLc2 (i := 3) (own := [("row", 13), ("time", 14)]) (vs1 := [14]) (g := (gName 13)) (g1 := (gName 14)) (tt := tYes) (tt1 := tYes) (by rfl) sc_moved.nd rfl rfl (sw_true rfl rfl rfl (by decide +kernel)) (pi_list (pv 0)) (blkOk_by (N := ["rows", "rule", "end", "wishes", "asked", "weights", "bottom", "times", "moves", "cost", "prices", "distance", "move", "row", "time", "weight", "wish"]) (sc := defScope s_moved) (by decide +kernel)) (by decide) (fun _ _ _ _ _ => (pg_name (i := 13) sc_moved.nd rfl (Or.inl rfl))) (fun _ _ _ _ _ => pts_nil) (fun _ _ _ _ _ => (pi_tupK (K := K) rfl (pe_slice (sl_tupK (K := K) rfl) (pv 13) po_none (po_some pe_int)))) (fun _ _ _ _ _ => (pg_name (i := 14) sc_moved.nd rfl (Or.inl rfl))) (fun _ _ _ _ _ => pts_nil) (fun _ _ _ _ _ => (pv 14)))
      (pss_cons (ps_set (i := 4) sc_moved.nd rfl (.inl rfl) (pe_cl c_distances hr (by decide) (by rfl) (pa_cons (pv 0) (pa_cons (pv 1) pa_nil))))
      (pss_cons (ps_set (i := 5) sc_moved.nd rfl (.inl rfl) (pe_op op_rep (pe_lst (pa_cons (pe_ix ix_tup (pv 1) pe_int (fun _ _ => rfl)) (pa_cons (pe_ix ix_tup (pv 1) pe_int (fun _ _ => rfl)) pa_nil))) (pe_callB call_len_seq (by rfl) T.m_len (by decide +kernel) (pa_cons (pv 0) pa_nil))))
      (pss_cons (ps_set (i := 6) sc_moved.nd rfl (.inr rfl) (pe_cl c_common_bottom hr (by decide) (by rfl) (pa_cons (pe_op op_cat (pe_op op_cat (pv 3) (pv 4)) (pe_lst (pa_cons (pv 2) pa_nil))) pa_nil)))
      (pss_cons (ps_setLc (i := 3) (own := [("wish", 16)]) (g := (gName 16)) (tt := tYes) (by rfl) sc_moved.nd rfl rfl (sw_true rfl rfl rfl (by decide +kernel)) (pi_list (pv 3)) (blkOk_by (N := ["rows", "rule", "end", "wishes", "asked", "weights", "bottom", "times", "moves", "cost", "prices", "distance", "move", "row", "time", "weight", "wish"]) (sc := defScope s_moved) (by decide +kernel)) (fun _ _ _ _ _ => (pg_name (i := 16) sc_moved.nd rfl (Or.inl rfl))) (fun _ _ _ _ _ => pts_nil) (fun _ _ _ _ _ => (pe_cl c_scaled hr (by decide) (by rfl) (pa_cons (pv 16) (pa_cons (pv 6) pa_nil)))))
      (pss_cons (ps_setLc (i := 4) (own := [("distance", 11)]) (g := (gName 11)) (tt := tYes) (by rfl) sc_moved.nd rfl rfl (sw_true rfl rfl rfl (by decide +kernel)) (pi_list (pv 4)) (blkOk_by (N := ["rows", "rule", "end", "wishes", "asked", "weights", "bottom", "times", "moves", "cost", "prices", "distance", "move", "row", "time", "weight", "wish"]) (sc := defScope s_moved) (by decide +kernel)) (fun _ _ _ _ _ => (pg_name (i := 11) sc_moved.nd rfl (Or.inl rfl))) (fun _ _ _ _ _ => pts_nil) (fun _ _ _ _ _ => (pe_cl c_scaled hr (by decide) (by rfl) (pa_cons (pv 11) (pa_cons (pv 6) pa_nil)))))
      (pss_cons (ps_set (i := 7) sc_moved.nd rfl (.inl rfl) (pe_clS c_best_times hr (by decide) (by rfl) (takes_of rfl rfl rfl rfl) (pa_cons (pv 3) (pa_cons (pv 4) (pa_cons (pe_cl c_scaled hr (by decide) (by rfl) (pa_cons (pv 2) (pa_cons (pv 6) pa_nil))) (pa_cons (pv 5) pa_nil))))))
      (pss_cons (ps_setLc (i := 8) (own := [("time", 14), ("wish", 16)]) (g := (gTup K 2 (gCons (gName 14) (gCons (gName 16) gNil)))) (tt := tYes) (by rfl) sc_moved.nd rfl rfl (sw_true rfl rfl rfl (by decide +kernel)) (pi_zip (by rfl) T.m_zip (pa_cons (pv 7) (pa_cons (pv 3) pa_nil))) (blkOk_by (N := ["rows", "rule", "end", "wishes", "asked", "weights", "bottom", "times", "moves", "cost", "prices", "distance", "move", "row", "time", "weight", "wish"]) (sc := defScope s_moved) (by decide +kernel)) (fun _ _ _ _ _ => (pg_tup rfl (pgs_cons (pg_name (i := 14) sc_moved.nd rfl (Or.inl rfl)) (pgs_cons (pg_name (i := 16) sc_moved.nd rfl (Or.inl rfl)) pgs_nil)))) (fun _ _ _ _ _ => pts_nil) (fun _ _ _ _ _ => (pe_op op_sub (pv 14) (pv 16))))
      (pss_cons (ps_set (i := 9) sc_moved.nd rfl (.inl rfl) (pe_callB (cr_sum rfl) (by rfl) T.m_sum (by decide +kernel) (pa_cons (pe_lc (own := [("move", 12), ("weight", 15)]) (g := (gTup K 2 (gCons (gName 12) (gCons (gName 15) gNil)))) (tt := tYes) (by rfl) sc_moved.nd (pi_zip (by rfl) T.m_zip (pa_cons (pv 8) (pa_cons (pv 5) pa_nil))) (blkOk_by (N := ["rows", "rule", "end", "wishes", "asked", "weights", "bottom", "times", "moves", "cost", "prices", "distance", "move", "row", "time", "weight", "wish"]) (sc := defScope s_moved) (by decide +kernel)) (fun _ _ _ _ _ => (pg_tup rfl (pgs_cons (pg_name (i := 12) sc_moved.nd rfl (Or.inl rfl)) (pgs_cons (pg_name (i := 15) sc_moved.nd rfl (Or.inl rfl)) pgs_nil)))) (fun _ _ _ _ _ => pts_nil) (fun _ _ _ _ _ => (pe_op op_mulW (pv 15) (pe_callB call_abs (by rfl) T.m_abs (by decide +kernel) (pa_cons (pv 12) pa_nil))))) pa_nil)))
      (pss_cons (ps_set (i := 10) sc_moved.nd rfl (.inl rfl) (pe_cl c_least_prices hr (by decide) (by rfl) (pa_cons (pe_lc (own := [("move", 12), ("weight", 15)]) (g := (gTup K 2 (gCons (gName 12) (gCons (gName 15) gNil)))) (tt := tYes) (by rfl) sc_moved.nd (pi_zip (by rfl) T.m_zip (pa_cons (pv 8) (pa_cons (pv 5) pa_nil))) (blkOk_by (N := ["rows", "rule", "end", "wishes", "asked", "weights", "bottom", "times", "moves", "cost", "prices", "distance", "move", "row", "time", "weight", "wish"]) (sc := defScope s_moved) (by decide +kernel)) (fun _ _ _ _ _ => (pg_tup rfl (pgs_cons (pg_name (i := 12) sc_moved.nd rfl (Or.inl rfl)) (pgs_cons (pg_name (i := 15) sc_moved.nd rfl (Or.inl rfl)) pgs_nil)))) (fun _ _ _ _ _ => pts_nil) (fun _ _ _ _ _ => (pe_cl c_price_step hr (by decide) (by rfl) (pa_cons (pv 12) (pa_cons (pv 15) pa_nil))))) pa_nil)))
      (pss_one (ps_ret (pe_tup (pa_cons (pe_cl c_as_pairs hr (by decide) (by rfl) (pa_cons (pe_lc (own := [("time", 14)]) (g := (gName 14)) (tt := tYes) (by rfl) sc_moved.nd (pi_list (pv 7)) (blkOk_by (N := ["rows", "rule", "end", "wishes", "asked", "weights", "bottom", "times", "moves", "cost", "prices", "distance", "move", "row", "time", "weight", "wish"]) (sc := defScope s_moved) (by decide +kernel)) (fun _ _ _ _ _ => (pg_name (i := 14) sc_moved.nd rfl (Or.inl rfl))) (fun _ _ _ _ _ => pts_nil) (fun _ _ _ _ _ => (pe_cl c_made hr (by decide) (by rfl) (pa_cons (pv 14) (pa_cons (pv 6) pa_nil))))) pa_nil)) (pa_cons (pe_cl c_made hr (by decide) (by rfl) (pa_cons (pv 9) (pa_cons (pv 6) pa_nil))) (pa_cons (pv 10) pa_nil))))))))))))))))), ?_⟩
    have d0 : Dp K H (.ref aN) (dF 0) := dF_mk (hN H)
    by_cases c : rs = []
    · have ey : ys = [] := by
        rw [c] at el
        exact List.length_eq_zero_iff.mp el
      refine ⟨_, rfl, false, .inl ⟨_, hp, by rw [ey]; rfl⟩, iteY rfl ?_⟩
      refine ⟨Nat.zero_le _, fun l1 n1 => ?_⟩
      have s1 := Same.new (o := .lst []) n1
      have h1 : (upd H l1 (.lst [])) l1 = some (.lst []) := upd_same
      generalize upd H l1 (.lst []) = H1 at s1 h1 ⊢
      refine ⟨Nat.zero_le _, fun l2 n2 => ?_⟩
      have s2 := Same.new (o := .lst []) n2
      have h2 : (upd H1 l2 (.lst [])) l2 = some (.lst []) := upd_same
      generalize upd H1 l2 (.lst []) = H2 at s2 h2 ⊢
      refine ⟨(show 3 ≤ sizeLine by decide), fun t nt => ?_⟩
      have s3 := Same.new (o := .tup [.ref l1, .ref aN, .ref l2]) nt
      have s13 := (s1.trans s2).trans s3
      subst c
      refine q (.inl rfl) _ _ (Tb2.same ts s13) ⟨t, l1, l2, _, [], rfl, .inl (.inl upd_same), n1, s1.free n2, (s2.trans s3) _ _ h1, .nil, ?_, s3 _ _ h2⟩
      have e0 : movC ru [] Ee = 0 := by
        unfold movC
        refine qB_eq MvOk.b0 (B := botR ru [] Ee) ?_
        rw [qB_mul MvOk.b0]
        show ((0 : Int) : Rat) = _
        grind
      rw [e0]
      exact dp_mono s13 _ _ d0
    · have ey : ys ≠ [] := fun e => by
        rw [e] at el
        exact c (List.length_eq_zero_iff.mp el.symm)
      refine ⟨_, rfl, true, .inl ⟨_, hp, by cases ys with | nil => exact absurd rfl ey | cons _ _ => rfl⟩, iteN rfl ?_⟩
      -- wishes
      refine ⟨_, rfl, p, rfl, ⟨_, hp⟩, fun Dw nw => ?_⟩
      have sD := Same.new (o := .lst []) nw
      have lr := ok.len
      refine lc2_it (walk_list (K := K) (a := p) (xs := ys)) (fun j Hx => ∃ acc, Hx Dw = some (.lst acc) ∧ Same H (R.hid Dw Dw Hx) ∧ DpAll K (R.hid Dw Dw Hx) acc ((wishM (rs.take j)).map dF)) ⟨[], upd_same, hid_old sD nw, .nil⟩ (fun j Hx _ h => ?_) (fun j x Hx Hy hj h hy => ?_) (fun H1 h => ?_)
      · obtain ⟨acc, h1, s1, da⟩ := h
        exact (s1.trans hid_same).seq hp
      · obtain ⟨rfl, hy⟩ := hy
        obtain ⟨acc, h1, s1, da⟩ := h
        obtain ⟨r, hr', dy⟩ := dpa_map dr hy
        obtain ⟨ay, y1, y2, al, rfl, hay, e1, e2, _⟩ := dRw_all dy
        have sx := s1.trans hid_same
        have lj : (wishM (rs.take j)).length ≤ 198 := by
          rw [wishM_len, List.length_take]
          omega
        have la : acc.length = (wishM (rs.take j)).length := by rw [dpa_len da, List.length_map]
        refine ⟨rfl, ?_⟩
        refine ⟨_, rfl, _, rfl, ay, _, rfl, Same.tup sx hay, (show ¬ (HT.sIx 4 0 none = 0 ∧ HT.sIx 4 4 (some 2) = 4) by decide), fun sl nsl => ?_⟩
        have e0 : cutV [y1, y2, V.int r.2.2.1, V.ref al] none (some 2) = [y1, y2] := rfl
        rw [e0]
        have s2 := Same.new (o := .tup [y1, y2]) nsl
        have h2 : (upd Hy sl (.tup [y1, y2])) sl = some (.tup [y1, y2]) := upd_same
        generalize upd Hy sl (.tup [y1, y2]) = Hs at s2 h2 ⊢
        have hs1 := s2 _ _ h1
        have sH := s1.trans (Same.hid s2)
        have sq : SqT K Hs sl [y1, y2] := .inl (.inl h2)
        have iD : IsL Hs Dw := ⟨_, hs1⟩
        refine ⟨sl, rfl, ⟨_, sq⟩, lc2_in (walk_tup (K := K) (a := sl) (xs := [y1, y2])) (fun k Hz => ∃ acc, Hz Dw = some (.lst acc) ∧ Same (R.hid Dw Dw Hs) (R.hid Dw Dw Hz) ∧ DpAll K (R.hid Dw Dw Hz) acc ((wishM (rs.take j) ++ [r.1, r.2.1].take k).map dF)) ⟨acc, hs1, Same.refl _, ?_⟩ (fun k Hz _ h => ?_) (fun k x Hz Hw hk h hy => ?_) (fun Hz h => ?_)⟩
        · rw [List.take_zero, List.append_nil]
          exact dpa_mono (Same.hid s2) _ _ da
        · obtain ⟨acc', h3, s3, da'⟩ := h
          exact Same.tup (s3.trans hid_same) (hid_tupL iD iD sq)
        · obtain ⟨rfl, hy⟩ := hy
          obtain ⟨acc', h3, s3, da'⟩ := h
          have la' : acc'.length ≤ 200 := by
            rw [dpa_len da', List.length_map, List.length_append, List.length_take]
            simp only [List.length_cons, List.length_nil]
            omega
          have sH3 := sH.trans s3
          refine ⟨rfl, _, rfl, acc', h3, small1000 (by omega), acc' ++ [x], upd_same, by rw [hid_b]; exact s3, ?_⟩
          rw [hid_b]
          have two : ∃ qx, [r.1, r.2.1][k]? = some qx ∧ Dp K (R.hid Dw Dw Hw) x (dF qx) := by
            have hk : k < 2 := hk
            rcases (show k = 0 ∨ k = 1 by omega) with rfl | rfl
            · obtain rfl : y1 = x := Option.some.inj hy
              exact ⟨r.1, rfl, dp_mono sH3 _ _ e1⟩
            · obtain rfl : y2 = x := Option.some.inj hy
              exact ⟨r.2.1, rfl, dp_mono sH3 _ _ e2⟩
          obtain ⟨qx, hq, dq⟩ := two
          rw [take_more hq, ← List.append_assoc, List.map_append]
          exact dpa_snoc da' dq
        · obtain ⟨acc', h3, s3, da'⟩ := h
          refine ⟨acc', h3, sH.trans s3, ?_⟩
          rw [wishM_more hr']
          exact da'
      · obtain ⟨ws, h1, s1, dws⟩ := h
        rw [el, List.take_length] at dws
        have dws := dpa_mono hid_same _ _ dws
        have s01 : Same H H1 := s1.trans hid_same
        clear s1 sD
        have t1 := Tb2.same ts s01
        have lws : ws.length = 2 * rs.length := by rw [dpa_len dws, List.length_map, wishM_len]
        -- asked
        refine ⟨_, rfl, _, rfl, p, u, ys, rs, ru, rfl, s01.seq hp, dpa_mono s01 _ _ dr, dp_mono s01 _ _ du, ok.ru, ok.rw, by omega, t1.1.t0, fun H2 pa za b2 na h2 dza => ?_⟩
        have s12 := Tb2.of0 t1.1 b2
        have t2 := t1.trans s12
        have lza : za.length = 2 * rs.length := by rw [dpa_len dza, List.length_map]; unfold askM; rw [askF_len]
        have hw2 := s12.at t1.1 h1 (fun _ z => nomatch z)
        have dws2 := dpa_extN (s12.ext t1.1) _ _ dws
        have ext2 := t2.ext ts
        -- weights
        obtain ⟨au, u1, u2, u3, rfl, hau⟩ := dRu_w (dp_extN ext2 _ _ du)
        refine ⟨_, rfl, _, _, _, _, rfl, rfl, hau, atI_nat (j := 3) rfl, _, rfl, _, _, _, _, rfl, rfl, hau, atI_nat (j := 4) rfl, (show 2 ≤ sizeLine by decide), fun pg ng => ?_⟩
        have s3 := Same.new (o := .lst [V.int ru.2.2.2.1, V.int ru.2.2.2.2]) ng
        have h3 : (upd H2 pg (.lst [V.int ru.2.2.2.1, V.int ru.2.2.2.2])) pg = some (.lst [V.int ru.2.2.2.1, V.int ru.2.2.2.2]) := upd_same
        generalize upd H2 pg (.lst [V.int ru.2.2.2.1, V.int ru.2.2.2.2]) = H3 at s3 h3 ⊢
        refine ⟨_, rfl, p, _, rfl, .inl (s3.seq (extN_seq ext2 hp)), pg, _, _, rfl, rfl, h3, by omega, by omega, ?_, fun pw npw => ?_⟩
        · rw [el, Int.toNat_natCast]
          exact Nat.le_trans (show 2 * rs.length ≤ 1000 by omega) (by decide)
        rw [el, Int.toNat_natCast, rep_ints]
        have s4 := Same.new (o := .lst ((gsM ru rs.length).map V.int)) npw
        have h4 : (upd H3 pw (.lst ((gsM ru rs.length).map V.int))) pw = some (.lst ((gsM ru rs.length).map V.int)) := upd_same
        have s24 := s3.trans s4
        change tSeq _ _ _ _ (upd H3 pw (.lst ((gsM ru rs.length).map V.int)))
        generalize upd H3 pw (.lst ((gsM ru rs.length).map V.int)) = H4 at s4 h4 s24 ⊢
        have b0 : 0 < botR ru rs Ee := MvOk.b0
        have n0 := ok.n0
        have n1 := ok.n1
        have hwp : SqL K H4 pw ((gsM ru rs.length).map V.int) := .inl (.inl h4)
        clear h3 s3 s4 ng npw h1 hau
        -- bottom
        refine ⟨_, rfl, _, rfl, Dw, pa, ws, za, rfl, rfl, s24 _ _ hw2, s24 _ _ h2, Nat.le_trans (show ws.length + za.length ≤ 1000 by omega) (by decide), fun pc nc => ?_⟩
        have s5 := Same.new (o := .lst (ws ++ za)) nc
        have h5 : (upd H4 pc (.lst (ws ++ za))) pc = some (.lst (ws ++ za)) := upd_same
        change tLst _ _ (upd H4 pc (.lst (ws ++ za))) _
        generalize upd H4 pc (.lst (ws ++ za)) = H5 at s5 h5 ⊢
        refine ⟨_, rfl, (show 1 ≤ sizeLine by decide), fun pl npl => ?_⟩
        have s6 := Same.new (o := .lst [v]) npl
        have h6 : (upd H5 pl (.lst [v])) pl = some (.lst [v]) := upd_same
        generalize upd H5 pl (.lst [v]) = H6 at s6 h6 ⊢
        refine ⟨pc, pl, _, _, rfl, rfl, s6 _ _ h5, h6, Nat.le_trans (show (ws ++ za).length + [v].length ≤ 1000 by rw [List.length_append]; show ws.length + za.length + 1 ≤ 1000; omega) (by decide), fun pd npd => ?_⟩
        have s7 := Same.new (o := .lst (ws ++ za ++ [v])) npd
        have h7 : (upd H6 pd (.lst (ws ++ za ++ [v]))) pd = some (.lst (ws ++ za ++ [v])) := upd_same
        generalize upd H6 pd (.lst (ws ++ za ++ [v])) = H7 at s7 h7 ⊢
        have s27 := s24.trans ((s5.trans s6).trans s7)
        have s47 := (s5.trans s6).trans s7
        have T7 := t2.trans (Tb2.same t2.1 s27)
        have dv7 := dp_extN (T7.ext ts) _ _ dv
        have dall : DpAll K H7 (ws ++ za ++ [v]) ((wishM rs ++ askM ru rs ++ [Ee]).map dF) := by
          rw [List.map_append, List.map_append]
          exact dpa_app (dpa_app (dpa_mono s27 _ _ dws2) (dpa_mono s27 _ _ dza)) (.cons dv7 .nil)
        refine ⟨pd, _, _, D, n, rfl, .inl (.inl h7), dall, ok.d0, ok.dn, by omega, fun q hq => (ok.q q hq).1, ?_⟩
        change tSeq _ _ _ ([some (V.ref p), some (V.ref au), some v, some (V.ref Dw), some (V.ref pa), some (V.ref pw), some (V.int (botR ru rs Ee : Nat)), none, none, none, none, none, none, none, none, none, none]) H7
        -- wishes, over the bottom
        have hw7 : SqL K H7 Dw ws := .inl (.inl (s27 _ _ hw2))
        have ha7 : SqL K H7 pa za := .inl (.inl (s27 _ _ h2))
        have hg7 := s47.seq hwp
        have dw7 := dpa_mono s27 _ _ dws2
        have da7 := dpa_mono s27 _ _ dza
        clear s5 s6 s7 h5 h6 h7 dall s24 s27 s47 h4 nc npl npd hwp h2 hw2 dws2 dza dws
        refine ⟨_, rfl, Dw, rfl, ⟨_, hw7⟩, fun D8 n8 => ?_⟩
        refine lc_listE (eb := PyData.int) (scI (botR ru rs Ee)) hw7 dw7 (by rw [wishM_len]; omega) n8 (fun _ => rfl) (fun k x v Hx Qz Rz hx sx dx qz => ?_) (fun H8 acc s8 h8 d8 => ?_)
        · exact ⟨rfl, _, rfl, _, rfl, v, x, botR ru rs Ee, n, n, rfl, dx, ok.sw (List.mem_of_getElem? hx), ok.bn, by omega, n1, by omega, qz _ _ (Same.refl _) (.int _)⟩
        obtain rfl := dpa_iv d8
        have h8 : SqL K H8 D8 ((wsI ru rs Ee).map V.int) := .inl (.inl h8)
        -- asked, over the bottom
        refine ⟨_, rfl, pa, rfl, ⟨_, s8.seq ha7⟩, fun D9 n9 => ?_⟩
        refine lc_listE (eb := PyData.int) (scI (botR ru rs Ee)) (s8.seq ha7) (dpa_mono s8 _ _ da7) (by unfold askM; rw [askF_len]; omega) n9 (fun _ => rfl) (fun k x v Hx Qz Rz hx sx dx qz => ?_) (fun H9 acc s9 h9 d9 => ?_)
        · exact ⟨rfl, _, rfl, _, rfl, v, x, botR ru rs Ee, n, n, rfl, dx, ok.sa (List.mem_of_getElem? hx), ok.bn, by omega, n1, by omega, qz _ _ (Same.refl _) (.int _)⟩
        obtain rfl := dpa_iv d9
        have h9 : SqL K H9 D9 ((asI ru rs Ee).map V.int) := .inl (.inl h9)
        have s79 := s8.trans s9
        have hg9 := s79.seq hg7
        have hw9 := s9.seq h8
        have T9 := T7.trans (Tb2.same T7.1 s79)
        have dv9 := dp_mono s79 _ _ dv7
        clear h8 s8 s9 s79 hw7 ha7 hg7 dw7 da7 d8 d9 dv7
        have lw : (wsI ru rs Ee).length = 2 * rs.length := wsI_len
        have la : (asI ru rs Ee).length = 2 * rs.length := asI_len
        have lg : (gsM ru rs.length).length = 2 * rs.length := gsM_len _ _
        have rp : 0 < rs.length := List.length_pos_iff.mpr c
        -- times
        refine ⟨_, rfl, _, rfl, _, rfl, _, rfl, v, Ee, botR ru rs Ee, n, n, rfl, dv9, ok.se, ok.bn, by omega, n1, by omega, _, rfl, D8, D9, pw, wsI ru rs Ee, asI ru rs Ee, gsM ru rs.length, eI ru rs Ee, rfl, hw9, h9, hg9, by omega, by omega, (fun z => by rw [z] at la; simp at la; omega), by omega, T9.1.t1, fun room Ha r tA nA hA => ?_, fun z Ha tA => ?_⟩
        · have room : ¬ Ee - (askM ru rs).sum < 0 := fun z => by
            have := room_iff.mpr z
            omega
          have mv := ok.mov room
          have lt := ok.tl room
          have lm := ok.ms room
          have TA := T9.trans (Tb2.of1 T9.1 tA)
          have xA := (Tb2.of1 T9.1 tA).ext T9.1
          have hwA := extN_seq xA hw9
          have hgA := extN_seq xA hg9
          have hA : SqL K Ha r ((tsI ru rs Ee).map V.int) := .inl (.inl hA)
          clear xA hw9 hg9 h9 dv9 tA T9 n8 n9
          -- moves
          refine ⟨_, rfl, _, rfl, r, D8, _, _, rfl, hA, hwA, fun Db nb => ?_⟩
          refine lc_zipE (eb := PyData.int) (fun a b => a - b) hA hwA (by omega) (by omega) nb (fun _ => rfl) (fun k x y t Hx Qz Rz hx hy sx hT qz => ?_) (fun Hb acc sb hb db => ?_)
          · exact ⟨t, _, rfl, hT, rfl, _, _, rfl, _, _, rfl, rfl, rfl, _, rfl, _, rfl, _, _, rfl, rfl, qz _ _ (Same.refl _) (.int _)⟩
          obtain rfl := dpa_iv db
          have hb : SqL K Hb Db ((msI ru rs Ee).map V.int) := .inl (.inl hb)
          have hgB := sb.seq hgA
          -- cost
          refine ⟨_, rfl, _, rfl, Db, pw, _, _, rfl, hb, hgB, fun Dc nc => ?_⟩
          refine lc_zipE (eb := PyData.int) (fun (m g : Int) => g * (m.natAbs : Int)) hb hgB (by omega) (by omega) nc (fun _ => rfl) (fun k x y t Hx Qz Rz hx hy sx hT qz => ?_) (fun Hc acc sc hc dc => ?_)
          · refine ⟨t, _, rfl, hT, rfl, _, _, rfl, _, _, rfl, rfl, rfl, _, rfl, _, rfl, _, rfl, _, _, rfl, rfl, ?_, ?_⟩
            · rw [abs_if]
              have y9 := ok.g9 y (List.mem_of_getElem? hy)
              have y0 := ok.gp y (List.mem_of_getElem? hy)
              have xm := ok.mi room x (List.mem_of_getElem? hx)
              exact wide_mul (a := 4) (b := 2 * n + 1) (by omega) (by rw [Int.natAbs_natCast]; exact xm) (by decide) (by omega) (by omega)
            · rw [abs_if]
              exact qz _ _ (Same.refl _) (.int _)
          obtain rfl := dpa_iv dc
          have hc : SqL K Hc Dc ((List.zipWith (fun (m g : Int) => g * (m.natAbs : Int)) (msI ru rs Ee) (gsM ru rs.length)).map V.int) := .inl (.inl hc)
          refine ⟨Dc, _, rfl, hc, ?_⟩
          -- prices
          have hbC := sc.seq hb
          have hgC := sc.seq hgB
          have sAc := sb.trans sc
          clear hc dc db hgA hgB hb
          refine ⟨_, rfl, _, rfl, Db, pw, _, _, rfl, hbC, hgC, fun Dd nd => ?_⟩
          refine lc_zipE (eb := dII) stepM hbC hgC (by omega) (by omega) nd (fun _ => rfl) (fun k x y t Hx Qz Rz hx hy sx hT qz => ?_) (fun Hd acc sd hd dd => ?_)
          · exact ⟨t, _, rfl, hT, rfl, _, _, rfl, _, _, rfl, rfl, rfl, _, rfl, _, rfl, x, y, rfl, fun H' p s d => qz _ _ s d⟩
          have ls : (stepsI (msI ru rs Ee) (gsM ru rs.length)).length ≤ 900 := by
            unfold stepsI
            rw [List.length_zipWith]
            omega
          refine ⟨Dd, acc, _, rfl, .inl (.inl hd), dd, ls, fun He re se ne he => ?_⟩
          have sAe := (sAc.trans sd).trans se
          have nre : Ha re = none := (sAc.trans sd).free ne
          have hAe := sAe.seq hA
          clear hbC hgC hd dd sd se ne sb sc sAc hA hwA
          -- times as pairs
          refine ⟨_, rfl, r, rfl, ⟨_, hAe⟩, fun Df nf => ?_⟩
          refine lc_listE (ea := PyData.int) (eb := dF) (qB (botR ru rs Ee)) hAe (ints_dpa _) (by omega) nf (fun _ => rfl) (fun k x v Hx Qz Rz hx sx dx qz => ?_) (fun Hf acc sf hf df => ?_)
          · cases dx
            refine ⟨rfl, _, rfl, _, rfl, x, (botR ru rs Ee : Int), rfl, by omega, ?_, fun H' v s d => qz _ _ s d⟩
            rw [Int.natAbs_natCast]
            exact Nat.lt_of_lt_of_le ok.bn (Nat.pow_le_pow_right (by decide) (by omega))
          refine ⟨Df, acc, movT ru rs Ee, rs.length, rfl, .inl (.inl hf), df, by unfold movT; rw [List.length_map, lt], by omega, fun Hg rg zs sg ng hg dg => ?_⟩
          -- cost
          refine ⟨_, rfl, _, rfl, _, (botR ru rs Ee : Int), rfl, by omega, ?_, fun Hh vh sh dh => ?_⟩
          · rw [Int.natAbs_natCast]
            exact Nat.lt_of_lt_of_le ok.bn (Nat.pow_le_pow_right (by decide) (by omega))
          refine ⟨_, rfl, (show 3 ≤ sizeLine by decide), fun t nt => ?_⟩
          have st := Same.new (o := .tup [.ref rg, vh, .ref re]) nt
          have sgt := sh.trans st
          have set := (sf.trans sg).trans sgt
          have sAt := sAe.trans set
          refine q (.inr room) _ _ (TA.trans (Tb2.same TA.1 sAt)) ⟨t, rg, re, vh, zs, rfl, .inl (.inl upd_same), ?_, TA.free nre, sgt _ _ hg, dpa_mono sgt _ _ dg, dp_mono st _ _ dh, ?_⟩
          · exact TA.free ((sAe.trans sf).free ng)
          · unfold movP
            rw [if_neg c]
            exact set _ _ he
        · exact qE c (room_iff.mp z) _ (T9.trans (Tb2.of1 T9.1 tA))
def spTime (K : PySem.W.Frag) : Sp := fun vs H Q _ => ∃ (b l : Addr) (m : Int), vs = [.ref b, .int m] ∧ Bx H b l ∧ 0 < m ∧ m ≤ 100000 ∧ ∀ H' v (x : Rat), Same (hid b l H) (hid b l H') → Bx H' b l → Dp K H' v (dF x) → Tm m x → Q v H'
theorem cl_Ltime (T : Txt K mg) : Cl P w K mg base CX0 2 "_law_time" (spTime K) := by
  have c_Ltake := cl_Ltake (P := P) (w := w) (base := base) T
  have c_Lfr := cl_Lfr (P := P) (w := w) (base := base) T
  refine T.d_Ltime.cl sc_Ltime (fun vs H Q E h => ?_) (fun f cdv A outer s H vs Q E hr h => ?_)
  · obtain ⟨b, l, m, rfl, _⟩ := h
    rfl
  · obtain ⟨b, l, m, rfl, B, m0, m1, q⟩ := h
    refine ⟨_, (pss_cons (ps_set (i := 2) sc_Ltime.nd rfl (.inl rfl) (pe_cl c_Ltake hr (by decide) (by rfl) (pa_cons (pv 0) (pa_cons (pv 1) pa_nil))))
      (pss_cons (ps_if (pt_cmpR op_eq (pe_cl c_Ltake hr (by decide) (by rfl) (pa_cons (pv 0) (pa_cons pe_int pa_nil))) pe_int (nomark _))
        (pss_one (ps_ret (pe_tup (pa_cons (pv 2) (pa_cons pe_int pa_nil)))))
        pss_nil)
      (pss_cons (ps_set (i := 3) sc_Ltime.nd rfl (.inl rfl) (pe_op op_add pe_int (pe_cl c_Ltake hr (by decide) (by rfl) (pa_cons (pv 0) (pa_cons (pe_ix ix_list (pe_lst (pa_cons pe_int (pa_cons pe_int pa_nil))) (pe_callTy call_int1 (by rfl) T.m_int (by decide +kernel) (pa_cons (pe_cmpR op_eq (pe_cl c_Ltake hr (by decide) (by rfl) (pa_cons (pv 0) (pa_cons pe_int pa_nil))) pe_int (nomark _)) pa_nil)) (fun _ _ => rfl)) pa_nil)))))
      (pss_one (ps_ret (pe_cl c_Lfr hr (by decide) (by rfl) (pa_cons (pv 2) (pa_cons (pv 3) pa_nil)))))))), ?_⟩
    refine ⟨_, rfl, _, rfl, _, l, _, rfl, B, m0, by omega, fun H1 r1 s1 B1 a1 b1 => ?_⟩
    refine ⟨_, rfl, _, l, _, rfl, B1, by decide, by decide, fun H2 r2 s2 B2 a2 b2 => ?_⟩
    refine ⟨rfl, _, rfl, ite2 (fun z => ?_) (fun z => ?_)⟩
    · refine ⟨_, rfl, (show 2 ≤ sizeLine by decide), fun p hp => ?_⟩
      have s3 := Same.new (o := .tup [.int r1, .int 1]) hp
      exact q _ _ (r1 : Rat) ((s1.trans s2).trans (Same.hid s3)) (B2.mono s3) (dF_mk (.inl (.inl upd_same))) (tm_int a1 b1 m1)
    · refine ⟨_, rfl, (show 2 ≤ sizeLine by decide), fun p hp => ?_⟩
      have s3 := Same.new (o := .lst [.int 6, .int 30]) hp
      have B3 := B2.mono s3
      have hP : hid b l (upd H2 p (.lst [.int 6, .int 30])) p = some (.lst [.int 6, .int 30]) := hid_at B2 hp
      refine ⟨_, rfl, _, l, _, rfl, B3, by decide, by decide, fun H4 r4 s4 B4 a4 b4 => ?_⟩
      have hP4 : SqL K H4 p [.int 6, .int 30] := .inl (.inl (hid_same _ _ (s4 _ _ hP)))
      refine ⟨rfl, .inr ⟨_, rfl, p, _, _, .int (if decide (V.int r4 = V.int 1) = true then 30 else 6), rfl, rfl, hP4, ?_, ?_⟩⟩
      · by_cases c : decide (V.int r4 = V.int 1) = true
        · rw [if_pos c, if_pos c]
          exact atI_nat (j := 1) rfl
        · rw [if_neg c, if_neg c]
          exact atI_nat (j := 0) rfl
      have hk : (if decide (V.int r4 = V.int 1) = true then (30 : Int) else 6) = 30 ∨ (if decide (V.int r4 = V.int 1) = true then (30 : Int) else 6) = 6 := by
        by_cases c : decide (V.int r4 = V.int 1) = true
        · rw [if_pos c]
          exact .inl rfl
        · rw [if_neg c]
          exact .inr rfl
      generalize (if decide (V.int r4 = V.int 1) = true then (30 : Int) else 6) = k at hk ⊢
      refine ⟨_, l, _, rfl, B4, by omega, by omega, fun H5 r5 s5 B5 a5 b5 => ?_⟩
      refine ⟨_, _, rfl, rfl, _, rfl, _, rfl, _, _, rfl, (by omega), p20 (by omega), fun H6 z6 s6 d6 => ?_⟩
      exact q _ _ _ ((((s1.trans s2).trans (Same.hid s3)).trans s4).trans (s5.trans (Same.hid s6))) (B5.mono s6) d6 (tm_frac a1 b1 m1 (by omega) (by omega))
theorem mem_snoc {α : Type} {P : α → Prop} {xs : List α} {x : α} (h : ∀ s ∈ xs, P s) (hx : P x) : ∀ s ∈ xs ++ [x], P s := by
  intro s hs
  rcases List.mem_append.mp hs with h1 | h1
  · exact h s h1
  · rw [List.mem_singleton.mp h1]
    exact hx
theorem hid_upd {b l r : Addr} {H : Hp} {o : HO} {ys : List V} (h : hid b l H r = some (.lst ys)) : hid b l (upd H r o) r = some o ∧ ∀ G, (∀ a x, a ≠ r → hid b l G a = some x → hid b l H a = some x) → G r = none → Same (hid b l G) (hid b l (upd H r o)) := by
  have hr : ¬ (r = b ∨ r = l) := fun z => by
    unfold hid at h
    rw [if_pos z] at h
    cases h
  refine ⟨by unfold hid; rw [if_neg hr, upd_same], fun G k hG a x ha => ?_⟩
  have har : a ≠ r := fun e => by
    unfold hid at ha
    rw [e, if_neg hr, hG] at ha
    cases ha
  have := k a x har ha
  unfold hid at this ⊢
  split
  · rename_i z
    rw [if_pos z] at this
    cases this
  · rename_i z
    rw [if_neg z] at this
    rw [upd_ne har]
    exact this
theorem bx_upd {b l r : Addr} {H : Hp} {o : HO} {ys : List V} (B : Bx H b l) (h : hid b l H r = some (.lst ys)) : Bx (upd H r o) b l := by
  have hr : ¬ (r = b ∨ r = l) := fun z => by
    unfold hid at h
    rw [if_pos z] at h
    cases h
  obtain ⟨xs, st, h1, h2⟩ := B.ex
  exact ⟨B.ne, xs, st, by rw [upd_ne (fun e => hr (.inl e.symm))]; exact h1, by rw [upd_ne (fun e => hr (.inr e.symm))]; exact h2⟩
/-! ### heaps with some addresses left out -/
def hidL (S : List Addr) (H : Hp) : Hp := fun a => if a ∈ S then none else H a
theorem hidL_same {S : List Addr} {H : Hp} : Same (hidL S H) H := fun a o h => by
  unfold hidL at h
  split at h
  · cases h
  · exact h
theorem hidL_at {S : List Addr} {H : Hp} {a : Addr} {o : HO} (h : a ∉ S) (e : H a = some o) : hidL S H a = some o := by
  unfold hidL
  rw [if_neg h]
  exact e
theorem hidL_ne {S : List Addr} {H : Hp} {a : Addr} {o : HO} (e : hidL S H a = some o) : a ∉ S ∧ H a = some o := by
  unfold hidL at e
  split at e
  · cases e
  · rename_i h
    exact ⟨h, e⟩
theorem Same.hidL {S : List Addr} {H H' : Hp} (s : Same H H') : Same (hidL S H) (hidL S H') := fun a o h => by
  obtain ⟨h1, h2⟩ := hidL_ne h
  exact hidL_at h1 (s _ _ h2)
theorem hidL_upd {S : List Addr} {H : Hp} {a : Addr} {o : HO} (h : a ∈ S) : R.hidL S (upd H a o) = R.hidL S H := by
  funext c
  unfold R.hidL
  by_cases e : c ∈ S
  · rw [if_pos e, if_pos e]
  · rw [if_neg e, if_neg e, upd_ne (fun z => e (by rw [z]; exact h))]
theorem hidL_more {S S' : List Addr} {H : Hp} (h : ∀ a ∈ S, a ∈ S') : Same (R.hidL S' H) (R.hidL S H) := fun a o e => by
  obtain ⟨h1, h2⟩ := hidL_ne e
  exact hidL_at (fun z => h1 (h _ z)) h2
theorem sub_hidL {S S' : List Addr} {H H' : Hp} (h : ∀ a ∈ S, a ∈ S') (s : Same (R.hidL S H) (R.hidL S H')) : Same (R.hidL S' H) (R.hidL S' H') := fun a o e => by
  obtain ⟨h1, h2⟩ := hidL_ne e
  exact hidL_at h1 (hidL_same _ _ (s _ _ (hidL_at (fun z => h1 (h _ z)) h2)))
theorem hid_hidL {S : List Addr} {b l : Addr} {H H' : Hp} (hb : b ∈ S) (hl : l ∈ S) (s : Same (hid b l H) (hid b l H')) : Same (R.hidL S H) (R.hidL S H') := fun a o e => by
  obtain ⟨h1, h2⟩ := hidL_ne e
  refine hidL_at h1 (hid_same _ _ (s a o ?_))
  unfold hid
  rw [if_neg, h2]
  rintro (z | z)
  · exact h1 (by rw [z]; exact hb)
  · exact h1 (by rw [z]; exact hl)
/-- what stands at an address is no tuple -/
def NoT (H : Hp) (a : Addr) : Prop := ∃ u, H a = some u ∧ (∀ zs, u ≠ .tup zs) ∧ ∀ o zs, u ≠ .frz o (.tup zs)
theorem NoT.lst {H : Hp} {a : Addr} {xs : List V} (h : H a = some (.lst xs)) : NoT H a := ⟨_, h, fun _ z => (nomatch z), fun _ _ z => (nomatch z)⟩
theorem NoT.ins {H : Hp} {a C dx : Addr} {fs : List (Str × V)} (h : H a = some (.ins C dx fs)) : NoT H a := ⟨_, h, fun _ z => (nomatch z), fun _ _ z => (nomatch z)⟩
theorem NoT.mono {H H' : Hp} {a : Addr} (h : NoT H a) (s : Same H H') : NoT H' a := let ⟨u, h1, h2, h3⟩ := h; ⟨u, s _ _ h1, h2, h3⟩
theorem hidL_tup {K : PySem.W.Frag} {S : List Addr} {a : Addr} {H : Hp} {xs : List V} (n : ∀ b ∈ S, NoT H b) (h : SqT K H a xs) : SqT K (R.hidL S H) a xs := by
  have key : ∀ o : HO, H a = some o → (∀ b, b ∈ S → a = b → False) → R.hidL S H a = some o := fun o ho hn => hidL_at (fun z => hn a z rfl) ho
  rcases h with (h | ⟨o, h⟩) | h
  · refine .inl (.inl (key _ h fun b hb e => ?_))
    obtain ⟨u, h1, h2, h3⟩ := n b hb
    rw [← e, h] at h1
    exact h2 xs (Option.some.inj h1).symm
  · refine .inl (.inr ⟨o, key _ h fun b hb e => ?_⟩)
    obtain ⟨u, h1, h2, h3⟩ := n b hb
    rw [← e, h] at h1
    exact h3 o xs (Option.some.inj h1).symm
  · exact .inr h
mutual
theorem dp_hidL {K : PySem.W.Frag} {S : List Addr} {H : Hp} (n : ∀ b ∈ S, NoT H b) : ∀ (d : PyData) (v : V), tupD d = true → Dp K H v d → Dp K (R.hidL S H) v d
  | .none, _, _, h => by cases h; exact .non
  | .bool _, _, _, h => by cases h; exact .bl _
  | .int _, _, _, h => by cases h; exact .int _
  | .str _, _, _, h => by cases h; exact .str _
  | .list ds, _, z, _ => by cases z
  | .tuple ds, _, z, h => by
    cases h with
    | tup hs ha => exact .tup (hidL_tup n hs) (dpa_hidL n ds _ z ha)
  | .dict _, _, z, _ => by cases z
theorem dpa_hidL {K : PySem.W.Frag} {S : List Addr} {H : Hp} (n : ∀ b ∈ S, NoT H b) : ∀ (ds : List PyData) (vs : List V), tupA ds = true → DpAll K H vs ds → DpAll K (R.hidL S H) vs ds
  | [], _, _, h => by cases h; exact .nil
  | d :: ds, _, z, h => by
    have z2 := Bool.and_eq_true_iff.mp (show (tupD d && tupA ds) = true from z)
    cases h with
    | cons h1 h2 => exact .cons (dp_hidL n d _ z2.1 h1) (dpa_hidL n ds _ z2.2 h2)
end
/-- a list of stretches beside what is left out -/
theorem show_hidL {K : PySem.W.Frag} {S : List Addr} {H : Hp} {p : Addr} {ys : List V} {xs : List St3} (n : ∀ b ∈ S, NoT H b) (np : p ∉ S) (hp : H p = some (.lst ys)) (da : DpAll K H ys (xs.map dS)) : Dp K (R.hidL S H) (.ref p) (dSh xs) :=
  .lst (.inl (.inl (hidL_at np hp))) (dpa_hidL n _ _ (tupA_dS _) da)
theorem hid_ne {b l a : Addr} {H : Hp} {o : HO} (h : hid b l H a = some o) : a ≠ b ∧ a ≠ l := by
  unfold hid at h
  split at h
  · cases h
  · rename_i z
    exact ⟨fun y => z (.inl y), fun y => z (.inr y)⟩
theorem hid_new {b l a : Addr} {H H' : Hp} {o : HO} (B : Bx H b l) (n : H a = none) (h : H' a = some o) : hid b l H' a = some o := by
  obtain ⟨xs, st, h1, h2⟩ := B.ex
  unfold hid
  rw [if_neg, h]
  rintro (z | z)
  · rw [z, h1] at n
    cases n
  · rw [z, h2] at n
    cases n
theorem dpa_strs {K : PySem.W.Frag} {H : Hp} : ∀ ss : List Str, DpAll K H (ss.map V.str) (ss.map PyData.str)
  | [] => .nil
  | _ :: r => .cons (.str _) (dpa_strs r)
/-! ### drawn rows -/
structure LwOk (r : Rw) : Prop where
  b : Bd L30 700 r.1
  e : Bd L30 700 r.2.1
  b0 : 0 ≤ r.1
  e0 : 0 ≤ r.2.1
  wn : r.2.2.2.length ≤ 3
  wd : ∀ w ∈ r.2.2.2, w.length ≤ 9 ∧ PyData.strOk w = true
theorem Tm.bd {m : Nat} {x : Rat} (h : Tm (m : Int) x) : Bd L30 m x := by
  have h2 : x ≤ (m : Rat) := by
    have := h.hi
    rw [Rat.intCast_natCast] at this
    exact this
  have h1 := h.lo
  have h3 : (0 : Rat) ≤ (m : Rat) := Rat.natCast_nonneg
  exact ⟨h.iz, by grind, h2⟩
theorem l30p : 0 < L30 := by decide
theorem l30b : L30 < 2 ^ 100 := by decide
theorem bd_frac {t c : Int} {m : Nat} (h : t.natAbs ≤ m) (c0 : 0 < c) (c1 : c ≤ 30) : Bd L30 m (Rat.divInt t c) := by
  refine ⟨iz_divInt c0 (l30_int c0 c1), ?_, ?_⟩
  · by_cases z : 0 ≤ t
    · have h1 := (div_le z c0).1
      have h3 : (0 : Rat) ≤ (m : Rat) := Rat.natCast_nonneg
      grind
    · have h1 := (div_le (r := -t) (by omega) c0).2
      have h2 : ((-t : Int) : Rat) ≤ (m : Rat) := by
        rw [← Rat.intCast_natCast]
        exact Rat.intCast_le_intCast.mpr (by omega)
      have e : Rat.divInt (-t) c = -Rat.divInt t c := by
        rw [Rat.divInt_eq_div, Rat.divInt_eq_div, Rat.intCast_neg, Rat.div_def, Rat.div_def]
        grind
      rw [e] at h1
      grind
  · by_cases z : 0 ≤ t
    · have h1 := (div_le z c0).2
      have h2 : ((t : Int) : Rat) ≤ (m : Rat) := by
        rw [← Rat.intCast_natCast]
        exact Rat.intCast_le_intCast.mpr (by omega)
      grind
    · have h1 := (div_le (r := -t) (by omega) c0).1
      have h3 : (0 : Rat) ≤ (m : Rat) := Rat.natCast_nonneg
      have e : Rat.divInt (-t) c = -Rat.divInt t c := by
        rw [Rat.divInt_eq_div, Rat.divInt_eq_div, Rat.intCast_neg, Rat.div_def, Rat.div_def]
        grind
      rw [e] at h1
      grind
def spLrows (K : PySem.W.Frag) : Sp := fun vs H Q _ => ∃ (b l : Addr), vs = [.ref b] ∧ Bx H b l ∧ ∀ H' p ys (rs : List Rw), Same (hid b l H) (hid b l H') → Bx H' b l → H p = none → hid b l H' p = some (.lst ys) → DpAll K (R.hidL [b, l, p] H') ys (rs.map dRw) → (∀ r ∈ rs, LwOk r) → rs.length ≤ 20 → Q (.ref p) H'
theorem hid_sub {b l r : Addr} {H H' : Hp} (s : Same (hid b l H) (hid b l H')) : Same (R.hidL [b, l, r] H) (R.hidL [b, l, r] H') := hid_hidL (by simp) (by simp) s
theorem num_lt0 (x : Rat) : x.num < 0 ↔ x < 0 := by
  constructor
  · intro h
    by_cases c : 0 ≤ x
    · have := Rat.num_nonneg.mpr c
      omega
    · grind
  · intro h
    by_cases c : 0 ≤ x.num
    · have := Rat.num_nonneg.mp c
      grind
    · omega
theorem cl_Lrows (T : Txt K mg) : Cl P w K mg base CX0 3 "_law_rows" (spLrows K) := by
  have c_Ltake := cl_Ltake (P := P) (w := w) (base := base) T
  have c_Ltime := cl_Ltime (P := P) (w := w) (base := base) T
  have c_Lsum := cl_Lsum (P := P) (w := w) (base := base) T
  have c_Lfr := cl_Lfr (P := P) (w := w) (base := base) T
  refine T.d_Lrows.cl sc_Lrows (fun vs H Q E h => ?_) (fun f cdv A outer s H vs Q E hr h => ?_)
  · obtain ⟨b, l, rfl, _⟩ := h
    rfl
  · obtain ⟨b, l, rfl, B, q⟩ := h
    refine ⟨_, (pss_cons (ps_set (i := 1) sc_Lrows.nd rfl (.inl rfl) (pe_lst pa_nil))
      (pss_cons (ps_set (i := 2) sc_Lrows.nd rfl (.inl rfl) (pe_tup (pa_cons pe_int (pa_cons pe_int pa_nil))))
      (pss_cons (ps_for PassesOwn.never rfl (pi_range1 (by rfl) T.m_range (pa_cons (pe_ix ix_list (pe_lst (pa_cons (pe_cl c_Ltake hr (by decide) (by rfl) (pa_cons (pv 0) (pa_cons pe_int pa_nil))) (pa_cons (pe_cl c_Ltake hr (by decide) (by rfl) (pa_cons (pv 0) (pa_cons pe_int pa_nil))) pa_nil))) (pe_callTy call_int1 (by rfl) T.m_int (by decide +kernel) (pa_cons (pe_cmpR op_eq (pe_cl c_Ltake hr (by decide) (by rfl) (pa_cons (pv 0) (pa_cons pe_int pa_nil))) pe_int (nomark _)) pa_nil)) (fun _ _ => rfl)) pa_nil)) (pg_name (i := 3) sc_Lrows.nd rfl (.inl rfl))
        (pss_cons (ps_set (i := 2) sc_Lrows.nd rfl (.inl rfl) (pe_cl c_Lsum hr (by decide) (by rfl) (pa_cons (pv 2) (pa_cons (pe_cl c_Lfr hr (by decide) (by rfl) (pa_cons (pe_op op_sub (pe_cl c_Ltake hr (by decide) (by rfl) (pa_cons (pv 0) (pa_cons pe_int pa_nil))) pe_int) (pa_cons (pe_op op_add pe_int (pe_cl c_Ltake hr (by decide) (by rfl) (pa_cons (pv 0) (pa_cons pe_int pa_nil)))) pa_nil))) pa_nil))))
      (Evl.pss_cut (ps_if (pt_cmpR op_lt (pe_ix ix_tup (pv 2) pe_int (fun _ _ => rfl)) pe_int (nomark _))
        (pss_one (ps_set (i := 2) sc_Lrows.nd rfl (.inl rfl) (pe_tup (pa_cons pe_int (pa_cons pe_int pa_nil)))))
        pss_nil)
      (pss_cons (ps_setLc (i := 4) (own := [("_law_j", 6)]) (g := (gName 6)) (tt := tYes) (by rfl) sc_Lrows.nd rfl rfl (sw_true rfl rfl rfl (by decide +kernel)) (pi_range1 (by rfl) T.m_range (pa_cons (pe_cl c_Ltake hr (by decide) (by rfl) (pa_cons (pv 0) (pa_cons pe_int pa_nil))) pa_nil)) (blkOk_by (N := ["_law_box", "_law_rows_here", "_law_begin", "_law_k", "_law_words", "_law_end_here", "_law_j"]) (sc := defScope s_Lrows) (by decide +kernel)) (fun _ _ _ _ _ => (pg_name (i := 6) sc_Lrows.nd rfl (Or.inl rfl))) (fun _ _ _ _ _ => pts_nil) (fun _ _ _ _ _ => (pe_op op_repS pe_str (pe_op op_add pe_int (pe_cl c_Ltake hr (by decide) (by rfl) (pa_cons (pv 0) (pa_cons pe_int pa_nil)))))))
      (pss_cons (ps_set (i := 5) sc_Lrows.nd rfl (.inl rfl) (pe_cl c_Lsum hr (by decide) (by rfl) (pa_cons (pv 2) (pa_cons (pe_cl c_Ltime hr (by decide) (by rfl) (pa_cons (pv 0) (pa_cons pe_int pa_nil))) pa_nil))))
      (pss_one (ps_if (pt_cmpR op_eq (pe_cl c_Ltake hr (by decide) (by rfl) (pa_cons (pv 0) (pa_cons pe_int pa_nil))) pe_int (nomark _))
        (pss_one (ps_expr (pe_bm PySem.F.plainAttrs_list PySem.F.slot_list_append PySem.F.type_list_append mt_append (pv 1) (pa_cons (pe_tup (pa_cons (pv 5) (pa_cons (pv 2) (pa_cons (pv 3) (pa_cons (pv 4) pa_nil))))) pa_nil))))
        (pss_one (ps_expr (pe_bm PySem.F.plainAttrs_list PySem.F.slot_list_append PySem.F.type_list_append mt_append (pv 1) (pa_cons (pe_tup (pa_cons (pv 2) (pa_cons (pv 5) (pa_cons (pv 3) (pa_cons (pv 4) pa_nil))))) pa_nil)))))))))))
      (pss_one (ps_ret (pv 1)))))), ?_⟩
    refine ⟨Nat.zero_le _, fun r hr0 => ?_⟩
    have s0' := Same.new (o := .lst []) hr0
    have B0 := B.mono s0'
    have hr1 : hid b l (upd H r (.lst [])) r = some (.lst []) := hid_at B hr0
    have s0 : Same (hid b l H) (hid b l (upd H r (.lst []))) := Same.hid s0'
    generalize upd H r (.lst []) = H0 at s0 B0 hr1 ⊢
    clear s0'
    refine ⟨(show 2 ≤ sizeLine by decide), fun pz nz => ?_⟩
    have tz := Same.new (o := .tup [.int 0, .int 1]) nz
    have dz : Dp K (upd H0 pz (.tup [.int 0, .int 1])) (.ref pz) (dF 0) := dF_mk (.inl (.inl upd_same))
    generalize upd H0 pz (.tup [.int 0, .int 1]) = H1 at tz dz ⊢
    have s1 := s0.trans (Same.hid tz)
    have B1 := B0.mono tz
    have hr2 := Same.hid (b := b) (l := l) tz _ _ hr1
    clear s0 B0 hr1 tz
    refine ⟨_, rfl, _, l, _, rfl, B1, by decide, by decide, fun Ha ra sa Ba aa ba => ?_⟩
    refine ⟨_, rfl, _, l, _, rfl, Ba, by decide, by decide, fun Hb rb sb Bb ab bb => ?_⟩
    refine ⟨(show 2 ≤ sizeLine by decide), fun pc hpc => ?_⟩
    have tc := Same.new (o := .lst [.int ra, .int rb]) hpc
    have Bc := Bb.mono tc
    have hPc : hid b l (upd Hb pc (.lst [.int ra, .int rb])) pc = some (.lst [.int ra, .int rb]) := hid_at Bb hpc
    refine ⟨_, rfl, _, l, _, rfl, Bc, by decide, by decide, fun Hd rd sd Bd' ad bd => ?_⟩
    have hPd : SqL K Hd pc [.int ra, .int rb] := .inl (.inl (hid_same _ _ (sd _ _ hPc)))
    have s9d := ((sa.trans sb).trans (Same.hid tc)).trans sd
    have hrd := s9d _ _ hr2
    have dzd := frac_keep dz B1 s9d
    refine ⟨rfl, .inr ⟨_, rfl, pc, _, _, .int (if decide (V.int rd = V.int 1) = true then rb else ra), rfl, rfl, hPd, ?_, ?_⟩⟩
    · by_cases c : decide (V.int rd = V.int 1) = true
      · rw [if_pos c, if_pos c]
        exact atI_nat (j := 1) rfl
      · rw [if_neg c, if_neg c]
        exact atI_nat (j := 0) rfl
    have hk : 0 ≤ (if decide (V.int rd = V.int 1) = true then rb else ra) ∧ (if decide (V.int rd = V.int 1) = true then rb else ra) ≤ 20 := by
      split <;> omega
    generalize (if decide (V.int rd = V.int 1) = true then rb else ra) = m at hk ⊢
    refine ⟨m, rfl, by omega, by omega, for_range (lo := 0) (n := m.toNat) (fun i σ H' => ∃ (c3 c4 c5 : Option V) (vb : V) (xb : Rat) (ys : List V) (rs : List Rw), σ = [some (.ref b), some (.ref r), some vb, c3, c4, c5, none] ∧ Same (hid b l H) (hid b l H') ∧ Bx H' b l ∧ hid b l H' r = some (.lst ys) ∧ DpAll K (R.hidL [b, l, r] H') ys (rs.map dRw) ∧ rs.length = i ∧ (∀ r ∈ rs, LwOk r) ∧ Dp K H' vb (dF xb) ∧ Bd L30 (31 * i) xb ∧ 0 ≤ xb) ⟨none, none, none, _, 0, [], [], rfl, s1.trans s9d, Bd', hrd, .nil, rfl, (fun c hc => nomatch hc), dzd, bd_zero _ _, Rat.le_refl⟩ (fun i σ H' hi h => ?_) (fun σ H' h => ?_)⟩
    · obtain ⟨c3, c4, c5, vb, xb, ys, rs, rfl, s1, B1, hr1, da, hl, ok, db, zb, b0⟩ := h
      have ly : ys.length = i := by rw [dpa_len da, List.length_map, hl]
      have i20 : i < 20 := by omega
      -- begin
      refine ⟨_, rfl, _, rfl, _, l, _, rfl, B1, by decide, by decide, fun H2 r2 s2 B2 a2 b2 => ?_⟩
      refine ⟨_, _, rfl, rfl, _, rfl, _, l, _, rfl, B2, by decide, by decide, fun H3 r3 s3 B3 a3 b3 => ?_⟩
      refine ⟨_, _, rfl, rfl, _, _, rfl, (by omega), p20 (by omega), fun H4 v4 s4 d4 => ?_⟩
      have z4 : Bd L30 31 (Rat.divInt (r2 - 8) (1 + r3)) := bd_frac (by omega) (by omega) (by omega)
      have db4 := dp_mono s4 _ _ (frac_keep db B1 (s2.trans s3))
      generalize Rat.divInt (r2 - 8) (1 + r3) = x4 at d4 z4
      have zs := zb.add z4
      refine ⟨_, _, xb, x4, 150, 150, rfl, db4, d4, zb.sz l30p l30b (by omega), z4.sz l30p l30b (by omega), by decide, trivial, fun H5 v5 s5 d5 => ?_⟩
      have B5 := (B3.mono s4).mono s5
      have s15 := (s2.trans s3).trans (Same.hid (s4.trans s5))
      have s25 := s1.trans s15
      have hr5 := s15 _ _ hr1
      have da5 := dpa_mono (hid_sub s15) _ _ da
      have d5 : Dp K H5 v5 (dF (xb + x4)) := d5
      generalize xb + x4 = x5 at d5 zs
      clear s1 s2 s3 s4 s5 s15 db db4 d4 z4 zb b0 B1 B2 B3 hr1 da
      -- brought to nought
      refine ⟨fun σ' H' => ∃ (vb : V) (xb : Rat), σ' = [some (.ref b), some (.ref r), some vb, some (.int (0 + (i : Int))), c4, c5, none] ∧ Same (hid b l H) (hid b l H') ∧ Bx H' b l ∧ hid b l H' r = some (.lst ys) ∧ DpAll K (R.hidL [b, l, r] H') ys (rs.map dRw) ∧ Dp K H' vb (dF xb) ∧ Bd L30 (31 * (i + 1)) xb ∧ 0 ≤ xb, ?_, fun σ' H6 hM => ?_⟩
      · obtain ⟨a5, rfl, hq5⟩ := dF_at d5
        refine ⟨_, rfl, _, _, _, _, rfl, rfl, hq5, atI_nat (j := 0) rfl, _, _, rfl, rfl, _, rfl, ite2 (fun z => ?_) (fun z => ?_)⟩
        · refine ⟨(show 2 ≤ sizeLine by decide), fun pz nz => ?_⟩
          have tz := Same.new (o := .tup [.int 0, .int 1]) nz
          have dz : Dp K (upd H5 pz (.tup [.int 0, .int 1])) (.ref pz) (dF 0) := dF_mk (.inl (.inl upd_same))
          exact ⟨_, 0, rfl, s25.trans (Same.hid tz), B5.mono tz, Same.hid (b := b) (l := l) tz _ _ hr5, dpa_mono (Same.hidL tz) _ _ da5, dz, bd_zero _ _, Rat.le_refl⟩
        · refine ⟨_, x5, rfl, s25, B5, hr5, da5, d5, zs.mono (by omega), ?_⟩
          have : ¬ x5.num < 0 := fun y => z (decide_eq_true y)
          exact Rat.num_nonneg.mp (by omega)
      obtain ⟨vb6, x6, rfl, s6, B6, hr6, da6, d6, z6, b6⟩ := hM
      clear s25 B5 hr5 da5 d5 zs
      -- words
      refine ⟨_, rfl, _, l, _, rfl, B6, by decide, by decide, fun H7 r7 s7 B7 a7 b7 => ?_⟩
      refine ⟨r7, rfl, by omega, by omega, fun D hD => ?_⟩
      have sD := Same.new (o := .lst []) hD
      refine lc_range (lo := 0) (n := r7.toNat) (fun j H' => Same (hid b l H7) (hid b l H') ∧ Bx H' b l ∧ ∃ ws : List Str, hid b l H' D = some (.lst (ws.map V.str)) ∧ ws.length = j ∧ ∀ x ∈ ws, x.length ≤ 9 ∧ PyData.strOk x = true) ⟨Same.hid sD, B7.mono sD, [], hid_at B7 hD, rfl, fun y hy => by cases hy⟩ (fun j H' hj h => ?_) (fun H8 h => ?_)
      · obtain ⟨s8, B8, ws, hz, lw, ow⟩ := h
        refine ⟨rfl, _, rfl, b, l, _, rfl, B8, by decide, by decide, fun H9 r9 s9 B9 a9 b9 => ?_⟩
        have hz9 := s9 _ _ hz
        refine ⟨_, _, rfl, rfl, "a", (1 + r9).toNat, rfl, by rw [Int.toNat_of_nonneg (by omega)], by omega, by omega, rfl, fun z lz oz => ?_⟩
        refine ⟨_, hid_same _ _ hz9, le1000 (by rw [List.length_map]; omega), ?_⟩
        refine ⟨(hid_upd hz9).2 H7 (fun a x _ ha => s9 _ _ (s8 _ _ ha)) hD, bx_upd B9 hz9, ws ++ [z], ?_, by rw [List.length_append, lw]; rfl, mem_snoc ow ⟨by omega, oz (by decide +kernel)⟩⟩
        rw [List.map_append]
        exact (hid_upd hz9).1
      · obtain ⟨s8, B8, ws, hz, lw, ow⟩ := h
        have s68 := s7.trans s8
        have hr8 := s68 _ _ hr6
        have da8 := dpa_mono (hid_sub s68) _ _ da6
        have d8 := frac_keep d6 B6 s68
        have hD6 : H6 D = none ∨ True := .inr trivial
        have neD : D ≠ r := fun e => by
          have := hid_same _ _ (s7 _ _ hr6)
          rw [e, this] at hD
          cases hD
        have s18 := s6.trans s68
        clear sD s7 s8 s68 s6 hr6 da6 d6 B6 B7 hD6
        -- end
        refine ⟨_, rfl, _, rfl, _, l, _, rfl, B8, by decide, by decide, fun H9 v9 x9 s9 B9 d9 t9 => ?_⟩
        have hr9 := s9 _ _ hr8
        have da9 := dpa_mono (hid_sub s9) _ _ da8
        have db9 := frac_keep d8 B8 s9
        have hz9 := s9 _ _ hz
        have z9 := t9.bd (m := 20)
        have ze := z6.add z9
        have e0 : 0 ≤ x6 + x9 := by
          have := t9.lo
          grind
        refine ⟨_, _, x6, x9, 150, 150, rfl, db9, d9, z6.sz l30p l30b (by omega), z9.sz l30p l30b (by omega), by decide, trivial, fun Ha va sa da' => ?_⟩
        have da' : Dp K Ha va (dF (x6 + x9)) := da'
        generalize x6 + x9 = xe at ze e0 da'
        have Ba := B9.mono sa
        have s1a := s18.trans (s9.trans (Same.hid sa))
        have hra := Same.hid (b := b) (l := l) sa _ _ hr9
        have daa := dpa_mono (Same.hidL sa) _ _ da9
        have dba := dp_mono sa _ _ db9
        have hza := Same.hid (b := b) (l := l) sa _ _ hz9
        clear s18 s9 sa hr9 da9 db9 hz9 B8 B9 hr8 da8 d8 hz d9
        refine ⟨_, rfl, _, l, _, rfl, Ba, by decide, by decide, fun Hb rb sb Bb ab bb => ?_⟩
        have hrb := sb _ _ hra
        have dab := dpa_mono (hid_sub sb) _ _ daa
        have dbb := frac_keep dba Ba sb
        have deb := frac_keep da' Ba sb
        have hzb := sb _ _ hza
        have s1b := s1a.trans sb
        clear s1a sb hra daa dba da' hza Ba
        have fin : ∀ (v1 v2 : V) (x1 x2 : Rat), Dp K Hb v1 (dF x1) → Dp K Hb v2 (dF x2) → Bd L30 700 x1 → Bd L30 700 x2 → 0 ≤ x1 → 0 ≤ x2 → ∀ (p : Addr), Hb p = none → ∀ Hc, Hc = upd Hb p (.tup [v1, v2, .int (0 + (i : Int)), .ref D]) → Hc r = some (.lst ys) ∧ (∃ (c3 c4 c5 : Option V) (vb : V) (xb : Rat) (ys' : List V) (rs' : List Rw), [some (V.ref b), some (.ref r), some vb6, some (.int (0 + (i : Int))), some (.ref D), some va, none] = [some (.ref b), some (.ref r), some vb, c3, c4, c5, none] ∧ Same (hid b l H) (hid b l (upd Hc r (.lst (ys ++ [.ref p])))) ∧ Bx (upd Hc r (.lst (ys ++ [.ref p]))) b l ∧ hid b l (upd Hc r (.lst (ys ++ [.ref p]))) r = some (.lst ys') ∧ DpAll K (R.hidL [b, l, r] (upd Hc r (.lst (ys ++ [.ref p])))) ys' (rs'.map dRw) ∧ rs'.length = i + 1 ∧ (∀ r ∈ rs', LwOk r) ∧ Dp K (upd Hc r (.lst (ys ++ [.ref p]))) vb (dF xb) ∧ Bd L30 (31 * (i + 1)) xb ∧ 0 ≤ xb) := by
          intro v1 v2 x1 x2 k1 k2 k3 k4 k5 k6 p np Hc eC
          have tp := Same.new (o := .tup [v1, v2, .int (0 + (i : Int)), .ref D]) np
          have hp : Hc p = some (.tup [v1, v2, .int (0 + (i : Int)), .ref D]) := by rw [eC]; exact upd_same
          rw [← eC] at tp
          have Bc := Bb.mono tp
          have hrc := Same.hid (b := b) (l := l) tp _ _ hrb
          have nt : ∀ a ∈ [b, l, r], NoT Hc a := by
            obtain ⟨x1, x2, e1, e2⟩ := Bc.ex
            intro a ha
            simp only [List.mem_cons, List.not_mem_nil, or_false] at ha
            rcases ha with z | z | z <;> rw [z]
            · exact NoT.lst e1
            · exact NoT.lst e2
            · exact NoT.lst (hid_same _ _ hrc)
          have hzc := Same.hid (b := b) (l := l) tp _ _ hzb
          have nD : D ∉ [b, l, r] := by
            obtain ⟨n1, n2⟩ := hid_ne hzc
            simp only [List.mem_cons, List.not_mem_nil, or_false]
            rintro (z | z | z)
            · exact n1 z
            · exact n2 z
            · exact neD z
          have drw : Dp K (R.hidL [b, l, r] Hc) (.ref p) (dRw (x1, x2, 0 + (i : Int), ws)) := .tup (hidL_tup nt (.inl (.inl hp))) (.cons (dp_hidL nt _ _ rfl (dp_mono tp _ _ k1)) (.cons (dp_hidL nt _ _ rfl (dp_mono tp _ _ k2)) (.cons (.int _) (.cons (.lst (.inl (.inl (hidL_at nD (hid_same _ _ hzc)))) (dpa_strs _)) .nil))))
          refine ⟨hid_same _ _ hrc, _, _, _, _, x6, ys ++ [.ref p], rs ++ [(x1, x2, 0 + (i : Int), ws)], rfl, (hid_upd hrc).2 H (fun a x _ ha => Same.hid tp _ _ (s1b _ _ ha)) hr0, bx_upd Bc hrc, (hid_upd hrc).1, ?_, by rw [List.length_append, hl]; rfl, mem_snoc ok ⟨k3, k4, k5, k6, by show ws.length ≤ 3; omega, ow⟩, ?_, z6, b6⟩
          · rw [hidL_upd (by simp), List.map_append]
            exact dpa_snoc (dpa_mono (Same.hidL tp) _ _ dab) drw
          · refine dp_mono (hidL_same (S := [b, l, r])) _ _ ?_
            rw [hidL_upd (by simp)]
            exact dp_hidL nt _ _ rfl (dp_mono tp _ _ dbb)
        have y1 : Bd L30 700 x6 := z6.mono (by omega)
        have y2 : Bd L30 700 xe := ze.mono (by omega)
        refine ⟨rfl, _, rfl, ite2 (fun z => ?_) (fun z => ?_)⟩
        · refine ⟨_, rfl, .inl ⟨rfl, _, .inl (.inl (hid_same _ _ hrb))⟩, _, rfl, _, rfl, _, rfl, _, rfl, (show 4 ≤ sizeLine by decide), fun p np => ?_⟩
          obtain ⟨g1, g2⟩ := fin _ _ _ _ deb dbb y2 y1 e0 b6 p np _ rfl
          exact ⟨r, ys, _, rfl, rfl, g1, small1000 (by omega), g2⟩
        · refine ⟨_, rfl, .inl ⟨rfl, _, .inl (.inl (hid_same _ _ hrb))⟩, _, rfl, _, rfl, _, rfl, _, rfl, (show 4 ≤ sizeLine by decide), fun p np => ?_⟩
          obtain ⟨g1, g2⟩ := fin _ _ _ _ dbb deb y1 y2 b6 e0 p np _ rfl
          exact ⟨r, ys, _, rfl, rfl, g1, small1000 (by omega), g2⟩
    · obtain ⟨c3, c4, c5, vb, xb, ys, rs, rfl, s1, B1, hr1, da, hl, ok, db, zb, b0⟩ := h
      exact ⟨_, rfl, q _ r ys rs s1 B1 hr0 hr1 da ok (by omega)⟩
/-! ### a drawn rule -/
structure LuOk (ru : Rul) : Prop where
  z1 : Bd L30 7 ru.1
  p1 : 0 ≤ ru.1
  z2 : Bd L30 5 ru.2.1
  p2 : 0 ≤ ru.2.1
  z3 : Bd L30 6 ru.2.2.1
  p3 : 0 ≤ ru.2.2.1
  g1 : 1 ≤ ru.2.2.2.1 ∧ ru.2.2.2.1 ≤ 9
  g2 : 1 ≤ ru.2.2.2.2 ∧ ru.2.2.2.2 ≤ 9
theorem dRu_mk {H : Hp} {p : Addr} {v1 v2 v3 : V} {r : Rul} (h : SqT K H p [v1, v2, v3, .int r.2.2.2.1, .int r.2.2.2.2]) (h1 : Dp K H v1 (dF r.1)) (h2 : Dp K H v2 (dF r.2.1)) (h3 : Dp K H v3 (dF r.2.2.1)) : Dp K H (.ref p) (dRu r) := .tup h (.cons h1 (.cons h2 (.cons h3 (.cons (.int _) (.cons (.int _) .nil)))))
def spLrule (K : PySem.W.Frag) : Sp := fun vs H Q _ => ∃ (b l : Addr), vs = [.ref b] ∧ Bx H b l ∧ ∀ H' u (ru : Rul), Same (hid b l H) (hid b l H') → Bx H' b l → Dp K H' u (dRu ru) → LuOk ru → Q u H'
theorem cl_Lrule (T : Txt K mg) : Cl P w K mg base CX0 3 "_law_rule" (spLrule K) := by
  have c_Ltake := cl_Ltake (P := P) (w := w) (base := base) T
  have c_Ltime := cl_Ltime (P := P) (w := w) (base := base) T
  have c_Lfr := cl_Lfr (P := P) (w := w) (base := base) T
  refine T.d_Lrule.cl sc_Lrule (fun vs H Q E h => ?_) (fun f cdv A outer s H vs Q E hr h => ?_)
  · obtain ⟨b, l, rfl, _⟩ := h
    rfl
  · obtain ⟨b, l, rfl, B, q⟩ := h
    refine ⟨_, (pss_cons (ps_set (i := 1) sc_Lrule.nd rfl (.inl rfl) (pe_cl c_Lfr hr (by decide) (by rfl) (pa_cons (pe_cl c_Ltake hr (by decide) (by rfl) (pa_cons (pv 0) (pa_cons pe_int pa_nil))) (pa_cons (pe_op op_add pe_int (pe_cl c_Ltake hr (by decide) (by rfl) (pa_cons (pv 0) (pa_cons pe_int pa_nil)))) pa_nil))))
      (pss_cons (ps_set (i := 2) sc_Lrule.nd rfl (.inl rfl) (pe_cl c_Lfr hr (by decide) (by rfl) (pa_cons (pe_cl c_Ltake hr (by decide) (by rfl) (pa_cons (pv 0) (pa_cons pe_int pa_nil))) (pa_cons (pe_op op_add pe_int (pe_cl c_Ltake hr (by decide) (by rfl) (pa_cons (pv 0) (pa_cons pe_int pa_nil)))) pa_nil))))
      (pss_one (ps_ret (pe_tup (pa_cons (pv 1) (pa_cons (pv 2) (pa_cons (pe_cl c_Ltime hr (by decide) (by rfl) (pa_cons (pv 0) (pa_cons pe_int pa_nil))) (pa_cons (pe_op op_add pe_int (pe_cl c_Ltake hr (by decide) (by rfl) (pa_cons (pv 0) (pa_cons pe_int pa_nil)))) (pa_cons (pe_op op_add pe_int (pe_cl c_Ltake hr (by decide) (by rfl) (pa_cons (pv 0) (pa_cons pe_int pa_nil)))) pa_nil)))))))))), ?_⟩
    refine ⟨_, rfl, _, l, _, rfl, B, by decide, by decide, fun H1 r1 s1 B1 a1 b1 => ?_⟩
    refine ⟨_, rfl, _, l, _, rfl, B1, by decide, by decide, fun H2 r2 s2 B2 a2 b2 => ?_⟩
    refine ⟨_, _, rfl, rfl, _, _, rfl, (by omega), p20 (by omega), fun H3 v3 s3 d3 => ?_⟩
    have B3 := B2.mono s3
    refine ⟨_, rfl, _, l, _, rfl, B3, by decide, by decide, fun H4 r4 s4 B4 a4 b4 => ?_⟩
    refine ⟨_, rfl, _, l, _, rfl, B4, by decide, by decide, fun H5 r5 s5 B5 a5 b5 => ?_⟩
    refine ⟨_, _, rfl, rfl, _, _, rfl, (by omega), p20 (by omega), fun H6 v6 s6 d6 => ?_⟩
    have B6 := B5.mono s6
    have s36 : Same (hid b l H3) (hid b l H6) := (s4.trans s5).trans (Same.hid s6)
    have d36 := frac_keep d3 B3 s36
    have s06 := ((s1.trans s2).trans (Same.hid s3)).trans s36
    refine ⟨_, rfl, _, rfl, _, rfl, _, l, _, rfl, B6, by decide, by decide, fun H7 v7 x7 s7 B7 d7 t7 => ?_⟩
    refine ⟨_, rfl, _, l, _, rfl, B7, by decide, by decide, fun H8 r8 s8 B8 a8 b8 => ?_⟩
    refine ⟨_, _, rfl, rfl, _, rfl, _, l, _, rfl, B8, by decide, by decide, fun H9 r9 s9 B9 a9 b9 => ?_⟩
    refine ⟨_, _, rfl, rfl, (show 5 ≤ sizeLine by decide), fun p np => ?_⟩
    have tp := Same.new (o := .tup [v3, v6, v7, .int (1 + r8), .int (1 + r9)]) np
    have s69 : Same (hid b l H6) (hid b l H9) := (s7.trans s8).trans s9
    have s79 : Same (hid b l H7) (hid b l H9) := s8.trans s9
    have z1 : Bd L30 7 (Rat.divInt r1 (1 + r2)) := bd_frac (by omega) (by omega) (by omega)
    have z2 : Bd L30 5 (Rat.divInt r4 (1 + r5)) := bd_frac (by omega) (by omega) (by omega)
    exact q _ _ (Rat.divInt r1 (1 + r2), Rat.divInt r4 (1 + r5), x7, 1 + r8, 1 + r9) ((s06.trans s69).trans (Same.hid tp)) (B9.mono tp)
      (dRu_mk (.inl (.inl upd_same)) (dp_mono tp _ _ (frac_keep d36 B6 s69)) (dp_mono tp _ _ (frac_keep d6 B6 s69)) (dp_mono tp _ _ (frac_keep d7 B7 s79)))
      ⟨z1, (div_le a1 (by omega)).1, z2, (div_le a4 (by omega)).1, t7.bd (m := 6), t7.lo, ⟨by show 1 ≤ 1 + r8; omega, by show 1 + r8 ≤ 9; omega⟩, ⟨by show 1 ≤ 1 + r9; omega, by show 1 + r9 ≤ 9; omega⟩⟩
/-! ### the least distances, as the law reckons them -/
theorem ltr_cons (w : Str) (ws : List Str) : ltrM (w :: ws) = (w.length : Int) + ltrM ws := rfl
theorem ltr_le : ∀ {ws : List Str}, (∀ w ∈ ws, w.length ≤ 9) → 0 ≤ ltrM ws ∧ ltrM ws ≤ 9 * ws.length
  | [], _ => ⟨Int.le_refl _, Int.le_refl _⟩
  | w :: ws, h => by
    have h1 := h w List.mem_cons_self
    have h2 := ltr_le fun x hx => h x (List.mem_cons_of_mem w hx)
    rw [ltr_cons, List.length_cons]
    omega
theorem LwOk.ltr {r : Rw} (h : LwOk r) : 0 ≤ ltrM r.2.2.2 ∧ ltrM r.2.2.2 ≤ 27 := by
  have h1 := ltr_le fun w hw => (h.wd w hw).1
  have h2 := h.wn
  omega
theorem need_eq (ru : Rul) (r : Rw) : (if ((ltrM r.2.2.2 : Int) : Rat) * ru.1 < ru.2.2.1 then ru.2.2.1 else ((ltrM r.2.2.2 : Int) : Rat) * ru.1) = needM ru r := by
  unfold needM
  have e : ru.1 * ((ltrM r.2.2.2 : Int) : Rat) = ((ltrM r.2.2.2 : Int) : Rat) * ru.1 := Rat.mul_comm _ _
  rw [e]
  split <;> split <;> grind
theorem one_bd {ru : Rul} {r : Rw} (hu : LuOk ru) (hr : LwOk r) : Bd L30 200 (((ltrM r.2.2.2 : Int) : Rat) * ru.1) ∧ 0 ≤ ((ltrM r.2.2.2 : Int) : Rat) * ru.1 := by
  have k := hr.ltr
  refine ⟨(hu.z1.muli (b := 27) (by omega)).mono (by decide), Rat.mul_nonneg (Rat.intCast_nonneg.mpr k.1) hu.p1⟩
theorem need_bd {ru : Rul} {r : Rw} (hu : LuOk ru) (hr : LwOk r) : Bd L30 200 (needM ru r) ∧ 0 ≤ needM ru r := by
  rw [← need_eq]
  split
  · exact ⟨hu.z3.mono (by decide), hu.p3⟩
  · exact one_bd hu hr
theorem askF_bd {ru : Rul} (hu : LuOk ru) : ∀ {rs : List Rw} {g : Rat}, (∀ r ∈ rs, LwOk r) → Bd L30 200 g ∧ 0 ≤ g → ∀ a ∈ askF ru g rs, Bd L30 200 a ∧ 0 ≤ a
  | [], _, _, _, a, ha => by cases ha
  | r :: rs, g, h, hg, a, ha => by
    have ha : a ∈ g :: needM ru r :: askF ru ru.2.1 rs := ha
    rcases List.mem_cons.mp ha with rfl | ha
    · exact hg
    · rcases List.mem_cons.mp ha with rfl | ha
      · exact need_bd hu (h r List.mem_cons_self)
      · exact askF_bd hu (fun x hx => h x (List.mem_cons_of_mem _ hx)) ⟨hu.z2.mono (by decide), hu.p2⟩ a ha
theorem ask_bd {ru : Rul} {rs : List Rw} (hu : LuOk ru) (h : ∀ r ∈ rs, LwOk r) : ∀ a ∈ askM ru rs, Bd L30 200 a ∧ 0 ≤ a := askF_bd hu h ⟨bd_zero _ _, Rat.le_refl⟩
def farM (ru : Rul) (rs : List Rw) : List Rat := (askM ru rs).tail
theorem ask_far (ru : Rul) {rs : List Rw} (h : rs ≠ []) : askM ru rs = 0 :: farM ru rs := by
  cases rs with
  | nil => exact absurd rfl h
  | cons r rs => rfl
theorem far_more {ru : Rul} {rs : List Rw} {i : Nat} {r : Rw} (h : rs[i]? = some r) : farM ru (rs.take (i + 1)) = (if rs.take i = [] then [] else farM ru (rs.take i) ++ [ru.2.1]) ++ [needM ru r] := by
  by_cases c : rs.take i = []
  · rw [if_pos c]
    unfold farM askM
    rw [take_more h, c]
    rfl
  · rw [if_neg c]
    unfold farM askM
    rw [take_more h, askF_snoc, if_neg c]
    cases e : rs.take i with
    | nil => exact absurd e c
    | cons x xs =>
      show needM ru x :: (askF ru ru.2.1 xs ++ [ru.2.1, needM ru r]) = needM ru x :: askF ru ru.2.1 xs ++ [ru.2.1] ++ [needM ru r]
      rw [List.cons_append, List.cons_append, List.append_assoc]
      rfl
theorem far_len (ru : Rul) (rs : List Rw) : (farM ru rs).length = 2 * rs.length - 1 := by
  unfold farM askM
  rw [List.length_tail, askF_len]
theorem far_mem {ru : Rul} {rs : List Rw} {a : Rat} (h : a ∈ farM ru rs) : a ∈ askM ru rs := List.mem_of_mem_tail h
theorem lay_dFs : ∀ qs : List Rat, PyData.canLayAll0 (qs.map dF) = true
  | [] => rfl
  | q :: qs => by
    show (PyData.canLay0 (dF q) && PyData.canLayAll0 (qs.map dF)) = true
    rw [lay_dFs qs]
    rfl
theorem dep_dFs : ∀ qs : List Rat, PyData.depthAll (qs.map dF) ≤ 1
  | [] => Nat.zero_le _
  | q :: qs => Nat.max_le.mpr ⟨Nat.le_refl _, dep_dFs qs⟩
theorem shaped_dFs (qs : List Rat) : SeqAt.shaped (.list (qs.map dF)) = true := by
  unfold SeqAt.shaped
  have h1 : PyData.canLay0 (.list (qs.map dF)) = true := lay_dFs qs
  have h2 : (PyData.list (qs.map dF)).depth ≤ 64 := by
    show PyData.depthAll (qs.map dF) + 1 ≤ 64
    have := dep_dFs qs
    omega
  rw [h1, decide_eq_true h2]
  rfl
def spFar (K : PySem.W.Frag) : Sp := fun vs H Q _ => ∃ (p : Addr) (u : V) (ys : List V) (rs : List Rw) (ru : Rul), vs = [.ref p, u] ∧ SqL K H p ys ∧ DpAll K H ys (rs.map dRw) ∧ Dp K H u (dRu ru) ∧ LuOk ru ∧ (∀ r ∈ rs, LwOk r) ∧ rs.length ≤ 20 ∧
  ∀ H' q zs, Same H H' → H q = none → H' q = some (.lst zs) → DpAll K H' zs ((farM ru rs).map dF) → Q (.ref q) H'
theorem str_len2 (ws : List Str) : (ws.map fun w => (w.length : Int)).sum = ltrM ws := rfl
theorem cl_Lfar (T : Txt K mg) : Cl P w K mg base CX0 3 "_law_far" (spFar K) := by
  have c_Ltimes := cl_Ltimes (P := P) (w := w) (base := base) T
  have c_Llow := cl_Llow (P := P) (w := w) (base := base) T
  refine T.d_Lfar.cl sc_Lfar (fun vs H Q E h => ?_) (fun f cdv A outer s H vs Q E hr h => ?_)
  · obtain ⟨p, u, ys, rs, ru, rfl, _⟩ := h
    rfl
  · obtain ⟨p, u, ys, rs, ru, rfl, hp, dr, du, okU, okR, ln, q⟩ := h
    have el : ys.length = rs.length := by rw [dpa_len dr, List.length_map]
    obtain ⟨au, v1, v2, v3, rfl, hau, d1, d2, d3⟩ := dRu_at du
    refine ⟨_, (pss_cons (ps_set (i := 2) sc_Lfar.nd rfl (.inl rfl) (pe_lst pa_nil))
      (pss_cons (ps_for PassesOwn.never rfl (pi_list (pv 0)) (pg_name (i := 3) sc_Lfar.nd rfl (.inl rfl))
        (Evl.pss_cut (ps_if (pt_cmpR (op_neD hr.units) (pv 2) (pe_lst pa_nil) (nomark _))
        (pss_one (ps_expr (pe_bm PySem.F.plainAttrs_list PySem.F.slot_list_append PySem.F.type_list_append mt_append (pv 2) (pa_cons (pe_ix ix_tup (pv 1) pe_int (fun _ _ => rfl)) pa_nil))))
        pss_nil)
      (pss_cons (ps_set (i := 4) sc_Lfar.nd rfl (.inl rfl) (pe_cl c_Ltimes hr (by decide) (by rfl) (pa_cons (pe_tup (pa_cons (pe_callB (cr_sum rfl) (by rfl) T.m_sum (by decide +kernel) (pa_cons (pe_lc (own := [("_law_word", 5)]) (g := (gName 5)) (tt := tYes) (by rfl) sc_Lfar.nd (pi_list (pe_ix ix_tup (pv 3) pe_int (fun _ _ => rfl))) (blkOk_by (N := ["_law_rows_here", "_law_rule_here", "_law_found", "_law_row", "_law_one", "_law_word"]) (sc := defScope s_Lfar) (by decide +kernel)) (fun _ _ _ _ _ => (pg_name (i := 5) sc_Lfar.nd rfl (Or.inl rfl))) (fun _ _ _ _ _ => pts_nil) (fun _ _ _ _ _ => (pe_callB call_len_str (by rfl) T.m_len (by decide +kernel) (pa_cons (pv 5) pa_nil)))) pa_nil)) (pa_cons pe_int pa_nil))) (pa_cons (pe_ix ix_tup (pv 1) pe_int (fun _ _ => rfl)) pa_nil))))
      (pss_one (ps_expr (pe_bm PySem.F.plainAttrs_list PySem.F.slot_list_append PySem.F.type_list_append mt_append (pv 2) (pa_cons (pe_ifExp (pt_val (pe_cl c_Llow hr (by decide) (by rfl) (pa_cons (pv 4) (pa_cons (pe_ix ix_tup (pv 1) pe_int (fun _ _ => rfl)) pa_nil)))) (pe_ix ix_tup (pv 1) pe_int (fun _ _ => rfl)) (pv 4)) pa_nil)))))))
      (pss_one (ps_ret (pv 2))))), ?_⟩
    refine ⟨Nat.zero_le _, fun r nr => ?_⟩
    have sr := Same.new (o := .lst []) nr
    refine ⟨_, rfl, p, rfl, ⟨_, sr.seq hp⟩, for_list (K := K) (a := p) (xs := ys) (fun i σ H' => ∃ (zs : List V) (c3 c4 : Option V), σ = [some (.ref p), some (.ref au), some (.ref r), c3, c4, none] ∧ Same H (R.hid r r H') ∧ H' r = some (.lst zs) ∧ DpAll K (R.hid r r H') zs ((farM ru (rs.take i)).map dF)) ⟨[], none, none, rfl, hid_old sr nr, upd_same, .nil⟩ (fun i σ H' _ h => ?_) (fun i y σ H' hy h => ?_) (fun σ H' h => ?_)⟩
    · obtain ⟨zs, c3, c4, rfl, s1, h1, da⟩ := h
      exact (s1.trans hid_same).seq hp
    · obtain ⟨zs, c3, c4, rfl, s1, h1, da⟩ := h
      obtain ⟨x, hx, dy⟩ := dpa_map dr hy
      obtain ⟨ay, y1, y2, al, rfl, hay, _, _, hal⟩ := dRw_all dy
      have ok := okR x (List.mem_of_getElem? hx)
      have il : i < rs.length := (List.getElem?_eq_some_iff.mp hx).1
      have lz : zs.length ≤ 40 := by
        rw [dpa_len da, List.length_map, far_len, List.length_take]
        omega
      -- the gap
      refine ⟨fun σ' H' => ∃ (zs' : List V), σ' = [some (.ref p), some (.ref au), some (.ref r), some (.ref ay), c4, none] ∧ Same H (R.hid r r H') ∧ H' r = some (.lst zs') ∧ DpAll K (R.hid r r H') zs' ((if rs.take i = [] then [] else farM ru (rs.take i) ++ [ru.2.1]).map dF), ?_, fun σ' H3 hM => ?_⟩
      · refine ⟨_, rfl, Nat.zero_le _, fun o no => ?_⟩
        have so := Same.new (o := .lst []) no
        have ho : (upd H' o (.lst [])) o = some (.lst []) := upd_same
        generalize upd H' o (.lst []) = Ho at so ho ⊢
        have hro := so _ _ h1
        have s1o := s1.trans (Same.hid so)
        have dao := dpa_mono (Same.hid (b := r) (l := r) so) _ _ da
        have haO := Same.tup (s1o.trans hid_same) hau
        refine ⟨.list ((farM ru (rs.take i)).map dF), .list [], .lst (.inl (.inl hro)) (dpa_mono hid_same _ _ dao), .lst (.inl (.inl ho)) .nil, shaped_dFs _, rfl, _, rfl, ?_⟩
        by_cases cc : rs.take i = []
        · rw [if_pos cc]
          have e : farM ru (rs.take i) = [] := by rw [cc]; rfl
          rw [e] at dao ⊢
          refine iteN rfl ?_
          exact ⟨zs, rfl, s1o, hro, dao⟩
        · rw [if_neg cc]
          refine iteY ?_ ?_
          · cases e : rs.take i with
            | nil => exact absurd e cc
            | cons x xs => rfl
          · refine ⟨_, rfl, .inl ⟨rfl, _, .inl (.inl hro)⟩, _, rfl, _, _, _, _, rfl, rfl, haO, atI_nat (j := 1) rfl, r, zs, _, rfl, rfl, hro, small1000 (by omega), ?_⟩
            refine ⟨zs ++ [v2], rfl, by rw [hid_b]; exact s1o, upd_same, ?_⟩
            rw [hid_b, List.map_append]
            exact dpa_snoc dao (dp_mono s1o _ _ d2)
      obtain ⟨zs', rfl, s3, h3, da3⟩ := hM
      clear s1 h1 da
      have lz' : zs'.length ≤ 50 := by
        rw [dpa_len da3, List.length_map]
        split
        · exact Nat.zero_le _
        · rw [List.length_append, far_len, List.length_take]
          show _ + 1 ≤ 50
          omega
      have s3' := s3.trans hid_same
      have hay3 := Same.tup s3' hay
      have hal3 := s3'.seq hal
      -- letters times each
      refine ⟨_, rfl, _, _, _, _, rfl, rfl, hay3, atI_nat (j := 3) rfl, al, rfl, ⟨_, hal3⟩, fun D nD => ?_⟩
      refine lc_listE (ea := PyData.str) (eb := PyData.int) (fun w : Str => (w.length : Int)) hal3 (dpa_strs _) (by have := ok.wn; omega) nD (fun _ => rfl) (fun k x v Hx Qz Rz hx sx dx qz => ?_) (fun H4 acc s4 h4 d4 => ?_)
      · cases dx
        exact ⟨rfl, _, rfl, _, rfl, le1000 (by have := (ok.wd _ (List.mem_of_getElem? hx)).1; omega), qz _ _ (Same.refl _) (.int _)⟩
      obtain rfl := dpa_iv d4
      refine ⟨D, _, rfl, .inl (.inl h4), (show 2 ≤ sizeLine by decide), fun pt npt => ?_⟩
      rw [str_len2]
      have s5 := Same.new (o := .tup [.int (ltrM x.2.2.2), .int 1]) npt
      have d5 : Dp K (upd H4 pt (.tup [.int (ltrM x.2.2.2), .int 1])) (.ref pt) (dF ((ltrM x.2.2.2 : Int) : Rat)) := dF_mk (.inl (.inl upd_same))
      generalize upd H4 pt (.tup [.int (ltrM x.2.2.2), .int 1]) = H5 at s5 d5 ⊢
      have s35 := s4.trans s5
      have sH5 := s3'.trans s35
      have hau5 := Same.tup sH5 hau
      have lt := ok.ltr
      have z1 : Sz 150 ((ltrM x.2.2.2 : Int) : Rat) := sz_int (by decide) (Nat.lt_of_lt_of_le (show (ltrM x.2.2.2).natAbs < 2 ^ 5 by omega) (by decide))
      refine ⟨_, rfl, _, _, _, _, rfl, rfl, hau5, atI_nat (j := 0) rfl, _, _, _, ru.1, 150, 150, rfl, d5, dp_mono sH5 _ _ d1, z1, okU.z1.sz l30p l30b (by decide), by decide, trivial, fun H6 v6 s6 d6 => ?_⟩
      have d6 : Dp K H6 v6 (dF (((ltrM x.2.2.2 : Int) : Rat) * ru.1)) := d6
      have ob := one_bd okU ok
      have sH6 := sH5.trans s6
      have hau6 := Same.tup sH6 hau
      have s36 := s35.trans s6
      have h6 := s36 _ _ h3
      have dl := dp_mono sH6 _ _ d3
      have nq := need_eq ru x
      have fin : ∀ v', Dp K H6 v' (dF (needM ru x)) → ∃ (zs'' : List V) (c3 c4 : Option V), [some (V.ref p), some (.ref au), some (.ref r), some (.ref ay), some v6, none] = [some (.ref p), some (.ref au), some (.ref r), c3, c4, none] ∧ Same H (R.hid r r (upd H6 r (.lst (zs' ++ [v'])))) ∧ (upd H6 r (.lst (zs' ++ [v']))) r = some (.lst zs'') ∧ DpAll K (R.hid r r (upd H6 r (.lst (zs' ++ [v'])))) zs'' ((farM ru (rs.take (i + 1))).map dF) := fun v' dv' => by
        refine ⟨_, _, _, rfl, by rw [hid_b]; exact s3.trans (Same.hid s36), upd_same, ?_⟩
        rw [hid_b, far_more hx, List.map_append]
        exact dpa_snoc (dpa_mono (Same.hid s36) _ _ da3) (dp_hid ⟨_, h6⟩ ⟨_, h6⟩ _ _ rfl dv')
      refine ⟨_, rfl, .inl ⟨rfl, _, .inl (.inl h6)⟩, ?_⟩
      refine ⟨_, rfl, _, rfl, _, _, _, _, rfl, rfl, hau6, atI_nat (j := 2) rfl, _, _, _, ru.2.2.1, 150, 150, rfl, d6, dl, ob.1.sz l30p l30b (by decide), okU.z3.sz l30p l30b (by decide), by decide, _, rfl, ite2 (fun z => ?_) (fun z => ?_)⟩
      · rw [if_pos (of_decide_eq_true z)] at nq
        rw [← nq] at fin
        exact ⟨_, rfl, _, _, _, _, rfl, rfl, hau6, atI_nat (j := 2) rfl, r, zs', _, rfl, rfl, h6, small1000 (by omega), fin _ dl⟩
      · rw [if_neg (fun y => z (decide_eq_true y))] at nq
        rw [← nq] at fin
        exact ⟨_, rfl, r, zs', _, rfl, rfl, h6, small1000 (by omega), fin _ d6⟩
    · obtain ⟨zs, c3, c4, rfl, s1, h1, da⟩ := h
      rw [el, List.take_length] at da
      exact ⟨_, rfl, q _ r zs (s1.trans hid_same) nr h1 (dpa_mono hid_same _ _ da)⟩
/-! ### a drawn end -/
def DD : Nat := 10 * L30
theorem ddp : 0 < DD := by decide
theorem ddb : DD < 2 ^ 100 := by decide
theorem l30dd : L30 ∣ DD := Nat.dvd_mul_left _ _
theorem sum_more {qs : List Rat} {i : Nat} {q : Rat} (h : qs[i]? = some q) : (qs.take (i + 1)).sum = (qs.take i).sum + q := by
  rw [take_more h, List.sum_append]
  show _ + (q + 0) = _
  grind
theorem sum_bd {qs : List Rat} (h : ∀ q ∈ qs, Bd L30 200 q ∧ 0 ≤ q) : ∀ i, i ≤ qs.length → Bd L30 (200 * i) (qs.take i).sum ∧ 0 ≤ (qs.take i).sum
  | 0, _ => ⟨bd_zero _ _, Rat.le_refl⟩
  | i + 1, hi => by
    have ih := sum_bd h i (by omega)
    have hq : qs[i]? = some qs[i] := List.getElem?_eq_getElem (by omega)
    have hk := h _ (List.mem_of_getElem? hq)
    rw [sum_more hq]
    exact ⟨(ih.1.add hk.1).mono (by omega), by have := ih.2; have := hk.2; grind⟩
def spLend (K : PySem.W.Frag) : Sp := fun vs H Q _ => ∃ (b l p : Addr) (ys : List V) (qs : List Rat), vs = [.ref b, .ref p] ∧ Bx H b l ∧ SqL K H p ys ∧ DpAll K H ys (qs.map dF) ∧ (∀ q ∈ qs, Bd L30 200 q ∧ 0 ≤ q) ∧ qs.length ≤ 39 ∧
  ∀ H' v (E : Rat), Same (hid b l H) (hid b l H') → Bx H' b l → Dp K H' v (dF E) → Bd DD 10000 E → 0 ≤ E → Q v H'
theorem num_gt0 (x : Rat) : 0 < x.num ↔ 0 < x := by
  constructor
  · intro h
    by_cases c : x ≤ 0
    · have h1 : (-x).num = -x.num := rfl
      have h2 : 0 ≤ (-x).num := Rat.num_nonneg.mpr (by grind)
      omega
    · grind
  · exact num_pos'
theorem cl_Lend (T : Txt K mg) : Cl P w K mg base CX0 3 "_law_end" (spLend K) := by
  have c_Ltake := cl_Ltake (P := P) (w := w) (base := base) T
  have c_Ltime := cl_Ltime (P := P) (w := w) (base := base) T
  have c_Lfr := cl_Lfr (P := P) (w := w) (base := base) T
  have c_Lsum := cl_Lsum (P := P) (w := w) (base := base) T
  have c_Ltimes := cl_Ltimes (P := P) (w := w) (base := base) T
  refine T.d_Lend.cl sc_Lend (fun vs H Q E h => ?_) (fun f cdv A outer s H vs Q E hr h => ?_)
  · obtain ⟨b, l, p, ys, qs, rfl, _⟩ := h
    rfl
  · obtain ⟨b, l, p, ys, qs, rfl, B, hp, dq, okq, lq, q⟩ := h
    have el : ys.length = qs.length := by rw [dpa_len dq, List.length_map]
    refine ⟨_, (pss_cons (ps_set (i := 2) sc_Lend.nd rfl (.inl rfl) (pe_tup (pa_cons pe_int (pa_cons pe_int pa_nil))))
      (pss_cons (ps_for PassesOwn.never rfl (pi_list (pv 1)) (pg_name (i := 3) sc_Lend.nd rfl (.inl rfl))
        (pss_one (ps_set (i := 2) sc_Lend.nd rfl (.inl rfl) (pe_cl c_Lsum hr (by decide) (by rfl) (pa_cons (pv 2) (pa_cons (pv 3) pa_nil))))))
      (pss_cons (ps_set (i := 4) sc_Lend.nd rfl (.inl rfl) (pe_cl c_Ltake hr (by decide) (by rfl) (pa_cons (pv 0) (pa_cons pe_int pa_nil))))
      (pss_cons (ps_if (pt_cmpR op_eq (pv 4) pe_int (nomark _))
        (pss_one (ps_ret (pv 2)))
        pss_nil)
      (pss_cons (ps_if (PW.pt (pw_and (pt_cmpR op_eq (pv 4) pe_int (nomark _)) (pw_and1 (pt_cmpR op_gt (pe_ix ix_tup (pv 2) pe_int (fun _ _ => rfl)) pe_int (nomark _)))))
        (pss_one (ps_ret (pe_cl c_Ltimes hr (by decide) (by rfl) (pa_cons (pv 2) (pa_cons (pe_cl c_Lfr hr (by decide) (by rfl) (pa_cons (pe_cl c_Ltake hr (by decide) (by rfl) (pa_cons (pv 0) (pa_cons pe_int pa_nil))) (pa_cons pe_int pa_nil))) pa_nil)))))
        pss_nil)
      (pss_one (ps_ret (pe_cl c_Lsum hr (by decide) (by rfl) (pa_cons (pv 2) (pa_cons (pe_cl c_Ltime hr (by decide) (by rfl) (pa_cons (pv 0) (pa_cons (pe_ix ix_list (pe_lst (pa_cons pe_int (pa_cons pe_int pa_nil))) (pe_op op_mod (pv 4) pe_int) (fun _ _ => rfl)) pa_nil))) pa_nil)))))))))), ?_⟩
    refine ⟨(show 2 ≤ sizeLine by decide), fun pz nz => ?_⟩
    have tz := Same.new (o := .tup [.int 0, .int 1]) nz
    have dz : Dp K (upd H pz (.tup [.int 0, .int 1])) (.ref pz) (dF 0) := dF_mk (.inl (.inl upd_same))
    generalize upd H pz (.tup [.int 0, .int 1]) = H0 at tz dz ⊢
    refine ⟨_, rfl, p, rfl, ⟨_, tz.seq hp⟩, for_list (K := K) (a := p) (xs := ys) (fun i σ H' => ∃ (c3 : Option V) (vw : V), σ = [some (.ref b), some (.ref p), some vw, c3, none] ∧ Same H H' ∧ Dp K H' vw (dF (qs.take i).sum)) ⟨none, _, rfl, tz, dz⟩ (fun i σ H' _ h => ?_) (fun i y σ H' hy h => ?_) (fun σ H' h => ?_)⟩
    · obtain ⟨c3, vw, rfl, s1, dw⟩ := h
      exact s1.seq hp
    · obtain ⟨c3, vw, rfl, s1, dw⟩ := h
      obtain ⟨x, hx, dx⟩ := dpa_map dq hy
      have il : i < qs.length := (List.getElem?_eq_some_iff.mp hx).1
      have bs := sum_bd okq i (by omega)
      have bx := okq x (List.mem_of_getElem? hx)
      refine ⟨_, rfl, _, rfl, _, _, _, x, 150, 150, rfl, dw, dp_mono s1 _ _ dx, bs.1.sz l30p l30b (by omega), bx.1.sz l30p l30b (by omega), by decide, trivial, fun H2 v2 s2 d2 => ?_⟩
      exact ⟨_, v2, rfl, s1.trans s2, by rw [sum_more hx]; exact d2⟩
    · obtain ⟨c3, vw, rfl, s1, dw⟩ := h
      have bs := sum_bd okq qs.length (Nat.le_refl _)
      rw [el] at dw
      rw [List.take_length] at dw bs
      have B1 := B.mono s1
      generalize qs.sum = S at dw bs
      refine ⟨_, rfl, _, l, _, rfl, B1, by decide, by decide, fun H2 r2 s2 B2 a2 b2 => ?_⟩
      have dw2 := frac_keep dw B1 s2
      have s02 : Same (hid b l H) (hid b l H2) := (Same.hid s1).trans s2
      have last : ∀ (Hx : Hp) (vx : V) (x : Rat), Same (hid b l H2) (hid b l Hx) → Bx Hx b l → Dp K Hx vx (dF x) → Bd DD 10000 x → 0 ≤ x → Q vx Hx := fun Hx vx x s B' d z z0 => q _ _ _ (s02.trans s) B' d z z0
      have zS : Bd L30 8000 S := bs.1.mono (by omega)
      clear s1 s2 dw B1 s02 q
      have third : ∀ (k : V → Hp → Prop), (∀ (Hx : Hp) (vx : V) (x : Rat), Same (hid b l H2) (hid b l Hx) → Bx Hx b l → Dp K Hx vx (dF x) → Bd DD 10000 x → 0 ≤ x → k vx Hx) → tCall (spF2 K (fun x y => x + y) fun x y => True) [] E0 (tCons (tVar 2) (tCons (tCall (spTime K) [] E0 (tCons (tVar 0) (tCons (tOp (rIxL K) (tLst (tCons (tC (V.int 10)) (tCons (tC (V.int 200)) tNil))) (tOp (rI (fun x j => 0 < j) fun i j => V.int (i % j)) (tVar 4) (tC (V.int 2)))) tNil))) tNil)) [some (V.ref b), some (.ref p), some vw, c3, some (.int r2)] H2 k := fun k last => by
        refine ⟨_, rfl, _, rfl, (show 2 ≤ sizeLine by decide), fun pl npl => ?_⟩
        have t3 := Same.new (o := .lst [.int 10, .int 200]) npl
        have B3 := B2.mono t3
        have h3 : (upd H2 pl (.lst [.int 10, .int 200])) pl = some (.lst [.int 10, .int 200]) := upd_same
        have dw3 := dp_mono t3 _ _ dw2
        generalize upd H2 pl (.lst [.int 10, .int 200]) = H3 at t3 B3 h3 dw3 ⊢
        obtain ⟨m, hm, hk⟩ : ∃ m : Int, atI [V.int 10, V.int 200] (r2 % 2) = some (V.int m) ∧ (m = 10 ∨ m = 200) := by
          rcases (show r2 % 2 = 0 ∨ r2 % 2 = 1 by omega) with e | e <;> rw [e]
          · exact ⟨10, atI_nat (j := 0) rfl, .inl rfl⟩
          · exact ⟨200, atI_nat (j := 1) rfl, .inr rfl⟩
        refine ⟨_, rfl, _, _, rfl, rfl, (show (0 : Int) < 2 by decide), pl, _, _, _, rfl, rfl, .inl (.inl h3), hm, _, l, _, rfl, B3, by omega, by omega, fun H4 v4 x4 s4 B4 d4 t4 => ?_⟩
        have dw4 := frac_keep dw3 B3 s4
        have z4 : Bd L30 200 x4 := by
          rcases hk with rfl | rfl
          · exact (t4.bd (m := 10)).mono (by decide)
          · exact t4.bd (m := 200)
        refine ⟨_, _, S, x4, 150, 150, rfl, dw4, d4, zS.sz l30p l30b (by decide), z4.sz l30p l30b (by decide), by decide, trivial, fun H5 v5 s5 d5 => ?_⟩
        exact last _ _ _ (((Same.hid t3).trans s4).trans (Same.hid s5)) (B4.mono s5) d5 (((zS.add z4).dvd l30dd).mono (by decide)) (by have := t4.lo; have := bs.2; grind)
      refine ⟨_, rfl, rfl, _, rfl, ite2 (fun z => ?_) (fun z => ?_)⟩
      · exact ⟨_, rfl, last _ _ _ (Same.refl _) B2 dw2 ((zS.dvd l30dd).mono (by decide)) bs.2⟩
      · refine ⟨_, rfl, rfl, _, rfl, ite2 (fun z2 => ?_) (fun z2 => ?_)⟩
        · obtain ⟨aw, rfl, hw⟩ := dF_at dw2
          refine ⟨_, rfl, _, _, _, _, rfl, rfl, hw, atI_nat (j := 0) rfl, _, _, rfl, rfl, _, rfl, ite2 (fun z3 => ?_) (fun z3 => ?_)⟩
          · refine ⟨_, rfl, _, rfl, _, l, _, rfl, B2, by decide, by decide, fun H3 r3 s3 B3 a3 b3 => ?_⟩
            refine ⟨_, _, rfl, by decide, p20 (by decide), fun H4 v4 s4 d4 => ?_⟩
            have dw4 := dp_mono s4 _ _ (frac_keep dw2 B2 s3)
            have wq : Wq (Rat.divInt r3 10) := wq_frac a3 (by omega) (by decide) (by decide) (by decide)
            have iq : Iz 10 (Rat.divInt r3 10) := iz_divInt (by decide) (Int.dvd_refl _)
            have zz : Bd DD 10000 (S * Rat.divInt r3 10) := by
              have k1 : Iz (L30 * 10) (S * Rat.divInt r3 10) := zS.z.mul iq
              have b0 := bs.2
              have k2 := Rat.mul_nonneg b0 wq.lo
              have k3 := Rat.mul_le_mul_of_nonneg_left wq.hi b0
              have k4 := zS.hi
              have e8 : ((8000 : Nat) : Rat) = 8000 := rfl
              have e9 : ((10000 : Nat) : Rat) = 10000 := rfl
              rw [e8] at k4
              refine ⟨by unfold DD; rw [Nat.mul_comm]; exact k1, ?_, ?_⟩ <;> rw [e9] <;> grind
            refine ⟨_, _, S, _, 150, 7, rfl, dw4, d4, zS.sz l30p l30b (by decide), wq.sz, by decide, trivial, fun H5 v5 s5 d5 => ?_⟩
            exact last _ _ _ (s3.trans (Same.hid (s4.trans s5))) ((B3.mono s4).mono s5) d5 zz (Rat.mul_nonneg bs.2 wq.lo)
          · exact third _ last
        · exact third _ last
/-! ### begins and ends in order -/
/-- a tuple whose first two are fractions -/
def PrAt (K : PySem.W.Frag) (H : Hp) (y : V) (x : Rat × Rat) : Prop := ∃ a v1 v2 vs, y = .ref a ∧ SqT K H a (v1 :: v2 :: vs) ∧ Dp K H v1 (dF x.1) ∧ Dp K H v2 (dF x.2)
theorem PrAt.mono {H H' : Hp} {y : V} {x : Rat × Rat} (s : Same H H') (h : PrAt K H y x) : PrAt K H' y x := by
  obtain ⟨a, v1, v2, vs, e, h1, h2, h3⟩ := h
  exact ⟨a, v1, v2, vs, e, Same.tup s h1, dp_mono s _ _ h2, dp_mono s _ _ h3⟩
def flat2 (xs : List (Rat × Rat)) : List Rat := xs.flatMap fun x => [x.1, x.2]
theorem flat2_more {xs : List (Rat × Rat)} {i : Nat} {x : Rat × Rat} (h : xs[i]? = some x) : flat2 (xs.take (i + 1)) = flat2 (xs.take i) ++ [x.1, x.2] := by
  unfold flat2
  rw [take_more h, List.flatMap_append]
  simp
theorem flat2_len : ∀ xs : List (Rat × Rat), (flat2 xs).length = 2 * xs.length
  | [] => rfl
  | x :: xs => by
    show (x.1 :: x.2 :: flat2 xs).length = 2 * (xs.length + 1)
    rw [List.length_cons, List.length_cons, flat2_len xs]
    omega
theorem flat_prs : ∀ {n : Nat} {ts : List Rat}, ts.length = 2 * n → flat2 (prsOf ts) = ts
  | 0, [], _ => rfl
  | 0, _ :: _, h => by simp at h
  | n + 1, [], h => by simp at h
  | n + 1, [_], h => by simp at h; omega
  | n + 1, a :: b :: r, h => by
    show a :: b :: flat2 (prsOf r) = _
    rw [flat_prs (n := n) (ts := r) (by simp at h; omega)]
theorem flat_rows : ∀ rs : List Rw, flat2 (rs.map fun r => (r.1, r.2.1)) = wishM rs
  | [] => rfl
  | r :: rs => by
    show r.1 :: r.2.1 :: flat2 (rs.map fun r => (r.1, r.2.1)) = r.1 :: r.2.1 :: wishM rs
    rw [flat_rows rs]
theorem rows_pr {H : Hp} : ∀ {ys : List V} {rs : List Rw}, DpAll K H ys (rs.map dRw) → A2 (PrAt K H) ys (rs.map fun r => (r.1, r.2.1))
  | _, [], h => by cases h; exact .nil
  | _, r :: rs, h => by
    cases h with
    | cons h1 h2 =>
      obtain ⟨a, v1, v2, al, rfl, k1, k2, k3, _⟩ := dRw_all h1
      exact .cons ⟨_, _, _, _, rfl, k1, k2, k3⟩ (rows_pr h2)
theorem dFF_at {H : Hp} {v : V} {x : Rat × Rat} (h : Dp K H v (dFF x)) : ∃ a v1 v2, v = .ref a ∧ SqT K H a [v1, v2] ∧ Dp K H v1 (dF x.1) ∧ Dp K H v2 (dF x.2) := by
  unfold dFF at h
  cases h with
  | tup hs ha =>
    cases ha with
    | cons h1 h2 =>
      cases h2 with
      | cons h3 h4 =>
        cases h4
        exact ⟨_, _, _, rfl, hs, h1, h3⟩
theorem prs_pr {H : Hp} : ∀ {ys : List V} {xs : List (Rat × Rat)}, DpAll K H ys (xs.map dFF) → A2 (PrAt K H) ys xs
  | _, [], h => by cases h; exact .nil
  | _, x :: xs, h => by
    cases h with
    | cons h1 h2 =>
      obtain ⟨a, v1, v2, rfl, k1, k2, k3⟩ := dFF_at h1
      exact .cons ⟨_, _, _, _, rfl, k1, k2, k3⟩ (prs_pr h2)
def spWanted (K : PySem.W.Frag) : Sp := fun vs H Q _ => ∃ (p : Addr) (ys : List V) (xs : List (Rat × Rat)), vs = [.ref p] ∧ SqL K H p ys ∧ A2 (PrAt K H) ys xs ∧ xs.length ≤ 100 ∧ ∀ H' q zs, Same H H' → H q = none → H' q = some (.lst zs) → DpAll K H' zs ((flat2 xs).map dF) → Q (.ref q) H'
theorem cl_Lwanted (T : Txt K mg) : Cl P w K mg base CX0 1 "_law_wanted" (spWanted K) := by
  refine T.d_Lwanted.cl sc_Lwanted (fun vs H Q E h => ?_) (fun f cdv A outer s H vs Q E hr h => ?_)
  · obtain ⟨p, ys, xs, rfl, _⟩ := h
    rfl
  · obtain ⟨p, ys, xs, rfl, hp, ha, ln, q⟩ := h
    have el : ys.length = xs.length := ha.len
    refine ⟨_, (pss_cons (ps_set (i := 1) sc_Lwanted.nd rfl (.inl rfl) (pe_lst pa_nil))
      (pss_cons (ps_for PassesOwn.never rfl (pi_list (pv 0)) (pg_name (i := 2) sc_Lwanted.nd rfl (.inl rfl))
        (pss_one (ps_set (i := 1) sc_Lwanted.nd rfl (.inl rfl) (pe_op op_cat (pv 1) (pe_lst (pa_cons (pe_ix ix_tup (pv 2) pe_int (fun _ _ => rfl)) (pa_cons (pe_ix ix_tup (pv 2) pe_int (fun _ _ => rfl)) pa_nil)))))))
      (pss_one (ps_ret (pv 1))))), ?_⟩
    refine ⟨Nat.zero_le _, fun r nr => ?_⟩
    have sr := Same.new (o := .lst []) nr
    refine ⟨_, rfl, p, rfl, ⟨_, sr.seq hp⟩, for_list (K := K) (a := p) (xs := ys) (fun i σ H' => ∃ (r : Addr) (zs : List V) (c2 : Option V), σ = [some (.ref p), some (.ref r), c2] ∧ Same H H' ∧ H r = none ∧ H' r = some (.lst zs) ∧ DpAll K H' zs ((flat2 (xs.take i)).map dF)) ⟨r, [], none, rfl, sr, nr, upd_same, .nil⟩ (fun i σ H' _ h => ?_) (fun i y σ H' hy h => ?_) (fun σ H' h => ?_)⟩
    · obtain ⟨r, zs, c2, rfl, s1, n1, h1, da⟩ := h
      exact s1.seq hp
    · obtain ⟨r, zs, c2, rfl, s1, n1, h1, da⟩ := h
      obtain ⟨x, hx, a, v1, v2, vs, rfl, k1, k2, k3⟩ := ha.at hy
      have il : i < xs.length := (List.getElem?_eq_some_iff.mp hx).1
      have k1' := Same.tup s1 k1
      have lz : zs.length = 2 * i := by
        rw [dpa_len da, List.length_map, flat2_len, List.length_take]
        omega
      refine ⟨_, rfl, _, rfl, _, _, _, _, rfl, rfl, k1', atI_nat (j := 0) rfl, _, rfl, _, _, _, _, rfl, rfl, k1', atI_nat (j := 1) rfl, (show 2 ≤ sizeLine by decide), fun pl npl => ?_⟩
      have s2 := Same.new (o := .lst [v1, v2]) npl
      have h2 : (upd H' pl (.lst [v1, v2])) pl = some (.lst [v1, v2]) := upd_same
      generalize upd H' pl (.lst [v1, v2]) = H2 at s2 h2 ⊢
      refine ⟨r, pl, zs, _, rfl, rfl, s2 _ _ h1, h2, le1000 (show zs.length + 2 ≤ 1000 by omega), fun pc npc => ?_⟩
      have s3 := Same.new (o := .lst (zs ++ [v1, v2])) npc
      have s23 := s2.trans s3
      refine ⟨pc, _, _, rfl, s1.trans s23, (s1.trans s2).free npc, upd_same, ?_⟩
      rw [flat2_more hx, List.map_append]
      have sH := s1.trans s23
      exact dpa_app (dpa_mono s23 _ _ da) (.cons (dp_mono sH _ _ k2) (.cons (dp_mono sH _ _ k3) .nil))
    · obtain ⟨r, zs, c2, rfl, s1, n1, h1, da⟩ := h
      rw [el, List.take_length] at da
      exact ⟨_, rfl, q _ r zs s1 n1 h1 da⟩
/-! ### the cost, as the law reckons it -/
theorem gsM_at {ru : Rul} : ∀ {n k : Nat}, k < 2 * n → (gsM ru n)[k]? = some (if k % 2 = 0 then ru.2.2.2.1 else ru.2.2.2.2)
  | 0, k, h => by omega
  | n + 1, 0, _ => by rw [gsM_succ]; rfl
  | n + 1, 1, _ => by rw [gsM_succ]; rfl
  | n + 1, k + 2, h => by
    rw [gsM_succ]
    show (gsM ru n)[k]? = _
    rw [gsM_at (by omega), show (k + 2) % 2 = k % 2 by omega]
theorem dF_absR {H : Hp} {p : Addr} {x : Rat} (h : SqT K H p [.int (x.num.natAbs : Int), .int (x.den : Int)]) : Dp K H (.ref p) (dF (absR x)) := by
  have e1 : (absR x).num = (x.num.natAbs : Int) := by
    unfold absR
    split
    · rename_i c
      have := (num_lt0 x).mpr c
      show -x.num = _
      omega
    · rename_i c
      have : ¬ x.num < 0 := fun z => c ((num_lt0 x).mp z)
      omega
  have e2 : (absR x).den = x.den := by
    unfold absR
    split
    · rfl
    · rfl
  refine dF_mk ?_
  rw [e1, e2]
  exact h
theorem gs_9 {ru : Rul} (h : LuOk ru) {n : Nat} : ∀ g ∈ gsM ru n, 1 ≤ g ∧ g ≤ 9 := fun g hg => by
  have h1 := h.g1
  have h2 := h.g2
  rcases gsM_mem hg with e | e <;> omega
def spCost (K : PySem.W.Frag) : Sp := fun vs H Q _ => ∃ (pw pt : Addr) (u : V) (yw yt : List V) (ws ts : List Rat) (ru : Rul) (n D : Nat), vs = [.ref pw, .ref pt, u] ∧ SqL K H pw yw ∧ DpAll K H yw (ws.map dF) ∧ SqL K H pt yt ∧ DpAll K H yt (ts.map dF) ∧ Dp K H u (dRu ru) ∧ ws.length = 2 * n ∧ ts.length = 2 * n ∧ n ≤ 20 ∧ 0 < D ∧ D < 2 ^ 100 ∧ (∀ q ∈ ws, Bd D 20000 q) ∧ (∀ q ∈ ts, Bd D 20000 q) ∧ LuOk ru ∧
  ∀ H' z, Same H H' → Dp K H' z (dF (costR ts ws (gsM ru n))) → Q z H'
theorem cost_bd {D : Nat} {ws ts : List Rat} {gs : List Int} {m : Nat} (h1 : ∀ q ∈ ws, Bd D 20000 q) (h2 : ∀ q ∈ ts, Bd D 20000 q) (h3 : ∀ g ∈ gs, 1 ≤ g ∧ g ≤ 9) (l1 : ws.length = m) (l2 : ts.length = m) (l3 : gs.length = m) : ∀ k, k ≤ m → Bd D (360000 * k) (costR (ts.take k) (ws.take k) (gs.take k))
  | 0, _ => bd_zero _ _
  | k + 1, hk => by
    have ih := cost_bd h1 h2 h3 l1 l2 l3 k (by omega)
    have e1 : ts[k]? = some ts[k] := List.getElem?_eq_getElem (by omega)
    have e2 : ws[k]? = some ws[k] := List.getElem?_eq_getElem (by omega)
    have e3 : gs[k]? = some gs[k] := List.getElem?_eq_getElem (by omega)
    rw [costR_more e1 e2 e3, Rat.mul_comm (absR _)]
    have k3 := h3 _ (List.mem_of_getElem? e3)
    refine (ih.add ((((h2 _ (List.mem_of_getElem? e1)).sub (h1 _ (List.mem_of_getElem? e2))).abs).muli (b := 9) (by omega))).mono (by omega)
theorem cl_Lcost (T : Txt K mg) : Cl P w K mg base CX0 3 "_law_cost" (spCost K) := by
  have c_Lsum := cl_Lsum (P := P) (w := w) (base := base) T
  have c_Lminus := cl_Lminus (P := P) (w := w) (base := base) T
  have c_Ltimes := cl_Ltimes (P := P) (w := w) (base := base) T
  refine T.d_Lcost.cl sc_Lcost (fun vs H Q E h => ?_) (fun f cdv A outer s H vs Q E hr h => ?_)
  · obtain ⟨pw, pt, u, yw, yt, ws, ts, ru, n, D, rfl, _⟩ := h
    rfl
  · obtain ⟨pw, pt, u, yw, yt, ws, ts, ru, n, D, rfl, hw, dw, ht, dt, du, lw, lt, ln, D0, D1, zw, zt, okU, q⟩ := h
    have elw : yw.length = 2 * n := by rw [dpa_len dw, List.length_map, lw]
    have lg : (gsM ru n).length = 2 * n := gsM_len ru n
    obtain ⟨au, v1, v2, v3, rfl, hau⟩ := dRu_w du
    refine ⟨_, (pss_cons (ps_set (i := 3) sc_Lcost.nd rfl (.inl rfl) (pe_tup (pa_cons pe_int (pa_cons pe_int pa_nil))))
      (pss_cons (ps_for PassesOwn.never rfl (pi_range1 (by rfl) T.m_range (pa_cons (pe_callB call_len_seq (by rfl) T.m_len (by decide +kernel) (pa_cons (pv 0) pa_nil)) pa_nil)) (pg_name (i := 4) sc_Lcost.nd rfl (.inl rfl))
        (pss_cons (ps_set (i := 5) sc_Lcost.nd rfl (.inl rfl) (pe_cl c_Lminus hr (by decide) (by rfl) (pa_cons (pe_ix ix_list (pv 1) (pv 4) (fun _ _ => rfl)) (pa_cons (pe_ix ix_list (pv 0) (pv 4) (fun _ _ => rfl)) pa_nil))))
      (pss_one (ps_set (i := 3) sc_Lcost.nd rfl (.inl rfl) (pe_cl c_Lsum hr (by decide) (by rfl) (pa_cons (pv 3) (pa_cons (pe_cl c_Ltimes hr (by decide) (by rfl) (pa_cons (pe_tup (pa_cons (pe_callB call_abs (by rfl) T.m_abs (by decide +kernel) (pa_cons (pe_ix ix_tup (pv 5) pe_int (fun _ _ => rfl)) pa_nil)) (pa_cons (pe_ix ix_tup (pv 5) pe_int (fun _ _ => rfl)) pa_nil))) (pa_cons (pe_tup (pa_cons (pe_ix ix_tup (pv 2) (pe_op op_add pe_int (pe_op op_mod (pv 4) pe_int)) (fun _ _ => rfl)) (pa_cons pe_int pa_nil))) pa_nil))) pa_nil)))))))
      (pss_one (ps_ret (pv 3))))), ?_⟩
    refine ⟨(show 2 ≤ sizeLine by decide), fun pz nz => ?_⟩
    have tz := Same.new (o := .tup [.int 0, .int 1]) nz
    have dz : Dp K (upd H pz (.tup [.int 0, .int 1])) (.ref pz) (dF 0) := dF_mk (.inl (.inl upd_same))
    generalize upd H pz (.tup [.int 0, .int 1]) = H0 at tz dz ⊢
    refine ⟨_, rfl, pw, yw, rfl, .inl (tz.seq hw), _, rfl, by omega, by omega, for_range (lo := 0) (n := ((yw.length : Nat) : Int).toNat) (fun i σ H' => ∃ (c4 c5 : Option V) (vw : V), σ = [some (.ref pw), some (.ref pt), some (.ref au), some vw, c4, c5] ∧ Same H H' ∧ Dp K H' vw (dF (costR (ts.take i) (ws.take i) ((gsM ru n).take i)))) ⟨none, none, _, rfl, tz, dz⟩ (fun i σ H' hi h => ?_) (fun σ H' h => ?_)⟩
    · obtain ⟨c4, c5, vw, rfl, s1, d1⟩ := h
      have i2 : i < 2 * n := by omega
      have e1 : ts[i]? = some ts[i] := List.getElem?_eq_getElem (by omega)
      have e2 : ws[i]? = some ws[i] := List.getElem?_eq_getElem (by omega)
      have e3 := gsM_at (ru := ru) i2
      have bc := cost_bd zw zt (gs_9 okU) lw lt lg i (by omega)
      obtain ⟨vt, hvt, dvt⟩ := dpa_get dt e1
      obtain ⟨vq, hvq, dvq⟩ := dpa_get dw e2
      have zt' := zt _ (List.mem_of_getElem? e1)
      have zw' := zw _ (List.mem_of_getElem? e2)
      have g9 := gs_9 okU _ (List.mem_of_getElem? e3)
      have cm := costR_more e1 e2 e3
      generalize ts[i] = t at e1 dvt zt' cm
      generalize ws[i] = x at e2 dvq zw' cm
      have ei : (0 : Int) + (i : Int) = ((i : Nat) : Int) := Int.zero_add _
      refine ⟨_, rfl, _, rfl, pt, _, _, vt, rfl, rfl, s1.seq ht, by rw [ei]; exact atI_nat hvt, _, rfl, _, rfl, pw, _, _, vq, rfl, rfl, s1.seq hw, by rw [ei]; exact atI_nat hvq, ?_⟩
      have zd := zt'.sub zw'
      refine ⟨_, _, t, x, 150, 150, rfl, dp_mono s1 _ _ dvt, dp_mono s1 _ _ dvq, zt'.sz D0 D1 (by decide), zw'.sz D0 D1 (by decide), by decide, trivial, fun H2 v2' s2 d2 => ?_⟩
      have d2 : Dp K H2 v2' (dF (t - x)) := d2
      generalize t - x = df at d2 zd cm
      obtain ⟨ad, rfl, hd⟩ := dF_at d2
      have s12 := s1.trans s2
      refine ⟨_, rfl, _, rfl, _, _, _, _, rfl, rfl, hd, atI_nat (j := 0) rfl, _, rfl, _, rfl, _, _, _, _, rfl, rfl, hd, atI_nat (j := 1) rfl, (show 2 ≤ sizeLine by decide), fun pa npa => ?_⟩
      rw [abs_if]
      have s3 := Same.new (o := .tup [.int (df.num.natAbs : Int), .int (df.den : Int)]) npa
      have d3 : Dp K (upd H2 pa (.tup [.int (df.num.natAbs : Int), .int (df.den : Int)])) (.ref pa) (dF (absR df)) := dF_absR (.inl (.inl upd_same))
      generalize upd H2 pa (.tup [.int (df.num.natAbs : Int), .int (df.den : Int)]) = H3 at s3 d3 ⊢
      have s13 := s12.trans s3
      have ig : atI [v1, v2, v3, V.int ru.2.2.2.1, V.int ru.2.2.2.2] (3 + (0 + (i : Int)) % 2) = some (.int (if i % 2 = 0 then ru.2.2.2.1 else ru.2.2.2.2)) := by
        by_cases c : i % 2 = 0
        · rw [if_pos c, show (3 : Int) + (0 + (i : Int)) % 2 = ((3 : Nat) : Int) by omega]
          exact atI_nat (j := 3) rfl
        · rw [if_neg c, show (3 : Int) + (0 + (i : Int)) % 2 = ((4 : Nat) : Int) by omega]
          exact atI_nat (j := 4) rfl
      generalize (if i % 2 = 0 then ru.2.2.2.1 else ru.2.2.2.2) = g at ig g9 cm
      refine ⟨_, rfl, _, rfl, _, _, rfl, rfl, (show (0 : Int) < 2 by decide), _, _, rfl, rfl, au, _, _, _, rfl, rfl, Same.tup s13 hau, ig, (show 2 ≤ sizeLine by decide), fun pg npg => ?_⟩
      have s4 := Same.new (o := .tup [.int g, .int 1]) npg
      have d4 : Dp K (upd H3 pg (.tup [.int g, .int 1])) (.ref pg) (dF (g : Rat)) := dF_mk (.inl (.inl upd_same))
      generalize upd H3 pg (.tup [.int g, .int 1]) = H4 at s4 d4 ⊢
      have za := zd.abs
      have zg : Sz 150 (g : Rat) := sz_int (by decide) (Nat.lt_of_lt_of_le (show g.natAbs < 2 ^ 4 by omega) (by decide))
      refine ⟨_, _, absR df, (g : Rat), 150, 150, rfl, dp_mono s4 _ _ d3, d4, za.sz D0 D1 (by decide), zg, by decide, trivial, fun H5 v5 s5 d5 => ?_⟩
      have d5 : Dp K H5 v5 (dF (absR df * (g : Rat))) := d5
      have zm : Bd D 360000 (absR df * (g : Rat)) := by
        rw [Rat.mul_comm]
        exact (za.muli (b := 9) (by omega)).mono (by decide)
      have s25 := (s2.trans s3).trans (s4.trans s5)
      refine ⟨_, _, _, _, 150, 150, rfl, dp_mono s25 _ _ d1, d5, bc.sz D0 D1 (by omega), zm.sz D0 D1 (by decide), by decide, trivial, fun H6 v6 s6 d6 => ?_⟩
      refine ⟨_, _, v6, rfl, (s1.trans s25).trans s6, ?_⟩
      rw [cm]
      exact d6
    · obtain ⟨c4, c5, vw, rfl, s1, d1⟩ := h
      rw [show ((yw.length : Nat) : Int).toNat = 2 * n by omega, List.take_of_length_le (by omega), List.take_of_length_le (by omega), List.take_of_length_le (by omega)] at d1
      exact ⟨_, rfl, q _ _ s1 d1⟩
/-! ### moved, or refused -/
def dTight : PyData := .tuple [.str "tight", .bool true]
def spLmoved (K : PySem.W.Frag) (P0 P1 : Addr) : Sp := fun vs H Q _ => ∃ (p : Addr) (u v : V) (ys : List V) (rs : List Rw) (ru : Rul) (E : Rat) (D n : Nat), vs = [.ref p, u, v] ∧ SqL K H p ys ∧ DpAll K H ys (rs.map dRw) ∧ Dp K H u (dRu ru) ∧ Dp K H v (dF E) ∧ MvOk ru rs E D n ∧ Ts P0 P1 H ∧
  (∀ H' z, Tb2 P0 P1 H H' → (rs = [] ∨ ¬ E - (askM ru rs).sum < 0 → MvAt K H H' z (movT ru rs E) (movC ru rs E) (movP ru rs E)) → (rs ≠ [] → E - (askM ru rs).sum < 0 → Dp K H' z dTight) → Q z H')
theorem cl_Lmoved (T : Txt K mg) {c0 c1 P0 P1 : Addr} (D0 : Dfc K mg "distances" s_distances ["rows", "rule"] c0) (TB0 : GxR.TabB base mg c0 P0) (D1 : Dfc K mg "middle" s_middle ["together"] c1) (TB1 : GxR.TabB base mg c1 P1) : Cl P w K mg base CX0 6 "_law_moved" (spLmoved K P0 P1) := by
  obtain ⟨C, e_TooTight⟩ := T.e_TooTight
  obtain ⟨CR, e_ReelError⟩ := T.e_ReelError
  have g_TooTight := e_TooTight.g
  have xC := T.x_own C g_TooTight
  have c_moved := cl_moved (P := P) (w := w) (base := base) T D0 TB0 D1 TB1 e_TooTight
  refine T.d_Lmoved.cl sc_Lmoved (fun vs H Q E h => ?_) (fun f cdv A outer s H vs Q E hr h => ?_)
  · obtain ⟨p, u, v, ys, rs, ru, E', D, n, rfl, _⟩ := h
    rfl
  · obtain ⟨p, u, v, ys, rs, ru, Ee, D, n, rfl, hp, dr, du, dv, ok, ts, q⟩ := h
    refine ⟨_, (pss_one (ps_try_as (i := 3) rfl rfl sc_Lmoved.nd rfl rfl ⟨rfl, by decide, .inl e_ReelError.g⟩ takes0 (fun W pn xe tk ps => (pss_one (ps_ret (pe_clS c_moved hr (by decide) (by rfl) tk (pa_cons (pv 0) (pa_cons (pv 1) (pa_cons (pv 2) pa_nil)))))))
        (fun ax oe cls dx pn hz hf => (pss_one (ps_ret (pe_tup (pa_cons pe_str (pa_cons (pe_and (pe_callB (call_isX xC hz hf) (by rfl) T.m_isinstance (by decide +kernel) (pa_cons (pv 3) (pa_cons (pe_gC (by rfl) g_TooTight) pa_nil))) (pe_one (pe_callB (call_isX xC hz hf) (by rfl) T.m_isinstance (by decide +kernel) (pa_cons (pv 3) (pa_cons (pe_bltn (v := .ty "ValueError") (by rfl) T.m_ValueError (by decide +kernel) rfl) pa_nil))))) pa_nil)))))))), ?_⟩
    refine ⟨_, rfl, _, rfl, _, rfl, p, u, v, ys, rs, ru, Ee, D, n, rfl, hp, dr, du, dv, ok, ts, fun c H1 z1 s1 d1 => ?_, fun c1 c2 H1 s1 => ?_⟩
    · refine q _ _ s1 (fun _ => d1) (fun c1 c2 => ?_)
      rcases c with c | c
      · exact absurd c c1
      · exact absurd c2 c
    · refine ⟨true, T.x_reel C CR g_TooTight e_ReelError.g, fun _ a0 _ => ?_, fun z => Bool.noConfusion z⟩
      refine ⟨_, rfl, rfl, rfl, _, _, _, rfl, (fun u r => r), T.x_self C g_TooTight, ?_⟩
      refine ⟨true, rfl, iteY rfl ?_⟩
      refine ⟨_, rfl, rfl, rfl, _, _, _, rfl, (fun u r => r), T.x_ve C g_TooTight, ?_⟩
      refine ⟨(show 2 ≤ sizeLine by decide), fun t nt => ?_⟩
      have st := Same.new (o := .tup [.str "tight", .bl true]) nt
      refine q _ _ (s1.trans (Tb2.same s1.1 st)) (fun c => ?_) (fun _ _ => .tup (.inl (.inl upd_same)) (.cons (.str _) (.cons (.bl _) .nil)))
      rcases c with c | c
      · exact absurd c c1
      · exact absurd c2 c
theorem depth_strs : ∀ ss : List Str, PyData.depthAll (ss.map PyData.str) = 0
  | [] => rfl
  | s :: r => by
    show max (PyData.depth (.str s)) (PyData.depthAll (r.map PyData.str)) = 0
    rw [depth_strs r]
    rfl
theorem call_list_ofK {X : Cx} {K : PySem.W.Frag} (h : X.K = K) : CallR X (.type "list") (fun xs H Q => ∃ p ys, xs = [V.ref p] ∧ (SqL K H p ys ∨ SqT K H p ys) ∧ ∀ (l : Addr), H l = none → Q (.ref l) (upd H l (.lst ys))) := by
  subst h
  exact call_list_of
theorem depth_dRw : ∀ rs : List Rw, PyData.depthAll (rs.map dRw) ≤ 2
  | [] => Nat.zero_le _
  | r :: t => by
    refine Nat.max_le.mpr ⟨?_, depth_dRw t⟩
    show max 1 (max 1 (max 0 (max (PyData.depthAll (r.2.2.2.map PyData.str) + 1) 0))) + 1 ≤ 2
    rw [depth_strs]
    decide
theorem iz_den_dvd {D : Nat} {x : Rat} (h : Iz D x) : x.den ∣ D := by
  obtain ⟨k, e⟩ := h
  have h1 : ((x.num * (D : Int) : Int) : Rat) = ((k * (x.den : Int) : Int) : Rat) := by
    rw [Rat.intCast_mul, Rat.intCast_mul, ← e, Rat.intCast_natCast, Rat.intCast_natCast, ← mul_den x]
    grind
  have h2 := Rat.intCast_inj.mp h1
  have h3 : x.den ∣ x.num.natAbs * D := by
    have := congrArg Int.natAbs h2
    rw [Int.natAbs_mul, Int.natAbs_mul, Int.natAbs_natCast, Int.natAbs_natCast] at this
    rw [this]
    exact Nat.dvd_mul_left _ _
  exact Nat.Coprime.dvd_of_dvd_mul_left x.reduced.symm h3
/-! ### what the three laws of moving share -/
theorem wish_mem {rs : List Rw} {q : Rat} (h : q ∈ wishM rs) : ∃ r ∈ rs, q = r.1 ∨ q = r.2.1 := by
  obtain ⟨r, hr, hq⟩ := List.mem_flatMap.mp h
  refine ⟨r, hr, ?_⟩
  rcases List.mem_cons.mp hq with e | hq
  · exact .inl e
  · exact .inr (List.mem_singleton.mp hq)
theorem wish_bd {rs : List Rw} (h : ∀ r ∈ rs, LwOk r) {q : Rat} (hq : q ∈ wishM rs) : Bd DD 700 q ∧ 0 ≤ q := by
  obtain ⟨r, hr, e | e⟩ := wish_mem hq
  · rw [e]
    exact ⟨(h r hr).b.dvd l30dd, (h r hr).b0⟩
  · rw [e]
    exact ⟨(h r hr).e.dvd l30dd, (h r hr).e0⟩
theorem mv_ok {ru : Rul} {rs : List Rw} {E : Rat} (hu : LuOk ru) (hr : ∀ r ∈ rs, LwOk r) (hE : Bd DD 10000 E) (ln : rs.length ≤ 20) : MvOk ru rs E DD 150 := by
  have ab := ask_bd hu hr
  refine ⟨ddp, by decide, by decide, fun q hq => ?_, fun a ha => (ab a ha).2, hu.g1, hu.g2, ⟨(hu.z1.sz l30p l30b (by decide)).mono (by decide), (hu.z2.sz l30p l30b (by decide)).mono (by decide), (hu.z3.sz l30p l30b (by decide)).mono (by decide)⟩, fun r h => ⟨?_, fun w hw => ?_⟩, by omega⟩
  · have key : ∃ m, m ≤ 1099511627776 ∧ Bd DD m q := by
      rcases List.mem_append.mp hq with h | h
      · rcases List.mem_append.mp h with h | h
        · exact ⟨700, by decide, (wish_bd hr h).1⟩
        · exact ⟨200, by decide, (ab q h).1.dvd l30dd⟩
      · rw [List.mem_singleton.mp h]
        exact ⟨10000, by decide, hE⟩
    obtain ⟨m, hm, hb⟩ := key
    exact ⟨iz_den_dvd hb.z, hb.sz ddp ddb hm⟩
  · have := (hr r h).ltr
    exact sz_int (by decide) (Nat.lt_of_lt_of_le (show (ltrM r.2.2.2).natAbs < 2 ^ 5 by omega) (by decide))
  · have := ((hr r h).wd w hw).1
    omega
theorem far_sum (ru : Rul) (rs : List Rw) : (askM ru rs).sum = (farM ru rs).sum := by
  by_cases c : rs = []
  · rw [c]
    rfl
  · rw [ask_far ru c]
    show (0 : Rat) + (farM ru rs).sum = (farM ru rs).sum
    grind
theorem far_bd {ru : Rul} {rs : List Rw} (hu : LuOk ru) (hr : ∀ r ∈ rs, LwOk r) : ∀ q ∈ farM ru rs, Bd L30 200 q ∧ 0 ≤ q := fun q hq => ask_bd hu hr q (far_mem hq)
theorem keepD {b l : Addr} {H H' : Hp} {v : V} {d : PyData} (z : tupD d = true) (B : Bx H b l) (s : Same (hid b l H) (hid b l H')) (h : Dp K H v d) : Dp K H' v d := dp_mono hid_same _ _ (dp_mono s _ _ (dp_hid B.lb B.ll _ _ z h))
theorem keepDA {b l : Addr} {H H' : Hp} {vs : List V} {ds : List PyData} (z : tupA ds = true) (B : Bx H b l) (s : Same (hid b l H) (hid b l H')) (h : DpAll K H vs ds) : DpAll K H' vs ds := dpa_mono hid_same _ _ (dpa_mono s _ _ (dpa_hid B.lb B.ll _ _ z h))
theorem hidL_hid {b l p : Addr} {H : Hp} : Same (R.hidL [b, l, p] H) (hid b l H) := fun a o h => by
  obtain ⟨h1, h2⟩ := hidL_ne h
  unfold hid
  rw [if_neg]
  · exact h2
  · rintro (z | z)
    · exact h1 (by rw [z]; simp)
    · exact h1 (by rw [z]; simp)
theorem Ts.lst0 {P0 P1 a : Addr} {H : Hp} {xs : List V} (t : Ts P0 P1 H) (h : H a = some (.lst xs)) : P0 ≠ a ∧ P1 ≠ a := by
  refine ⟨fun e => ?_, fun e => ?_⟩
  · obtain ⟨ps, hp, _⟩ := t.t0
    rw [e, h] at hp
    cases hp
  · obtain ⟨ps, hp, _⟩ := t.t1
    rw [e, h] at hp
    cases hp
theorem ts_upd {P0 P1 a : Addr} {H : Hp} {xs zs : List V} (t : Ts P0 P1 H) (h : H a = some (.lst xs)) : Ts P0 P1 (upd H a (.lst zs)) := by
  obtain ⟨n0, n1⟩ := t.lst0 h
  refine ⟨t.n, ?_, ?_⟩
  · obtain ⟨ps, hp, q⟩ := t.t0
    exact ⟨ps, by rw [upd_ne n0]; exact hp, q⟩
  · obtain ⟨ps, hp, q⟩ := t.t1
    exact ⟨ps, by rw [upd_ne n1]; exact hp, q⟩
theorem lay_strsO : ∀ ss : List Str, (∀ s ∈ ss, PyData.strOk s = true) → PyData.canLayAll0 (ss.map PyData.str) = true
  | [], _ => rfl
  | s :: r, h => by
    show (PyData.canLay0 (.str s) && PyData.canLayAll0 (r.map PyData.str)) = true
    rw [lay_strsO r fun x hx => h x (List.mem_cons_of_mem _ hx), show PyData.canLay0 (.str s) = true from h s List.mem_cons_self]
    rfl
theorem lay_dRws : ∀ {rs : List Rw}, (∀ r ∈ rs, LwOk r) → PyData.canLayAll0 (rs.map dRw) = true
  | [], _ => rfl
  | r :: rs, h => by
    show (PyData.canLay0 (dRw r) && PyData.canLayAll0 (rs.map dRw)) = true
    rw [lay_dRws fun x hx => h x (List.mem_cons_of_mem _ hx)]
    show ((true && (true && (true && (PyData.canLayAll0 (r.2.2.2.map PyData.str) && true)))) && true) = true
    rw [lay_strsO _ fun w hw => ((h r List.mem_cons_self).wd w hw).2]
    rfl
theorem shaped_dRws {rs : List Rw} (h : ∀ r ∈ rs, LwOk r) : SeqAt.shaped (dRws rs) = true := by
  unfold SeqAt.shaped
  have h1 : PyData.canLay0 (dRws rs) = true := lay_dRws h
  have h2 : (dRws rs).depth ≤ 64 := by
    show PyData.depthAll (rs.map dRw) + 1 ≤ 64
    have := depth_dRw rs
    omega
  rw [h1, decide_eq_true h2]
  rfl
theorem eqv_dRws {rs : List Rw} (h : ∀ r ∈ rs, LwOk r) : PyData.eqv (dRws rs) (dRws rs) = true := SeqAt.eqv_refl (dRws rs) (lay_dRws h)
theorem neq_dRws {rs : List Rw} (h : ∀ r ∈ rs, LwOk r) : (!PyData.eqv (dRws rs) (dRws rs)) = false := by
  rw [eqv_dRws h]
  rfl
theorem lay_dFFs : ∀ xs : List (Rat × Rat), PyData.canLayAll0 (xs.map dFF) = true
  | [] => rfl
  | x :: xs => by
    show (PyData.canLay0 (dFF x) && PyData.canLayAll0 (xs.map dFF)) = true
    rw [lay_dFFs xs]
    rfl
theorem dep_dFFs : ∀ xs : List (Rat × Rat), PyData.depthAll (xs.map dFF) ≤ 2
  | [] => Nat.zero_le _
  | x :: xs => Nat.max_le.mpr ⟨Nat.le_refl _, dep_dFFs xs⟩
theorem shaped_dFFs (xs : List (Rat × Rat)) : SeqAt.shaped (.list (xs.map dFF)) = true := by
  unfold SeqAt.shaped
  have h1 : PyData.canLay0 (.list (xs.map dFF)) = true := lay_dFFs xs
  have h2 : (PyData.list (xs.map dFF)).depth ≤ 64 := by
    show PyData.depthAll (xs.map dFF) + 1 ≤ 64
    have := dep_dFFs xs
    omega
  rw [h1, decide_eq_true h2]
  rfl
theorem eqv_dFFs (xs : List (Rat × Rat)) : PyData.eqv (.list (xs.map dFF)) (.list (xs.map dFF)) = true := SeqAt.eqv_refl (.list (xs.map dFF)) (lay_dFFs xs)
theorem tupA_dFF : ∀ xs : List (Rat × Rat), tupA (xs.map dFF) = true
  | [] => rfl
  | x :: xs => by
    show (tupD (dFF x) && tupA (xs.map dFF)) = true
    rw [tupA_dFF xs]
    rfl
theorem eqv_tight : PyData.eqv dTight dTight = true := SeqAt.eqv_refl dTight (by decide +kernel)
/-- what is told lies from nought to the end, over the common bottom -/
theorem qB_iz {B D : Nat} (hB : 0 < B) (h : B ∣ D) (t : Int) : Iz D (qB B t) := iz_divInt (by omega) (Int.natCast_dvd_natCast.mpr h)
theorem MvOk.tbd {ru : Rul} {rs : List Rw} {E : Rat} {D n : Nat} (h : MvOk ru rs E D n) (hE : Bd D 10000 E) (hr : ¬ E - (askM ru rs).sum < 0) : ∀ t ∈ movT ru rs E, Bd D 10000 t ∧ 0 ≤ t ∧ t ≤ E := fun t ht => by
  have k := (keep_in (h.mov hr).keep h.a0).2 t ht
  obtain ⟨i, hi, rfl⟩ := List.mem_map.mp ht
  have h2 := hE.hi
  have h3 : (0 : Rat) ≤ ((10000 : Nat) : Rat) := Rat.natCast_nonneg
  exact ⟨⟨qB_iz MvOk.b0 h.bd _, by grind, by grind⟩, k⟩
theorem movT_len {ru : Rul} {rs : List Rw} {E : Rat} {D n : Nat} (h : MvOk ru rs E D n) (hr : ¬ E - (askM ru rs).sum < 0) : (movT ru rs E).length = 2 * rs.length := by
  unfold movT
  rw [List.length_map, h.tl hr]
theorem fr_self (x : Rat) : Rat.divInt x.num (x.den : Int) = x := Rat.num_divInt_den x
theorem tIf_not {c : TT} {t u : TS} {D : Ends} {σ : L2.St} {H : Hp} (M : Hp → Prop) (hc : ∀ k : Bool → Hp → Prop, (∀ H1, M H1 → k false H1) → c σ H k) (hu : ∀ H1, M H1 → u D σ H1) : tIfS c t u D σ H := hc _ fun H1 h => by
  show if false = true then _ else _
  rw [if_neg Bool.false_ne_true]
  exact hu H1 h
theorem tIf_notS {c : TT} {t u r : TS} {D : Ends} {σ : L2.St} {H : Hp} (M : Hp → Prop) (hc : ∀ k : Bool → Hp → Prop, (∀ H1, M H1 → k false H1) → c σ H k) (hu : ∀ H1, M H1 → u { D with nx := r D } σ H1) : tSeq (tIfS c t u) r D σ H := tIf_not M hc hu
theorem updDA {p : Addr} {H : Hp} {xs : List V} {o : HO} {vs : List V} {ds : List PyData} (h : H p = some (.lst xs)) (z : tupA ds = true) (d : DpAll K H vs ds) : DpAll K (upd H p o) vs ds := by
  have := dpa_hid ⟨_, h⟩ ⟨_, h⟩ _ _ z d
  rw [← hid_b (o := o)] at this
  exact dpa_mono hid_same _ _ this
theorem updD {p : Addr} {H : Hp} {xs : List V} {o : HO} {v : V} {d : PyData} (h : H p = some (.lst xs)) (z : tupD d = true) (k : Dp K H v d) : Dp K (upd H p o) v d := by
  have := dp_hid ⟨_, h⟩ ⟨_, h⟩ _ _ z k
  rw [← hid_b (o := o)] at this
  exact dp_mono hid_same _ _ this
theorem updT {p a : Addr} {H : Hp} {xs : List V} {o : HO} {ys : List V} (h : H p = some (.lst xs)) (k : SqT K H a ys) : SqT K (upd H p o) a ys := by
  have := hid_tupL ⟨_, h⟩ ⟨_, h⟩ k
  rw [← hid_b (o := o)] at this
  exact Same.tup hid_same this
theorem extN_upd {p : Addr} {H0 H : Hp} {o : HO} (x : LamX.ExtN H0 H) (n : H0 p = none) : LamX.ExtN H0 (upd H p o) := fun b o' h nt => by
  rw [upd_ne (fun e => by rw [e, n] at h; cases h)]
  exact x b o' h nt
theorem far_at {ru : Rul} {rs : List Rw} {i : Nat} {a : Rat} (h : (farM ru rs)[i]? = some a) : (askM ru rs)[i + 1]? = some a := by
  unfold farM at h
  rw [List.getElem?_tail] at h
  exact h
theorem ts_hid {P0 P1 b l : Addr} {H H' : Hp} (t : Ts P0 P1 H) (B : Bx H b l) (s : Same (hid b l H) (hid b l H')) : Ts P0 P1 H' := by
  obtain ⟨xb, hb⟩ := B.lb
  obtain ⟨xl, hl⟩ := B.ll
  obtain ⟨n0, n1⟩ := t.lst0 hb
  obtain ⟨m0, m1⟩ := t.lst0 hl
  have key : ∀ a o, a ≠ b → a ≠ l → H a = some o → H' a = some o := fun a o x y h => by
    refine hid_same _ _ (s a o ?_)
    unfold hid
    rw [if_neg (by rintro (z | z) <;> contradiction)]
    exact h
  refine ⟨t.n, ?_, ?_⟩
  · obtain ⟨ps, h, q⟩ := t.t0
    exact ⟨ps, key _ _ n0 m0 h, q⟩
  · obtain ⟨ps, h, q⟩ := t.t1
    exact ⟨ps, key _ _ n1 m1 h, q⟩
/-! ### other times that keep the rule -/
theorem keep_mix {E q : Rat} (q0 : 0 ≤ q) (q1 : q ≤ 1) : ∀ {ts us as : List Rat} {v v' : Rat}, KeepR E v ts as → KeepR E v' us as → KeepR E (v + q * (v' - v)) (List.zipWith (fun a b => a + q * (b - a)) ts us) as
  | [], [], [], v, v', h1, h2 => by
    have h1 : v ≤ E := h1
    have h2 : v' ≤ E := h2
    have k1 := mul_le_l q0 h2
    have k2 := mul_le_l (show 0 ≤ 1 - q by grind) h1
    show v + q * (v' - v) ≤ E
    grind
  | t :: ts, u :: us, a :: as, v, v', h1, h2 => by
    refine ⟨?_, keep_mix q0 q1 h1.2 h2.2⟩
    have k1 := mul_le_l q0 h2.1
    have k2 := mul_le_l (show 0 ≤ 1 - q by grind) h1.1
    show v + q * (v' - v) + a ≤ t + q * (u - t)
    grind
  | _, _ :: _, [], _, _, _, h2 => h2.elim
  | _ :: _, _, [], _, _, h1, _ => h1.elim
  | _, [], _ :: _, _, _, _, h2 => h2.elim
  | [], _, _ :: _, _, _, h1, _ => h1.elim
theorem frac_bd {s w : Int} (h0 : 0 ≤ s) (h1 : s ≤ w) (w0 : 0 < w) : Iz w.natAbs (Rat.divInt s w) ∧ 0 ≤ Rat.divInt s w ∧ Rat.divInt s w ≤ 1 := by
  refine ⟨iz_divInt w0 (by rw [Int.natAbs_of_nonneg (by omega)]; exact Int.dvd_refl _), (div_le h0 w0).1, ?_⟩
  have hp : (0 : Rat) < (w : Rat) := Rat.intCast_pos.mpr w0
  have hi := Rat.inv_pos.mpr hp
  have hm := Rat.mul_inv_cancel _ (ne_of_pos hp)
  have h2 : (s : Rat) ≤ (w : Rat) := Rat.intCast_le_intCast.mpr h1
  rw [Rat.divInt_eq_div, Rat.div_def]
  have := Rat.mul_le_mul_of_nonneg_right h2 (show 0 ≤ (w : Rat)⁻¹ by grind)
  grind
theorem divInt_add {s t w : Int} (w0 : 0 < w) : Rat.divInt (s + t) w = Rat.divInt s w + Rat.divInt t w := by
  rw [Rat.divInt_eq_div, Rat.divInt_eq_div, Rat.divInt_eq_div, Rat.div_def, Rat.div_def, Rat.div_def, Rat.intCast_add]
  grind
theorem sumI_le : ∀ {ss : List Int}, (∀ s ∈ ss, 0 ≤ s ∧ s ≤ 4) → 0 ≤ ss.sum ∧ ss.sum ≤ 4 * ss.length
  | [], _ => ⟨Int.le_refl _, Int.le_refl _⟩
  | s :: ss, h => by
    have h1 := h s List.mem_cons_self
    have h2 := sumI_le fun x hx => h x (List.mem_cons_of_mem s hx)
    rw [List.sum_cons, List.length_cons]
    omega
theorem takeI_le {ss : List Int} (h : ∀ s ∈ ss, 0 ≤ s ∧ s ≤ 4) (k : Nat) : 0 ≤ (ss.take k).sum ∧ (ss.take k).sum ≤ ss.sum := by
  have h1 := sumI_le (ss := ss.take k) fun s hs => h s (List.mem_of_mem_take hs)
  have h2 := sumI_le (ss := ss.drop k) fun s hs => h s (List.mem_of_mem_drop hs)
  have e : ss.sum = (ss.take k).sum + (ss.drop k).sum := by rw [← List.sum_append, List.take_append_drop]
  omega
theorem sumI_more {ss : List Int} {k : Nat} {s : Int} (h : ss[k]? = some s) : (ss.take (k + 1)).sum = (ss.take k).sum + s := by
  rw [take_more h, List.sum_append]
  show _ + (s + 0) = _
  omega
structure OthIn (E : Rat) (G T : List Rat) : Prop where
  g : ∀ q ∈ G, Bd L30 200 q ∧ 0 ≤ q
  gl : G.length ≤ 39
  keep : KeepR E 0 T (0 :: G)
  t : ∀ q ∈ T, Bd DD 10000 q
  e : Bd DD 10000 E
  left : 0 ≤ E - G.sum
/-- what other times are -/
structure OthOk (E : Rat) (G ts : List Rat) (D : Nat) : Prop where
  keep : KeepR E 0 ts (0 :: G)
  bd : ∀ q ∈ ts, Bd D 10000 q
  dd : DD ∣ D
  d0 : 0 < D
  d1 : D < 2 ^ 100
/-- so far -/
structure OthSo (E : Rat) (G : List Rat) (ss : List Int) (w : Int) (i : Nat) (ts : List Rat) : Prop where
  len : ts.length = i + 1
  st : ∀ k s t a, ts[k]? = some s → ts[k + 1]? = some t → G[k]? = some a → s + a ≤ t
  f : ∀ t, ts[0]? = some t → 0 ≤ t
  last : ts[i]? = some ((G.take i).sum + (E - G.sum) * Rat.divInt (ss.take (i + 1)).sum w)
section
variable {E : Rat} {G T : List Rat} {ss : List Int} {w : Int}
theorem OthSo.bd {i : Nat} {ts : List Rat} (h : OthSo E G ss w i ts) (hi : OthIn E G T) (hs : ∀ s ∈ ss, 0 ≤ s ∧ s ≤ 4) (hw : ss.sum ≤ w) (w0 : 0 < w) (il : i ≤ G.length) : ∃ x, ts[i]? = some x ∧ x = (G.take i).sum + (E - G.sum) * Rat.divInt (ss.take (i + 1)).sum w ∧ Bd (DD * w.natAbs) 10000 x ∧ x ≤ E ∧ 0 ≤ x := by
  refine ⟨_, h.last, rfl, ?_⟩
  have k1 := sum_bd hi.g i il
  have k2 := takeI_le hs (i + 1)
  obtain ⟨f1, f2, f3⟩ := frac_bd k2.1 (by omega) w0
  have l0 := hi.left
  have a1 := Rat.mul_nonneg l0 f2
  have a2 := mul_le_l l0 f3
  have gs : (G.take i).sum ≤ G.sum := by
    have e : G.sum = (G.take i).sum + (G.drop i).sum := by rw [← List.sum_append, List.take_append_drop]
    have := (sum_bd (qs := G.drop i) (fun q hq => hi.g q (List.mem_of_mem_drop hq)) (G.drop i).length (Nat.le_refl _)).2
    rw [List.take_length] at this
    grind
  have zl : Iz DD (E - G.sum) := by
    have := (sum_bd hi.g G.length (Nat.le_refl _)).1
    rw [List.take_length] at this
    exact hi.e.z.sub (this.z.dvd l30dd)
  have z := (k1.1.z.dvd l30dd).up w.natAbs
  have z2 := zl.mul f1
  have eh := hi.e.hi
  have k0 := k1.2
  have xe : (G.take i).sum + (E - G.sum) * Rat.divInt (ss.take (i + 1)).sum w ≤ E := by grind
  have x0 : 0 ≤ (G.take i).sum + (E - G.sum) * Rat.divInt (ss.take (i + 1)).sum w := by grind
  have n0 : (0 : Rat) ≤ ((10000 : Nat) : Rat) := Rat.natCast_nonneg
  exact ⟨⟨z.add z2, by grind, by grind⟩, xe, x0⟩
theorem OthSo.more {i : Nat} {ts : List Rat} {s : Int} {g : Rat} (h : OthSo E G ss w i ts) (hi : OthIn E G T) (w0 : 0 < w) (hs : ss[i + 1]? = some s) (s0 : 0 ≤ s) (hg : G[i]? = some g) : OthSo E G ss w (i + 1) (ts ++ [(G.take i).sum + (E - G.sum) * Rat.divInt (ss.take (i + 1)).sum w + g + (E - G.sum) * Rat.divInt s w]) := by
  have a1 := Rat.mul_nonneg hi.left (div_le s0 w0).1
  refine ⟨by rw [List.length_append, h.len]; rfl, fun k x t a h1 h2 h3 => ?_, fun t h1 => ?_, ?_⟩
  · by_cases c : k < i
    · refine h.st k x t a ?_ ?_ h3
      · rwa [List.getElem?_append_left (by rw [h.len]; omega)] at h1
      · rwa [List.getElem?_append_left (by rw [h.len]; omega)] at h2
    · have ki : k = i := by
        have := (List.getElem?_eq_some_iff.mp h2).1
        rw [List.length_append, h.len] at this
        have : k + 1 < i + 1 + 1 := this
        omega
      subst ki
      rw [List.getElem?_append_left (by rw [h.len]; omega), h.last] at h1
      obtain rfl := Option.some.inj h1
      rw [List.getElem?_append_right (by rw [h.len]; exact Nat.le_refl _), h.len, Nat.sub_self] at h2
      obtain rfl := Option.some.inj h2
      rw [hg] at h3
      obtain rfl := Option.some.inj h3
      grind
  · rw [List.getElem?_append_left (by rw [h.len]; omega)] at h1
    exact h.f t h1
  · rw [List.getElem?_append_right (by rw [h.len]; exact Nat.le_refl _), h.len, Nat.sub_self]
    show some _ = some _
    rw [sum_more hg, sumI_more hs, divInt_add w0]
    congr 1
    grind
theorem OthSo.keep {ts : List Rat} (h : OthSo E G ss w G.length ts) (hi : OthIn E G T) (hs : ∀ s ∈ ss, 0 ≤ s ∧ s ≤ 4) (hw : ss.sum ≤ w) (w0 : 0 < w) : KeepR E 0 ts (0 :: G) := by
  obtain ⟨x, hx, _, _, xe, _⟩ := h.bd hi hs hw w0 (Nat.le_refl _)
  refine keep_of (by rw [h.len]; rfl) (fun e => by have := h.len; rw [e] at this; simp at this) (fun t a h1 h2 => ?_) (fun k s t a h1 h2 h3 => h.st k s t a h1 h2 h3) ?_
  · obtain rfl : (0 : Rat) = a := Option.some.inj h2
    have := h.f t h1
    grind
  · rw [List.getLastD_eq_getLast?, List.getLast?_eq_getElem?, h.len, show G.length + 1 - 1 = G.length by omega, hx]
    exact xe
end
theorem OthSo.start {E : Rat} {G : List Rat} {ss : List Int} {w s : Int} (h : ss[0]? = some s) (l0 : 0 ≤ E - G.sum) (s0 : 0 ≤ s) (w0 : 0 < w) : OthSo E G ss w 0 [(E - G.sum) * Rat.divInt s w] := by
  refine ⟨rfl, fun k x t a h1 h2 h3 => by simp at h2, fun t h1 => ?_, ?_⟩
  · obtain rfl := Option.some.inj h1
    exact Rat.mul_nonneg l0 (div_le s0 w0).1
  · have e : (ss.take (0 + 1)).sum = s := by
      rw [sumI_more h]
      show (0 : Int) + s = s
      omega
    rw [e]
    show some _ = some ((0 : Rat) + _)
    congr 1
    grind
def halfR (n : Nat) (h : n ≠ 0) : Rat := ⟨1, n, h, by simp [Nat.Coprime]⟩
theorem half_bd {n : Nat} (h : n ≠ 0) : Iz n (halfR n h) ∧ 0 ≤ halfR n h ∧ halfR n h ≤ 1 := by
  have e : Rat.divInt 1 (n : Int) = halfR n h := Rat.num_divInt_den (halfR n h)
  have := frac_bd (s := 1) (w := (n : Int)) (by decide) (by omega) (by omega)
  rw [e, Int.natAbs_natCast] at this
  exact this
theorem half_sz {n : Nat} (h : n ≠ 0) (hn : n ≤ 20) : Sz 150 (halfR n h) := ⟨show (1 : Int).natAbs < 2 ^ 150 by decide, Nat.lt_of_le_of_lt (show n ≤ 20 from hn) (by decide)⟩
def mixR (q : Rat) (T ts : List Rat) : List Rat := List.zipWith (fun a b => a + q * (b - a)) T ts
theorem mix_bd {D m : Nat} {E q x y : Rat} (z : Iz m q) (q0 : 0 ≤ q) (q1 : q ≤ 1) (hx : Bd D 10000 x) (hy : Bd D 10000 y) : Bd (D * m) 10000 (x + q * (y - x)) := by
  have z1 := hx.z.up m
  have z2 := (hy.z.sub hx.z).mul z
  have n0 : (0 : Rat) ≤ ((10000 : Nat) : Rat) := Rat.natCast_nonneg
  have e : x + (y - x) * q = x + q * (y - x) := by grind
  have k1 := mul_le_l q0 hy.hi
  have k2 := mul_le_l (show 0 ≤ 1 - q by grind) hx.hi
  have k3 := mul_le_l q0 hy.lo
  have k4 := mul_le_l (show 0 ≤ 1 - q by grind) hx.lo
  refine ⟨by rw [← e]; exact z1.add z2, by grind, by grind⟩
def spOther (K : PySem.W.Frag) : Sp := fun vs H Q _ => ∃ (b l pt pg : Addr) (v : V) (yt zg : List V) (T G : List Rat) (E : Rat), vs = [.ref b, .ref pt, .ref pg, v] ∧ Bx H b l ∧ SqL K (hid b l H) pt yt ∧ DpAll K H yt (T.map dF) ∧ SqL K (hid b l H) pg zg ∧ DpAll K H zg (G.map dF) ∧ Dp K H v (dF E) ∧ OthIn E G T ∧
  ∀ H' q zs ts D, Same (hid b l H) (hid b l H') → Bx H' b l → H q = none → hid b l H' q = some (.lst zs) → DpAll K H' zs (ts.map dF) → OthOk E G ts D → Q (.ref q) H'
theorem cl_Lother (T : Txt K mg) : Cl P w K mg base CX0 3 "_law_other" (spOther K) := by
  have c_Ltake := cl_Ltake (P := P) (w := w) (base := base) T
  have c_Lfr := cl_Lfr (P := P) (w := w) (base := base) T
  have c_Lsum := cl_Lsum (P := P) (w := w) (base := base) T
  have c_Lminus := cl_Lminus (P := P) (w := w) (base := base) T
  have c_Ltimes := cl_Ltimes (P := P) (w := w) (base := base) T
  refine T.d_Lother.cl sc_Lother (fun vs H Q E h => ?_) (fun f cdv A outer s H vs Q E hr h => ?_)
  · obtain ⟨b, l, pt, pg, v, yt, zg, T', G, E', rfl, _⟩ := h
    rfl
  · obtain ⟨b, l, pt, pg, v, yt, zg, Tt, G, Ee, rfl, B, hpt, dt, hpg, dg, dv, oi, q⟩ := h
    have gl := oi.gl
    have lzg : zg.length = G.length := by rw [dpa_len dg, List.length_map]
    have lyt : yt.length = G.length + 1 := by rw [dpa_len dt, List.length_map, keep_len oi.keep]; rfl
    refine ⟨_, (pss_cons (ps_set (i := 4) sc_Lother.nd rfl (.inl rfl) (pv 3))
      (pss_cons (ps_for PassesOwn.never rfl (pi_list (pv 2)) (pg_name (i := 5) sc_Lother.nd rfl (.inl rfl))
        (pss_one (ps_set (i := 4) sc_Lother.nd rfl (.inl rfl) (pe_cl c_Lminus hr (by decide) (by rfl) (pa_cons (pv 4) (pa_cons (pv 5) pa_nil))))))
      (pss_cons (ps_setLc (i := 7) (own := [("_law_k", 6)]) (g := (gName 6)) (tt := tYes) (by rfl) sc_Lother.nd rfl rfl (sw_true rfl rfl rfl (by decide +kernel)) (pi_range1 (by rfl) T.m_range (pa_cons (pe_op op_add (pe_callB call_len_seq (by rfl) T.m_len (by decide +kernel) (pa_cons (pv 2) pa_nil)) pe_int) pa_nil)) (blkOk_by (N := ["_law_box", "_law_told", "_law_gaps", "_law_end_here", "_law_left", "_law_one", "_law_k", "_law_shares", "_law_whole", "_law_times_here", "_law_half"]) (sc := defScope s_Lother) (by decide +kernel)) (fun _ _ _ _ _ => (pg_name (i := 6) sc_Lother.nd rfl (Or.inl rfl))) (fun _ _ _ _ _ => pts_nil) (fun _ _ _ _ _ => (pe_op op_mulW (pe_cl c_Ltake hr (by decide) (by rfl) (pa_cons (pv 0) (pa_cons pe_int pa_nil))) (pe_cl c_Ltake hr (by decide) (by rfl) (pa_cons (pv 0) (pa_cons pe_int pa_nil))))))
      (pss_cons (ps_set (i := 8) sc_Lother.nd rfl (.inl rfl) (pe_callB (call_max2 rfl) (by rfl) T.m_max (by decide +kernel) (pa_cons pe_int (pa_cons (pe_callB (cr_sum rfl) (by rfl) T.m_sum (by decide +kernel) (pa_cons (pv 7) pa_nil)) pa_nil))))
      (pss_cons (ps_set (i := 9) sc_Lother.nd rfl (.inr rfl) (pe_lst (pa_cons (pe_cl c_Ltimes hr (by decide) (by rfl) (pa_cons (pv 4) (pa_cons (pe_cl c_Lfr hr (by decide) (by rfl) (pa_cons (pe_ix ix_list (pv 7) pe_int (fun _ _ => rfl)) (pa_cons (pv 8) pa_nil))) pa_nil))) pa_nil)))
      (pss_cons (ps_for PassesOwn.never rfl (pi_range1 (by rfl) T.m_range (pa_cons (pe_callB call_len_seq (by rfl) T.m_len (by decide +kernel) (pa_cons (pv 2) pa_nil)) pa_nil)) (pg_name (i := 6) sc_Lother.nd rfl (.inl rfl))
        (pss_one (ps_expr (pe_bm PySem.F.plainAttrs_list PySem.F.slot_list_append PySem.F.type_list_append mt_append (pv 9) (pa_cons (pe_cl c_Lsum hr (by decide) (by rfl) (pa_cons (pe_cl c_Lsum hr (by decide) (by rfl) (pa_cons (pe_ix ix_list (pv 9) (pv 6) (fun _ _ => rfl)) (pa_cons (pe_ix ix_list (pv 2) (pv 6) (fun _ _ => rfl)) pa_nil))) (pa_cons (pe_cl c_Ltimes hr (by decide) (by rfl) (pa_cons (pv 4) (pa_cons (pe_cl c_Lfr hr (by decide) (by rfl) (pa_cons (pe_ix ix_list (pv 7) (pe_op op_add (pv 6) pe_int) (fun _ _ => rfl)) (pa_cons (pv 8) pa_nil))) pa_nil))) pa_nil))) pa_nil)))))
      (Evl.pss_cut (ps_if (pt_cmpR op_eq (pe_cl c_Ltake hr (by decide) (by rfl) (pa_cons (pv 0) (pa_cons pe_int pa_nil))) pe_int (nomark _))
        (pss_cons (ps_set (i := 10) sc_Lother.nd rfl (.inr rfl) (pe_tup (pa_cons pe_int (pa_cons (pe_op op_add pe_int (pe_cl c_Ltake hr (by decide) (by rfl) (pa_cons (pv 0) (pa_cons pe_int pa_nil)))) pa_nil))))
      (pss_one (ps_set (i := 9) sc_Lother.nd rfl (.inr rfl) (pe_lc (own := [("_law_k", 6)]) (g := (gName 6)) (tt := tYes) (by rfl) sc_Lother.nd (pi_range1 (by rfl) T.m_range (pa_cons (pe_callB call_len_seq (by rfl) T.m_len (by decide +kernel) (pa_cons (pv 9) pa_nil)) pa_nil)) (blkOk_by (N := ["_law_box", "_law_told", "_law_gaps", "_law_end_here", "_law_left", "_law_one", "_law_k", "_law_shares", "_law_whole", "_law_times_here", "_law_half"]) (sc := defScope s_Lother) (by decide +kernel)) (fun _ _ _ _ _ => (pg_name (i := 6) sc_Lother.nd rfl (Or.inl rfl))) (fun _ _ _ _ _ => pts_nil) (fun _ _ _ _ _ => (pe_cl c_Lsum hr (by decide) (by rfl) (pa_cons (pe_ix (ix_listK (K := K) rfl) (pv 1) (pv 6) (fun _ _ => rfl)) (pa_cons (pe_cl c_Ltimes hr (by decide) (by rfl) (pa_cons (pv 10) (pa_cons (pe_cl c_Lminus hr (by decide) (by rfl) (pa_cons (pe_ix (ix_listK (K := K) rfl) (pv 9) (pv 6) (fun _ _ => rfl)) (pa_cons (pe_ix (ix_listK (K := K) rfl) (pv 1) (pv 6) (fun _ _ => rfl)) pa_nil))) pa_nil))) pa_nil))))))))
        pss_nil)
      (pss_one (ps_ret (pv 9)))))))))), ?_⟩
    have hpgH := hid_same.seq hpg
    -- left
    have lb : ∀ i, i ≤ G.length → Bd DD 20000 (Ee - (G.take i).sum) := fun i hi => by
      have := (sum_bd oi.g i hi).1
      have := oi.gl
      exact (oi.e.sub (Bd.dvd (sum_bd oi.g i hi).1 l30dd)).mono (by omega)
    refine ⟨_, rfl, _, rfl, pg, rfl, ⟨_, hpgH⟩, for_list (K := K) (a := pg) (xs := zg) (fun i σ H' => ∃ (vl : V) (c5 : Option V), σ = [some (.ref b), some (.ref pt), some (.ref pg), some v, some vl, c5, none, none, none, none, none] ∧ Same H H' ∧ Dp K H' vl (dF (Ee - (G.take i).sum))) ⟨v, none, rfl, Same.refl _, ?_⟩ (fun i σ H' _ h => ?_) (fun i y σ H' hy h => ?_) (fun σ H1 h => ?_)⟩
    · have e : Ee - (G.take 0).sum = Ee := by
        show Ee - 0 = Ee
        grind
      rw [e]
      exact dv
    · obtain ⟨vl, c5, rfl, s1, dl⟩ := h
      exact s1.seq hpgH
    · obtain ⟨vl, c5, rfl, s1, dl⟩ := h
      obtain ⟨x, hx, dx⟩ := dpa_map dg hy
      have il : i < G.length := (List.getElem?_eq_some_iff.mp hx).1
      have bx := oi.g x (List.mem_of_getElem? hx)
      refine ⟨_, rfl, _, rfl, _, _, _, x, 150, 150, rfl, dl, dp_mono s1 _ _ dx, (lb i (by omega)).sz ddp ddb (by decide), bx.1.sz l30p l30b (by decide), by decide, trivial, fun H9 v9 s9 d9 => ?_⟩
      have e : Ee - (G.take (i + 1)).sum = Ee - (G.take i).sum - x := by
        rw [sum_more hx]
        grind
      exact ⟨v9, _, rfl, s1.trans s9, by rw [e]; exact d9⟩
    obtain ⟨vl, c5, rfl, s1, dl⟩ := h
    have lbl := lb G.length (Nat.le_refl _)
    rw [lzg] at dl
    rw [List.take_length] at dl lbl
    have B1 := B.mono s1
    have hpt1 := Same.seq (Same.hid (b := b) (l := l) s1) hpt
    have hpg1 := Same.seq (Same.hid (b := b) (l := l) s1) hpg
    have dt1 := dpa_mono s1 _ _ dt
    have dg1 := dpa_mono s1 _ _ dg
    -- shares
    refine ⟨_, rfl, pg, zg, rfl, .inl (hid_same.seq hpg1), _, _, rfl, rfl, _, rfl, by omega, by omega, fun Ds nDs => ?_⟩
    have sD := Same.new (o := .lst []) nDs
    refine lc_range (lo := 0) (n := ((zg.length : Int) + 2).toNat) (fun j H' => Same (hid b l H1) (hid b l H') ∧ Bx H' b l ∧ ∃ ss : List Int, hid b l H' Ds = some (.lst (ss.map V.int)) ∧ ss.length = j ∧ ∀ x ∈ ss, 0 ≤ x ∧ x ≤ 4) ⟨Same.hid sD, B1.mono sD, [], hid_at B1 nDs, rfl, fun y hy => by cases hy⟩ (fun j H' hj h => ?_) (fun H2 h => ?_)
    · obtain ⟨s8, B8, ss, hz, lw, ow⟩ := h
      refine ⟨rfl, _, rfl, b, l, _, rfl, B8, by decide, by decide, fun H9 r9 s9 B9 a9 b9 => ?_⟩
      refine ⟨_, rfl, b, l, _, rfl, B9, by decide, by decide, fun Ha ra sa Ba aa ba => ?_⟩
      have hza := sa _ _ (s9 _ _ hz)
      refine ⟨_, _, rfl, rfl, wide_mul (a := 4) (b := 4) (by omega) (by omega) (by decide) (by decide) (by decide), _, hid_same _ _ hza, le1000 (by rw [List.length_map]; have := oi.gl; omega), ?_⟩
      have pr : 0 ≤ r9 * ra ∧ r9 * ra ≤ 4 := by
        rcases (show ra = 0 ∨ ra = 1 by omega) with e | e <;> rw [e] <;> omega
      refine ⟨(hid_upd hza).2 H1 (fun a x _ ha => sa _ _ (s9 _ _ (s8 _ _ ha))) nDs, bx_upd Ba hza, ss ++ [r9 * ra], ?_, by rw [List.length_append, lw]; rfl, mem_snoc ow pr⟩
      rw [List.map_append]
      exact (hid_upd hza).1
    obtain ⟨s2, B2, ss, hDs, lss, oss⟩ := h
    have lss : ss.length = G.length + 2 := by omega
    have dl2 := frac_keep dl B1 s2
    have hpt2 := s2.seq hpt1
    have hpg2 := s2.seq hpg1
    have dt2 := keepDA (tupA_dF _) B1 s2 dt1
    have dg2 := keepDA (tupA_dF _) B1 s2 dg1
    have s02 := (Same.hid (b := b) (l := l) s1).trans s2
    have hS2 : SqL K H2 Ds (ss.map V.int) := .inl (.inl (hid_same _ _ hDs))
    clear sD s1 s2 dl hpt1 hpg1 dt1 dg1 B1 hpgH
    -- whole
    refine ⟨_, rfl, Ds, ss, rfl, hS2, _, _, rfl, ?_⟩
    rw [max_if]
    have sm := sumI_le oss
    have wb : ss.sum ≤ max 1 ss.sum ∧ 0 < max 1 ss.sum ∧ max 1 ss.sum ≤ 164 := by
      have := oi.gl
      omega
    obtain ⟨wb1, wb2, wb3⟩ := wb
    generalize max 1 ss.sum = wh at wb1 wb2 wb3 ⊢
    -- the first one
    obtain ⟨s0, hs0⟩ : ∃ s0, ss[0]? = some s0 := ⟨_, List.getElem?_eq_getElem (by omega)⟩
    have os0 := oss s0 (List.mem_of_getElem? hs0)
    have DW : DD * wh.natAbs < 2 ^ 100 := Nat.lt_of_le_of_lt (Nat.mul_le_mul_left DD (show wh.natAbs ≤ 164 by omega)) (by decide)
    have DW0 : 0 < DD * wh.natAbs := Nat.mul_pos ddp (by omega)
    have zf : ∀ s : Int, 0 ≤ s → s ≤ 4 → Sz 150 (Rat.divInt s wh) := fun s h1 h2 => sz_divInt (Nat.lt_of_lt_of_le (show s.natAbs < 2 ^ 8 by omega) (by decide)) (Nat.lt_of_lt_of_le (show wh.natAbs < 2 ^ 8 by omega) (by decide)) (by omega)
    refine ⟨_, rfl, _, rfl, Ds, _, _, _, rfl, rfl, hS2, atI_nat (j := 0) (by rw [List.getElem?_map, hs0]; rfl), _, rfl, _, _, rfl, by omega, p20 (by omega), fun H3 v3 s3 d3 => ?_⟩
    refine ⟨_, _, _, _, 150, 150, rfl, dp_mono s3 _ _ dl2, d3, lbl.sz ddp ddb (by decide), zf _ os0.1 os0.2, by decide, trivial, fun H4 v4 s4 d4 => ?_⟩
    have d4 : Dp K H4 v4 (dF ((Ee - G.sum) * Rat.divInt s0 wh)) := d4
    refine ⟨(show 1 ≤ sizeLine by decide), fun pm npm => ?_⟩
    have s5 := Same.new (o := .lst [v4]) npm
    have s24 := s3.trans s4
    have hS4 := s24.seq hS2
    have hpt4 := Same.seq (Same.hid (b := b) (l := l) s24) hpt2
    have hpg4 := Same.seq (Same.hid (b := b) (l := l) s24) hpg2
    have dt4 := dpa_mono s24 _ _ dt2
    have dg4 := dpa_mono s24 _ _ dg2
    have dl4 := dp_mono s24 _ _ dl2
    have B4 := B2.mono s24
    have s04 := s02.trans (Same.hid (b := b) (l := l) s24)
    have npmH : H pm = none := by
      cases e : H pm with
      | none => rfl
      | some o =>
        have h1 : hid b l H pm = some o := by
          unfold hid
          rw [if_neg]
          · exact e
          · obtain ⟨xs, st, k1, k2⟩ := B4.ex
            rintro (z | z)
            · rw [z, k1] at npm
              cases npm
            · rw [z, k2] at npm
              cases npm
        have := hid_same _ _ (s04 _ _ h1)
        rw [npm] at this
        cases this
    have so0 := OthSo.start (G := G) (E := Ee) hs0 oi.left os0.1 wb2
    have bd0 : ∀ t ∈ [(Ee - G.sum) * Rat.divInt s0 wh], Bd (DD * wh.natAbs) 10000 t := fun t ht => by
      obtain ⟨x, hx, _, bx, _⟩ := so0.bd oi oss wb1 wb2 (Nat.zero_le _)
      rw [List.mem_singleton.mp ht, show (Ee - G.sum) * Rat.divInt s0 wh = x from Option.some.inj hx]
      exact bx
    refine ⟨_, rfl, pg, zg, rfl, .inl (s5.seq (hid_same.seq hpg4)), _, rfl, by omega, by omega, for_range (lo := 0) (n := ((zg.length : Nat) : Int).toNat) (fun i σ H' => ∃ (c6 : Option V) (zs : List V) (ts : List Rat), σ = [some (.ref b), some (.ref pt), some (.ref pg), some v, some vl, c5, c6, some (.ref Ds), some (.int wh), some (.ref pm), none] ∧ Same H4 (R.hid pm pm H') ∧ H' pm = some (.lst zs) ∧ DpAll K (R.hid pm pm H') zs (ts.map dF) ∧ OthSo Ee G ss wh i ts ∧ ∀ t ∈ ts, Bd (DD * wh.natAbs) 10000 t) ⟨none, [v4], [(Ee - G.sum) * Rat.divInt s0 wh], rfl, hid_old s5 npm, upd_same, .cons (dp_mono (hid_old s5 npm) _ _ d4) .nil, so0, bd0⟩ (fun i σ H' hi h => ?_) (fun σ H6 h => ?_)⟩
    · obtain ⟨c6, zs, ts, rfl, sx, hx, dx, so, bd⟩ := h
      have iG : i < G.length := by omega
      have ei : (0 : Int) + (i : Int) = ((i : Nat) : Int) := Int.zero_add _
      have ei1 : (0 : Int) + (i : Int) + 1 = ((i + 1 : Nat) : Int) := by omega
      obtain ⟨x, hxi, ex, bx, _, _⟩ := so.bd oi oss wb1 wb2 (by omega)
      obtain ⟨g, hgi⟩ : ∃ g, G[i]? = some g := ⟨_, List.getElem?_eq_getElem iG⟩
      obtain ⟨s, hsi⟩ : ∃ s, ss[i + 1]? = some s := ⟨_, List.getElem?_eq_getElem (by omega)⟩
      have os := oss s (List.mem_of_getElem? hsi)
      have bg := oi.g g (List.mem_of_getElem? hgi)
      obtain ⟨vx, hvx, dvx⟩ := dpa_get dx hxi
      obtain ⟨vg, hvg, dvg⟩ := dpa_get dg4 hgi
      have sx' := sx.trans hid_same
      have so' := so.more oi wb2 hsi os.1 hgi
      rw [← ex] at so'
      refine ⟨_, rfl, .inl ⟨rfl, _, .inl (.inl hx)⟩, ?_⟩
      refine ⟨_, rfl, _, rfl, pm, _, _, vx, rfl, rfl, .inl (.inl hx), by rw [ei]; exact atI_nat hvx, ?_⟩
      refine ⟨_, rfl, _, rfl, pg, _, _, vg, rfl, rfl, sx'.seq (hid_same.seq hpg4), by rw [ei]; exact atI_nat hvg, ?_⟩
      refine ⟨_, _, x, g, 150, 150, rfl, dp_mono hid_same _ _ dvx, dp_mono sx' _ _ dvg, bx.sz DW0 DW (by decide), bg.1.sz l30p l30b (by decide), by decide, trivial, fun Ha va sa da => ?_⟩
      have da : Dp K Ha va (dF (x + g)) := da
      refine ⟨_, rfl, _, rfl, _, rfl, _, _, rfl, rfl, Ds, _, _, _, rfl, rfl, (sx'.trans sa).seq hS4, by rw [ei1]; exact atI_nat (by rw [List.getElem?_map, hsi]; rfl), _, rfl, _, _, rfl, by omega, p20 (by omega), fun Hb vb sb db => ?_⟩
      have sab := sa.trans sb
      refine ⟨_, _, _, _, 150, 150, rfl, dp_mono (sx'.trans sab) _ _ dl4, db, lbl.sz ddp ddb (by decide), zf _ os.1 os.2, by decide, trivial, fun Hc vc sc dc => ?_⟩
      have dc : Dp K Hc vc (dF ((Ee - G.sum) * Rat.divInt s wh)) := dc
      have sbc := sb.trans sc
      obtain ⟨y, hy, ey, by', _, _⟩ := so'.bd oi oss wb1 wb2 (by omega)
      have ey2 : x + g + (Ee - G.sum) * Rat.divInt s wh = y := by
        rw [List.getElem?_append_right (by rw [so.len]; exact Nat.le_refl _), so.len, Nat.sub_self] at hy
        exact Option.some.inj hy
      have b2 : Bd (DD * wh.natAbs) 30000 ((Ee - G.sum) * Rat.divInt s wh) := by
        have e : (Ee - G.sum) * Rat.divInt s wh = y - (x + g) := by rw [← ey2]; grind
        rw [e]
        exact (by'.sub (bx.add ((bg.1.dvd l30dd).dvd (Nat.dvd_mul_right _ _)))).mono (by decide)
      have b1 := bx.add ((bg.1.dvd l30dd).dvd (Nat.dvd_mul_right DD wh.natAbs))
      refine ⟨_, _, _, _, 150, 150, rfl, dp_mono sbc _ _ da, dc, b1.sz DW0 DW (by decide), b2.sz DW0 DW (by decide), by decide, trivial, fun Hd vd sd dd => ?_⟩
      have dd : Dp K Hd vd (dF (x + g + (Ee - G.sum) * Rat.divInt s wh)) := dd
      have sad := (sa.trans sbc).trans sd
      have hd := sad _ _ hx
      have lz : zs.length = i + 1 := by rw [dpa_len dx, List.length_map, so.len]
      refine ⟨pm, zs, vd, rfl, rfl, hd, small1000 (by omega), ?_⟩
      refine ⟨_, zs ++ [vd], ts ++ [x + g + (Ee - G.sum) * Rat.divInt s wh], rfl, by rw [hid_b]; exact sx.trans (Same.hid sad), upd_same, ?_, so', ?_⟩
      · rw [hid_b, List.map_append]
        exact dpa_snoc (dpa_mono (Same.hid sad) _ _ dx) (dp_hid ⟨_, hd⟩ ⟨_, hd⟩ _ _ rfl dd)
      · exact mem_snoc bd (by rw [ey2]; exact by')
    obtain ⟨c6, zs, ts, rfl, sx, hx, dx, so, bd⟩ := h
    rw [show ((zg.length : Nat) : Int).toNat = G.length by omega] at so
    have kp := so.keep oi oss wb1 wb2
    have lts := so.len
    have lzs : zs.length = G.length + 1 := by rw [dpa_len dx, List.length_map, lts]
    have dx6 := dpa_mono hid_same _ _ dx
    have s46 : Same H4 H6 := sx.trans hid_same
    have B6 := B4.mono s46
    have hpt6 := Same.seq (Same.hid (b := b) (l := l) s46) hpt4
    have dt6 := dpa_mono s46 _ _ dt4
    have hx6 : hid b l H6 pm = some (.lst zs) := hid_new B4 npm hx
    have s06 := s04.trans (Same.hid (b := b) (l := l) s46)
    clear so sx s46 s04 hS4 hpg4 dg4 dl4 hpt4 dt4 s24 s5 d4 d3 s3 s4 hS2 hpt2 hpg2 dt2 dg2 dl2 s02 B2 bd0 so0 dx
    -- nearer to what is told
    refine ⟨fun σ' H' => ∃ (pm : Addr) (zs : List V) (ts : List Rat) (D : Nat) (c10 : Option V), σ' = [some (.ref b), some (.ref pt), some (.ref pg), some v, some vl, c5, c6, some (.ref Ds), some (.int wh), some (.ref pm), c10] ∧ Same (hid b l H) (hid b l H') ∧ Bx H' b l ∧ H pm = none ∧ hid b l H' pm = some (.lst zs) ∧ DpAll K H' zs (ts.map dF) ∧ OthOk Ee G ts D, ?_, fun σ' H7 hM => ?_⟩
    · refine ⟨_, rfl, _, l, _, rfl, B6, by decide, by decide, fun H7 r7 s7 B7 a7 b7 => ?_⟩
      have dx7 := keepDA (tupA_dF _) B6 s7 dx6
      have hx7 := s7 _ _ hx6
      have s07 := s06.trans s7
      refine ⟨rfl, _, rfl, ite2 (fun z => ?_) (fun z => ?_)⟩
      · refine ⟨_, rfl, _, l, _, rfl, B7, by decide, by decide, fun H8 r8 s8 B8 a8 b8 => ?_⟩
        refine ⟨_, _, rfl, rfl, (show 2 ≤ sizeLine by decide), fun ph nph => ?_⟩
        obtain ⟨n, en, n0, n20⟩ : ∃ n : Nat, 1 + r8 = (n : Int) ∧ n ≠ 0 ∧ n ≤ 20 := ⟨(1 + r8).toNat, by omega, by omega, by omega⟩
        change gName 10 (V.ref ph) _ (upd H8 ph (.tup [V.int 1, V.int (1 + r8)])) _
        rw [en]
        have s9 := Same.new (o := .tup [.int 1, .int (n : Int)]) nph
        have d9 : Dp K (upd H8 ph (.tup [.int 1, .int (n : Int)])) (.ref ph) (dF (halfR n n0)) := dF_mk (.inl (.inl upd_same))
        generalize upd H8 ph (.tup [.int 1, .int (n : Int)]) = H9 at s9 d9 ⊢
        obtain ⟨hz, h0, h1⟩ := half_bd n0
        have hs := half_sz n0 n20
        generalize halfR n n0 = hq at d9 hz h0 h1 hs
        have s79 := s8.trans (Same.hid (b := b) (l := l) s9)
        have B9 := B8.mono s9
        have hx9 := s79 _ _ hx7
        have dx9 := keepDA (tupA_dF _) B7 s79 dx7
        have hpt9 := Same.seq (s7.trans s79) hpt6
        have dt9 := keepDA (tupA_dF _) B6 (s7.trans s79) dt6
        have qm : SqL K H9 pm zs := .inl (.inl (hid_same _ _ hx9))
        have qp : SqL K H9 pt yt := hid_same.seq hpt9
        have lT : Tt.length = G.length + 1 := by rw [← lyt, dpa_len dt9, List.length_map]
        have D2 : DD * wh.natAbs * n < 2 ^ 100 := Nat.lt_of_le_of_lt (Nat.mul_le_mul (Nat.mul_le_mul_left DD (show wh.natAbs ≤ 164 by omega)) n20) (by decide)
        have D20 : 0 < DD * wh.natAbs * n := Nat.mul_pos DW0 (by omega)
        refine ⟨_, rfl, pm, zs, rfl, .inl qm, _, rfl, by omega, by omega, fun Dn nDn => ?_⟩
        have sN := Same.new (o := .lst []) nDn
        have mat : ∀ k a t, Tt[k]? = some a → ts[k]? = some t → (mixR hq Tt ts)[k]? = some (a + hq * (t - a)) := fun k a t h1 h2 => by
          unfold mixR
          rw [List.getElem?_zipWith, h1, h2]
        have mbd : ∀ x ∈ mixR hq Tt ts, Bd (DD * wh.natAbs * n) 10000 x := fun x hx => by
          obtain ⟨k, hk⟩ := List.getElem?_of_mem hx
          cases e1 : Tt[k]? with
          | none =>
            unfold mixR at hk
            rw [List.getElem?_zipWith, e1] at hk
            cases hk
          | some a =>
            cases e2 : ts[k]? with
            | none =>
              unfold mixR at hk
              rw [List.getElem?_zipWith, e1, e2] at hk
              cases hk
            | some t =>
              rw [mat k a t e1 e2] at hk
              obtain rfl := Option.some.inj hk
              exact mix_bd (E := Ee) hz h0 h1 ((oi.t a (List.mem_of_getElem? e1)).dvd (Nat.dvd_mul_right _ _)) (bd t (List.mem_of_getElem? e2))
        refine lc_range (lo := 0) (n := ((zs.length : Nat) : Int).toNat) (fun j H' => ∃ acc, H' Dn = some (.lst acc) ∧ Same H9 (R.hid Dn Dn H') ∧ DpAll K (R.hid Dn Dn H') acc (((mixR hq Tt ts).take j).map dF)) ⟨[], upd_same, hid_old sN nDn, .nil⟩ (fun j H' hj h => ?_) (fun Ha h => ?_)
        · obtain ⟨acc, hd, sx, da⟩ := h
          have jl : j < G.length + 1 := by omega
          have ej : (0 : Int) + (j : Int) = ((j : Nat) : Int) := Int.zero_add _
          obtain ⟨a, ha⟩ : ∃ a, Tt[j]? = some a := ⟨_, List.getElem?_eq_getElem (by omega)⟩
          obtain ⟨t, ht⟩ : ∃ t, ts[j]? = some t := ⟨_, List.getElem?_eq_getElem (by omega)⟩
          obtain ⟨va, hva, dva⟩ := dpa_get dt9 ha
          obtain ⟨vt, hvt, dvt⟩ := dpa_get dx9 ht
          have sx' := sx.trans hid_same
          have ba := (oi.t a (List.mem_of_getElem? ha)).dvd (Nat.dvd_mul_right DD wh.natAbs)
          have bt := bd t (List.mem_of_getElem? ht)
          have mj := mat j a t ha ht
          have bm := mbd _ (List.mem_of_getElem? mj)
          refine ⟨rfl, _, rfl, _, rfl, pt, _, _, va, rfl, rfl, sx'.seq qp, by rw [ej]; exact atI_nat hva, _, rfl, ?_⟩
          refine ⟨_, rfl, _, rfl, pm, _, _, vt, rfl, rfl, sx'.seq qm, by rw [ej]; exact atI_nat hvt, _, rfl, _, rfl, pt, _, _, va, rfl, rfl, sx'.seq qp, by rw [ej]; exact atI_nat hva, ?_⟩
          refine ⟨_, _, t, a, 150, 150, rfl, dp_mono sx' _ _ dvt, dp_mono sx' _ _ dva, bt.sz DW0 DW (by decide), ba.sz DW0 DW (by decide), by decide, trivial, fun Hb vb sb db => ?_⟩
          have db : Dp K Hb vb (dF (t - a)) := db
          refine ⟨_, _, hq, t - a, 150, 150, rfl, dp_mono (sx'.trans sb) _ _ d9, db, hs, (bt.sub ba).sz DW0 DW (by decide), by decide, trivial, fun Hc vc sc dc => ?_⟩
          have dc : Dp K Hc vc (dF (hq * (t - a))) := dc
          have b3 : Bd (DD * wh.natAbs * n) 20000 (hq * (t - a)) := by
            have e : hq * (t - a) = a + hq * (t - a) - a := by grind
            rw [e]
            exact (bm.sub (ba.dvd (Nat.dvd_mul_right _ _))).mono (by decide)
          have sbc := sb.trans sc
          refine ⟨_, _, a, _, 150, 150, rfl, dp_mono (sx'.trans sbc) _ _ dva, dc, ba.sz DW0 DW (by decide), b3.sz D20 D2 (by decide), by decide, trivial, fun Hd vd sd dd => ?_⟩
          have dd : Dp K Hd vd (dF (a + hq * (t - a))) := dd
          have sbd := sbc.trans sd
          have hdd := sbd _ _ hd
          refine ⟨acc, hdd, small1000 ?_, _, upd_same, by rw [hid_b]; exact sx.trans (Same.hid sbd), ?_⟩
          · rw [dpa_len da, List.length_map, List.length_take]
            omega
          · rw [hid_b, take_more mj, List.map_append]
            exact dpa_snoc (dpa_mono (Same.hid sbd) _ _ da) (dp_hid ⟨_, hdd⟩ ⟨_, hdd⟩ _ _ rfl dd)
        obtain ⟨acc, hd, sx, da⟩ := h
        have lm : (mixR hq Tt ts).length = G.length + 1 := by
          unfold mixR
          rw [List.length_zipWith]
          omega
        rw [show ((zs.length : Nat) : Int).toNat = (mixR hq Tt ts).length by omega, List.take_length] at da
        have s9a := sx.trans hid_same
        have s0a := (s07.trans s79).trans (Same.hid (b := b) (l := l) s9a)
        have nDnH : H Dn = none := by
          cases e : H Dn with
          | none => rfl
          | some o =>
            have h1 : hid b l H Dn = some o := by
              unfold hid
              rw [if_neg]
              · exact e
              · obtain ⟨xs, st, k1, k2⟩ := B9.ex
                rintro (z | z)
                · rw [z, k1] at nDn
                  cases nDn
                · rw [z, k2] at nDn
                  cases nDn
            have := hid_same _ _ ((s07.trans s79) _ _ h1)
            rw [nDn] at this
            cases this
        have km := keep_mix h0 h1 oi.keep kp
        have e0 : (0 : Rat) + hq * (0 - 0) = 0 := by grind
        rw [e0] at km
        exact ⟨Dn, acc, mixR hq Tt ts, DD * wh.natAbs * n, _, rfl, s0a, B9.mono s9a, nDnH, hid_new B9 nDn hd, dpa_mono hid_same _ _ da, ⟨km, mbd, Nat.dvd_trans (Nat.dvd_mul_right _ _) (Nat.dvd_mul_right _ _), D20, D2⟩⟩
      · exact ⟨pm, zs, ts, DD * wh.natAbs, none, rfl, s07, B7, npmH, hx7, dx7, ⟨kp, bd, Nat.dvd_mul_right _ _, DW0, DW⟩⟩
    · obtain ⟨pm, zs, ts, D, c10, rfl, s7, B7, n7, h7, d7, ok7⟩ := hM
      exact ⟨_, rfl, q _ pm zs ts D s7 B7 n7 h7 d7 ok7⟩
theorem movC_nil (ru : Rul) (E : Rat) : movC ru [] E = 0 := by
  unfold movC
  refine qB_eq MvOk.b0 (B := botR ru [] E) ?_
  rw [qB_mul MvOk.b0]
  show ((0 : Int) : Rat) = _
  grind
theorem MvAt.mono {H0 H H' : Hp} {z : V} {ts : List Rat} {c : Rat} {ps : List Int} (h : MvAt K H0 H z ts c ps) (s : Same H H') : MvAt K H0 H' z ts c ps := by
  obtain ⟨a, p1, p2, vc, zs, e, h1, h2, h3, h4, h5, h6, h7⟩ := h
  exact ⟨a, p1, p2, vc, zs, e, Same.tup s h1, h2, h3, s _ _ h4, dpa_mono s _ _ h5, dp_mono s _ _ h6, s _ _ h7⟩
theorem MvAt.dp {H0 H : Hp} {z : V} {ts : List Rat} {c : Rat} {ps : List Int} (h : MvAt K H0 H z ts c ps) : Dp K H z (dMv (prsOf ts, c, ps)) := by
  obtain ⟨a, p1, p2, vc, zs, rfl, h1, h2, h3, h4, h5, h6, h7⟩ := h
  exact .tup h1 (.cons (.lst (.inl (.inl h4)) h5) (.cons h6 (.cons (.lst (.inl (.inl h7)) (ints_dpa ps)) .nil)))
theorem shaped_dMv (x : List (Rat × Rat) × Rat × List Int) : SeqAt.shaped (dMv x) = true := by
  unfold SeqAt.shaped
  have h1 : PyData.canLay0 (dMv x) = true := by
    show (PyData.canLayAll0 (x.1.map dFF) && (true && (PyData.canLayAll0 (x.2.2.map PyData.int) && true))) = true
    rw [lay_dFFs, lay_ints]
    rfl
  have h2 : (dMv x).depth ≤ 64 := by
    have k1 := dep_dFFs x.1
    have k2 := depth_ints x.2.2
    show max (PyData.depthAll (x.1.map dFF) + 1) (max 1 (max (PyData.depthAll (x.2.2.map PyData.int) + 1) 0)) + 1 ≤ 64
    omega
  rw [h1, decide_eq_true h2]
  rfl
theorem extN_hid {b l : Addr} {H H' : Hp} (x : LamX.ExtN H H') : LamX.ExtN (hid b l H) (hid b l H') := fun a o h n => by
  unfold hid at h ⊢
  split at h
  · cases h
  · rename_i k
    rw [if_neg k]
    exact x a o h n
def spLaw (K : PySem.W.Frag) (P0 P1 : Addr) : Sp := fun vs H Q _ => ∃ (a : Addr) (ns : List Int), vs = [.ref a] ∧ SqL K H a (ns.map V.int) ∧ ns.length ≤ 63 ∧ Ts P0 P1 H ∧ ∀ H', Q (.bl true) H'
theorem ok_law {f : Addr} {fd : FuncData} (F : Fun K "law" "law" s_law f fd) (T : Txt K mg) {c0 c1 P0 P1 : Addr} (D0 : Dfc K mg "distances" s_distances ["rows", "rule"] c0) (TB0 : GxR.TabB base mg c0 P0) (D1 : Dfc K mg "middle" s_middle ["together"] c1) (TB1 : GxR.TabB base mg c1 P1) : FnOk P w K mg base CX0 7 f fd ["_law_script"] (spLaw K P0 P1) := by
  have c_Lbegun := cl_Lbegun (P := P) (w := w) (base := base) T
  have c_Lrows := cl_Lrows (P := P) (w := w) (base := base) T
  have c_Lrule := cl_Lrule (P := P) (w := w) (base := base) T
  have c_Lfar := cl_Lfar (P := P) (w := w) (base := base) T
  have c_Lend := cl_Lend (P := P) (w := w) (base := base) T
  have c_Lwanted := cl_Lwanted (P := P) (w := w) (base := base) T
  have c_Lcost := cl_Lcost (P := P) (w := w) (base := base) T
  have c_Lother := cl_Lother (P := P) (w := w) (base := base) T
  have c_Lsum := cl_Lsum (P := P) (w := w) (base := base) T
  have c_Lminus := cl_Lminus (P := P) (w := w) (base := base) T
  have c_Llow := cl_Llow (P := P) (w := w) (base := base) T
  have c_Lfr := cl_Lfr (P := P) (w := w) (base := base) T
  have c_Lmoved := cl_Lmoved (P := P) (w := w) (base := base) T D0 TB0 D1 TB1
  refine F.ok sc_law (fun vs H Q E h => ?_) (fun cdv A outer s H vs Q E hr h => ?_)
  · obtain ⟨a, ns, rfl, _⟩ := h
    rfl
  · obtain ⟨a, ns, rfl, hS, hlen, ts, q⟩ := h
    refine ⟨_, (pss_cons (ps_set (i := 1) sc_law.nd rfl (.inl rfl) (pe_cl c_Lbegun hr (by decide) (by rfl) (pa_cons (pv 0) pa_nil)))
      (pss_cons (ps_set (i := 2) sc_law.nd rfl (.inl rfl) (pe_cl c_Lrows hr (by decide) (by rfl) (pa_cons (pv 1) pa_nil)))
      (pss_cons (ps_set (i := 3) sc_law.nd rfl (.inl rfl) (pe_cl c_Lrule hr (by decide) (by rfl) (pa_cons (pv 1) pa_nil)))
      (pss_cons (ps_set (i := 4) sc_law.nd rfl (.inl rfl) (pe_cl c_Lfar hr (by decide) (by rfl) (pa_cons (pv 2) (pa_cons (pv 3) pa_nil))))
      (pss_cons (ps_set (i := 5) sc_law.nd rfl (.inl rfl) (pe_cl c_Lend hr (by decide) (by rfl) (pa_cons (pv 1) (pa_cons (pv 4) pa_nil))))
      (pss_cons (ps_set (i := 6) sc_law.nd rfl (.inl rfl) (pe_cl c_Lmoved hr (by decide) (by rfl) (pa_cons (pv 2) (pa_cons (pv 3) (pa_cons (pv 5) pa_nil)))))
      (pss_cons (ps_if (PW.pt (pw_or (pt_cmpR (op_eqD hr.units) (pv 2) (pe_lst pa_nil) (nomark _)) (pw_or1 (pt_cmpR (op_eqD hr.units) (pv 6) (pe_tup (pa_cons pe_str (pa_cons pe_bl pa_nil))) (nomark _)))))
        (pss_one (ps_ret pe_bl))
        pss_nil)
      (pss_cons (ps_set (i := 7) sc_law.nd rfl (.inl rfl) (pe_cl c_Lwanted hr (by decide) (by rfl) (pa_cons (pv 2) pa_nil)))
      (pss_cons (ps_for PassesOwn.never rfl (pi_range1 (by rfl) T.m_range (pa_cons pe_int pa_nil)) (pg_name (i := 8) sc_law.nd rfl (.inl rfl))
        (pss_cons (ps_set (i := 9) sc_law.nd rfl (.inl rfl) (pe_cl c_Lother hr (by decide) (by rfl) (pa_cons (pv 1) (pa_cons (pe_cl c_Lwanted hr (by decide) (by rfl) (pa_cons (pe_ix ix_tup (pv 6) pe_int (fun _ _ => rfl)) pa_nil)) (pa_cons (pv 4) (pa_cons (pv 5) pa_nil))))))
      (pss_one (ps_if (pt_val (pe_cl c_Llow hr (by decide) (by rfl) (pa_cons (pe_cl c_Lcost hr (by decide) (by rfl) (pa_cons (pv 7) (pa_cons (pv 9) (pa_cons (pv 3) pa_nil)))) (pa_cons (pe_ix ix_tup (pv 6) pe_int (fun _ _ => rfl)) pa_nil))))
        (pss_one (ps_ret pe_bl))
        pss_nil))))
      (pss_one (ps_ret pe_bl))))))))))), ?_⟩
    refine ⟨_, rfl, a, ns, rfl, hS, fun H1 b l s1 nb nl B1 => ?_⟩
    have t1 : Ts P0 P1 H1 := (Tb2.same ts s1).1
    refine ⟨_, rfl, b, l, rfl, B1, fun H2 pr ys rs s2 B2 npr hpr dr okR lnR => ?_⟩
    have t2 := ts_hid t1 B1 s2
    have dr2 := dpa_mono hidL_hid _ _ dr
    refine ⟨_, rfl, b, l, rfl, B2, fun H3 u ru s3 B3 du okU => ?_⟩
    have t3 := ts_hid t2 B2 s3
    have hpr3 := s3 _ _ hpr
    have dr3 := dpa_mono s3 _ _ dr2
    refine ⟨_, rfl, _, rfl, pr, u, ys, rs, ru, rfl, .inl (.inl (hid_same _ _ hpr3)), dpa_mono hid_same _ _ dr3, du, okU, okR, lnR, fun H4 pg zg s4 npg hpg dg => ?_⟩
    have B4 := B3.mono s4
    have t4 : Ts P0 P1 H4 := (Tb2.same t3 s4).1
    have hpg4 : hid b l H4 pg = some (.lst zg) := hid_new B3 npg hpg
    have hpr4 := Same.hid (b := b) (l := l) s4 _ _ hpr3
    have dr4 := dpa_mono (Same.hid (b := b) (l := l) s4) _ _ dr3
    have lf : (farM ru rs).length ≤ 39 := by
      rw [far_len]
      omega
    refine ⟨_, rfl, _, rfl, b, l, pg, zg, farM ru rs, rfl, B4, .inl (.inl hpg), dg, far_bd okU okR, lf, fun H5 v Ee s5 B5 dv zE e0 => ?_⟩
    have t5 := ts_hid t4 B4 s5
    have hR : SqL K (hid b l H5) pr ys := .inl (.inl (s5 _ _ hpr4))
    have dR := dpa_mono s5 _ _ dr4
    have dU := keepD (rfl : tupD (dRu ru) = true) B4 s5 (dp_mono s4 _ _ du)
    have hG : SqL K (hid b l H5) pg zg := .inl (.inl (s5 _ _ hpg4))
    have dG := keepDA (tupA_dF _) B4 s5 dg
    have lyr : ys.length = rs.length := by rw [dpa_len dR, List.length_map]
    have ok := mv_ok okU okR zE lnR
    clear s1 s2 s3 s4 s5 B1 B2 B3 B4 hpr hpr3 hpr4 dr dr2 dr3 dr4 du hpg hpg4 dg npg npr t1 t2 t3 t4 ts hS
    -- found
    refine ⟨_, rfl, _, rfl, _, rfl, pr, u, v, ys, rs, ru, Ee, DD, 150, rfl, hid_same.seq hR, dpa_mono hid_same _ _ dR, dU, dv, ok, t5, fun H7 fv b7 m1 m2 => ?_⟩
    have x7 := b7.ext t5
    have B7 : Bx H7 b l := by
      obtain ⟨xs, st, k1, k2⟩ := B5.ex
      exact ⟨B5.ne, xs, st, x7 _ _ k1 (fun _ z => nomatch z), x7 _ _ k2 (fun _ z => nomatch z)⟩
    have y7 := extN_hid (b := b) (l := l) x7
    have hR7 := extN_seq y7 hR
    have dR7 := dpa_extN y7 _ _ dR
    have hG7 := extN_seq y7 hG
    have dG7 := dpa_extN x7 _ _ dG
    have dU7 := dp_extN x7 _ _ dU
    have dE7 := dp_extN x7 _ _ dv
    have DR7 : Dp K H7 (.ref pr) (dRws rs) := .lst (hid_same.seq hR7) (dpa_mono hid_same _ _ dR7)
    clear y7 hR dR hG dG dU dv t5 b7
    refine ⟨_, rfl, Nat.zero_le _, fun o no => ?_⟩
    have s8 := Same.new (o := .lst []) no
    have h8 : (upd H7 o (.lst [])) o = some (.lst []) := upd_same
    generalize upd H7 o (.lst []) = H8 at s8 h8 ⊢
    refine ⟨dRws rs, .list [], dp_mono s8 _ _ DR7, .lst (.inl (.inl h8)) .nil, shaped_dRws okR, rfl, _, rfl, ?_⟩
    by_cases c : rs = []
    · exact iteY (by rw [c]; rfl) (iteY rfl (q _))
    refine iteN (by cases rs with | nil => exact absurd rfl c | cons _ _ => rfl) ?_
    refine ⟨_, rfl, (show 2 ≤ sizeLine by decide), fun pt npt => ?_⟩
    have s9 := Same.new (o := .tup [.str "tight", .bl true]) npt
    have d9 : Dp K (upd H8 pt (.tup [.str "tight", .bl true])) (.ref pt) dTight := .tup (.inl (.inl upd_same)) (.cons (.str _) (.cons (.bl _) .nil))
    generalize upd H8 pt (.tup [.str "tight", .bl true]) = H9 at s9 d9 ⊢
    have s79 := s8.trans s9
    by_cases z : Ee - (askM ru rs).sum < 0
    · exact ⟨_, _, dp_mono s79 _ _ (m2 c z), d9, by decide +kernel, by decide +kernel, _, rfl, iteY eqv_tight (q _)⟩
    have mv := m1 (.inr z)
    have mv9 := mv.mono s79
    have dMv9 := mv9.dp
    obtain ⟨fa, p1, p2, vc, zs, rfl, hfa, np1, np2, hp1, dzs, dvc, hp2⟩ := mv
    refine ⟨_, _, dMv9, d9, shaped_dMv _, by decide +kernel, _, rfl, iteN rfl ?_⟩
    have h1h : hid b l H7 p1 = some (.lst zs) := by
      obtain ⟨xs, st, k1, k2⟩ := B5.ex
      unfold hid
      rw [if_neg]
      · exact hp1
      · rintro (e | e)
        · rw [e, k1] at np1
          cases np1
        · rw [e, k2] at np1
          cases np1
    have S79 : Same (hid b l H7) (hid b l H9) := Same.hid s79
    have B9 := B7.mono s79
    -- wanted
    refine ⟨_, rfl, pr, ys, rs.map (fun r => (r.1, r.2.1)), rfl, s79.seq (hid_same.seq hR7), rows_pr (dpa_mono (hid_same.trans s79) _ _ dR7), by rw [List.length_map]; omega, fun Ha pw zw sa npw hpw dw => ?_⟩
    rw [flat_rows] at dw
    have hpw' : hid b l Ha pw = some (.lst zw) := hid_new B9 npw hpw
    have Ba := B9.mono sa
    have S7a := S79.trans (Same.hid (b := b) (l := l) sa)
    have lT := movT_len ok z
    have bT := ok.tbd zE z
    have mo := ok.mov z
    have kT : KeepR Ee 0 (movT ru rs Ee) (askM ru rs) := mo.keep
    have wo : worthR Ee (PL 0 (stepsI (msI ru rs Ee) (gsM ru rs.length))) (wishM rs) (askM ru rs) = movC ru rs Ee := mo.worth
    have ri := mo.rise
    have cT : costR (movT ru rs Ee) (wishM rs) (gsM ru rs.length) = movC ru rs Ee := mo.cost
    have lg : (gsM ru rs.length).length = 2 * rs.length := gsM_len _ _
    have bC : Bd DD (360000 * (2 * rs.length)) (movC ru rs Ee) := by
      have := cost_bd (D := DD) (ws := wishM rs) (ts := movT ru rs Ee) (gs := gsM ru rs.length) (m := 2 * rs.length) (fun x hx => (wish_bd okR hx).1.mono (by decide)) (fun x hx => (bT x hx).1.mono (by decide)) (gs_9 okU) (wishM_len rs) lT lg (2 * rs.length) (Nat.le_refl _)
      rw [List.take_of_length_le (by omega), List.take_of_length_le (by rw [wishM_len]; exact Nat.le_refl _), List.take_of_length_le (by omega), cT] at this
      exact this
    rw [ask_far ru c] at kT
    have oi : OthIn Ee (farM ru rs) (movT ru rs Ee) := ⟨far_bd okU okR, lf, kT, fun x hx => (bT x hx).1, zE, by rw [← far_sum]; grind⟩
    have least : ∀ ts D, OthOk Ee (farM ru rs) ts D → movC ru rs Ee ≤ costR ts (wishM rs) (gsM ru rs.length) := fun ts D h => by
      have k := h.keep
      rw [← ask_far ru c] at k
      have lk : ts.length = 2 * rs.length := by rw [keep_len k]; unfold askM; rw [askF_len]
      obtain ⟨r, e⟩ := PL_head (stepsI (msI ru rs Ee) (gsM ru rs.length)) 0
      rw [e] at ri wo
      have := weak (ws := wishM rs) k (by rw [wishM_len, lk]) ri (by rw [lg, lk])
      rw [wo] at this
      grind
    have hfa7 := hid_tup B7 hfa
    have dz7 := dpa_hid B7.lb B7.ll _ _ (tupA_dFF _) dzs
    have dc7 := frac_hid B7 dvc
    have dGh := dpa_hid B7.lb B7.ll _ _ (tupA_dF _) dG7
    have dUh := dp_hid B7.lb B7.ll _ _ (rfl : tupD (dRu ru) = true) dU7
    have dEh := frac_hid B7 dE7
    have dwh := dpa_hid Ba.lb Ba.ll _ _ (tupA_dF _) dw
    refine ⟨6, rfl, by decide, by decide, for_range (lo := 0) (n := 6) (fun i σ H' => ∃ (c8 c9 : Option V), σ = [some (.ref a), some (.ref b), some (.ref pr), some u, some (.ref pg), some v, some (.ref fa), some (.ref pw), c8, c9] ∧ Same (hid b l Ha) (hid b l H') ∧ Bx H' b l) ⟨none, none, rfl, Same.refl _, Ba⟩ (fun i σ H' hi h => ?_) (fun σ H' h => ?_)⟩
    · obtain ⟨c8, c9, rfl, sx, Bx'⟩ := h
      have S7x := S7a.trans sx
      have hfx := Same.tup (S7x.trans hid_same) hfa7
      refine ⟨_, rfl, _, rfl, _, _, _, _, rfl, rfl, hfx, atI_nat (j := 0) rfl, p1, zs, prsOf (movT ru rs Ee), rfl, .inl (.inl (hid_same _ _ (S7x _ _ h1h))), prs_pr (dpa_mono (S7x.trans hid_same) _ _ dz7), by rw [prsOf_len lT]; omega, fun Hb pq zq sb npq hpq dq => ?_⟩
      rw [flat_prs lT] at dq
      have Bb := Bx'.mono sb
      have S7b := S7x.trans (Same.hid (b := b) (l := l) sb)
      refine ⟨_, rfl, _, rfl, b, l, pq, pg, v, zq, zg, movT ru rs Ee, farM ru rs, Ee, rfl, Bb, .inl (.inl (hid_new Bx' npq hpq)), dq, S7b.seq hG7, dpa_mono (S7b.trans hid_same) _ _ dGh, dp_mono (S7b.trans hid_same) _ _ dEh, oi, fun Hc po zo to D sc Bc npo hpo do' oko => ?_⟩
      have sxc := (sx.trans (Same.hid (b := b) (l := l) sb)).trans sc
      have S7c := S7a.trans sxc
      have le := least to D oko
      have kk := oko.keep
      have lo : to.length = 2 * rs.length := by
        have e : (0 :: farM ru rs).length = 2 * rs.length := by
          rw [← ask_far ru c]
          unfold askM
          rw [askF_len]
        rw [keep_len kk, e]
      have bco := cost_bd (D := D) (ws := wishM rs) (ts := to) (gs := gsM ru rs.length) (m := 2 * rs.length) (fun x hx => ((wish_bd okR hx).1.dvd oko.dd).mono (by decide)) (fun x hx => (oko.bd x hx).mono (by decide)) (gs_9 okU) (wishM_len rs) lo lg (2 * rs.length) (Nat.le_refl _)
      rw [List.take_of_length_le (by omega), List.take_of_length_le (by rw [wishM_len]; exact Nat.le_refl _), List.take_of_length_le (by omega)] at bco
      refine ⟨_, rfl, _, rfl, _, rfl, pw, po, u, zw, zo, wishM rs, to, ru, rs.length, D, rfl, .inl (.inl (hid_same _ _ (sxc _ _ hpw'))), dpa_mono (sxc.trans hid_same) _ _ dwh, .inl (.inl (hid_same _ _ hpo)), do', dp_mono (S7c.trans hid_same) _ _ dUh, wishM_len rs, lo, lnR, oko.d0, oko.d1, fun x hx => ((wish_bd okR hx).1.dvd oko.dd).mono (by decide), fun x hx => (oko.bd x hx).mono (by decide), okU, fun Hd vd sd dd => ?_⟩
      have hfd := Same.tup ((S7c.trans hid_same).trans sd) hfa7
      refine ⟨_, rfl, _, _, _, _, rfl, rfl, hfd, atI_nat (j := 1) rfl, _, _, _, movC ru rs Ee, 150, 150, rfl, dd, dp_mono ((S7c.trans hid_same).trans sd) _ _ dc7, bco.sz oko.d0 oko.d1 (by omega), bC.sz ddp ddb (by omega), by decide, _, rfl, iteN (decide_eq_false (by grind)) ?_⟩
      exact ⟨_, _, rfl, sxc.trans (Same.hid (b := b) (l := l) sd), Bc.mono sd⟩
    · obtain ⟨c8, c9, rfl, sx, Bx'⟩ := h
      exact q _
end
theorem txt_mk {K : PySem.W.Frag} {h : Heap} {mg : Str → Option Value} (X : K.In h) (G : h.Ns mainGlobals mg)
    {f0 : Addr} {od0 an0 : Option Addr} {sl0 : Array (Option Value)} {oc0 kV0 dc0 pm0 cd0 ct0 : Value}
    (a0 : PySem.W.nsIn K mainGlobals "common_divisor" = some (some (.ref f0))) (l0 : K.lookup f0 = some ⟨oc0, od0, .func (PySem.W.fnOf "common_divisor" "common_divisor" (defArgs s_common_divisor) (defBody s_common_divisor) (defScope s_common_divisor) .none kV0 dc0 pm0 an0 cd0 ct0), sl0⟩) (c0 : PySem.W.codeIn K cd0 "common_divisor" = true) (k0 : PySem.W.keepIn K (.ref f0) = true)
    {f1 : Addr} {od1 an1 : Option Addr} {sl1 : Array (Option Value)} {oc1 kV1 dc1 pm1 cd1 ct1 : Value}
    (a1 : PySem.W.nsIn K mainGlobals "made" = some (some (.ref f1))) (l1 : K.lookup f1 = some ⟨oc1, od1, .func (PySem.W.fnOf "made" "made" (defArgs s_made) (defBody s_made) (defScope s_made) .none kV1 dc1 pm1 an1 cd1 ct1), sl1⟩) (c1 : PySem.W.codeIn K cd1 "made" = true) (k1 : PySem.W.keepIn K (.ref f1) = true)
    {f2 : Addr} {od2 an2 : Option Addr} {sl2 : Array (Option Value)} {oc2 kV2 dc2 pm2 cd2 ct2 : Value}
    (a2 : PySem.W.nsIn K mainGlobals "timed" = some (some (.ref f2))) (l2 : K.lookup f2 = some ⟨oc2, od2, .func (PySem.W.fnOf "timed" "timed" (defArgs s_timed) (defBody s_timed) (defScope s_timed) .none kV2 dc2 pm2 an2 cd2 ct2), sl2⟩) (c2 : PySem.W.codeIn K cd2 "timed" = true) (k2 : PySem.W.keepIn K (.ref f2) = true)
    {f3 : Addr} {od3 an3 : Option Addr} {sl3 : Array (Option Value)} {oc3 kV3 dc3 pm3 cd3 ct3 : Value}
    (a3 : PySem.W.nsIn K mainGlobals "is_below" = some (some (.ref f3))) (l3 : K.lookup f3 = some ⟨oc3, od3, .func (PySem.W.fnOf "is_below" "is_below" (defArgs s_is_below) (defBody s_is_below) (defScope s_is_below) .none kV3 dc3 pm3 an3 cd3 ct3), sl3⟩) (c3 : PySem.W.codeIn K cd3 "is_below" = true) (k3 : PySem.W.keepIn K (.ref f3) = true)
    {f4 : Addr} {od4 an4 : Option Addr} {sl4 : Array (Option Value)} {oc4 kV4 dc4 pm4 cd4 ct4 : Value}
    (a4 : PySem.W.nsIn K mainGlobals "larger" = some (some (.ref f4))) (l4 : K.lookup f4 = some ⟨oc4, od4, .func (PySem.W.fnOf "larger" "larger" (defArgs s_larger) (defBody s_larger) (defScope s_larger) .none kV4 dc4 pm4 an4 cd4 ct4), sl4⟩) (c4 : PySem.W.codeIn K cd4 "larger" = true) (k4 : PySem.W.keepIn K (.ref f4) = true)
    {f5 : Addr} {od5 an5 : Option Addr} {sl5 : Array (Option Value)} {oc5 kV5 dc5 pm5 cd5 ct5 : Value}
    (a5 : PySem.W.nsIn K mainGlobals "common_bottom" = some (some (.ref f5))) (l5 : K.lookup f5 = some ⟨oc5, od5, .func (PySem.W.fnOf "common_bottom" "common_bottom" (defArgs s_common_bottom) (defBody s_common_bottom) (defScope s_common_bottom) .none kV5 dc5 pm5 an5 cd5 ct5), sl5⟩) (c5 : PySem.W.codeIn K cd5 "common_bottom" = true) (k5 : PySem.W.keepIn K (.ref f5) = true)
    {f6 : Addr} {od6 an6 : Option Addr} {sl6 : Array (Option Value)} {oc6 kV6 dc6 pm6 cd6 ct6 : Value}
    (a6 : PySem.W.nsIn K mainGlobals "scaled" = some (some (.ref f6))) (l6 : K.lookup f6 = some ⟨oc6, od6, .func (PySem.W.fnOf "scaled" "scaled" (defArgs s_scaled) (defBody s_scaled) (defScope s_scaled) .none kV6 dc6 pm6 an6 cd6 ct6), sl6⟩) (c6 : PySem.W.codeIn K cd6 "scaled" = true) (k6 : PySem.W.keepIn K (.ref f6) = true)
    {f7 : Addr} {od7 an7 : Option Addr} {sl7 : Array (Option Value)} {oc7 kV7 dc7 pm7 cd7 ct7 : Value}
    (a7 : PySem.W.nsIn K mainGlobals "moved" = some (some (.ref f7))) (l7 : K.lookup f7 = some ⟨oc7, od7, .func (PySem.W.fnOf "moved" "moved" (defArgs s_moved) (defBody s_moved) (defScope s_moved) .none kV7 dc7 pm7 an7 cd7 ct7), sl7⟩) (c7 : PySem.W.codeIn K cd7 "moved" = true) (k7 : PySem.W.keepIn K (.ref f7) = true)
    {f8 : Addr} {od8 an8 : Option Addr} {sl8 : Array (Option Value)} {oc8 kV8 dc8 pm8 cd8 ct8 : Value}
    (a8 : PySem.W.nsIn K mainGlobals "distances" = some (some (.ref f8))) (l8 : K.lookup f8 = some ⟨oc8, od8, .func (PySem.W.fnOf "distances" "distances" (defArgs s_distances) (defBody s_distances) (defScope s_distances) .none kV8 dc8 pm8 an8 cd8 ct8), sl8⟩) (c8 : PySem.W.codeIn K cd8 "distances" = true) (k8 : PySem.W.keepIn K (.ref f8) = true)
    {f9 : Addr} {od9 an9 : Option Addr} {sl9 : Array (Option Value)} {oc9 kV9 dc9 pm9 cd9 ct9 : Value}
    (a9 : PySem.W.nsIn K mainGlobals "as_pairs" = some (some (.ref f9))) (l9 : K.lookup f9 = some ⟨oc9, od9, .func (PySem.W.fnOf "as_pairs" "as_pairs" (defArgs s_as_pairs) (defBody s_as_pairs) (defScope s_as_pairs) .none kV9 dc9 pm9 an9 cd9 ct9), sl9⟩) (c9 : PySem.W.codeIn K cd9 "as_pairs" = true) (k9 : PySem.W.keepIn K (.ref f9) = true)
    {f10 : Addr} {od10 an10 : Option Addr} {sl10 : Array (Option Value)} {oc10 kV10 dc10 pm10 cd10 ct10 : Value}
    (a10 : PySem.W.nsIn K mainGlobals "best_times" = some (some (.ref f10))) (l10 : K.lookup f10 = some ⟨oc10, od10, .func (PySem.W.fnOf "best_times" "best_times" (defArgs s_best_times) (defBody s_best_times) (defScope s_best_times) .none kV10 dc10 pm10 an10 cd10 ct10), sl10⟩) (c10 : PySem.W.codeIn K cd10 "best_times" = true) (k10 : PySem.W.keepIn K (.ref f10) = true)
    {f11 : Addr} {od11 an11 : Option Addr} {sl11 : Array (Option Value)} {oc11 kV11 dc11 pm11 cd11 ct11 : Value}
    (a11 : PySem.W.nsIn K mainGlobals "running_sums" = some (some (.ref f11))) (l11 : K.lookup f11 = some ⟨oc11, od11, .func (PySem.W.fnOf "running_sums" "running_sums" (defArgs s_running_sums) (defBody s_running_sums) (defScope s_running_sums) .none kV11 dc11 pm11 an11 cd11 ct11), sl11⟩) (c11 : PySem.W.codeIn K cd11 "running_sums" = true) (k11 : PySem.W.keepIn K (.ref f11) = true)
    {f12 : Addr} {od12 an12 : Option Addr} {sl12 : Array (Option Value)} {oc12 kV12 dc12 pm12 cd12 ct12 : Value}
    (a12 : PySem.W.nsIn K mainGlobals "best_levels" = some (some (.ref f12))) (l12 : K.lookup f12 = some ⟨oc12, od12, .func (PySem.W.fnOf "best_levels" "best_levels" (defArgs s_best_levels) (defBody s_best_levels) (defScope s_best_levels) .none kV12 dc12 pm12 an12 cd12 ct12), sl12⟩) (c12 : PySem.W.codeIn K cd12 "best_levels" = true) (k12 : PySem.W.keepIn K (.ref f12) = true)
    {f13 : Addr} {od13 an13 : Option Addr} {sl13 : Array (Option Value)} {oc13 kV13 dc13 pm13 cd13 ct13 : Value}
    (a13 : PySem.W.nsIn K mainGlobals "middle" = some (some (.ref f13))) (l13 : K.lookup f13 = some ⟨oc13, od13, .func (PySem.W.fnOf "middle" "middle" (defArgs s_middle) (defBody s_middle) (defScope s_middle) .none kV13 dc13 pm13 an13 cd13 ct13), sl13⟩) (c13 : PySem.W.codeIn K cd13 "middle" = true) (k13 : PySem.W.keepIn K (.ref f13) = true)
    {f14 : Addr} {od14 an14 : Option Addr} {sl14 : Array (Option Value)} {oc14 kV14 dc14 pm14 cd14 ct14 : Value}
    (a14 : PySem.W.nsIn K mainGlobals "price_step" = some (some (.ref f14))) (l14 : K.lookup f14 = some ⟨oc14, od14, .func (PySem.W.fnOf "price_step" "price_step" (defArgs s_price_step) (defBody s_price_step) (defScope s_price_step) .none kV14 dc14 pm14 an14 cd14 ct14), sl14⟩) (c14 : PySem.W.codeIn K cd14 "price_step" = true) (k14 : PySem.W.keepIn K (.ref f14) = true)
    {f15 : Addr} {od15 an15 : Option Addr} {sl15 : Array (Option Value)} {oc15 kV15 dc15 pm15 cd15 ct15 : Value}
    (a15 : PySem.W.nsIn K mainGlobals "least_prices" = some (some (.ref f15))) (l15 : K.lookup f15 = some ⟨oc15, od15, .func (PySem.W.fnOf "least_prices" "least_prices" (defArgs s_least_prices) (defBody s_least_prices) (defScope s_least_prices) .none kV15 dc15 pm15 an15 cd15 ct15), sl15⟩) (c15 : PySem.W.codeIn K cd15 "least_prices" = true) (k15 : PySem.W.keepIn K (.ref f15) = true)
    {f16 : Addr} {od16 an16 : Option Addr} {sl16 : Array (Option Value)} {oc16 kV16 dc16 pm16 cd16 ct16 : Value}
    (a16 : PySem.W.nsIn K mainGlobals "_law_begun" = some (some (.ref f16))) (l16 : K.lookup f16 = some ⟨oc16, od16, .func (PySem.W.fnOf "_law_begun" "_law_begun" (defArgs s_Lbegun) (defBody s_Lbegun) (defScope s_Lbegun) .none kV16 dc16 pm16 an16 cd16 ct16), sl16⟩) (c16 : PySem.W.codeIn K cd16 "_law_begun" = true) (k16 : PySem.W.keepIn K (.ref f16) = true)
    {f17 : Addr} {od17 an17 : Option Addr} {sl17 : Array (Option Value)} {oc17 kV17 dc17 pm17 cd17 ct17 : Value}
    (a17 : PySem.W.nsIn K mainGlobals "_law_take" = some (some (.ref f17))) (l17 : K.lookup f17 = some ⟨oc17, od17, .func (PySem.W.fnOf "_law_take" "_law_take" (defArgs s_Ltake) (defBody s_Ltake) (defScope s_Ltake) .none kV17 dc17 pm17 an17 cd17 ct17), sl17⟩) (c17 : PySem.W.codeIn K cd17 "_law_take" = true) (k17 : PySem.W.keepIn K (.ref f17) = true)
    {f18 : Addr} {od18 an18 : Option Addr} {sl18 : Array (Option Value)} {oc18 kV18 dc18 pm18 cd18 ct18 : Value}
    (a18 : PySem.W.nsIn K mainGlobals "_law_fr" = some (some (.ref f18))) (l18 : K.lookup f18 = some ⟨oc18, od18, .func (PySem.W.fnOf "_law_fr" "_law_fr" (defArgs s_Lfr) (defBody s_Lfr) (defScope s_Lfr) .none kV18 dc18 pm18 an18 cd18 ct18), sl18⟩) (c18 : PySem.W.codeIn K cd18 "_law_fr" = true) (k18 : PySem.W.keepIn K (.ref f18) = true)
    {f19 : Addr} {od19 an19 : Option Addr} {sl19 : Array (Option Value)} {oc19 kV19 dc19 pm19 cd19 ct19 : Value}
    (a19 : PySem.W.nsIn K mainGlobals "_law_sum" = some (some (.ref f19))) (l19 : K.lookup f19 = some ⟨oc19, od19, .func (PySem.W.fnOf "_law_sum" "_law_sum" (defArgs s_Lsum) (defBody s_Lsum) (defScope s_Lsum) .none kV19 dc19 pm19 an19 cd19 ct19), sl19⟩) (c19 : PySem.W.codeIn K cd19 "_law_sum" = true) (k19 : PySem.W.keepIn K (.ref f19) = true)
    {f20 : Addr} {od20 an20 : Option Addr} {sl20 : Array (Option Value)} {oc20 kV20 dc20 pm20 cd20 ct20 : Value}
    (a20 : PySem.W.nsIn K mainGlobals "_law_minus" = some (some (.ref f20))) (l20 : K.lookup f20 = some ⟨oc20, od20, .func (PySem.W.fnOf "_law_minus" "_law_minus" (defArgs s_Lminus) (defBody s_Lminus) (defScope s_Lminus) .none kV20 dc20 pm20 an20 cd20 ct20), sl20⟩) (c20 : PySem.W.codeIn K cd20 "_law_minus" = true) (k20 : PySem.W.keepIn K (.ref f20) = true)
    {f21 : Addr} {od21 an21 : Option Addr} {sl21 : Array (Option Value)} {oc21 kV21 dc21 pm21 cd21 ct21 : Value}
    (a21 : PySem.W.nsIn K mainGlobals "_law_times" = some (some (.ref f21))) (l21 : K.lookup f21 = some ⟨oc21, od21, .func (PySem.W.fnOf "_law_times" "_law_times" (defArgs s_Ltimes) (defBody s_Ltimes) (defScope s_Ltimes) .none kV21 dc21 pm21 an21 cd21 ct21), sl21⟩) (c21 : PySem.W.codeIn K cd21 "_law_times" = true) (k21 : PySem.W.keepIn K (.ref f21) = true)
    {f22 : Addr} {od22 an22 : Option Addr} {sl22 : Array (Option Value)} {oc22 kV22 dc22 pm22 cd22 ct22 : Value}
    (a22 : PySem.W.nsIn K mainGlobals "_law_low" = some (some (.ref f22))) (l22 : K.lookup f22 = some ⟨oc22, od22, .func (PySem.W.fnOf "_law_low" "_law_low" (defArgs s_Llow) (defBody s_Llow) (defScope s_Llow) .none kV22 dc22 pm22 an22 cd22 ct22), sl22⟩) (c22 : PySem.W.codeIn K cd22 "_law_low" = true) (k22 : PySem.W.keepIn K (.ref f22) = true)
    {f23 : Addr} {od23 an23 : Option Addr} {sl23 : Array (Option Value)} {oc23 kV23 dc23 pm23 cd23 ct23 : Value}
    (a23 : PySem.W.nsIn K mainGlobals "_law_time" = some (some (.ref f23))) (l23 : K.lookup f23 = some ⟨oc23, od23, .func (PySem.W.fnOf "_law_time" "_law_time" (defArgs s_Ltime) (defBody s_Ltime) (defScope s_Ltime) .none kV23 dc23 pm23 an23 cd23 ct23), sl23⟩) (c23 : PySem.W.codeIn K cd23 "_law_time" = true) (k23 : PySem.W.keepIn K (.ref f23) = true)
    {f24 : Addr} {od24 an24 : Option Addr} {sl24 : Array (Option Value)} {oc24 kV24 dc24 pm24 cd24 ct24 : Value}
    (a24 : PySem.W.nsIn K mainGlobals "_law_rows" = some (some (.ref f24))) (l24 : K.lookup f24 = some ⟨oc24, od24, .func (PySem.W.fnOf "_law_rows" "_law_rows" (defArgs s_Lrows) (defBody s_Lrows) (defScope s_Lrows) .none kV24 dc24 pm24 an24 cd24 ct24), sl24⟩) (c24 : PySem.W.codeIn K cd24 "_law_rows" = true) (k24 : PySem.W.keepIn K (.ref f24) = true)
    {f25 : Addr} {od25 an25 : Option Addr} {sl25 : Array (Option Value)} {oc25 kV25 dc25 pm25 cd25 ct25 : Value}
    (a25 : PySem.W.nsIn K mainGlobals "_law_rule" = some (some (.ref f25))) (l25 : K.lookup f25 = some ⟨oc25, od25, .func (PySem.W.fnOf "_law_rule" "_law_rule" (defArgs s_Lrule) (defBody s_Lrule) (defScope s_Lrule) .none kV25 dc25 pm25 an25 cd25 ct25), sl25⟩) (c25 : PySem.W.codeIn K cd25 "_law_rule" = true) (k25 : PySem.W.keepIn K (.ref f25) = true)
    {f26 : Addr} {od26 an26 : Option Addr} {sl26 : Array (Option Value)} {oc26 kV26 dc26 pm26 cd26 ct26 : Value}
    (a26 : PySem.W.nsIn K mainGlobals "_law_far" = some (some (.ref f26))) (l26 : K.lookup f26 = some ⟨oc26, od26, .func (PySem.W.fnOf "_law_far" "_law_far" (defArgs s_Lfar) (defBody s_Lfar) (defScope s_Lfar) .none kV26 dc26 pm26 an26 cd26 ct26), sl26⟩) (c26 : PySem.W.codeIn K cd26 "_law_far" = true) (k26 : PySem.W.keepIn K (.ref f26) = true)
    {f27 : Addr} {od27 an27 : Option Addr} {sl27 : Array (Option Value)} {oc27 kV27 dc27 pm27 cd27 ct27 : Value}
    (a27 : PySem.W.nsIn K mainGlobals "_law_end" = some (some (.ref f27))) (l27 : K.lookup f27 = some ⟨oc27, od27, .func (PySem.W.fnOf "_law_end" "_law_end" (defArgs s_Lend) (defBody s_Lend) (defScope s_Lend) .none kV27 dc27 pm27 an27 cd27 ct27), sl27⟩) (c27 : PySem.W.codeIn K cd27 "_law_end" = true) (k27 : PySem.W.keepIn K (.ref f27) = true)
    {f28 : Addr} {od28 an28 : Option Addr} {sl28 : Array (Option Value)} {oc28 kV28 dc28 pm28 cd28 ct28 : Value}
    (a28 : PySem.W.nsIn K mainGlobals "_law_wanted" = some (some (.ref f28))) (l28 : K.lookup f28 = some ⟨oc28, od28, .func (PySem.W.fnOf "_law_wanted" "_law_wanted" (defArgs s_Lwanted) (defBody s_Lwanted) (defScope s_Lwanted) .none kV28 dc28 pm28 an28 cd28 ct28), sl28⟩) (c28 : PySem.W.codeIn K cd28 "_law_wanted" = true) (k28 : PySem.W.keepIn K (.ref f28) = true)
    {f29 : Addr} {od29 an29 : Option Addr} {sl29 : Array (Option Value)} {oc29 kV29 dc29 pm29 cd29 ct29 : Value}
    (a29 : PySem.W.nsIn K mainGlobals "_law_cost" = some (some (.ref f29))) (l29 : K.lookup f29 = some ⟨oc29, od29, .func (PySem.W.fnOf "_law_cost" "_law_cost" (defArgs s_Lcost) (defBody s_Lcost) (defScope s_Lcost) .none kV29 dc29 pm29 an29 cd29 ct29), sl29⟩) (c29 : PySem.W.codeIn K cd29 "_law_cost" = true) (k29 : PySem.W.keepIn K (.ref f29) = true)
    {f30 : Addr} {od30 an30 : Option Addr} {sl30 : Array (Option Value)} {oc30 kV30 dc30 pm30 cd30 ct30 : Value}
    (a30 : PySem.W.nsIn K mainGlobals "_law_moved" = some (some (.ref f30))) (l30 : K.lookup f30 = some ⟨oc30, od30, .func (PySem.W.fnOf "_law_moved" "_law_moved" (defArgs s_Lmoved) (defBody s_Lmoved) (defScope s_Lmoved) .none kV30 dc30 pm30 an30 cd30 ct30), sl30⟩) (c30 : PySem.W.codeIn K cd30 "_law_moved" = true) (k30 : PySem.W.keepIn K (.ref f30) = true)
    {f31 : Addr} {od31 an31 : Option Addr} {sl31 : Array (Option Value)} {oc31 kV31 dc31 pm31 cd31 ct31 : Value}
    (a31 : PySem.W.nsIn K mainGlobals "_law_other" = some (some (.ref f31))) (l31 : K.lookup f31 = some ⟨oc31, od31, .func (PySem.W.fnOf "_law_other" "_law_other" (defArgs s_Lother) (defBody s_Lother) (defScope s_Lother) .none kV31 dc31 pm31 an31 cd31 ct31), sl31⟩) (c31 : PySem.W.codeIn K cd31 "_law_other" = true) (k31 : PySem.W.keepIn K (.ref f31) = true)
    {f32 : Addr} {od32 an32 : Option Addr} {sl32 : Array (Option Value)} {oc32 kV32 dc32 pm32 cd32 ct32 : Value}
    (a32 : PySem.W.nsIn K mainGlobals "law" = some (some (.ref f32))) (l32 : K.lookup f32 = some ⟨oc32, od32, .func (PySem.W.fnOf "law" "law" (defArgs s_law) (defBody s_law) (defScope s_law) .none kV32 dc32 pm32 an32 cd32 ct32), sl32⟩) (c32 : PySem.W.codeIn K cd32 "law" = true) (k32 : PySem.W.keepIn K (.ref f32) = true)
    (z_abs : PySem.W.nsIn K mainGlobals "abs" = some none)
    (z_len : PySem.W.nsIn K mainGlobals "len" = some none)
    (z_zip : PySem.W.nsIn K mainGlobals "zip" = some none)
    (z_sum : PySem.W.nsIn K mainGlobals "sum" = some none)
    (z_range : PySem.W.nsIn K mainGlobals "range" = some none)
    (z_min : PySem.W.nsIn K mainGlobals "min" = some none)
    (z_max : PySem.W.nsIn K mainGlobals "max" = some none)
    (z_sorted : PySem.W.nsIn K mainGlobals "sorted" = some none)
    (z_list : PySem.W.nsIn K mainGlobals "list" = some none)
    (z_int : PySem.W.nsIn K mainGlobals "int" = some none)
    (z_isinstance : PySem.W.nsIn K mainGlobals "isinstance" = some none)
    (z_ValueError : PySem.W.nsIn K mainGlobals "ValueError" = some none)
    {C_TooTight : Addr} (ag_TooTight : PySem.W.nsIn K mainGlobals "TooTight" = some (some (.ref C_TooTight))) (ax_TooTight : PySem.W.excIn K C_TooTight [.type "ValueError", .type "Exception", .type "BaseException", .type "object"] "ValueError.__new__" = true) (ak_TooTight : PySem.W.keepIn K (.ref C_TooTight) = true) (ab_TooTight : PySem.W.subIn K (.ref C_TooTight) (.type "BaseException") = some true) (at_TooTight : PySem.W.typeIn K (.ref C_TooTight) = some (.type "type")) (ai_TooTight : PySem.W.isClsIn K C_TooTight = true) (as_TooTight : PySem.W.subIn K (.ref C_TooTight) (.ref C_TooTight) = some true)
    {C_ReelError : Addr} (ag_ReelError : PySem.W.nsIn K mainGlobals "ReelError" = some (some (.ref C_ReelError))) (ax_ReelError : PySem.W.excIn K C_ReelError [.type "ValueError", .type "Exception", .type "BaseException", .type "object"] "ValueError.__new__" = true) (ak_ReelError : PySem.W.keepIn K (.ref C_ReelError) = true) (ab_ReelError : PySem.W.subIn K (.ref C_ReelError) (.type "BaseException") = some true) (at_ReelError : PySem.W.typeIn K (.ref C_ReelError) = some (.type "type")) (ai_ReelError : PySem.W.isClsIn K C_ReelError = true) (as_ReelError : PySem.W.subIn K (.ref C_ReelError) (.ref C_ReelError) = some true)
    (hg_x_own : PySem.W.findIn K (.ref C_TooTight) "__getattribute__" = some (some (.builtin "BaseException.__getattribute__"))) (hk_x_own : PySem.W.findIn K (.ref C_TooTight) "__getattr__" = some none) (hs_x_own : PySem.W.subIn K (.ref C_TooTight) (.type "BaseException") = some true) (hd_x_own : PySem.W.hasDictIn K C_TooTight = true) (ha_x_own : PySem.W.findIn K (.ref C_TooTight) "__class__" = some (some (.builtin "object.__class__"))) (hn_x_own : PySem.W.specialIn K (.builtin "object.__class__") "__get__" = some (some (.builtin "getset_descriptor.__get__"))) (ht_x_own : PySem.W.takesIn K (.builtin "object.__class__") = some true) (hm_x_own : PySem.W.mroIn K C_TooTight (.type "object") = some true)
    (yb_x_reel : PySem.W.subIn K (.ref C_ReelError) (.type "BaseException") = some true) (ys_x_reel : PySem.W.subIn K (.ref C_TooTight) (.ref C_ReelError) = some true) (yi_x_reel : PySem.W.isClsIn K C_ReelError = true) (yt_x_reel : PySem.W.typeIn K (.ref C_ReelError) = some (.type "type"))
    
    (y_x_ve : PySem.W.subIn K (.ref C_TooTight) (.type "ValueError") = some true)
    {p_NOUGHT : Addr} {t1_NOUGHT t2_NOUGHT : Tok} {n_NOUGHT : Nat} {od_NOUGHT : Option Addr} {sl_NOUGHT : Array (Option Value)} (y_NOUGHT : PySem.W.nsIn K mainGlobals "NOUGHT" = some (some (.ref p_NOUGHT))) (w_NOUGHT : K.lookup p_NOUGHT = some ⟨.type "tuple", od_NOUGHT, .seq #[.int 0 t1_NOUGHT, .int 1 t2_NOUGHT] n_NOUGHT, sl_NOUGHT⟩) : Txt K mg := by
  constructor
  · exact ⟨_, _, fun_mk (st := s_common_divisor) l0 c0 k0, PySem.W.mg_of X G a0, (fun_mk (st := s_common_divisor) l0 c0 k0).binds (ps := ["one", "two"]) fun _ _ _ _ _ _ us hl => match us, hl with | [_, _], _ => rfl⟩
  · exact ⟨_, _, fun_mk (st := s_made) l1 c1 k1, PySem.W.mg_of X G a1, (fun_mk (st := s_made) l1 c1 k1).binds (ps := ["top", "bottom"]) fun _ _ _ _ _ _ us hl => match us, hl with | [_, _], _ => rfl⟩
  · exact ⟨_, _, fun_mk (st := s_timed) l2 c2 k2, PySem.W.mg_of X G a2, (fun_mk (st := s_timed) l2 c2 k2).binds (ps := ["one", "two"]) fun _ _ _ _ _ _ us hl => match us, hl with | [_, _], _ => rfl⟩
  · exact ⟨_, _, fun_mk (st := s_is_below) l3 c3 k3, PySem.W.mg_of X G a3, (fun_mk (st := s_is_below) l3 c3 k3).binds (ps := ["one", "two"]) fun _ _ _ _ _ _ us hl => match us, hl with | [_, _], _ => rfl⟩
  · exact ⟨_, _, fun_mk (st := s_larger) l4 c4 k4, PySem.W.mg_of X G a4, (fun_mk (st := s_larger) l4 c4 k4).binds (ps := ["one", "two"]) fun _ _ _ _ _ _ us hl => match us, hl with | [_, _], _ => rfl⟩
  · exact ⟨_, _, fun_mk (st := s_common_bottom) l5 c5 k5, PySem.W.mg_of X G a5, (fun_mk (st := s_common_bottom) l5 c5 k5).binds (ps := ["fractions"]) fun _ _ _ _ _ _ us hl => match us, hl with | [_], _ => rfl⟩
  · exact ⟨_, _, fun_mk (st := s_scaled) l6 c6 k6, PySem.W.mg_of X G a6, (fun_mk (st := s_scaled) l6 c6 k6).binds (ps := ["fraction", "bottom"]) fun _ _ _ _ _ _ us hl => match us, hl with | [_, _], _ => rfl⟩
  · exact ⟨_, _, fun_mk (st := s_moved) l7 c7 k7, PySem.W.mg_of X G a7, (fun_mk (st := s_moved) l7 c7 k7).binds (ps := ["rows", "rule", "end"]) fun _ _ _ _ _ _ us hl => match us, hl with | [_, _, _], _ => rfl⟩
  · exact ⟨_, _, fun_mk (st := s_distances) l8 c8 k8, PySem.W.mg_of X G a8, (fun_mk (st := s_distances) l8 c8 k8).binds (ps := ["rows", "rule"]) fun _ _ _ _ _ _ us hl => match us, hl with | [_, _], _ => rfl⟩
  · exact ⟨_, _, fun_mk (st := s_as_pairs) l9 c9 k9, PySem.W.mg_of X G a9, (fun_mk (st := s_as_pairs) l9 c9 k9).binds (ps := ["times"]) fun _ _ _ _ _ _ us hl => match us, hl with | [_], _ => rfl⟩
  · exact ⟨_, _, fun_mk (st := s_best_times) l10 c10 k10, PySem.W.mg_of X G a10, (fun_mk (st := s_best_times) l10 c10 k10).binds (ps := ["wishes", "asked", "end", "weights"]) fun _ _ _ _ _ _ us hl => match us, hl with | [_, _, _, _], _ => rfl⟩
  · exact ⟨_, _, fun_mk (st := s_running_sums) l11 c11 k11, PySem.W.mg_of X G a11, (fun_mk (st := s_running_sums) l11 c11 k11).binds (ps := ["numbers"]) fun _ _ _ _ _ _ us hl => match us, hl with | [_], _ => rfl⟩
  · exact ⟨_, _, fun_mk (st := s_best_levels) l12 c12 k12, PySem.W.mg_of X G a12, (fun_mk (st := s_best_levels) l12 c12 k12).binds (ps := ["wishes", "weights"]) fun _ _ _ _ _ _ us hl => match us, hl with | [_, _], _ => rfl⟩
  · exact ⟨_, _, fun_mk (st := s_middle) l13 c13 k13, PySem.W.mg_of X G a13, (fun_mk (st := s_middle) l13 c13 k13).binds (ps := ["together"]) fun _ _ _ _ _ _ us hl => match us, hl with | [_], _ => rfl⟩
  · exact ⟨_, _, fun_mk (st := s_price_step) l14 c14 k14, PySem.W.mg_of X G a14, (fun_mk (st := s_price_step) l14 c14 k14).binds (ps := ["move", "weight"]) fun _ _ _ _ _ _ us hl => match us, hl with | [_, _], _ => rfl⟩
  · exact ⟨_, _, fun_mk (st := s_least_prices) l15 c15 k15, PySem.W.mg_of X G a15, (fun_mk (st := s_least_prices) l15 c15 k15).binds (ps := ["steps"]) fun _ _ _ _ _ _ us hl => match us, hl with | [_], _ => rfl⟩
  · exact ⟨_, _, fun_mk (st := s_Lbegun) l16 c16 k16, PySem.W.mg_of X G a16, (fun_mk (st := s_Lbegun) l16 c16 k16).binds (ps := ["_law_script"]) fun _ _ _ _ _ _ us hl => match us, hl with | [_], _ => rfl⟩
  · exact ⟨_, _, fun_mk (st := s_Ltake) l17 c17 k17, PySem.W.mg_of X G a17, (fun_mk (st := s_Ltake) l17 c17 k17).binds (ps := ["_law_box", "_law_many"]) fun _ _ _ _ _ _ us hl => match us, hl with | [_, _], _ => rfl⟩
  · exact ⟨_, _, fun_mk (st := s_Lfr) l18 c18 k18, PySem.W.mg_of X G a18, (fun_mk (st := s_Lfr) l18 c18 k18).binds (ps := ["_law_top", "_law_bottom"]) fun _ _ _ _ _ _ us hl => match us, hl with | [_, _], _ => rfl⟩
  · exact ⟨_, _, fun_mk (st := s_Lsum) l19 c19 k19, PySem.W.mg_of X G a19, (fun_mk (st := s_Lsum) l19 c19 k19).binds (ps := ["_law_one", "_law_two"]) fun _ _ _ _ _ _ us hl => match us, hl with | [_, _], _ => rfl⟩
  · exact ⟨_, _, fun_mk (st := s_Lminus) l20 c20 k20, PySem.W.mg_of X G a20, (fun_mk (st := s_Lminus) l20 c20 k20).binds (ps := ["_law_one", "_law_two"]) fun _ _ _ _ _ _ us hl => match us, hl with | [_, _], _ => rfl⟩
  · exact ⟨_, _, fun_mk (st := s_Ltimes) l21 c21 k21, PySem.W.mg_of X G a21, (fun_mk (st := s_Ltimes) l21 c21 k21).binds (ps := ["_law_one", "_law_two"]) fun _ _ _ _ _ _ us hl => match us, hl with | [_, _], _ => rfl⟩
  · exact ⟨_, _, fun_mk (st := s_Llow) l22 c22 k22, PySem.W.mg_of X G a22, (fun_mk (st := s_Llow) l22 c22 k22).binds (ps := ["_law_one", "_law_two"]) fun _ _ _ _ _ _ us hl => match us, hl with | [_, _], _ => rfl⟩
  · exact ⟨_, _, fun_mk (st := s_Ltime) l23 c23 k23, PySem.W.mg_of X G a23, (fun_mk (st := s_Ltime) l23 c23 k23).binds (ps := ["_law_box", "_law_most"]) fun _ _ _ _ _ _ us hl => match us, hl with | [_, _], _ => rfl⟩
  · exact ⟨_, _, fun_mk (st := s_Lrows) l24 c24 k24, PySem.W.mg_of X G a24, (fun_mk (st := s_Lrows) l24 c24 k24).binds (ps := ["_law_box"]) fun _ _ _ _ _ _ us hl => match us, hl with | [_], _ => rfl⟩
  · exact ⟨_, _, fun_mk (st := s_Lrule) l25 c25 k25, PySem.W.mg_of X G a25, (fun_mk (st := s_Lrule) l25 c25 k25).binds (ps := ["_law_box"]) fun _ _ _ _ _ _ us hl => match us, hl with | [_], _ => rfl⟩
  · exact ⟨_, _, fun_mk (st := s_Lfar) l26 c26 k26, PySem.W.mg_of X G a26, (fun_mk (st := s_Lfar) l26 c26 k26).binds (ps := ["_law_rows_here", "_law_rule_here"]) fun _ _ _ _ _ _ us hl => match us, hl with | [_, _], _ => rfl⟩
  · exact ⟨_, _, fun_mk (st := s_Lend) l27 c27 k27, PySem.W.mg_of X G a27, (fun_mk (st := s_Lend) l27 c27 k27).binds (ps := ["_law_box", "_law_gaps"]) fun _ _ _ _ _ _ us hl => match us, hl with | [_, _], _ => rfl⟩
  · exact ⟨_, _, fun_mk (st := s_Lwanted) l28 c28 k28, PySem.W.mg_of X G a28, (fun_mk (st := s_Lwanted) l28 c28 k28).binds (ps := ["_law_rows_here"]) fun _ _ _ _ _ _ us hl => match us, hl with | [_], _ => rfl⟩
  · exact ⟨_, _, fun_mk (st := s_Lcost) l29 c29 k29, PySem.W.mg_of X G a29, (fun_mk (st := s_Lcost) l29 c29 k29).binds (ps := ["_law_wanted_here", "_law_times_here", "_law_rule_here"]) fun _ _ _ _ _ _ us hl => match us, hl with | [_, _, _], _ => rfl⟩
  · exact ⟨_, _, fun_mk (st := s_Lmoved) l30 c30 k30, PySem.W.mg_of X G a30, (fun_mk (st := s_Lmoved) l30 c30 k30).binds (ps := ["_law_rows_here", "_law_rule_here", "_law_end_here"]) fun _ _ _ _ _ _ us hl => match us, hl with | [_, _, _], _ => rfl⟩
  · exact ⟨_, _, fun_mk (st := s_Lother) l31 c31 k31, PySem.W.mg_of X G a31, (fun_mk (st := s_Lother) l31 c31 k31).binds (ps := ["_law_box", "_law_told", "_law_gaps", "_law_end_here"]) fun _ _ _ _ _ _ us hl => match us, hl with | [_, _, _, _], _ => rfl⟩
  · exact ⟨_, _, fun_mk (st := s_law) l32 c32 k32, PySem.W.mg_of X G a32, (fun_mk (st := s_law) l32 c32 k32).binds (ps := ["_law_script"]) fun _ _ _ _ _ _ us hl => match us, hl with | [_], _ => rfl⟩
  · exact PySem.W.mg_none_of X G z_abs
  · exact PySem.W.mg_none_of X G z_len
  · exact PySem.W.mg_none_of X G z_zip
  · exact PySem.W.mg_none_of X G z_sum
  · exact PySem.W.mg_none_of X G z_range
  · exact PySem.W.mg_none_of X G z_min
  · exact PySem.W.mg_none_of X G z_max
  · exact PySem.W.mg_none_of X G z_sorted
  · exact PySem.W.mg_none_of X G z_list
  · exact PySem.W.mg_none_of X G z_int
  · exact PySem.W.mg_none_of X G z_isinstance
  · exact PySem.W.mg_none_of X G z_ValueError
  · exact ⟨C_TooTight, PySem.W.mg_of X G ag_TooTight, ax_TooTight, ak_TooTight, ab_TooTight, at_TooTight, exm_gen ab_TooTight ai_TooTight at_TooTight as_TooTight⟩
  · exact ⟨C_ReelError, PySem.W.mg_of X G ag_ReelError, ax_ReelError, ak_ReelError, ab_ReelError, at_ReelError, exm_gen ab_ReelError ai_ReelError at_ReelError as_ReelError⟩
  · intro C h1; cases h1.symm.trans (PySem.W.mg_of X G ag_TooTight); exact ⟨hg_x_own, hk_x_own, hs_x_own, hd_x_own, ha_x_own, hn_x_own, ht_x_own, hm_x_own⟩
  · intro C C2 h1 h2; cases h1.symm.trans (PySem.W.mg_of X G ag_TooTight); cases h2.symm.trans (PySem.W.mg_of X G ag_ReelError); exact exm_gen yb_x_reel yi_x_reel yt_x_reel ys_x_reel
  · intro C h1; cases h1.symm.trans (PySem.W.mg_of X G ag_TooTight); exact kit_self
  · intro C h1; cases h1.symm.trans (PySem.W.mg_of X G ag_TooTight); exact kit_ve y_x_ve
  · exact ⟨p_NOUGHT, ⟨_, PySem.W.mg_of X G y_NOUGHT, rfl⟩, fun H => .inr ⟨_, _, _, w_NOUGHT, rfl, rfl, (show 2 ≤ sizeLine by decide), .cons ⟨_, rfl⟩ (.cons ⟨_, rfl⟩ .nil)⟩⟩
theorem law_mk {l : PySem.W.OpenLaw} {w : World} {K : PySem.W.Frag} {h : Heap} {mg : Str → Option Value} {fa f2 : Addr} (X : K.In h) (G : h.Ns mainGlobals mg) (hfa : mg "law" = some (.ref fa)) (T : Txt K mg)
    {od2 an2 : Option Addr} {sl2 : Array (Option Value)} {oc2 kV2 dc2 pm2 cd2 ct2 : Value}
    (a2 : PySem.W.nsIn K mainGlobals "law" = some (some (.ref f2))) (l2 : K.lookup f2 = some ⟨oc2, od2, .func (PySem.W.fnOf "law" "law" (defArgs s_law) (defBody s_law) (defScope s_law) .none kV2 dc2 pm2 an2 cd2 ct2), sl2⟩) (c2 : PySem.W.codeIn K cd2 "law" = true) (k2 : PySem.W.keepIn K (.ref f2) = true)
    (tabs : ∀ nm ∈ (["distances", "middle"] : List Str), ∀ f, mg nm = some (.ref f) → LamX.OwnTab K f h) {f3 c P0 : Addr} {od3 an3 : Option Addr} {sl3 : Array (Option Value)} {oc3 kV3 dc3 pm3 ct3 : Value}
    (a3 : PySem.W.nsIn K mainGlobals "distances" = some (some (.ref f3))) (l3 : K.lookup f3 = some ⟨oc3, od3, .func (PySem.W.fnOf "distances" "distances" (defArgs s_distances) (defBody s_distances) (defScope s_distances) .none kV3 dc3 pm3 an3 (.ref c) ct3), sl3⟩) (c3 : PySem.W.codeIn K (.ref c) "distances" = true) (k3 : PySem.W.keepIn K (.ref f3) = true)
    {e3 : Value} {dd3 : Option Addr} {vs3 : Array Value} {sl4 : Array (Option Value)} (m3 : K.lookup c = some ⟨e3, dd3, .fields vs3, sl4⟩) (p3 : vs3[11]? = some (.ref P0)) (n3 : K.lookup P0 = none) (h3 : PySem.W.codeHdIn K c P0 = true)
    {f5 c' P1 : Addr} {od5 an5 : Option Addr} {sl5 : Array (Option Value)} {oc5 kV5 dc5 pm5 ct5 : Value}
    (a5 : PySem.W.nsIn K mainGlobals "middle" = some (some (.ref f5))) (l5 : K.lookup f5 = some ⟨oc5, od5, .func (PySem.W.fnOf "middle" "middle" (defArgs s_middle) (defBody s_middle) (defScope s_middle) .none kV5 dc5 pm5 an5 (.ref c') ct5), sl5⟩) (c5 : PySem.W.codeIn K (.ref c') "middle" = true) (k5 : PySem.W.keepIn K (.ref f5) = true)
    {e5 : Value} {dd5 : Option Addr} {vs5 : Array Value} {sl6 : Array (Option Value)} (m5 : K.lookup c' = some ⟨e5, dd5, .fields vs5, sl6⟩) (p5 : vs5[11]? = some (.ref P1)) (n5 : K.lookup P1 = none) (h5 : PySem.W.codeHdIn K c' P1 = true) (hne : P0 ≠ P1) :
    LamX.LawAtS l w K CX0 7 63 "_law_script" mg fa h := by
  have e := hfa.symm.trans (PySem.W.mg_of X G a2)
  cases e
  have hf3 := PySem.W.mg_of X G a3
  have hf5 := PySem.W.mg_of X G a5
  have tP := tabs "distances" (by simp) f3 hf3 c P0 _ _ _ _ _ _ l3 rfl rfl m3 p3
  have tP1 := tabs "middle" (by simp) f5 hf5 c' P1 _ _ _ _ _ _ l5 rfl rfl m5 p5
  have D : Dfc K mg "distances" s_distances ["rows", "rule"] c := ⟨⟨f3, oc3, od3, kV3, dc3, pm3, an3, ct3, sl3, l3, c3, k3, hf3, (fun_mk (st := s_distances) l3 c3 k3).binds (ps := ["rows", "rule"]) fun _ _ _ _ _ _ us hl => match us, hl with | [_, _], _ => rfl⟩⟩
  have D1 : Dfc K mg "middle" s_middle ["together"] c' := ⟨⟨f5, oc5, od5, kV5, dc5, pm5, an5, ct5, sl5, l5, c5, k5, hf5, (fun_mk (st := s_middle) l5 c5 k5).binds (ps := ["together"]) fun _ _ _ _ _ _ us hl => match us, hl with | [_], _ => rfl⟩⟩
  have mem : ∀ {p : Addr × Addr}, p ∈ [(c, P0), (c', P1)] → p = (c, P0) ∨ p = (c', P1) := fun hp => by simpa using hp
  refine ⟨PySem.W.fnOf "law" "law" (defArgs s_law) (defBody s_law) (defScope s_law) .none kV2 dc2 pm2 an2 cd2 ct2, [(c, P0), (c', P1)], spLaw K P0 P1, fun p hp => ?_, fun p hp => ?_, fun p hp => ?_, fun s v => .of_eq rfl, fun H a ns hl hbits hT hS => ?_, fun base _ _ tb => ?_⟩
  · rcases mem hp with rfl | rfl
    · exact tP
    · exact tP1
  · rcases mem hp with rfl | rfl
    · exact n3
    · exact n5
  · rcases mem hp with rfl | rfl
    · exact PySem.W.codeHd_of_K X h3
    · exact PySem.W.codeHd_of_K X h5
  · exact ⟨a, ns, rfl, hS, hl, ⟨hne, ⟨#[], hT _ (List.mem_cons_self), trivial⟩, ⟨#[], hT _ (List.mem_cons_of_mem _ List.mem_cons_self), trivial⟩⟩, fun _ => rfl⟩
  · have t := tb _ (List.mem_cons_self)
    have t' := tb _ (List.mem_cons_of_mem _ List.mem_cons_self)
    exact ok_law (fun_mk (st := s_law) l2 c2 k2) T D ⟨t.code, t.bm, t.gP⟩ D1 ⟨t'.code, t'.bm, t'.gP⟩
end R
open PySem PySem.W PyProof.Rows
set_option maxHeartbeats 0 in
theorem PySem.Challenge.cw_reels_k16_whole_none_is_cheaper_holds : PySem.Challenge.rw_reels_k16_whole_none_is_cheaper.Holds := by
  w_on; o_law; k_head; (case hw => w_witness2)
  k_fill
  refine R.walk_tabs (l := PySem.Challenge.rw_reels_k16_whole_none_is_cheaper) (n := 63) (k := 7) (x := "_law_script") (CX := fun _ => L2.CX0) ["distances", "middle"] rfl (by decide) rfl ⟨rfl, by decide, by decide⟩ ?R (fun w h Y => PySem.W.kIn_of Y) ?F (fun _ _ _ _ _ h => h)
  case R =>
    intro nm hnm
    rcases List.mem_cons.mp hnm with rfl | hnm
    · first | rfl | decide +kernel
    · rw [List.mem_singleton.mp hnm]; first | rfl | decide +kernel
  case F =>
    intro w mg fa h KX G hmg tabs
    refine' R.law_mk KX G hmg (R.txt_mk KX G ?a0 ?l0 ?c0 ?k0 ?a1 ?l1 ?c1 ?k1 ?a2 ?l2 ?c2 ?k2 ?a3 ?l3 ?c3 ?k3 ?a4 ?l4 ?c4 ?k4 ?a5 ?l5 ?c5 ?k5 ?a6 ?l6 ?c6 ?k6 ?a7 ?l7 ?c7 ?k7 ?a8 ?l8 ?c8 ?k8 ?a9 ?l9 ?c9 ?k9 ?a10 ?l10 ?c10 ?k10 ?a11 ?l11 ?c11 ?k11 ?a12 ?l12 ?c12 ?k12 ?a13 ?l13 ?c13 ?k13 ?a14 ?l14 ?c14 ?k14 ?a15 ?l15 ?c15 ?k15 ?a16 ?l16 ?c16 ?k16 ?a17 ?l17 ?c17 ?k17 ?a18 ?l18 ?c18 ?k18 ?a19 ?l19 ?c19 ?k19 ?a20 ?l20 ?c20 ?k20 ?a21 ?l21 ?c21 ?k21 ?a22 ?l22 ?c22 ?k22 ?a23 ?l23 ?c23 ?k23 ?a24 ?l24 ?c24 ?k24 ?a25 ?l25 ?c25 ?k25 ?a26 ?l26 ?c26 ?k26 ?a27 ?l27 ?c27 ?k27 ?a28 ?l28 ?c28 ?k28 ?a29 ?l29 ?c29 ?k29 ?a30 ?l30 ?c30 ?k30 ?a31 ?l31 ?c31 ?k31 ?a32 ?l32 ?c32 ?k32 ?z_abs ?z_len ?z_zip ?z_sum ?z_range ?z_min ?z_max ?z_sorted ?z_list ?z_int ?z_isinstance ?z_ValueError ?ag_TooTight ?ax_TooTight ?ak_TooTight ?ab_TooTight ?at_TooTight ?ai_TooTight ?as_TooTight ?ag_ReelError ?ax_ReelError ?ak_ReelError ?ab_ReelError ?at_ReelError ?ai_ReelError ?as_ReelError  ?hg_x_own ?hk_x_own ?hs_x_own ?hd_x_own ?ha_x_own ?hn_x_own ?ht_x_own ?hm_x_own ?yb_x_reel ?ys_x_reel ?yi_x_reel ?yt_x_reel ?y_x_ve ?y_NOUGHT ?w_NOUGHT) ?a32 ?l32 ?c32 ?k32 tabs ?ra ?rl ?rc ?rk ?rm ?rp ?rn ?rh ?sa ?sl ?sc ?sk ?sm ?sp ?sn ?sh ?sne
    (case ra => k_is); (case rl => k_is); (case rc => k_is); (case rk => k_is); (case rm => k_is); (case rp => rfl); (case rn => first | k_is | rfl); (case rh => first | k_is | rfl)
    (case sa => k_is); (case sl => k_is); (case sc => k_is); (case sk => k_is); (case sm => k_is); (case sp => rfl); (case sn => first | k_is | rfl); (case sh => first | k_is | rfl)
    (case sne => decide)
    (case a0 => k_is); (case l0 => k_is); (case c0 => k_is); (case k0 => k_is); (case a1 => k_is); (case l1 => k_is); (case c1 => k_is); (case k1 => k_is); (case a2 => k_is); (case l2 => k_is); (case c2 => k_is); (case k2 => k_is); (case a3 => k_is); (case l3 => k_is); (case c3 => k_is); (case k3 => k_is); (case a4 => k_is); (case l4 => k_is); (case c4 => k_is); (case k4 => k_is); (case a5 => k_is); (case l5 => k_is); (case c5 => k_is); (case k5 => k_is); (case a6 => k_is); (case l6 => k_is); (case c6 => k_is); (case k6 => k_is); (case a7 => k_is); (case l7 => k_is); (case c7 => k_is); (case k7 => k_is); (case a8 => k_is); (case l8 => k_is); (case c8 => k_is); (case k8 => k_is); (case a9 => k_is); (case l9 => k_is); (case c9 => k_is); (case k9 => k_is); (case a10 => k_is); (case l10 => k_is); (case c10 => k_is); (case k10 => k_is); (case a11 => k_is); (case l11 => k_is); (case c11 => k_is); (case k11 => k_is); (case a12 => k_is); (case l12 => k_is); (case c12 => k_is); (case k12 => k_is); (case a13 => k_is); (case l13 => k_is); (case c13 => k_is); (case k13 => k_is); (case a14 => k_is); (case l14 => k_is); (case c14 => k_is); (case k14 => k_is); (case a15 => k_is); (case l15 => k_is); (case c15 => k_is); (case k15 => k_is); (case a16 => k_is); (case l16 => k_is); (case c16 => k_is); (case k16 => k_is); (case a17 => k_is); (case l17 => k_is); (case c17 => k_is); (case k17 => k_is); (case a18 => k_is); (case l18 => k_is); (case c18 => k_is); (case k18 => k_is); (case a19 => k_is); (case l19 => k_is); (case c19 => k_is); (case k19 => k_is); (case a20 => k_is); (case l20 => k_is); (case c20 => k_is); (case k20 => k_is); (case a21 => k_is); (case l21 => k_is); (case c21 => k_is); (case k21 => k_is); (case a22 => k_is); (case l22 => k_is); (case c22 => k_is); (case k22 => k_is); (case a23 => k_is); (case l23 => k_is); (case c23 => k_is); (case k23 => k_is); (case a24 => k_is); (case l24 => k_is); (case c24 => k_is); (case k24 => k_is); (case a25 => k_is); (case l25 => k_is); (case c25 => k_is); (case k25 => k_is); (case a26 => k_is); (case l26 => k_is); (case c26 => k_is); (case k26 => k_is); (case a27 => k_is); (case l27 => k_is); (case c27 => k_is); (case k27 => k_is); (case a28 => k_is); (case l28 => k_is); (case c28 => k_is); (case k28 => k_is); (case a29 => k_is); (case l29 => k_is); (case c29 => k_is); (case k29 => k_is); (case a30 => k_is); (case l30 => k_is); (case c30 => k_is); (case k30 => k_is); (case a31 => k_is); (case l31 => k_is); (case c31 => k_is); (case k31 => k_is); (case a32 => k_is); (case l32 => k_is); (case c32 => k_is); (case k32 => k_is)
    (case z_abs => k_is); (case z_len => k_is); (case z_zip => k_is); (case z_sum => k_is); (case z_range => k_is); (case z_min => k_is); (case z_max => k_is); (case z_sorted => k_is); (case z_list => k_is); (case z_int => k_is); (case z_isinstance => k_is); (case z_ValueError => k_is)
    (case ag_TooTight => k_is); (case ax_TooTight => k_exc); (case ak_TooTight => k_is); (case ab_TooTight => k_is); (case at_TooTight => k_is); (case ai_TooTight => k_is); (case as_TooTight => first | rfl | k_is)
    (case ag_ReelError => k_is); (case ax_ReelError => k_exc); (case ak_ReelError => k_is); (case ab_ReelError => k_is); (case at_ReelError => k_is); (case ai_ReelError => k_is); (case as_ReelError => first | rfl | k_is)
    (case hg_x_own => k_is); (case hk_x_own => k_is); (case hs_x_own => k_is); (case hd_x_own => k_is); (case ha_x_own => k_is); (case hn_x_own => k_is); (case ht_x_own => k_is); (case hm_x_own => k_is)
    (case yb_x_reel => k_is); (case ys_x_reel => k_is); (case yi_x_reel => k_is); (case yt_x_reel => k_is)
    
    (case y_x_ve => k_is)
    (case y_NOUGHT => k_is); (case w_NOUGHT => k_is)
