import PyProof.Rows.All
import Wide.All
import OpenK.AllK
import Wide.FinOn
import HandS.ForMost
import HandS.IsInst
import HandS.Wide
import HandS.FStr
import PyProof.FString3
import PyProof.Rows.StrIntSpec
import HandS.Sort
import HandS.SortOrd
import KE.SortData
import KE.SortKeyHeap
import HandS.ForExc
import HandS.ExcIs
import PyProof.StrLaws
import HandS.AnyAll
import HandS.EndTab
import HandS.EndOwn
import KE.KNestM
import PyProof.SumAny
import PyProof.GenCompT
import PyProof.WalksPairs
import HandS.Walk
import HandS.Style
import HandS.Zip
import PyProof.StrOps2
import HandS.ExcInit
import KE.KExcSuper
import HandS.ExcInitHot
import HandS.ExcField
import KE.KExcIs
import HandS.Evl
import PySem.Challenge.RW_reels_k19_whole_cues_read
set_option Elab.async false
set_option linter.all false
set_option maxRecDepth 100000
set_option maxHeartbeats 4000000
namespace R
/-! the greatest common divisor as the loops reckon it, and fractions as Rat -/
theorem fmod_nat (a b : Nat) : ((a : Int).fmod (b : Int)) = ((a % b : Nat) : Int) := by
  rw [Int.fmod_eq_emod_of_nonneg _ (by omega)]
  rfl
theorem gcd_turn (a b : Nat) : Nat.gcd b (a % b) = Nat.gcd a b := by
  rw [Nat.gcd_comm a b, Nat.gcd_rec b a, Nat.gcd_comm]
theorem gcd_pos {t b : Int} (h : b ≠ 0) : 0 < Nat.gcd t.natAbs b.natAbs := Nat.gcd_pos_of_pos_right _ (by omega)
theorem abs_nat (i : Int) : (if i < 0 then -i else i) = (i.natAbs : Int) := by
  split <;> omega
def frI (t b : Int) : Int := if b < 0 then -(Nat.gcd t.natAbs b.natAbs : Int) else (Nat.gcd t.natAbs b.natAbs : Int)
theorem frI_ne {t b : Int} (h : b ≠ 0) : frI t b ≠ 0 := by
  have := gcd_pos (t := t) h
  unfold frI
  split <;> omega
theorem frI_dt (t b : Int) : frI t b ∣ t := by
  have h : ((Nat.gcd t.natAbs b.natAbs : Nat) : Int) ∣ t := Int.ofNat_dvd_left.mpr (Nat.gcd_dvd_left _ _)
  unfold frI
  split
  · exact Int.neg_dvd.mpr h
  · exact h
theorem frI_db (t b : Int) : frI t b ∣ b := by
  have h : ((Nat.gcd t.natAbs b.natAbs : Nat) : Int) ∣ b := Int.ofNat_dvd_left.mpr (Nat.gcd_dvd_right _ _)
  unfold frI
  split
  · exact Int.neg_dvd.mpr h
  · exact h
theorem gcd_eq (t b : Int) : (b.gcd t) = Nat.gcd t.natAbs b.natAbs := by
  unfold Int.gcd
  exact Nat.gcd_comm _ _
theorem fdiv_exact {t d : Int} (hd : d ≠ 0) (h : d ∣ t) : t.fdiv d = t / d := by
  obtain ⟨k, rfl⟩ := h
  rw [Int.mul_fdiv_cancel_left _ hd, Int.mul_ediv_cancel_left _ hd]
theorem fr_num {t b : Int} (h : b ≠ 0) : t.fdiv (frI t b) = (Rat.divInt t b).num := by
  rw [fdiv_exact (frI_ne h) (frI_dt t b), Rat.num_divInt, gcd_eq]
  unfold frI
  split
  · rename_i h0
    rw [Int.sign_eq_neg_one_of_neg h0, Int.ediv_neg, Int.neg_one_mul]
    have hd : ((Nat.gcd t.natAbs b.natAbs : Nat) : Int) ∣ t := Int.ofNat_dvd_left.mpr (Nat.gcd_dvd_left _ _)
    rw [Int.neg_ediv_of_dvd hd]
  · rename_i h0
    rw [Int.sign_eq_one_of_pos (by omega), Int.one_mul]
theorem fr_den {t b : Int} (h : b ≠ 0) : b.fdiv (frI t b) = ((Rat.divInt t b).den : Int) := by
  rw [fdiv_exact (frI_ne h) (frI_db t b), Rat.den_divInt, gcd_eq, if_neg h]
  unfold frI
  split
  · rename_i h0
    rw [Int.ediv_neg]
    have hd : ((Nat.gcd t.natAbs b.natAbs : Nat) : Int) ∣ b := Int.ofNat_dvd_left.mpr (Nat.gcd_dvd_right _ _)
    rw [← Int.neg_ediv_of_dvd hd, show -b = ((b.natAbs : Nat) : Int) by omega, ← Int.natCast_ediv]
  · rename_i h0
    rw [show (b / ((Nat.gcd t.natAbs b.natAbs : Nat) : Int)) = (((b.natAbs : Nat) : Int) / ((Nat.gcd t.natAbs b.natAbs : Nat) : Int)) by
      rw [show ((b.natAbs : Nat) : Int) = b by omega], ← Int.natCast_ediv]
theorem frI_natAbs {t b : Int} (h : b ≠ 0) : (frI t b).natAbs ≤ b.natAbs := by
  have h1 : Nat.gcd t.natAbs b.natAbs ≤ b.natAbs := Nat.gcd_le_right _ (by omega)
  unfold frI
  split <;> omega
/-! sums and products of fractions by their parts -/
theorem den_ne (x : Rat) : ((x.den : Nat) : Int) ≠ 0 := by
  have := x.den_nz
  omega
theorem den_pos (x : Rat) : (0 : Int) < ((x.den : Nat) : Int) := by
  have := x.den_nz
  omega
theorem add_parts (x y : Rat) : Rat.divInt (x.num * y.den + y.num * x.den) ((x.den : Int) * y.den) = x + y := by
  conv => rhs; rw [← Rat.num_divInt_den x, ← Rat.num_divInt_den y]
  rw [Rat.divInt_add_divInt _ _ (den_ne x) (den_ne y)]
theorem sub_parts (x y : Rat) : Rat.divInt (x.num * y.den - y.num * x.den) ((x.den : Int) * y.den) = x - y := by
  conv => rhs; rw [← Rat.num_divInt_den x, ← Rat.num_divInt_den y]
  rw [Rat.divInt_sub_divInt _ _ (den_ne x) (den_ne y)]
theorem mul_parts (x y : Rat) : Rat.divInt (x.num * y.num) ((x.den : Int) * y.den) = x * y := by
  conv => rhs; rw [← Rat.num_divInt_den x, ← Rat.num_divInt_den y]
  rw [Rat.divInt_mul_divInt]
theorem div_parts (x y : Rat) : Rat.divInt (x.num * y.den) ((x.den : Int) * y.num) = x / y := by
  rw [Rat.div_def, Rat.inv_def]
  conv => rhs; rw [← Rat.num_divInt_den x]
  rw [Rat.divInt_mul_divInt]
theorem lt_parts (x y : Rat) : decide (x.num * y.den < y.num * x.den) = decide (x < y) := by
  rw [decide_eq_decide, Rat.lt_iff]
/-! sizes -/
structure Sz (n : Nat) (x : Rat) : Prop where
  num : x.num.natAbs < 2 ^ n
  den : x.den < 2 ^ n
theorem Sz.mono {n m : Nat} {x : Rat} (h : Sz n x) (k : n ≤ m) : Sz m x :=
  ⟨Nat.lt_of_lt_of_le h.num (Nat.pow_le_pow_right (by decide) k), Nat.lt_of_lt_of_le h.den (Nat.pow_le_pow_right (by decide) k)⟩
theorem divInt_num_le (t b : Int) : (Rat.divInt t b).num.natAbs ≤ t.natAbs := by
  by_cases h : b = 0
  · subst h
    rw [Rat.divInt_zero]
    exact Nat.zero_le _
  · rw [← fr_num h, fdiv_exact (frI_ne h) (frI_dt t b)]
    exact Int.natAbs_ediv_le_natAbs _ _
theorem divInt_den_le {t b : Int} (h : b ≠ 0) : (Rat.divInt t b).den ≤ b.natAbs := by
  rw [Rat.den_divInt, if_neg h]
  exact Nat.div_le_self _ _
theorem sz_divInt {n : Nat} {t b : Int} (ht : t.natAbs < 2 ^ n) (hb : b.natAbs < 2 ^ n) (h : b ≠ 0) : Sz n (Rat.divInt t b) :=
  ⟨Nat.lt_of_le_of_lt (divInt_num_le t b) ht, Nat.lt_of_le_of_lt (divInt_den_le h) hb⟩
theorem mul_bits {i j : Int} {a b : Nat} (ha : i.natAbs < 2 ^ a) (hb : j.natAbs < 2 ^ b) : (i * j).natAbs < 2 ^ (a + b) := by
  rw [Int.natAbs_mul, Nat.pow_add]
  exact Nat.mul_lt_mul'' ha hb
theorem add_bits {i j : Int} {a : Nat} (ha : i.natAbs < 2 ^ a) (hb : j.natAbs < 2 ^ a) : (i + j).natAbs < 2 ^ (a + 1) := by
  have : (i + j).natAbs ≤ i.natAbs + j.natAbs := Int.natAbs_add_le _ _
  rw [Nat.pow_succ]
  omega
theorem sub_bits {i j : Int} {a : Nat} (ha : i.natAbs < 2 ^ a) (hb : j.natAbs < 2 ^ a) : (i - j).natAbs < 2 ^ (a + 1) := by
  rw [Int.sub_eq_add_neg]
  exact add_bits ha (by omega)
theorem Sz.den' {n : Nat} {x : Rat} (h : Sz n x) : ((x.den : Nat) : Int).natAbs < 2 ^ n := h.den
theorem den_mul_ne (x y : Rat) : ((x.den : Int) * y.den) ≠ 0 := Int.mul_ne_zero (den_ne x) (den_ne y)
theorem up1 {i : Int} {a : Nat} (h : i.natAbs < 2 ^ a) : i.natAbs < 2 ^ (a + 1) := Nat.lt_of_lt_of_le h (Nat.pow_le_pow_right (by decide) (by omega))
theorem sz_add {n m : Nat} {x y : Rat} (hx : Sz n x) (hy : Sz m y) : Sz (n + m + 1) (x + y) := by
  rw [← add_parts]
  refine sz_divInt (add_bits (mul_bits hx.num hy.den') ?_) (up1 (mul_bits hx.den' hy.den')) (den_mul_ne x y)
  rw [Nat.add_comm n m]
  exact mul_bits hy.num hx.den'
theorem sz_sub {n m : Nat} {x y : Rat} (hx : Sz n x) (hy : Sz m y) : Sz (n + m + 1) (x - y) := by
  rw [← sub_parts]
  refine sz_divInt (sub_bits (mul_bits hx.num hy.den') ?_) (up1 (mul_bits hx.den' hy.den')) (den_mul_ne x y)
  rw [Nat.add_comm n m]
  exact mul_bits hy.num hx.den'
theorem sz_mul {n m : Nat} {x y : Rat} (hx : Sz n x) (hy : Sz m y) : Sz (n + m) (x * y) := by
  rw [← mul_parts]
  exact sz_divInt (mul_bits hx.num hy.num) (mul_bits hx.den' hy.den') (den_mul_ne x y)
theorem num_ne {y : Rat} (h : y ≠ 0) : y.num ≠ 0 := fun e => h (Rat.num_eq_zero.mp e)
theorem sz_div {n m : Nat} {x y : Rat} (hx : Sz n x) (hy : Sz m y) (h : y ≠ 0) : Sz (n + m) (x / y) := by
  rw [← div_parts]
  exact sz_divInt (mul_bits hx.num hy.den') (mul_bits hx.den' hy.num) (Int.mul_ne_zero (den_ne x) (num_ne h))
theorem sz_int {n : Nat} {i : Int} (hn : 0 < n) (h : i.natAbs < 2 ^ n) : Sz n (i : Rat) :=
  ⟨h, by
    show 1 < 2 ^ n
    exact Nat.one_lt_two_pow (by omega)⟩
/-! the sum as it is reckoned by what the bottoms have in common -/
theorem add_split (x y : Rat) : (x + y).num = (x.num * ((y.den / (x.den.gcd y.den) : Nat) : Int) + y.num * ((x.den / (x.den.gcd y.den) : Nat) : Int)) / (((x.num * ((y.den / (x.den.gcd y.den) : Nat) : Int) + y.num * ((x.den / (x.den.gcd y.den) : Nat) : Int)).natAbs.gcd (x.den.gcd y.den) : Nat) : Int) ∧
   (x + y).den = x.den / (x.den.gcd y.den) * (y.den / ((x.num * ((y.den / (x.den.gcd y.den) : Nat) : Int) + y.num * ((x.den / (x.den.gcd y.den) : Nat) : Int)).natAbs.gcd (x.den.gcd y.den))) := by
  have e : x + y = Rat.add x y := rfl
  rw [e]
  unfold Rat.add
  dsimp only
  by_cases hg : x.den.gcd y.den = 1
  · rw [dif_pos hg]
    constructor
    · show x.num * (y.den : Int) + y.num * (x.den : Int) = _
      rw [hg, Nat.div_one, Nat.div_one, Nat.gcd_one_right]
      exact (Int.ediv_one _).symm
    · show x.den * y.den = _
      rw [hg, Nat.div_one, Nat.div_one, Nat.gcd_one_right, Nat.div_one]
  · rw [dif_neg hg]
    unfold Rat.maybeNormalize
    split
    · rename_i h1
      refine ⟨?_, ?_⟩
      · show x.num * ((y.den / (x.den.gcd y.den) : Nat) : Int) + y.num * ((x.den / (x.den.gcd y.den) : Nat) : Int) = _
        rw [h1]
        exact (Int.ediv_one _).symm
      · show x.den / (x.den.gcd y.den) * y.den = _
        rw [h1, Nat.div_one]
    · refine ⟨?_, ?_⟩
      · exact Int.divExact_eq_ediv (Int.ofNat_dvd_left.mpr (Nat.gcd_dvd_left _ _))
      · show _ / _ = _
        rw [Nat.mul_div_assoc]
        exact Nat.dvd_trans (Nat.gcd_dvd_right _ _) (Nat.gcd_dvd_right _ _)
theorem fdiv_nat (a b : Nat) : ((a : Int).fdiv (b : Int)) = ((a / b : Nat) : Int) := by
  rw [Int.fdiv_eq_ediv_of_nonneg _ (by omega)]
  rfl
theorem fdiv_natR (a : Int) (b : Nat) : (a.fdiv (b : Int)) = a / (b : Int) := Int.fdiv_eq_ediv_of_nonneg _ (by omega)
def sG (x y : Rat) : Nat := x.den.gcd y.den
def sT (x y : Rat) : Int := x.num * ((y.den / sG x y : Nat) : Int) + y.num * ((x.den / sG x y : Nat) : Int)
def sD (x y : Rat) : Nat := (sT x y).natAbs.gcd (sG x y)
theorem sum_num (x y : Rat) : (sT x y).fdiv (sD x y : Int) = (x + y).num := by
  rw [fdiv_natR]
  exact (add_split x y).1.symm
theorem sum_den (x y : Rat) : (((x.den / sG x y : Nat) : Int) * ((y.den / sD x y : Nat) : Int)) = (((x + y).den : Nat) : Int) := by
  rw [show (x + y).den = x.den / sG x y * (y.den / sD x y) from (add_split x y).2]
  rfl
theorem sG_pos (x y : Rat) : 0 < sG x y := Nat.gcd_pos_of_pos_left _ x.den_pos
theorem sD_pos (x y : Rat) : 0 < sD x y := Nat.gcd_pos_of_pos_right _ (sG_pos x y)
theorem sG_le (x y : Rat) : sG x y ≤ x.den := Nat.gcd_le_left _ x.den_pos
theorem sD_le (x y : Rat) : sD x y ≤ x.den := Nat.le_trans (Nat.gcd_le_right _ (sG_pos x y)) (sG_le x y)
end R
namespace R
/-! ### what a fraction becomes whole by -/
def Iz (D : Nat) (x : Rat) : Prop := ∃ k : Int, x * (D : Rat) = (k : Rat)
theorem Iz.add {D : Nat} {x y : Rat} (hx : Iz D x) (hy : Iz D y) : Iz D (x + y) := by
  obtain ⟨k, h⟩ := hx
  obtain ⟨m, g⟩ := hy
  exact ⟨k + m, by rw [Rat.intCast_add, ← h, ← g]; grind⟩
theorem Iz.sub {D : Nat} {x y : Rat} (hx : Iz D x) (hy : Iz D y) : Iz D (x - y) := by
  obtain ⟨k, h⟩ := hx
  obtain ⟨m, g⟩ := hy
  exact ⟨k - m, by rw [Rat.intCast_sub, ← h, ← g]; grind⟩
theorem Iz.mul {D E : Nat} {x y : Rat} (hx : Iz D x) (hy : Iz E y) : Iz (D * E) (x * y) := by
  obtain ⟨k, h⟩ := hx
  obtain ⟨m, g⟩ := hy
  exact ⟨k * m, by rw [Rat.intCast_mul, ← h, ← g, Rat.natCast_mul]; grind⟩
theorem Iz.up {D : Nat} {x : Rat} (hx : Iz D x) (E : Nat) : Iz (D * E) x := by
  obtain ⟨k, h⟩ := hx
  exact ⟨k * E, by rw [Rat.intCast_mul, ← h, Rat.natCast_mul]; show x * ((D : Rat) * (E : Rat)) = x * (D : Rat) * ((E : Int) : Rat); rw [Rat.intCast_natCast]; grind⟩
theorem Iz.dvd {D E : Nat} {x : Rat} (hx : Iz D x) (h : D ∣ E) : Iz E x := by
  obtain ⟨c, rfl⟩ := h
  exact hx.up c
theorem iz_zero (D : Nat) : Iz D 0 := ⟨0, by grind⟩
theorem iz_int (D : Nat) (i : Int) : Iz D (i : Rat) := by
  refine ⟨i * D, ?_⟩
  rw [Rat.intCast_mul]
  rfl
theorem iz_divInt {t c : Int} {D : Nat} (hc : 0 < c) (h : c ∣ (D : Int)) : Iz D (Rat.divInt t c) := by
  obtain ⟨k, e⟩ := h
  refine ⟨t * k, ?_⟩
  have hc' : (c : Rat) ≠ 0 := fun z => by
    have := Rat.intCast_inj.mp (show (c : Rat) = ((0 : Int) : Rat) from z)
    omega
  have e2 : (D : Rat) = (c : Rat) * (k : Rat) := by
    rw [← Rat.intCast_mul, ← e]
    rfl
  rw [Rat.divInt_eq_div, e2, Rat.intCast_mul, Rat.div_def]
  have := Rat.mul_inv_cancel _ hc'
  grind
theorem Iz.eq {D : Nat} {x : Rat} (hD : 0 < D) (h : Iz D x) : ∃ k : Int, x = Rat.divInt k D ∧ x * (D : Rat) = (k : Rat) := by
  obtain ⟨k, h⟩ := h
  refine ⟨k, ?_, h⟩
  have hD' : (D : Rat) ≠ 0 := fun z => by
    have := Rat.natCast_inj.mp (show (D : Rat) = ((0 : Nat) : Rat) from z)
    omega
  rw [Rat.divInt_eq_div, ← h]
  show x = x * (D : Rat) / (((D : Nat) : Int) : Rat)
  rw [Rat.intCast_natCast, Rat.div_def]
  have := Rat.mul_inv_cancel _ hD'
  grind
/-- the size, by what it becomes whole by and how far it is from nought -/
theorem Iz.sz {D M n : Nat} {x : Rat} (hD : 0 < D) (h : Iz D x) (h1 : -(M : Rat) ≤ x) (h2 : x ≤ (M : Rat)) (hn : M * D < 2 ^ n) (hm : D < 2 ^ n) : Sz n x := by
  obtain ⟨k, e, g⟩ := h.eq hD
  rw [e]
  refine sz_divInt ?_ hm (by omega)
  have d0 : (0 : Rat) ≤ (D : Rat) := Rat.natCast_nonneg
  have a1 : (k : Rat) ≤ (((M * D : Nat) : Int) : Rat) := by
    rw [← g, Rat.intCast_natCast, Rat.natCast_mul]
    exact Rat.mul_le_mul_of_nonneg_right h2 d0
  have a2 : ((-((M * D : Nat) : Int) : Int) : Rat) ≤ (k : Rat) := by
    rw [← g, Rat.intCast_neg, Rat.intCast_natCast, Rat.natCast_mul, ← Rat.neg_mul]
    exact Rat.mul_le_mul_of_nonneg_right h1 d0
  have b1 := Rat.intCast_le_intCast.mp a1
  have b2 := Rat.intCast_le_intCast.mp a2
  omega
end R
namespace R
open PySem PySem.Spec PyProof.Rows L2
/-! ### a def of the text, and what it promises -/
structure Df (K : PySem.W.Frag) (mg : Str → Option Value) (x : Str) (st : Stmt) (ps : List Str) : Prop where
  ex : ∃ (f : Addr) (fd : FuncData), Fun K x x st f fd ∧ mg x = some (.ref f) ∧ Binds K fd ps []
structure Cl (P : Program) (w : World) (K : PySem.W.Frag) (mg : Str → Option Value) (base : Heap) (CX : CXT) (k : Nat) (x : Str) (sp : Sp) : Prop where
  ex : ∃ (f : Addr) (fd : FuncData) (ps : List Str), FnOk P w K mg base CX k f fd ps sp ∧ mg x = some (.ref f) ∧ PySem.W.keepIn K (.ref f) = true ∧ Binds K fd ps []
section
variable {P : Program} {w : World} {K : PySem.W.Frag} {mg : Str → Option Value} {base : Heap}
theorem Df.cl {x : Str} {st : Stmt} {N ps : List Str} {k : Nat} {sp : Sp} (D : Df K mg x st ps) (S : FnScope N ps (defScope st)) (len : ∀ vs H Q E, sp vs H Q E → vs.length = ps.length)
    (hbody : ∀ (f : Addr) (cdv : Value) (A : Around) (outer : List Env) (s : Shared) (H : Hp) (vs : List V) (Q : VK) (E : XK), Room k (A.deeper (envOfC x (defScope st) s.heap.objs.size f cdv)) → sp vs H Q E →
      ∃ t, PSs (cxOf CX0 P w K mg base N x (defScope st) f cdv A outer s H E).nox (defBody st) t ∧ t { nx := fun _ H' => Q .non H', rt := Q } (start N vs) H) : Cl P w K mg base CX0 (k + 1) x sp := by
  obtain ⟨f, fd, F, g, b⟩ := D.ex
  exact ⟨f, fd, ps, F.ok S len (hbody f), g, F.kp, b⟩
end
section
variable {X : Cx}
theorem pe_cl {k j : Nat} {x : Str} {sp : Sp} {p pos : Pos} {e : Expr} {es : List Expr} {t : TA} (c : Cl X.prog X.w X.K X.mg X.base CX0 k x sp) (hr : Room j X.A) (hk : k ≤ j) (hg : Gl X x) (ha : PA X (e :: es) t)
    (hdb : (x == ("__debug__" : Str)) = false := by decide) (he : starEach (e :: es) X.env = (false, eval e X.env) :: starEach es X.env := by rfl) (hpl : (backTo pos (starEach es X.env)).any (·.1) = false := by rfl) :
    PE X (.Call (.Name x p) (e :: es) [] pos) (tCall sp [] E0 t) := by
  obtain ⟨f, fd, ps, F, hm, kp, b⟩ := c.ex
  exact pe_call F (hr.mono hk) hg hm kp b .nil pass0 ha hdb he hpl
/-- // by any divisor but 0, below 2 ^ 9000 -/
def CDivX (_ j : Int) : Prop := j ≠ 0 ∧ j.natAbs.log2 < 9000
theorem op_fdivX : OpR X (binaryOp .FloorDiv) (rI CDivX fun i j => .int (i.fdiv j)) := opI fun i j _ _ _ _ _ hc q =>
  floordiv_int hc.1 q (.inl (PyProof.noPylong_of_log2 hc.2))
end
theorem cdiv {i j : Int} {b : Nat} (h : j ≠ 0) (hb : j.natAbs < 2 ^ b) (h0 : 0 < b) (h9 : b ≤ 9000) : CDivX i j := ⟨h, Nat.lt_of_lt_of_le (PySem.Flt.log2_lt_of h0 hb) h9⟩
/-! ### data at a heap -/
theorem Same.tup {K : PySem.W.Frag} {H H' : Hp} {a : Addr} {xs : List V} (e : Same H H') (h : SqT K H a xs) : SqT K H' a xs := by
  rcases h with (h | ⟨o, h⟩) | h
  · exact .inl (.inl (e _ _ h))
  · exact .inl (.inr ⟨o, e _ _ h⟩)
  · exact .inr h
theorem Same.new {H : Hp} {p : Addr} {o : HO} (h : H p = none) : Same H (upd H p o) := fun b x e => by
  rw [upd_ne (ne_of_none e h)]
  exact e
mutual
theorem dp_mono {K : PySem.W.Frag} {H H' : Hp} (s : Same H H') : ∀ (d : PyData) (v : V), Dp K H v d → Dp K H' v d
  | .none, _, h => by cases h; exact .non
  | .bool _, _, h => by cases h; exact .bl _
  | .int _, _, h => by cases h; exact .int _
  | .str _, _, h => by cases h; exact .str _
  | .list ds, _, h => by
    cases h with
    | lst hs ha => exact .lst (s.seq hs) (dpa_mono s ds _ ha)
  | .tuple ds, _, h => by
    cases h with
    | tup hs ha => exact .tup (Same.tup s hs) (dpa_mono s ds _ ha)
  | .dict _, _, h => by cases h
theorem dpa_mono {K : PySem.W.Frag} {H H' : Hp} (s : Same H H') : ∀ (ds : List PyData) (vs : List V), DpAll K H vs ds → DpAll K H' vs ds
  | [], _, h => by cases h; exact .nil
  | d :: ds, _, h => by
    cases h with
    | cons h1 h2 => exact .cons (dp_mono s d _ h1) (dpa_mono s ds _ h2)
end
end R
namespace R
section
open PySem PySem.Spec PyProof.Rows L2 Builtin Builtin.Str Builtin.Int Builtin.Float
/-! ### the field {x:02d} of an int that is not negative -/
def f02 : FormatSpec := { fill := 48, align := 61, width := some 2, type := some 100 }
theorem p02 : parseFormatSpec [48, 50, 100] "int" 62 = .ok f02 := rfl
theorem gives_02d (a : Int) (t u : Tok) (hs : a.natAbs.log2 < 1920) : Gives («int.__format__» ⟨[.int a t, .str "02d" u], []⟩) (.str (intSpecText f02 a)) := by
  intro prog w A R s hq
  unfold Builtin.«int.__format__»
  simp only [selfAndOne, noKeywords, Int.intOfSelf, asInt?, asStr?, List.isEmpty_nil, if_true, pure_bind, bind_pure, bind_assoc]
  rw [show (Value.str (Str.ofString "02d") u == Value.none) = false from rfl]
  simp only [Bool.false_eq_true, if_false]
  refine wpAny_bind (wpAny_typeNameOf (T := "str") (typeIs_str _ _ _) (by decide) fun _ => ?_)
  rw [show ((Str.ofString "02d").length == 0) = false by decide +kernel]
  simp only [Bool.false_eq_true, if_false, pure_bind]
  rw [show (((Str.ofString "02d").cps.toList.drop 1).any (fun x => decide (x ≥ 128)) || (decide ((Str.ofString "02d").cps.getD 0 0 ≥ 128) && !([60, 62, 61, 94] : List Nat).contains ((Str.ofString "02d").cps.getD 1 0))) = false by decide +kernel]
  simp only [Bool.false_eq_true, if_false, pure_bind]
  refine wpAny_bind (wpAny_typeNameOfCut_int ?_)
  rw [show (Str.ofString "02d").cps.toList = [48, 50, 100] by decide +kernel, p02]
  dsimp only
  rw [if_pos (by decide +kernel)]
  show wpAny _ _ (do let r ← Builtin.overDigitLimit? a; _) _ _ _
  rw [PySem.overDigitLimit_small hs, pure_bind]
  show wpAny _ _ (retStr _) _ _ _
  refine Gives.of_eq (m := .str (intSpecText f02 a)) ?_ prog w A R s hq
  unfold intSpecText
  rfl
end
open PySem PySem.Spec PyProof.Rows L2
/-! ### texts of numbers -/
def sI (i : Int) : Str := Str.ofString (toString i)
def pad2 (i : Int) : Str := if i < 10 then (⟨#[48]⟩ : Str) ++ sI i else sI i
theorem sapp (a b c : Str) : (a ++ b) ++ c = a ++ (b ++ c) := by
  refine Str.ext' ?_
  rw [Str.cps_append, Str.cps_append, Str.cps_append, Str.cps_append, Array.append_assoc]
theorem sapp_nil (a : Str) : a ++ Str.empty = a := Str.append_right_empty rfl
theorem nil_sapp (a : Str) : Str.empty ++ a = a := Str.append_left_empty rfl
theorem slen (a b : Str) : (a ++ b).length = a.length + b.length := by
  unfold Str.length
  rw [Str.cps_append, Array.size_append]
theorem sI_nat (m : Nat) : sI (m : Int) = ⟨((Nat.toDigits 10 m).map Char.toNat).toArray⟩ := text_ofNat m
theorem sI_len {i : Int} (h0 : 0 ≤ i) (h : i < 10 ^ 30) : (sI i).length ≤ 30 := by
  obtain ⟨m, rfl⟩ := Int.eq_ofNat_of_zero_le h0
  rw [sI_nat]
  show ((Nat.toDigits 10 m).map Char.toNat).toArray.size ≤ 30
  rw [List.size_toArray, List.length_map]
  exact digits10_le (by decide) (by
    have : ((m : Nat) : Int) < ((10 ^ 30 : Nat) : Int) := h
    omega)
theorem lg {i : Int} (h0 : 0 ≤ i) (h : i < 10 ^ 30) : i.natAbs.log2 < 1920 :=
  PySem.Flt.log2_lt_of (by decide) (Nat.lt_of_lt_of_le (show i.natAbs < 2 ^ 128 by omega) (Nat.pow_le_pow_right (by decide) (by decide)))
theorem pad2_len {i : Int} (h0 : 0 ≤ i) (h : i < 10 ^ 30) : (pad2 i).length ≤ 31 := by
  have := sI_len h0 h
  unfold pad2
  split
  · rw [slen]
    show 1 + _ ≤ 31
    omega
  · omega
theorem f02_text {a : Int} (h0 : 0 ≤ a) : intSpecText f02 a = pad2 a := by
  rw [intSpecText_zero (f := f02) rfl rfl rfl rfl h0]
  have D := digitsFacts10 a.natAbs
  unfold pad2
  split
  · rename_i h
    rw [D.lt10 (by omega)]
    rfl
  · rename_i h
    have := D.ge10 (by omega)
    rw [show f02.width.getD 0 - (Nat.toDigits 10 a.natAbs).length = 0 by
      show 2 - _ = 0
      omega]
    exact nil_sapp _
section
variable {X : Cx}
def tFmt02 (te : TE) : TE := fun σ H Q => te σ H fun x H1 => ∃ i : Int, x = .int i ∧ 0 ≤ i ∧ i < 10 ^ 30 ∧ Q (.str (pad2 i)) H1
theorem pe_fmt02 {e : Expr} {te : TE} {k : Nat} {p1 p2 pos : Pos} (he : PE X e te) : PE X (.FormattedValue e (-1) (some (.JoinedStr [.Constant (.str "02d") k p1] p2)) pos) (tFmt02 te) := by
  refine ⟨fun pins s σ H Q I h => ?_⟩
  refine wpAny_FormattedValue_spec (thn (he.run pins s σ H _ I h) fun v s1 hv => ?_)
  obtain ⟨x, H1, I1, r1, i, rfl, h0, h1, q⟩ := hv
  obtain ⟨t, rfl⟩ := r1
  refine thn ((pe_joined1 (pe_str (x := "02d"))).run pins s1 σ H1 (fun v H' => v = .str "02d" ∧ H' = H1) I1 ⟨rfl, rfl⟩) fun u s2 hu => ?_
  obtain ⟨y, H2, I2, r2, rfl, rfl⟩ := hu
  obtain ⟨t2, rfl⟩ := r2
  refine ⟨"02d", t2, rfl, ?_⟩
  refine wpAny_formatField_spec (by decide +kernel) (fun s' => typeIs_int s' i t) F.slot_int_format F.entry_int_format F.args_int_format_2 (fun u => gives_02d i t u (lg h0 h1)) ?_ (by decide +kernel) ?_
  · rw [f02_text h0]
    exact ⟨.str (pad2 i), H2, I2.tok _, ⟨_, rfl⟩, q⟩
  · rw [f02_text h0]
    exact Nat.le_trans (pad2_len h0 h1) (by decide)
theorem pe_gl {x : Str} {pos : Pos} {v : V} (hg : Gl X x) (h : ∃ u, X.mg x = some u ∧ RelV v u) (hd : (x == ("__debug__" : Str)) = false := by decide) : PE X (.Name x pos) (tC v) := by
  obtain ⟨u, h1, h2⟩ := h
  exact pe_glob hg h1 h2 hd
end
end R
namespace R
/-! ### shows, as plain data: the mathematics -/
abbrev St3 := Rat × Rat × Rat
def lst3 (s : St3) : Rat := (s.2.1 - s.1) / s.2.2
def lenS : List St3 → Rat
  | [] => 0
  | s :: r => lst3 s + lenS r
theorem lenS_app : ∀ (a b : List St3), lenS (a ++ b) = lenS a + lenS b
  | [], b => by
    show lenS b = 0 + lenS b
    rw [Rat.zero_add]
  | s :: r, b => by
    show lst3 s + lenS (r ++ b) = lst3 s + lenS r + lenS b
    rw [lenS_app r b, Rat.add_assoc]
theorem take_more {α : Type} : ∀ {l : List α} {i : Nat} {x : α}, l[i]? = some x → l.take (i + 1) = l.take i ++ [x]
  | [], i, x, h => by simp at h
  | a :: l, 0, x, h => by
    have e : a = x := Option.some.inj h
    subst e
    rfl
  | a :: l, i + 1, x, h => by
    have ih := take_more (l := l) (i := i) (x := x) h
    show a :: l.take (i + 1) = a :: l.take i ++ [x]
    rw [ih]
    rfl
theorem drop_more {α : Type} : ∀ {l : List α} {i : Nat} {x : α}, l[i]? = some x → l.drop i = x :: l.drop (i + 1)
  | [], i, x, h => by simp at h
  | a :: l, 0, x, h => by
    have e : a = x := Option.some.inj h
    subst e
    rfl
  | a :: l, i + 1, x, h => drop_more (l := l) (i := i) (x := x) h
theorem lenS_more {l : List St3} {i : Nat} {x : St3} (h : l[i]? = some x) : lenS (l.take (i + 1)) = lenS (l.take i) + lst3 x := by
  rw [take_more h, lenS_app]
  show lenS (l.take i) + (lst3 x + 0) = _
  rw [Rat.add_zero]
structure StOk (N : Nat) (s : St3) : Prop where
  b : Sz N s.1
  e : Sz N s.2.1
  p : Sz N s.2.2
  pos : 0 < s.2.2
structure ShOk (N : Nat) (xs : List St3) : Prop where
  each : ∀ s ∈ xs, StOk N s
  sums : ∀ k, Sz N (lenS (xs.take k))
  lasts : ∀ s ∈ xs, Sz N (lst3 s)
theorem ne_of_pos {x : Rat} (h : 0 < x) : x ≠ 0 := fun e => by
  rw [e] at h
  exact Rat.lt_irrefl h
theorem sz_lst {N : Nat} {s : St3} (h : StOk N s) : Sz (3 * N + 1) (lst3 s) := by
  have := sz_div (sz_sub h.e h.b) h.p (ne_of_pos h.pos)
  exact this.mono (by omega)
/-- what is shown at a time -/
def seen : List St3 → Rat → Option Rat
  | [], _ => none
  | s :: r, t => if t < lst3 s then some (s.1 + t * s.2.2) else seen r (t - lst3 s)
/-- the rows of a timetable -/
def tabF (t0 : Rat) : List St3 → List (Rat × Rat × St3)
  | [] => []
  | s :: r => (t0, t0 + lst3 s, s) :: tabF (t0 + lst3 s) r
theorem tabF_get : ∀ (t0 : Rat) (xs : List St3) (i : Nat), (tabF t0 xs)[i]? = (xs[i]?).map fun s => (t0 + lenS (xs.take i), t0 + lenS (xs.take (i + 1)), s)
  | _, [], i => by simp [tabF]
  | t0, s :: r, 0 => by
    show some (t0, t0 + lst3 s, s) = some (t0 + 0, t0 + (lst3 s + 0), s)
    rw [Rat.add_zero, Rat.add_zero]
  | t0, s :: r, i + 1 => by
    show (tabF (t0 + lst3 s) r)[i]? = _
    rw [tabF_get (t0 + lst3 s) r i]
    show (r[i]?).map _ = (r[i]?).map _
    congr 1
    funext z
    show (t0 + lst3 s + lenS (r.take i), t0 + lst3 s + lenS (r.take (i + 1)), z) = (t0 + (lst3 s + lenS (r.take i)), t0 + (lst3 s + lenS (r.take (i + 1))), z)
    rw [Rat.add_assoc, Rat.add_assoc]
theorem tabF_len : ∀ (t0 : Rat) (xs : List St3), (tabF t0 xs).length = xs.length
  | _, [] => rfl
  | t0, s :: r => by
    show (tabF (t0 + lst3 s) r).length + 1 = r.length + 1
    rw [tabF_len]
theorem seen_turn {xs : List St3} {i : Nat} {s : St3} {t : Rat} (h : xs[i]? = some s) : seen (xs.drop i) (t - lenS (xs.take i)) =
    if t < lenS (xs.take (i + 1)) then some (s.1 + (t - lenS (xs.take i)) * s.2.2) else seen (xs.drop (i + 1)) (t - lenS (xs.take (i + 1))) := by
  rw [drop_more h, lenS_more h]
  show (if t - lenS (xs.take i) < lst3 s then _ else _) = _
  by_cases c : t - lenS (xs.take i) < lst3 s
  · rw [if_pos c, if_pos (by grind)]
  · rw [if_neg c, if_neg (by grind), show t - lenS (xs.take i) - lst3 s = t - (lenS (xs.take i) + lst3 s) by grind]
/-- stretches that go on are made one -/
def nstep (acc : List St3) (s : St3) : List St3 := match acc.getLast? with
  | some l => if l.2.1 = s.1 ∧ l.2.2 = s.2.2 then acc.dropLast ++ [(l.1, s.2.1, s.2.2)] else acc ++ [s]
  | none => [s]
def normM (xs : List St3) : List St3 := xs.foldl nstep []
theorem normM_more {xs : List St3} {i : Nat} {s : St3} (h : xs[i]? = some s) : normM (xs.take (i + 1)) = nstep (normM (xs.take i)) s := by
  unfold normM
  rw [take_more h, List.foldl_append]
  rfl
/-- what lies between two times, from the show's start -/
def piece (s : St3) (b e : Rat) : List St3 :=
  if (if 0 < b then b else 0) < (if e < lst3 s then e else lst3 s) then [(s.1 + (if 0 < b then b else 0) * s.2.2, s.1 + (if e < lst3 s then e else lst3 s) * s.2.2, s.2.2)] else []
def cutM : List St3 → Rat → Rat → List St3
  | [], _, _ => []
  | s :: r, b, e => piece s b e ++ cutM r (b - lst3 s) (e - lst3 s)
theorem cutM_turn {xs : List St3} {i : Nat} {s : St3} {b e : Rat} (h : xs[i]? = some s) : cutM (xs.drop i) (b - lenS (xs.take i)) (e - lenS (xs.take i)) =
    piece s (b - lenS (xs.take i)) (e - lenS (xs.take i)) ++ cutM (xs.drop (i + 1)) (b - lenS (xs.take (i + 1))) (e - lenS (xs.take (i + 1))) := by
  rw [drop_more h, lenS_more h]
  show _ ++ cutM (xs.drop (i + 1)) (b - lenS (xs.take i) - lst3 s) (e - lenS (xs.take i) - lst3 s) = _
  rw [show b - lenS (xs.take i) - lst3 s = b - (lenS (xs.take i) + lst3 s) by grind, show e - lenS (xs.take i) - lst3 s = e - (lenS (xs.take i) + lst3 s) by grind]
end R
namespace R
theorem divInt_pos {t b : Int} (ht : 0 < t) (hb : 0 < b) : 0 < Rat.divInt t b := by
  rw [Rat.divInt_eq_div, Rat.div_def]
  exact Rat.mul_pos (Rat.intCast_pos.mpr ht) (Rat.inv_pos.mpr (Rat.intCast_pos.mpr hb))
theorem piece_eq (s : St3) (b e st : Rat) : piece s (b - st) (e - st) =
    if (if b < st then st else b) < (if st + lst3 s < e then st + lst3 s else e) then
      [(s.1 + ((if b < st then st else b) - st) * s.2.2, s.1 + ((if st + lst3 s < e then st + lst3 s else e) - st) * s.2.2, s.2.2)] else [] := by
  have e1 : (if 0 < b - st then b - st else 0) = (if b < st then st else b) - st := by
    split <;> split <;> grind
  have e2 : (if e - st < lst3 s then e - st else lst3 s) = (if st + lst3 s < e then st + lst3 s else e) - st := by
    split <;> split <;> grind
  unfold piece
  rw [e1, e2]
  by_cases c : (if b < st then st else b) < (if st + lst3 s < e then st + lst3 s else e)
  · rw [if_pos c, if_pos (by grind)]
  · rw [if_neg c, if_neg (by grind)]
theorem piece_len (s : St3) (b e : Rat) : (piece s b e).length ≤ 1 := by
  unfold piece
  generalize (if 0 < b then b else 0) = f
  generalize (if e < lst3 s then e else lst3 s) = g
  by_cases c : f < g
  · rw [if_pos c]
    exact Nat.le_refl _
  · rw [if_neg c]
    exact Nat.zero_le _
/-- one turn of making stretches one: the part that stays, and what stands last -/
theorem nstep_cases (acc : List St3) (s : St3) : (acc = [] ∧ nstep acc s = [] ++ [(s.1, s.2.1, s.2.2)]) ∨ ∃ pre l, acc = pre ++ [l] ∧
    ((l.2.1 = s.1 ∧ l.2.2 = s.2.2 ∧ nstep acc s = pre ++ [(l.1, s.2.1, s.2.2)]) ∨ (¬ (l.2.1 = s.1 ∧ l.2.2 = s.2.2) ∧ nstep acc s = acc ++ [(s.1, s.2.1, s.2.2)])) := by
  unfold nstep
  cases h : acc.getLast? with
  | none => exact .inl ⟨List.getLast?_eq_none_iff.mp h, rfl⟩
  | some l =>
    obtain ⟨pre, rfl⟩ := List.getLast?_eq_some_iff.mp h
    refine .inr ⟨pre, l, rfl, ?_⟩
    dsimp only
    by_cases c : l.2.1 = s.1 ∧ l.2.2 = s.2.2
    · rw [if_pos c, List.dropLast_concat]
      exact .inl ⟨c.1, c.2, rfl⟩
    · rw [if_neg c]
      exact .inr ⟨c, rfl⟩
theorem nstep_len (acc : List St3) (s : St3) : (nstep acc s).length ≤ acc.length + 1 := by
  rcases nstep_cases acc s with ⟨h, e⟩ | ⟨pre, l, h, (⟨_, _, e⟩ | ⟨_, e⟩)⟩
  · rw [e]
    simp
  · rw [e, h]
    simp
  · rw [e]
    simp
end R
namespace R
/-! ### normal shows: making one is a way of reading -/
theorem nstep_join (acc : List St3) (s t : St3) (h1 : s.2.1 = t.1) (h2 : s.2.2 = t.2.2) : nstep (nstep acc s) t = nstep acc (s.1, t.2.1, t.2.2) := by
  have key : ∀ (pre : List St3) (f : Rat), nstep (pre ++ [(f, s.2.1, s.2.2)]) t = pre ++ [(f, t.2.1, t.2.2)] := by
    intro pre f
    unfold nstep
    rw [List.getLast?_append, List.getLast?_singleton]
    dsimp only [Option.some_or]
    rw [if_pos ⟨h1, h2⟩, List.dropLast_concat]
  rcases nstep_cases acc s with ⟨e0, e1⟩ | ⟨pre, l, e0, (⟨c1, c2, e1⟩ | ⟨c, e1⟩)⟩
  · rw [e1, key, e0]
    rfl
  · rw [e1, key, e0]
    unfold nstep
    rw [List.getLast?_append, List.getLast?_singleton]
    dsimp only [Option.some_or]
    rw [if_pos ⟨c1, by rw [← h2]; exact c2⟩, List.dropLast_concat]
  · rw [e1, key, e0]
    unfold nstep
    rw [List.getLast?_append, List.getLast?_singleton]
    dsimp only [Option.some_or]
    rw [if_neg (fun z => c ⟨z.1, by rw [h2]; exact z.2⟩)]
theorem snoc_ind {α : Type} {P : List α → Prop} (h0 : P []) (h1 : ∀ b s, P b → P (b ++ [s])) (b : List α) : P b := by
  have : ∀ l : List α, P l.reverse := by
    intro l
    induction l with
    | nil => exact h0
    | cons x l ih =>
      rw [List.reverse_cons]
      exact h1 _ _ ih
  have h := this b.reverse
  rw [List.reverse_reverse] at h
  exact h
/-- behind anything, a show and its normal one come to the same -/
theorem fold_norm (acc0 : List St3) : ∀ (b : List St3), (normM b).foldl nstep acc0 = b.foldl nstep acc0 := by
  intro b
  refine snoc_ind (P := fun b => (normM b).foldl nstep acc0 = b.foldl nstep acc0) rfl (fun b s ih => ?_) b
  · have e : normM (b ++ [s]) = nstep (normM b) s := by
      unfold normM
      rw [List.foldl_append]
      rfl
    rw [e, List.foldl_append, ← ih]
    show _ = nstep ((normM b).foldl nstep acc0) s
    rcases nstep_cases (normM b) s with ⟨e0, e1⟩ | ⟨pre, l, e0, (⟨c1, c2, e1⟩ | ⟨c, e1⟩)⟩
    · rw [e1, e0]
      rfl
    · rw [e1, e0, List.foldl_append, List.foldl_append]
      show nstep (pre.foldl nstep acc0) (l.1, s.2.1, s.2.2) = nstep (nstep (pre.foldl nstep acc0) l) s
      rw [nstep_join _ _ _ c1 c2]
    · rw [e1, List.foldl_append]
      rfl
theorem norm_app (a b : List St3) : normM (a ++ b) = b.foldl nstep (normM a) := by
  unfold normM
  rw [List.foldl_append]
theorem norm_norm (b : List St3) : normM (normM b) = normM b := fold_norm [] b
theorem norm_left (a b : List St3) : normM (normM a ++ b) = normM (a ++ b) := by
  rw [norm_app, norm_app, norm_norm]
theorem norm_right (a b : List St3) : normM (a ++ normM b) = normM (a ++ b) := by
  rw [norm_app, norm_app, fold_norm]
theorem norm_congr {a a' b b' : List St3} (h1 : normM a = normM a') (h2 : normM b = normM b') : normM (a ++ b) = normM (a' ++ b') := by
  rw [← norm_left, h1, norm_left, ← norm_right, h2, norm_right]
/-! ### what is cut out of a show and of its normal one -/
def Pos3 (xs : List St3) : Prop := ∀ s ∈ xs, 0 < s.2.2
theorem lst_join {s t : St3} (h1 : s.2.1 = t.1) (h2 : s.2.2 = t.2.2) : lst3 (s.1, t.2.1, t.2.2) = lst3 s + lst3 t := by
  unfold lst3
  dsimp only
  rw [h2, Rat.div_def, Rat.div_def, Rat.div_def, ← Rat.add_mul, h1]
  congr 1
  grind
theorem lst_mul {s : St3} (h : 0 < s.2.2) : lst3 s * s.2.2 = s.2.1 - s.1 := by
  unfold lst3
  rw [Rat.div_mul_cancel (ne_of_pos h)]
theorem cutM_app : ∀ (xs ys : List St3) (b e : Rat), cutM (xs ++ ys) b e = cutM xs b e ++ cutM ys (b - lenS xs) (e - lenS xs)
  | [], ys, b, e => by
    show cutM ys b e = cutM ys (b - 0) (e - 0)
    rw [show b - 0 = b by grind, show e - 0 = e by grind]
  | s :: r, ys, b, e => by
    show piece s b e ++ cutM (r ++ ys) (b - lst3 s) (e - lst3 s) = (piece s b e ++ cutM r (b - lst3 s) (e - lst3 s)) ++ cutM ys (b - (lst3 s + lenS r)) (e - (lst3 s + lenS r))
    rw [cutM_app r ys, List.append_assoc, show b - lst3 s - lenS r = b - (lst3 s + lenS r) by grind, show e - lst3 s - lenS r = e - (lst3 s + lenS r) by grind]
theorem cutM_one (s : St3) (b e : Rat) : cutM [s] b e = piece s b e := by
  show piece s b e ++ [] = _
  rw [List.append_nil]
/-- the first and the last time of a piece -/
def pf (b : Rat) : Rat := if 0 < b then b else 0
def pg (l e : Rat) : Rat := if e < l then e else l
theorem piece_pf (s : St3) (b e : Rat) : piece s b e = if pf b < pg (lst3 s) e then [(s.1 + pf b * s.2.2, s.1 + pg (lst3 s) e * s.2.2, s.2.2)] else [] := rfl
theorem norm_two (x y : St3) (h1 : x.2.1 = y.1) (h2 : x.2.2 = y.2.2) : normM [x, y] = normM [(x.1, y.2.1, y.2.2)] := by
  show nstep (nstep [] x) y = nstep [] _
  exact nstep_join [] x y h1 h2
theorem pg_shift (u v e : Rat) : pg (u + v) e = u + pg v (e - u) := by
  unfold pg
  grind
theorem pf0 (b : Rat) : 0 ≤ pf b := by
  unfold pf
  grind
theorem pfb (b : Rat) : b ≤ pf b := by
  unfold pf
  grind
theorem pf_neg {b : Rat} (h : b ≤ 0) : pf b = 0 := by
  unfold pf
  grind
theorem pf_pos {b : Rat} (h : 0 ≤ b) : pf b = b := by
  unfold pf
  grind
theorem pge (l e : Rat) : pg l e ≤ e := by
  unfold pg
  grind
theorem pgl (l e : Rat) : pg l e ≤ l := by
  unfold pg
  grind
theorem pg_l {l e : Rat} (h : l ≤ e) : pg l e = l := by
  unfold pg
  grind
theorem pg_e {l e : Rat} (h : e ≤ l) : pg l e = e := by
  unfold pg
  grind
theorem pfg1 {u v b e : Rat} (c1 : pf b < pg u e) (c2 : pf (b - u) < pg v (e - u)) : pf (b - u) = 0 ∧ pg u e = u := by
  have h1 := pf0 (b - u)
  have h2 := pge v (e - u)
  have h3 := pgl u e
  have h4 := pfb b
  have h5 : u ≤ e := by grind
  have h6 : b - u ≤ 0 := by grind
  exact ⟨pf_neg h6, pg_l h5⟩
theorem pfg2 {u v b e : Rat} (l1 : 0 ≤ u) (l2 : 0 ≤ v) (c1 : pf b < pg u e) (c2 : ¬ pf (b - u) < pg v (e - u)) : pg (u + v) e = pg u e := by
  by_cases h : e ≤ u
  · rw [pg_e h, pg_e (by grind)]
  · have h3 := pgl u e
    have h4 := pfb b
    have h5 : pf (b - u) = 0 := pf_neg (by grind)
    rw [pg_l (show u ≤ e by grind), pg_shift]
    rw [h5] at c2
    by_cases h6 : e - u ≤ v
    · rw [pg_e h6] at c2
      grind
    · rw [pg_l (show v ≤ e - u by grind)] at c2 ⊢
      grind
theorem pfg3 {u v b e : Rat} (l1 : 0 ≤ u) (c1 : ¬ pf b < pg u e) (c2 : pf (b - u) < pg v (e - u)) : pf (b - u) = pf b - u := by
  have h1 := pf0 (b - u)
  have h2 := pge v (e - u)
  have h5 : pg u e = u := pg_l (by grind)
  rw [h5] at c1
  by_cases h6 : b ≤ 0
  · have h7 := pf_neg h6
    rw [h7] at c1 ⊢
    rw [pf_neg (show b - u ≤ 0 by grind)]
    grind
  · have h7 := pf_pos (show 0 ≤ b by grind)
    rw [h7] at c1 ⊢
    rw [pf_pos (show 0 ≤ b - u by grind)]
theorem pfg4 {u v b e : Rat} (l1 : 0 ≤ u) (l2 : 0 ≤ v) (c1 : ¬ pf b < pg u e) (c2 : ¬ pf (b - u) < pg v (e - u)) : ¬ pf b < pg (u + v) e := by
  by_cases h : e ≤ u
  · rw [pg_e h] at c1
    rw [pg_e (by grind)]
    exact c1
  · rw [pg_l (show u ≤ e by grind)] at c1
    rw [pg_shift]
    by_cases h6 : b - u ≤ 0
    · rw [pf_neg h6] at c2
      grind
    · rw [pf_pos (show 0 ≤ b - u by grind)] at c2
      rw [pf_pos (show 0 ≤ b by grind)] at c1 ⊢
      grind
theorem piece_join {s t : St3} (h1 : s.2.1 = t.1) (h2 : s.2.2 = t.2.2) (hp : 0 < s.2.2) (l1 : 0 ≤ lst3 s) (l2 : 0 ≤ lst3 t) (b e : Rat) :
    normM (piece s b e ++ piece t (b - lst3 s) (e - lst3 s)) = normM (piece (s.1, t.2.1, t.2.2) b e) := by
  have m1 := lst_mul hp
  have hm : s.2.1 = s.1 + lst3 s * s.2.2 := by grind
  rw [piece_pf, piece_pf, piece_pf, lst_join h1 h2]
  dsimp only
  rw [← h2, ← h1, hm]
  clear hm m1 h1 h2 hp
  generalize lst3 s = u at *
  generalize lst3 t = v at *
  generalize s.2.2 = p at *
  generalize s.1 = a at *
  by_cases c1 : pf b < pg u e
  · by_cases c2 : pf (b - u) < pg v (e - u)
    · obtain ⟨e1, e2⟩ := pfg1 c1 c2
      have e3 := pg_shift u v e
      have c3 : pf b < pg (u + v) e := by
        rw [e3]
        rw [e2] at c1
        rw [e1] at c2
        grind
      rw [if_pos c1, if_pos c2, if_pos c3, e1, e2, e3]
      generalize pg v (e - u) = w
      generalize pf b = z
      refine (norm_two (a + z * p, a + u * p, p) (a + u * p + 0 * p, a + u * p + w * p, p) ?_ rfl).trans ?_
      · show a + u * p = a + u * p + 0 * p
        grind
      · show normM [(a + z * p, a + u * p + w * p, p)] = _
        rw [show a + u * p + w * p = a + (u + w) * p by grind]
    · rw [if_pos c1, if_neg c2, pfg2 l1 l2 c1 c2, if_pos c1]
      rfl
  · by_cases c2 : pf (b - u) < pg v (e - u)
    · have e1 := pfg3 l1 c1 c2
      have e3 := pg_shift u v e
      have c3 : pf b < pg (u + v) e := by
        rw [e3]
        rw [e1] at c2
        generalize pg v (e - u) = w at *
        generalize pf b = z at *
        clear c1 e1 e3
        grind
      rw [if_neg c1, if_pos c2, if_pos c3, e1, e3]
      generalize pg v (e - u) = w
      generalize pf b = z
      rw [show a + u * p + (z - u) * p = a + z * p by grind, show a + u * p + w * p = a + (u + w) * p by grind]
      rfl
    · rw [if_neg c1, if_neg c2, if_neg (pfg4 l1 l2 c1 c2)]
      rfl
structure Gd3 (s : St3) : Prop where
  p : 0 < s.2.2
  l : 0 ≤ lst3 s
theorem nstep_all {P : St3 → Prop} (hj : ∀ s t : St3, s.2.1 = t.1 → s.2.2 = t.2.2 → P s → P t → P (s.1, t.2.1, t.2.2)) {acc : List St3} {s : St3} (h : ∀ x ∈ acc, P x) (hs : P s) : ∀ x ∈ nstep acc s, P x := by
  intro x hx
  rcases nstep_cases acc s with ⟨e0, e1⟩ | ⟨pre, l, e0, (⟨c1, c2, e1⟩ | ⟨c, e1⟩)⟩
  · rw [e1] at hx
    have : x = s := List.mem_singleton.mp hx
    rw [this]
    exact hs
  · rw [e1] at hx
    rcases List.mem_append.mp hx with h1 | h1
    · exact h x (by rw [e0]; exact List.mem_append_left _ h1)
    · rw [List.mem_singleton.mp h1]
      exact hj l s c1 c2 (h l (by rw [e0]; exact List.mem_append_right _ (List.mem_singleton.mpr rfl))) hs
  · rw [e1] at hx
    rcases List.mem_append.mp hx with h1 | h1
    · exact h x h1
    · have : x = s := List.mem_singleton.mp h1
      rw [this]
      exact hs
theorem norm_snoc (b : List St3) (s : St3) : normM (b ++ [s]) = nstep (normM b) s := by
  unfold normM
  rw [List.foldl_append]
  rfl
theorem norm_all {P : St3 → Prop} (hj : ∀ s t : St3, s.2.1 = t.1 → s.2.2 = t.2.2 → P s → P t → P (s.1, t.2.1, t.2.2)) (xs : List St3) : (∀ x ∈ xs, P x) → ∀ x ∈ normM xs, P x := by
  refine snoc_ind (P := fun xs => (∀ x ∈ xs, P x) → ∀ x ∈ normM xs, P x) (fun h => h) (fun b s ih h => ?_) xs
  rw [norm_snoc]
  exact nstep_all hj (ih fun x hx => h x (List.mem_append_left _ hx)) (h s (List.mem_append_right _ (List.mem_singleton.mpr rfl)))
theorem gd_join (s t : St3) (h1 : s.2.1 = t.1) (h2 : s.2.2 = t.2.2) (a : Gd3 s) (b : Gd3 t) : Gd3 (s.1, t.2.1, t.2.2) := ⟨b.p, by rw [lst_join h1 h2]; have := a.l; have := b.l; grind⟩
theorem lenS_one (s : St3) : lenS [s] = lst3 s := by
  show lst3 s + 0 = _
  rw [Rat.add_zero]
theorem lenS_norm (xs : List St3) : lenS (normM xs) = lenS xs := by
  refine snoc_ind (P := fun xs => lenS (normM xs) = lenS xs) rfl (fun b s ih => ?_) xs
  rw [norm_snoc, lenS_app, ← ih]
  rcases nstep_cases (normM b) s with ⟨e0, e1⟩ | ⟨pre, l, e0, (⟨c1, c2, e1⟩ | ⟨c, e1⟩)⟩
  · rw [e1, e0]
    show lenS [(s.1, s.2.1, s.2.2)] = 0 + lenS [s]
    rw [Rat.zero_add]
  · rw [e1, e0, lenS_app, lenS_app, lenS_one, lenS_one, lenS_one, lst_join c1 c2]
    grind
  · rw [e1, lenS_app]
theorem cut_norm (xs : List St3) (b e : Rat) : (∀ s ∈ xs, Gd3 s) → normM (cutM (normM xs) b e) = normM (cutM xs b e) := by
  refine snoc_ind (P := fun xs => (∀ s ∈ xs, Gd3 s) → normM (cutM (normM xs) b e) = normM (cutM xs b e)) (fun _ => rfl) (fun ys s ih h => ?_) xs
  have hy : ∀ s ∈ ys, Gd3 s := fun x hx => h x (List.mem_append_left _ hx)
  have hs : Gd3 s := h s (List.mem_append_right _ (List.mem_singleton.mpr rfl))
  have ih := ih hy
  have gn := norm_all gd_join ys hy
  rw [norm_snoc, cutM_app, cutM_one, ← norm_left, ← ih, norm_left, ← lenS_norm ys]
  rcases nstep_cases (normM ys) s with ⟨e0, e1⟩ | ⟨pre, l, e0, (⟨c1, c2, e1⟩ | ⟨c, e1⟩)⟩
  · rw [e1, e0]
    show normM (piece (s.1, s.2.1, s.2.2) b e ++ []) = normM ([] ++ piece s (b - 0) (e - 0))
    rw [List.append_nil, List.nil_append, show b - 0 = b by grind, show e - 0 = e by grind]
  · rw [e1, e0]
    have hl : Gd3 l := gn l (by rw [e0]; exact List.mem_append_right _ (List.mem_singleton.mpr rfl))
    rw [cutM_app, cutM_app, cutM_one, cutM_one, lenS_app, lenS_one, List.append_assoc]
    refine norm_congr rfl ?_
    rw [show b - (lenS pre + lst3 l) = b - lenS pre - lst3 l by grind, show e - (lenS pre + lst3 l) = e - lenS pre - lst3 l by grind]
    exact (piece_join c1 c2 hl.p hl.l hs.l _ _).symm
  · rw [e1, cutM_app, cutM_one]
/-! ### the deeds -/
theorem fill_norm (xs st : List St3) (b e : Rat) (h : ∀ s ∈ xs, Gd3 s) :
    normM (normM (cutM (normM xs) 0 b) ++ st ++ normM (cutM (normM xs) e (lenS (normM xs)))) = normM (cutM xs 0 b ++ st ++ cutM xs e (lenS xs)) := by
  refine norm_congr (norm_congr ?_ rfl) ?_
  · rw [norm_norm, cut_norm xs 0 b h]
  · rw [norm_norm, cut_norm xs e _ h, lenS_norm]
def fastM (f : Rat) (zs : List St3) : List St3 := zs.map fun s => (s.1, s.2.1, s.2.2 * f)
theorem fast_norm {f : Rat} (hf : 0 < f) (zs : List St3) : fastM f (normM zs) = normM (fastM f zs) := by
  refine snoc_ind (P := fun zs => fastM f (normM zs) = normM (fastM f zs)) rfl (fun b s ih => ?_) zs
  have e : fastM f (b ++ [s]) = fastM f b ++ [(s.1, s.2.1, s.2.2 * f)] := by
    unfold fastM
    rw [List.map_append]
    rfl
  have hi : ∀ p q : Rat, p * f = q * f ↔ p = q := fun p q => ⟨fun h => by
    have h1 : (p - q) * f = 0 := by grind
    rcases Rat.mul_eq_zero.mp h1 with h2 | h2
    · grind
    · exact absurd h2 (ne_of_pos hf), fun h => by rw [h]⟩
  rw [norm_snoc, e, norm_snoc, ← ih]
  generalize normM b = acc
  have em : ∀ (pre : List St3) (l : St3), fastM f (pre ++ [l]) = fastM f pre ++ [(l.1, l.2.1, l.2.2 * f)] := fun pre l => by
    unfold fastM
    rw [List.map_append]
    rfl
  rcases nstep_cases acc s with ⟨e0, e1⟩ | ⟨pre, l, e0, (⟨c1, c2, e1⟩ | ⟨c, e1⟩)⟩
  · rw [e1, e0]
    rfl
  · rw [e1, e0, em, em]
    unfold nstep
    rw [List.getLast?_append, List.getLast?_singleton]
    dsimp only [Option.some_or]
    rw [if_pos ⟨c1, (hi _ _).mpr c2⟩, List.dropLast_concat]
  · rw [e1, em, e0, em]
    unfold nstep
    rw [List.getLast?_append, List.getLast?_singleton]
    dsimp only [Option.some_or]
    rw [if_neg (fun z => c ⟨z.1, (hi _ _).mp z.2⟩)]
end R
namespace R
def L30 : Nat := 2329089562800
theorem l30_dvd : ∀ c : Nat, c < 31 → 0 < c → c ∣ L30 := by decide
theorem t2520_dvd : ∀ c : Nat, c < 10 → 0 < c → c ∣ 2520 := by decide
/-! ### paces as they are drawn -/
structure Pc (p : Rat) : Prop where
  pos : 0 < p
  n9 : p.num.natAbs ≤ 9
  d9 : p.den ≤ 9
theorem num_pos' {p : Rat} (h : 0 < p) : 0 < p.num := by
  have h1 := (Rat.lt_iff 0 p).mp h
  have e1 : (0 : Rat).num = 0 := rfl
  have e2 : (0 : Rat).den = 1 := rfl
  rw [e1, e2, Int.zero_mul] at h1
  omega
theorem mul_den (p : Rat) : p * (p.den : Rat) = (p.num : Rat) := by
  have h := Rat.num_divInt_den p
  rw [Rat.divInt_eq_div, Rat.intCast_natCast] at h
  have hd : (p.den : Rat) ≠ 0 := fun z => p.den_nz (Rat.natCast_inj.mp (show (p.den : Rat) = ((0 : Nat) : Rat) from z))
  have hc := Rat.inv_mul_cancel _ hd
  rw [Rat.div_def] at h
  generalize (p.den : Rat) = d at *
  generalize (p.num : Rat) = n at *
  rw [← h]
  grind
theorem iz_den (p : Rat) : Iz p.den p := ⟨p.num, mul_den p⟩
theorem iz_num {p : Rat} (h : 0 < p) : Iz p.num.natAbs p⁻¹ := by
  have h1 := num_pos' h
  refine ⟨(p.den : Int), ?_⟩
  have e : ((p.num.natAbs : Nat) : Rat) = (p.num : Rat) := by
    rw [← Rat.intCast_natCast]
    congr 1
    omega
  rw [e, ← mul_den p, Rat.intCast_natCast]
  have h2 := Rat.inv_mul_cancel p (ne_of_pos h)
  grind
theorem Pc.iz {p : Rat} (h : Pc p) : Iz 2520 p := (iz_den p).dvd (t2520_dvd _ (by have := h.d9; omega) p.den_pos)
theorem Pc.iv {p : Rat} (h : Pc p) : Iz 2520 p⁻¹ := (iz_num h.pos).dvd (t2520_dvd _ (by have := h.n9; omega) (by have := num_pos' h.pos; omega))
def gm (p : Rat) : Nat := p.num.natAbs * p.den
theorem Pc.gm_le {p : Rat} (h : Pc p) : gm p ≤ 81 := Nat.mul_le_mul h.n9 h.d9
theorem Pc.gm_pos {p : Rat} (h : Pc p) : 0 < gm p := Nat.mul_pos (by have := num_pos' h.pos; omega) p.den_pos
theorem Pc.izg {p : Rat} (h : Pc p) : Iz (gm p) p := (iz_den p).dvd (Nat.dvd_mul_left _ _)
theorem Pc.ivg {p : Rat} (h : Pc p) : Iz (gm p) p⁻¹ := (iz_num h.pos).dvd (Nat.dvd_mul_right _ _)
theorem den_pos_q (p : Rat) : (1 : Rat) ≤ (p.den : Rat) := by
  have : ((1 : Nat) : Rat) ≤ (p.den : Rat) := Rat.natCast_le_natCast.mpr p.den_pos
  exact this
theorem Pc.hi {p : Rat} (h : Pc p) : p ≤ 9 := by
  have h1 : (p.num : Rat) ≤ ((9 : Int) : Rat) := Rat.intCast_le_intCast.mpr (by have := h.n9; omega)
  rw [← mul_den p] at h1
  have h2 := den_pos_q p
  have h3 : p * 1 ≤ p * (p.den : Rat) := Rat.mul_le_mul_of_nonneg_left h2 (by have := h.pos; grind)
  have h4 : ((9 : Int) : Rat) = 9 := rfl
  grind
theorem Pc.lo {p : Rat} (h : Pc p) : p⁻¹ ≤ 9 := by
  have n1 : ((1 : Int) : Rat) ≤ (p.num : Rat) := Rat.intCast_le_intCast.mpr (by have := num_pos' h.pos; omega)
  have h1 : (p.den : Rat) ≤ ((9 : Nat) : Rat) := Rat.natCast_le_natCast.mpr h.d9
  have h2 := mul_den p
  have hi := Rat.inv_pos.mpr h.pos
  have hc := Rat.inv_mul_cancel p (ne_of_pos h.pos)
  have e : p⁻¹ * (p.num : Rat) = (p.den : Rat) := by
    rw [← h2]
    grind
  have h5 : p⁻¹ * 1 ≤ p⁻¹ * (p.num : Rat) := Rat.mul_le_mul_of_nonneg_left n1 (by grind)
  have h4 : ((9 : Nat) : Rat) = 9 := rfl
  grind
/-! ### products of some of the factors -/
inductive Fx : List Rat → Rat → Prop
  | nil : Fx [] 1
  | skip {f : Rat} {fs : List Rat} {x : Rat} : Fx fs x → Fx (f :: fs) x
  | take {f : Rat} {fs : List Rat} {x : Rat} : Fx fs x → Fx (f :: fs) (x * f)
def Gam : List Rat → Nat
  | [] => 1
  | f :: fs => Gam fs * gm f
theorem fx_one : ∀ fs : List Rat, Fx fs 1
  | [] => .nil
  | _ :: fs => .skip (fx_one fs)
theorem Gam_pos : ∀ fs : List Rat, (∀ f ∈ fs, Pc f) → 0 < Gam fs
  | [], _ => Nat.one_pos
  | f :: fs, h => Nat.mul_pos (Gam_pos fs fun g hg => h g (List.mem_cons_of_mem _ hg)) (h f List.mem_cons_self).gm_pos
theorem Gam_le : ∀ fs : List Rat, (∀ f ∈ fs, Pc f) → Gam fs ≤ 81 ^ fs.length
  | [], _ => Nat.le_refl _
  | f :: fs, h => by
    show Gam fs * gm f ≤ 81 ^ (fs.length + 1)
    rw [Nat.pow_succ]
    exact Nat.mul_le_mul (Gam_le fs fun g hg => h g (List.mem_cons_of_mem _ hg)) (h f List.mem_cons_self).gm_le
theorem fx_pos : ∀ {fs : List Rat} {x : Rat}, (∀ f ∈ fs, Pc f) → Fx fs x → 0 < x
  | [], _, _, .nil => by decide
  | f :: fs, _, h, .skip g => fx_pos (fun a ha => h a (List.mem_cons_of_mem _ ha)) g
  | f :: fs, _, h, .take g => Rat.mul_pos (fx_pos (fun a ha => h a (List.mem_cons_of_mem _ ha)) g) (h f List.mem_cons_self).pos
theorem inv_mul2 {x y : Rat} (hx : 0 < x) (hy : 0 < y) : (x * y)⁻¹ = x⁻¹ * y⁻¹ := by
  have h1 := Rat.inv_mul_cancel x (ne_of_pos hx)
  have h2 := Rat.inv_mul_cancel y (ne_of_pos hy)
  have h3 := Rat.inv_mul_cancel (x * y) (ne_of_pos (Rat.mul_pos hx hy))
  have : (x * y)⁻¹ * ((x * y) * (x⁻¹ * y⁻¹)) = x⁻¹ * y⁻¹ := by grind
  have h4 : (x * y) * (x⁻¹ * y⁻¹) = 1 := by grind
  rw [h4] at this
  grind
theorem fx_ratio : ∀ {fs : List Rat} {x y : Rat}, (∀ f ∈ fs, Pc f) → Fx fs x → Fx fs y → Iz (Gam fs) (x * y⁻¹)
  | [], _, _, _, .nil, .nil => ⟨1, by show (1 : Rat) * 1⁻¹ * ((1 : Nat) : Rat) = ((1 : Int) : Rat); grind⟩
  | f :: fs, _, _, h, .skip a, .skip b => (fx_ratio (fun c hc => h c (List.mem_cons_of_mem _ hc)) a b).up _
  | f :: fs, _, _, h, @Fx.take _ _ x a, .skip b => by
    have ih := fx_ratio (fun c hc => h c (List.mem_cons_of_mem _ hc)) a b
    have := ih.mul (h f List.mem_cons_self).izg
    rename_i y
    rw [show x * f * y⁻¹ = x * y⁻¹ * f by grind]
    exact this
  | f :: fs, _, _, h, @Fx.skip _ _ x a, @Fx.take _ _ y b => by
    have h' : ∀ c ∈ fs, Pc c := fun c hc => h c (List.mem_cons_of_mem _ hc)
    have ih := fx_ratio h' a b
    have := ih.mul (h f List.mem_cons_self).ivg
    rw [inv_mul2 (fx_pos h' b) (h f List.mem_cons_self).pos, show x * (y⁻¹ * f⁻¹) = x * y⁻¹ * f⁻¹ by grind]
    exact this
  | f :: fs, _, _, h, @Fx.take _ _ x a, @Fx.take _ _ y b => by
    have h' : ∀ c ∈ fs, Pc c := fun c hc => h c (List.mem_cons_of_mem _ hc)
    have ih := fx_ratio h' a b
    have hf := (h f List.mem_cons_self).pos
    have h2 := Rat.inv_mul_cancel f (ne_of_pos hf)
    rw [inv_mul2 (fx_pos h' b) hf, show x * f * (y⁻¹ * f⁻¹) = x * y⁻¹ by grind]
    exact ih.up _
def p9 : Nat → Rat
  | 0 => 1
  | n + 1 => p9 n * 9
theorem p9_pos : ∀ n, 0 < p9 n
  | 0 => by decide
  | n + 1 => Rat.mul_pos (p9_pos n) (by decide)
theorem mul_le2 {a b c d : Rat} (ha : 0 ≤ a) (hc : 0 ≤ c) (h1 : a ≤ b) (h2 : c ≤ d) : a * c ≤ b * d := by
  have e1 := Rat.mul_le_mul_of_nonneg_right h1 hc
  have e2 := Rat.mul_le_mul_of_nonneg_left h2 (show 0 ≤ b by grind)
  grind
theorem fx_le : ∀ {fs : List Rat} {x : Rat}, (∀ f ∈ fs, Pc f) → Fx fs x → x ≤ p9 fs.length ∧ x⁻¹ ≤ p9 fs.length
  | [], _, _, .nil => ⟨by decide, by show (1 : Rat)⁻¹ ≤ 1; grind⟩
  | f :: fs, _, h, .skip g => by
    have h' : ∀ c ∈ fs, Pc c := fun c hc => h c (List.mem_cons_of_mem _ hc)
    obtain ⟨h1, h2⟩ := fx_le h' g
    have := p9_pos fs.length
    show _ ≤ p9 fs.length * 9 ∧ _ ≤ p9 fs.length * 9
    grind
  | f :: fs, _, h, @Fx.take _ _ x g => by
    have h' : ∀ c ∈ fs, Pc c := fun c hc => h c (List.mem_cons_of_mem _ hc)
    obtain ⟨h1, h2⟩ := fx_le h' g
    have hf := h f List.mem_cons_self
    have hx := fx_pos h' g
    have hi := Rat.inv_pos.mpr hf.pos
    have hj := Rat.inv_pos.mpr hx
    have l1 := hf.hi
    have l2 := hf.lo
    have l3 := hf.pos
    show _ ≤ p9 fs.length * 9 ∧ _ ≤ p9 fs.length * 9
    rw [inv_mul2 hx hf.pos]
    exact ⟨mul_le2 (by grind) (by grind) h1 l1, mul_le2 (by grind) (by grind) h2 l2⟩
end R
namespace R
/-! ### stretches: what they become whole by, their paces -/
structure Fs (D : Nat) (fs : List Rat) (s : St3) : Prop where
  b0 : 0 ≤ s.1
  lt : s.1 < s.2.1
  hi : s.2.1 ≤ 300
  zb : Iz D s.1
  ze : Iz D s.2.1
  pc : ∃ p x, s.2.2 = p * x ∧ Pc p ∧ Fx fs x
section
variable {D : Nat} {fs : List Rat}
theorem fs_join (s t : St3) (h1 : s.2.1 = t.1) (h2 : s.2.2 = t.2.2) (a : Fs D fs s) (b : Fs D fs t) : Fs D fs (s.1, t.2.1, t.2.2) :=
  ⟨a.b0, by have := a.lt; have := b.lt; show s.1 < t.2.1; grind, b.hi, a.zb, b.ze, b.pc⟩
theorem Fs.pos {s : St3} (hf : ∀ f ∈ fs, Pc f) (a : Fs D fs s) : 0 < s.2.2 := by
  obtain ⟨p, x, e, h1, h2⟩ := a.pc
  rw [e]
  exact Rat.mul_pos h1.pos (fx_pos hf h2)
theorem Fs.inv {s : St3} (hf : ∀ f ∈ fs, Pc f) (a : Fs D fs s) : Iz (2520 * Gam fs) s.2.2⁻¹ ∧ s.2.2⁻¹ ≤ 9 * p9 fs.length ∧ Iz (2520 * Gam fs) s.2.2 ∧ s.2.2 ≤ 9 * p9 fs.length := by
  obtain ⟨p, x, e, h1, h2⟩ := a.pc
  have hx := fx_pos hf h2
  have r := fx_ratio hf (fx_one fs) h2
  rw [Rat.one_mul] at r
  have r2 := fx_ratio hf h2 (fx_one fs)
  rw [show x * (1 : Rat)⁻¹ = x by grind] at r2
  obtain ⟨l1, l2⟩ := fx_le hf h2
  have q1 := Rat.inv_pos.mpr h1.pos
  have q2 := Rat.inv_pos.mpr hx
  have q3 := h1.pos
  rw [e, inv_mul2 h1.pos hx]
  exact ⟨h1.iv.mul r, mul_le2 (by grind) (by grind) h1.lo l2, h1.iz.mul r2, mul_le2 (by grind) (by grind) h1.hi l1⟩
theorem Fs.gd {s : St3} (hf : ∀ f ∈ fs, Pc f) (a : Fs D fs s) : Gd3 s := by
  have hp := a.pos hf
  refine ⟨hp, ?_⟩
  unfold lst3
  rw [Rat.div_def]
  have h1 := a.lt
  have h2 := Rat.inv_pos.mpr hp
  have := Rat.mul_nonneg (show 0 ≤ s.2.1 - s.1 by grind) (show 0 ≤ s.2.2⁻¹ by grind)
  exact this
theorem Fs.lst {s : St3} (hf : ∀ f ∈ fs, Pc f) (a : Fs D fs s) : Iz (D * (2520 * Gam fs)) (lst3 s) ∧ 0 ≤ lst3 s ∧ lst3 s ≤ 300 * (9 * p9 fs.length) := by
  refine ⟨?_, (a.gd hf).l, ?_⟩
  · unfold lst3
    rw [Rat.div_def]
    exact (a.ze.sub a.zb).mul (a.inv hf).1
  · unfold lst3
    rw [Rat.div_def]
    have h1 := a.lt
    have h2 := Rat.inv_pos.mpr (a.pos hf)
    have h3 := a.hi
    have h4 := a.b0
    exact mul_le2 (by grind) (by grind) (by grind) (a.inv hf).2.1
def G9 (fs : List Rat) : Nat := 2520 * 2520 * Gam fs
theorem Fs.ratio {s t : St3} (hf : ∀ f ∈ fs, Pc f) (a : Fs D fs s) (b : Fs D fs t) : Iz (G9 fs) (s.2.2⁻¹ * t.2.2) := by
  obtain ⟨p, x, e, h1, h2⟩ := a.pc
  obtain ⟨q, y, e2, h3, h4⟩ := b.pc
  rw [e, e2, inv_mul2 h1.pos (fx_pos hf h2), show p⁻¹ * x⁻¹ * (q * y) = p⁻¹ * q * (y * x⁻¹) by grind]
  exact (h1.iv.mul h3.iz).mul (fx_ratio hf h4 h2)
/-- times of the show: by each pace places of the reel -/
def Tz (D E : Nat) (fs : List Rat) (t : Rat) : Prop := ∀ s, Fs D fs s → Iz E (t * s.2.2)
theorem tz_lst {s : St3} (hf : ∀ f ∈ fs, Pc f) (a : Fs D fs s) : Tz D (D * G9 fs) fs (lst3 s) := by
  intro t ht
  unfold lst3
  rw [Rat.div_def, Rat.mul_assoc]
  exact (a.ze.sub a.zb).mul (a.ratio hf ht)
theorem tz_sub {E : Nat} {x y : Rat} (hx : Tz D E fs x) (hy : Tz D E fs y) : Tz D E fs (x - y) := fun s hs => by
  rw [show (x - y) * s.2.2 = x * s.2.2 - y * s.2.2 by grind]
  exact (hx s hs).sub (hy s hs)
theorem tz_add {E : Nat} {x y : Rat} (hx : Tz D E fs x) (hy : Tz D E fs y) : Tz D E fs (x + y) := fun s hs => by
  rw [Rat.add_mul]
  exact (hx s hs).add (hy s hs)
theorem tz_zero {E : Nat} : Tz D E fs 0 := fun s _ => by
  rw [Rat.zero_mul]
  exact iz_zero _
theorem tz_len (hf : ∀ f ∈ fs, Pc f) : ∀ (xs : List St3), (∀ s ∈ xs, Fs D fs s) → Tz D (D * G9 fs) fs (lenS xs)
  | [], _ => tz_zero
  | s :: r, h => tz_add (tz_lst hf (h s List.mem_cons_self)) (tz_len hf r fun z hz => h z (List.mem_cons_of_mem _ hz))
theorem Tz.part {E : Nat} {x q : Rat} (hx : Tz D E fs x) (hq : Iz 1100 q) : Tz D (E * 1100) fs (x * q) := fun s hs => by
  rw [show x * q * s.2.2 = x * s.2.2 * q by grind]
  exact (hx s hs).mul hq
theorem Tz.up {E : Nat} {x : Rat} (hx : Tz D E fs x) (n : Nat) : Tz D (E * n) fs x := fun s hs => (hx s hs).up n
theorem pf_cases (b : Rat) : pf b = b ∨ pf b = 0 := by
  unfold pf
  split
  · exact .inl rfl
  · exact .inr rfl
theorem pg_cases (l e : Rat) : pg l e = e ∨ pg l e = l := by
  unfold pg
  split
  · exact .inl rfl
  · exact .inr rfl
theorem piece_fs {E : Nat} {s : St3} {b e : Rat} (hf : ∀ f ∈ fs, Pc f) (a : Fs D fs s) (hE : D ∣ E) (hl : Tz D E fs (lst3 s)) (hb : Tz D E fs b) (he : Tz D E fs e) : ∀ t ∈ piece s b e, Fs E fs t := by
  intro t ht
  rw [piece_pf] at ht
  have hp := a.pos hf
  split at ht
  · rename_i c
    rw [List.mem_singleton.mp ht]
    have f0 := pf0 b
    have g0 := pgl (lst3 s) e
    have m := lst_mul hp
    have h1 : 0 ≤ pf b * s.2.2 := Rat.mul_nonneg f0 (by grind)
    have h2 : pf b * s.2.2 < pg (lst3 s) e * s.2.2 := Rat.mul_lt_mul_of_pos_right c hp
    have h3 : pg (lst3 s) e * s.2.2 ≤ lst3 s * s.2.2 := Rat.mul_le_mul_of_nonneg_right g0 (by grind)
    have h4 := a.b0
    have h5 := a.hi
    have zf : Iz E (pf b * s.2.2) := by
      rcases pf_cases b with z | z
      · rw [z]
        exact hb s a
      · rw [z]
        exact tz_zero (E := E) s a
    have zg : Iz E (pg (lst3 s) e * s.2.2) := by
      rcases pg_cases (lst3 s) e with z | z
      · rw [z]
        exact he s a
      · rw [z]
        exact hl s a
    refine ⟨?_, ?_, ?_, (a.zb.dvd hE).add zf, (a.zb.dvd hE).add zg, a.pc⟩
    · show 0 ≤ s.1 + pf b * s.2.2
      grind
    · show s.1 + pf b * s.2.2 < s.1 + pg (lst3 s) e * s.2.2
      grind
    · show s.1 + pg (lst3 s) e * s.2.2 ≤ 300
      grind
  · cases ht
theorem cut_fs {E : Nat} (hf : ∀ f ∈ fs, Pc f) (hE : D * G9 fs ∣ E) : ∀ (xs : List St3) (b e : Rat), (∀ s ∈ xs, Fs D fs s) → Tz D E fs b → Tz D E fs e → ∀ t ∈ cutM xs b e, Fs E fs t
  | [], _, _, _, _, _, t, ht => by cases ht
  | s :: r, b, e, h, hb, he, t, ht => by
    have a := h s List.mem_cons_self
    have hl : Tz D E fs (lst3 s) := fun u hu => (tz_lst hf a u hu).dvd hE
    rcases List.mem_append.mp (show t ∈ piece s b e ++ cutM r (b - lst3 s) (e - lst3 s) from ht) with h1 | h1
    · exact piece_fs hf a (Nat.dvd_trans (Nat.dvd_mul_right _ _) hE) hl hb he t h1
    · exact cut_fs hf hE r _ _ (fun z hz => h z (List.mem_cons_of_mem _ hz)) (tz_sub hb hl) (tz_sub he hl) t h1
theorem Fs.dvd {E : Nat} {s : St3} (a : Fs D fs s) (h : D ∣ E) : Fs E fs s := ⟨a.b0, a.lt, a.hi, a.zb.dvd h, a.ze.dvd h, a.pc⟩
theorem Fs.more {f : Rat} {s : St3} (a : Fs D fs s) : Fs D (f :: fs) s := by
  obtain ⟨p, x, e, h1, h2⟩ := a.pc
  exact ⟨a.b0, a.lt, a.hi, a.zb, a.ze, p, x, e, h1, .skip h2⟩
theorem Fs.fast {f : Rat} {s : St3} (a : Fs D fs s) : Fs D (f :: fs) (s.1, s.2.1, s.2.2 * f) := by
  obtain ⟨p, x, e, h1, h2⟩ := a.pc
  exact ⟨a.b0, a.lt, a.hi, a.zb, a.ze, p, x * f, by show s.2.2 * f = p * (x * f); rw [e]; grind, h1, .take h2⟩
end
/-! how many pieces there are -/
theorem cut_none : ∀ (xs : List St3) (lo b : Rat), (∀ s ∈ xs, Gd3 s) → b ≤ 0 → cutM xs lo b = []
  | [], _, _, _, _ => rfl
  | s :: r, lo, b, h, hb => by
    have hs := (h s List.mem_cons_self).l
    have e : piece s lo b = [] := by
      rw [piece_pf]
      have h1 := pf0 lo
      have h2 := pge (lst3 s) b
      rw [if_neg (by grind)]
    show piece s lo b ++ cutM r (lo - lst3 s) (b - lst3 s) = []
    rw [e, cut_none r _ _ (fun z hz => h z (List.mem_cons_of_mem _ hz)) (by grind)]
    rfl
theorem piece_lt {s : St3} {b e : Rat} (h : (piece s b e).length ≠ 0) : b < lst3 s ∧ 0 < e := by
  rw [piece_pf] at h
  split at h
  · rename_i c
    have h1 := pfb b
    have h2 := pf0 b
    have h3 := pge (lst3 s) e
    have h4 := pgl (lst3 s) e
    grind
  · exact absurd rfl h
theorem cut_len1 (xs : List St3) (b e : Rat) : (cutM xs b e).length ≤ xs.length := by
  induction xs generalizing b e with
  | nil => exact Nat.le_refl _
  | cons s r ih =>
    have h1 := piece_len s b e
    have h2 := ih (b - lst3 s) (e - lst3 s)
    show (piece s b e ++ cutM r (b - lst3 s) (e - lst3 s)).length ≤ r.length + 1
    rw [List.length_append]
    omega
theorem cut_len2 : ∀ (xs : List St3) (lo b e hi : Rat), (∀ s ∈ xs, Gd3 s) → b ≤ e → (cutM xs lo b).length + (cutM xs e hi).length ≤ xs.length + 1
  | [], _, _, _, _, _, _ => by show 0 + 0 ≤ 0 + 1; omega
  | s :: r, lo, b, e, hi, h, hbe => by
    have hr : ∀ z ∈ r, Gd3 z := fun z hz => h z (List.mem_cons_of_mem _ hz)
    have ih := cut_len2 r (lo - lst3 s) (b - lst3 s) (e - lst3 s) (hi - lst3 s) hr (by grind)
    have p1 := piece_len s lo b
    have p2 := piece_len s e hi
    have c2 := cut_len1 r (e - lst3 s) (hi - lst3 s)
    show (piece s lo b ++ cutM r (lo - lst3 s) (b - lst3 s)).length + (piece s e hi ++ cutM r (e - lst3 s) (hi - lst3 s)).length ≤ r.length + 1 + 1
    rw [List.length_append, List.length_append]
    by_cases c : (piece s e hi).length = 0
    · omega
    · have := (piece_lt c).1
      rw [cut_none r (lo - lst3 s) (b - lst3 s) hr (by grind)]
      show _ + 0 + _ ≤ _
      omega
theorem cut_len3 : ∀ (xs : List St3) (lo b e hi : Rat), (∀ s ∈ xs, Gd3 s) → b ≤ e → (cutM xs lo b).length + (cutM xs b e).length + (cutM xs e hi).length ≤ xs.length + 2
  | [], _, _, _, _, _, _ => by show 0 + 0 + 0 ≤ 0 + 2; omega
  | s :: r, lo, b, e, hi, h, hbe => by
    have hr : ∀ z ∈ r, Gd3 z := fun z hz => h z (List.mem_cons_of_mem _ hz)
    have ih := cut_len3 r (lo - lst3 s) (b - lst3 s) (e - lst3 s) (hi - lst3 s) hr (by grind)
    have ih2 := cut_len2 r (b - lst3 s) (e - lst3 s) (e - lst3 s) (hi - lst3 s) hr (Rat.le_refl)
    have p1 := piece_len s lo b
    have p2 := piece_len s e hi
    have p3 := piece_len s b e
    have c2 := cut_len1 r (e - lst3 s) (hi - lst3 s)
    show (piece s lo b ++ cutM r (lo - lst3 s) (b - lst3 s)).length + (piece s b e ++ cutM r (b - lst3 s) (e - lst3 s)).length + (piece s e hi ++ cutM r (e - lst3 s) (hi - lst3 s)).length ≤ r.length + 1 + 2
    rw [List.length_append, List.length_append, List.length_append]
    by_cases c : (piece s e hi).length = 0
    · by_cases c' : (piece s b e).length = 0
      · omega
      · have := (piece_lt c').1
        rw [cut_none r (lo - lst3 s) (b - lst3 s) hr (by grind)]
        show _ + 0 + _ + _ ≤ _
        omega
    · have := (piece_lt c).1
      rw [cut_none r (lo - lst3 s) (b - lst3 s) hr (by grind), cut_none r (b - lst3 s) (e - lst3 s) hr (by grind)]
      show _ + 0 + (_ + 0) + _ ≤ _
      omega
end R
namespace R
/-! ### shows behind so many deeds -/
def gB (i : Nat) : Nat := 2520 * 2520 * 81 ^ i
def dB : Nat → Nat
  | 0 => L30
  | i + 1 => dB i * gB i * 1100
structure SdX (i D : Nat) (fs : List Rat) (xs : List St3) : Prop where
  d0 : 0 < D
  dl : L30 ∣ D
  db : D ≤ dB i
  fl : fs.length ≤ i
  pf : ∀ f ∈ fs, Pc f
  each : ∀ s ∈ xs, Fs D fs s
  len : xs.length ≤ 6 + 4 * i
def Sd (i : Nat) (xs : List St3) : Prop := ∃ D fs, SdX i D fs xs
theorem dB_pos : ∀ i, 0 < dB i
  | 0 => by decide
  | i + 1 => Nat.mul_pos (Nat.mul_pos (dB_pos i) (Nat.mul_pos (by decide) (Nat.pow_pos (by decide)))) (by decide)
theorem dB_step (i : Nat) : dB i ≤ dB (i + 1) := by
  show dB i ≤ dB i * gB i * 1100
  have h1 : 0 < gB i := Nat.mul_pos (by decide) (Nat.pow_pos (by decide))
  calc dB i = dB i * 1 * 1 := by omega
    _ ≤ dB i * gB i * 1100 := Nat.mul_le_mul (Nat.mul_le_mul (Nat.le_refl _) h1) (by decide)
theorem dB_mono {i j : Nat} (h : i ≤ j) : dB i ≤ dB j := by
  induction h with
  | refl => exact Nat.le_refl _
  | step _ ih => exact Nat.le_trans ih (dB_step _)
theorem p9_nat : ∀ n : Nat, p9 n = ((9 ^ n : Nat) : Rat)
  | 0 => rfl
  | n + 1 => by
    show p9 n * 9 = _
    rw [p9_nat n, Nat.pow_succ, Rat.natCast_mul]
    rfl
theorem len_le {D : Nat} {fs : List Rat} (hf : ∀ f ∈ fs, Pc f) : ∀ (xs : List St3), (∀ s ∈ xs, Fs D fs s) → Iz (D * (2520 * Gam fs)) (lenS xs) ∧ 0 ≤ lenS xs ∧ lenS xs ≤ ((xs.length * (300 * (9 * 9 ^ fs.length)) : Nat) : Rat)
  | [], _ => ⟨iz_zero _, Rat.le_refl, by show (0 : Rat) ≤ _; exact Rat.natCast_nonneg⟩
  | s :: r, h => by
    obtain ⟨h1, h2, h3⟩ := (h s List.mem_cons_self).lst hf
    obtain ⟨g1, g2, g3⟩ := len_le hf r fun z hz => h z (List.mem_cons_of_mem _ hz)
    refine ⟨h1.add g1, Rat.add_nonneg h2 g2, ?_⟩
    rw [p9_nat] at h3
    have e : (((s :: r).length * (300 * (9 * 9 ^ fs.length)) : Nat) : Rat) = ((r.length * (300 * (9 * 9 ^ fs.length)) : Nat) : Rat) + 300 * (9 * ((9 ^ fs.length : Nat) : Rat)) := by
      rw [List.length_cons, Nat.add_mul, Nat.one_mul, Rat.natCast_add, Rat.natCast_mul 300, Rat.natCast_mul 9]
      rfl
    rw [e]
    show lst3 s + lenS r ≤ _
    grind
theorem big1 : 76400 * (9 * 9 ^ 19) * (dB 19 * (2520 * 81 ^ 19) * 1100) < 2 ^ 2240 := by decide +kernel
theorem big {M E : Nat} (hM : M ≤ 76400 * (9 * 9 ^ 19)) (hE : E ≤ dB 19 * (2520 * 81 ^ 19) * 1100) : M * E < 2 ^ 2240 := Nat.lt_of_le_of_lt (Nat.mul_le_mul hM hE) big1
theorem big' {E : Nat} (hE : E ≤ dB 19 * (2520 * 81 ^ 19) * 1100) : E < 2 ^ 2240 := by
  have := big (M := 1) (by decide +kernel) hE
  omega
theorem szB {E M : Nat} {x : Rat} (h0 : 0 < E) (hE : E ≤ dB 19 * (2520 * 81 ^ 19) * 1100) (hz : Iz E x) (h1 : 0 ≤ x) (h2 : x ≤ (M : Rat)) (hM : M ≤ 76400 * (9 * 9 ^ 19)) : Sz 2240 x := by
  refine hz.sz h0 (M := M) ?_ h2 (big hM hE) (big' hE)
  have : (0 : Rat) ≤ (M : Rat) := Rat.natCast_nonneg
  grind
section
variable {i D : Nat} {fs : List Rat} {xs : List St3}
theorem SdX.gam (h : SdX i D fs xs) (hi : i ≤ 19) : 0 < Gam fs ∧ Gam fs ≤ 81 ^ 19 := ⟨Gam_pos fs h.pf, Nat.le_trans (Gam_le fs h.pf) (Nat.pow_le_pow_right (by decide) (Nat.le_trans h.fl hi))⟩
theorem SdX.E1 (h : SdX i D fs xs) (hi : i ≤ 19) : D * (2520 * Gam fs) * 1100 ≤ dB 19 * (2520 * 81 ^ 19) * 1100 :=
  Nat.mul_le_mul (Nat.mul_le_mul (Nat.le_trans h.db (dB_mono hi)) (Nat.mul_le_mul (Nat.le_refl _) (h.gam hi).2)) (Nat.le_refl _)
theorem SdX.E1p (h : SdX i D fs xs) (hi : i ≤ 19) : 0 < D * (2520 * Gam fs) * 1100 := Nat.mul_pos (Nat.mul_pos h.d0 (Nat.mul_pos (by decide) (h.gam hi).1)) (by decide)
theorem SdX.M1 (h : SdX i D fs xs) (hi : i ≤ 19) {n : Nat} (hn : n ≤ 82) : n * (300 * (9 * 9 ^ fs.length)) ≤ 76400 * (9 * 9 ^ 19) := by
  have h1 : 9 ^ fs.length ≤ 9 ^ 19 := Nat.pow_le_pow_right (by decide) (Nat.le_trans h.fl hi)
  calc n * (300 * (9 * 9 ^ fs.length)) ≤ 82 * (300 * (9 * 9 ^ 19)) := Nat.mul_le_mul hn (Nat.mul_le_mul (Nat.le_refl _) (Nat.mul_le_mul (Nat.le_refl _) h1))
    _ ≤ 76400 * (9 * 9 ^ 19) := by decide +kernel
theorem SdX.ok (h : SdX i D fs xs) (hi : i ≤ 19) : ShOk 2240 xs := by
  have hl : ∀ ys : List St3, (∀ s ∈ ys, s ∈ xs) → ys.length ≤ 82 → Sz 2240 (lenS ys) := by
    intro ys hy hn
    obtain ⟨h1, h2, h3⟩ := len_le h.pf ys fun s hs => h.each s (hy s hs)
    exact szB (h.E1p hi) (h.E1 hi) (h1.up 1100) h2 h3 (h.M1 hi hn)
  have hD : ∀ s ∈ xs, Iz (D * (2520 * Gam fs) * 1100) s.1 ∧ Iz (D * (2520 * Gam fs) * 1100) s.2.1 ∧ Iz (D * (2520 * Gam fs) * 1100) s.2.2 := by
    intro s hs
    have a := h.each s hs
    refine ⟨(a.zb.up _).up _, (a.ze.up _).up _, ?_⟩
    rw [Nat.mul_comm D]
    exact ((a.inv h.pf).2.2.1.up D).up _
  refine ⟨fun s hs => ?_, fun k => ?_, fun s hs => ?_⟩
  · have a := h.each s hs
    obtain ⟨z1, z2, z3⟩ := hD s hs
    have hp := a.pos h.pf
    have b1 := a.b0
    have b2 := a.lt
    have b3 := a.hi
    have m3 : ((300 : Nat) : Rat) = 300 := rfl
    refine ⟨szB (M := 300) (h.E1p hi) (h.E1 hi) z1 b1 (by grind) (by decide +kernel), szB (M := 300) (h.E1p hi) (h.E1 hi) z2 (by grind) (by grind) (by decide +kernel), szB (M := 1 * (300 * (9 * 9 ^ fs.length))) (h.E1p hi) (h.E1 hi) z3 (by grind) ?_ (h.M1 hi (by decide)), hp⟩
    have := (a.inv h.pf).2.2.2
    rw [p9_nat] at this
    rw [Nat.one_mul, Rat.natCast_mul 300, Rat.natCast_mul 9]
    have q : (0 : Rat) ≤ ((9 ^ fs.length : Nat) : Rat) := Rat.natCast_nonneg
    show s.2.2 ≤ 300 * (9 * ((9 ^ fs.length : Nat) : Rat))
    grind
  · refine hl _ (fun s hs => List.mem_of_mem_take hs) ?_
    have := h.len
    rw [List.length_take]
    omega
  · have := hl [s] (fun t ht => by rw [List.mem_singleton.mp ht]; exact hs) (by show 1 ≤ 82; decide)
    rw [lenS_one] at this
    exact this
theorem SdX.gd (h : SdX i D fs xs) : ∀ s ∈ xs, Gd3 s := fun s hs => (h.each s hs).gd h.pf
/-- a time of a show -/
def Tq (xs : List St3) (t : Rat) : Prop := ∃ q, Iz 1100 q ∧ 0 ≤ q ∧ q ≤ 1 ∧ t = lenS xs * q
theorem SdX.time (h : SdX i D fs xs) (hi : i ≤ 19) {t : Rat} (ht : Tq xs t) : Sz 2240 t ∧ 0 ≤ t ∧ t ≤ lenS xs := by
  obtain ⟨q, h1, h2, h3, rfl⟩ := ht
  obtain ⟨g1, g2, g3⟩ := len_le h.pf xs h.each
  have p1 : lenS xs * q ≤ lenS xs * 1 := Rat.mul_le_mul_of_nonneg_left h3 g2
  have p0 := Rat.mul_nonneg g2 h2
  refine ⟨szB (h.E1p hi) (h.E1 hi) (g1.mul h1) p0 ?_ (h.M1 hi (n := xs.length) (by have := h.len; omega)), p0, by grind⟩
  grind
theorem tq_zero (xs : List St3) : Tq xs 0 := ⟨0, iz_zero _, Rat.le_refl, by decide, by grind⟩
theorem tq_all (xs : List St3) : Tq xs (lenS xs) := ⟨1, iz_int 1100 1, by decide, Rat.le_refl, by grind⟩
theorem Tq.tz (h : SdX i D fs xs) {t : Rat} (ht : Tq xs t) : Tz D (D * G9 fs * 1100) fs t := by
  obtain ⟨q, h1, _, _, rfl⟩ := ht
  exact (tz_len h.pf xs h.each).part h1
theorem SdX.cut (h : SdX i D fs xs) {b e : Rat} (hb : Tq xs b) (he : Tq xs e) : ∀ s ∈ cutM xs b e, Fs (D * G9 fs * 1100) fs s :=
  cut_fs h.pf (Nat.dvd_mul_right _ _) xs b e h.each (hb.tz h) (he.tz h)
theorem SdX.next (h : SdX i D fs xs) {ys : List St3} {gs : List Rat} (hg : gs.length ≤ i + 1) (pg : ∀ f ∈ gs, Pc f) (he : ∀ s ∈ ys, Fs (D * G9 fs * 1100) gs s) (hl : ys.length ≤ xs.length + 4) : SdX (i + 1) (D * G9 fs * 1100) gs ys := by
  refine ⟨Nat.mul_pos (Nat.mul_pos h.d0 (Nat.mul_pos (by decide) (Gam_pos fs h.pf))) (by decide), Nat.dvd_trans h.dl (Nat.dvd_trans (Nat.dvd_mul_right _ _) (Nat.dvd_mul_right _ _)), ?_, hg, pg, he, by have := h.len; omega⟩
  refine Nat.mul_le_mul (Nat.mul_le_mul h.db ?_) (Nat.le_refl _)
  exact Nat.mul_le_mul (Nat.le_refl _) (Nat.le_trans (Gam_le fs h.pf) (Nat.pow_le_pow_right (by decide) h.fl))
theorem mem_app {P : St3 → Prop} {a b : List St3} (ha : ∀ s ∈ a, P s) (hb : ∀ s ∈ b, P s) : ∀ s ∈ a ++ b, P s := fun s hs => (List.mem_append.mp hs).elim (ha s) (hb s)
theorem Sd.out (h : Sd i xs) {b e : Rat} (hb : Tq xs b) (he : Tq xs e) (hbe : b ≤ e) : Sd (i + 1) (cutM xs 0 b ++ cutM xs e (lenS xs)) := by
  obtain ⟨D, fs, h⟩ := h
  refine ⟨_, fs, h.next (by have := h.fl; omega) h.pf (mem_app (h.cut (tq_zero xs) hb) (h.cut he (tq_all xs))) ?_⟩
  rw [List.length_append]
  have := cut_len2 xs 0 b e (lenS xs) h.gd hbe
  omega
theorem fs_new {E : Nat} {gs : List Rat} {s : St3} (a : Fs L30 [] s) (h : L30 ∣ E) : Fs E gs s := by
  obtain ⟨p, x, e, h1, h2⟩ := a.pc
  cases h2
  exact ⟨a.b0, a.lt, a.hi, a.zb.dvd h, a.ze.dvd h, p, 1, e, h1, fx_one gs⟩
theorem Sd.into (h : Sd i xs) {b e : Rat} (hb : Tq xs b) (he : Tq xs e) (hbe : b ≤ e) {ys : List St3} (hy : ∀ s ∈ ys, Fs L30 [] s) (ly : ys.length ≤ 2) : Sd (i + 1) (cutM xs 0 b ++ ys ++ cutM xs b e ++ cutM xs e (lenS xs)) := by
  obtain ⟨D, fs, h⟩ := h
  refine ⟨_, fs, h.next (by have := h.fl; omega) h.pf (mem_app (mem_app (mem_app (h.cut (tq_zero xs) hb) fun s hs => fs_new (hy s hs) (Nat.dvd_trans h.dl (Nat.dvd_trans (Nat.dvd_mul_right _ _) (Nat.dvd_mul_right _ _)))) (h.cut hb he)) (h.cut he (tq_all xs))) ?_⟩
  rw [List.length_append, List.length_append, List.length_append]
  have := cut_len3 xs 0 b e (lenS xs) h.gd hbe
  omega
theorem Sd.faster (h : Sd i xs) {b e f : Rat} (hb : Tq xs b) (he : Tq xs e) (hbe : b ≤ e) (hf : Pc f) : Sd (i + 1) (cutM xs 0 b ++ fastM f (cutM xs b e) ++ cutM xs e (lenS xs)) := by
  obtain ⟨D, fs, h⟩ := h
  refine ⟨_, f :: fs, h.next (by have := h.fl; show fs.length + 1 ≤ _; omega) ?_ (mem_app (mem_app (fun s hs => (h.cut (tq_zero xs) hb s hs).more) ?_) (fun s hs => (h.cut he (tq_all xs) s hs).more)) ?_⟩
  · intro g hg
    rcases List.mem_cons.mp hg with z | z
    · rw [z]
      exact hf
    · exact h.pf g z
  · intro s hs
    obtain ⟨t, ht, rfl⟩ := List.mem_map.mp hs
    exact (h.cut hb he t ht).fast
  · rw [List.length_append, List.length_append, show (fastM f (cutM xs b e)).length = (cutM xs b e).length from List.length_map ..]
    have := cut_len3 xs 0 b e (lenS xs) h.gd hbe
    omega
theorem norm_le (xs : List St3) : (normM xs).length ≤ xs.length := by
  refine snoc_ind (P := fun xs => (normM xs).length ≤ xs.length) (Nat.le_refl _) (fun b s ih => ?_) xs
  rw [norm_snoc, List.length_append]
  have := nstep_len (normM b) s
  show _ ≤ _ + 1
  omega
theorem Sd.norm (h : Sd i xs) : Sd i (normM xs) := by
  obtain ⟨D, fs, h⟩ := h
  exact ⟨D, fs, h.d0, h.dl, h.db, h.fl, h.pf, norm_all fs_join xs h.each, Nat.le_trans (norm_le xs) h.len⟩
theorem Sd.start (hy : ∀ s ∈ xs, Fs L30 [] s) (ly : xs.length ≤ 6) : Sd 0 xs := ⟨L30, [], by decide, Nat.dvd_refl _, Nat.le_refl _, Nat.le_refl _, (fun f hf => nomatch hf), hy, by omega⟩
theorem Sd.ok (h : Sd i xs) (hi : i ≤ 19) : ShOk 2240 xs := let ⟨_, _, h⟩ := h; h.ok hi
theorem Sd.gd (h : Sd i xs) : ∀ s ∈ xs, Gd3 s := let ⟨_, _, h⟩ := h; h.gd
theorem Sd.time (h : Sd i xs) (hi : i ≤ 19) {t : Rat} (ht : Tq xs t) : Sz 2240 t ∧ 0 ≤ t ∧ t ≤ lenS xs := let ⟨_, _, h⟩ := h; h.time hi ht
theorem Sd.len (h : Sd i xs) : xs.length ≤ 6 + 4 * i := let ⟨_, _, h⟩ := h; h.len
end
end R
namespace R
/-! ### what is drawn -/
structure Tm (m : Int) (x : Rat) : Prop where
  iz : Iz L30 x
  lo : 0 ≤ x
  hi : x ≤ (m : Rat)
  sz : Sz 17 x
  s6 : m ≤ 60 → Sz 6 x
  dn : x.den ≤ 30
theorem l30_int {c : Int} (h0 : 0 < c) (h1 : c ≤ 30) : c ∣ (L30 : Int) := by
  have := l30_dvd c.natAbs (by omega) (by omega)
  exact Int.natAbs_dvd_natAbs.mp this
theorem div_le {r c : Int} (h0 : 0 ≤ r) (c0 : 0 < c) : 0 ≤ Rat.divInt r c ∧ Rat.divInt r c ≤ (r : Rat) := by
  have hr : (0 : Rat) ≤ (r : Rat) := Rat.intCast_nonneg.mpr h0
  have hc : (0 : Rat) < (c : Rat) := Rat.intCast_pos.mpr c0
  have h1 : ((1 : Int) : Rat) ≤ (c : Rat) := Rat.intCast_le_intCast.mpr (by omega)
  have hi := Rat.inv_pos.mpr hc
  have hm := Rat.inv_mul_cancel _ (ne_of_pos hc)
  have e1 : ((1 : Int) : Rat) = 1 := rfl
  rw [Rat.divInt_eq_div, Rat.div_def]
  refine ⟨Rat.mul_nonneg hr (by grind), ?_⟩
  have h2 : (c : Rat)⁻¹ * 1 ≤ (c : Rat)⁻¹ * (c : Rat) := Rat.mul_le_mul_of_nonneg_left (by grind) (by grind)
  have h3 : (r : Rat) * (c : Rat)⁻¹ ≤ (r : Rat) * 1 := Rat.mul_le_mul_of_nonneg_left (by grind) hr
  grind
theorem tm_frac {m r c : Int} (h0 : 0 ≤ r) (h1 : r < m) (hm : m ≤ 100000) (c0 : 0 < c) (c1 : c ≤ 30) : Tm m (Rat.divInt r c) := by
  obtain ⟨a1, a2⟩ := div_le h0 c0
  have h2 : (r : Rat) ≤ (m : Rat) := Rat.intCast_le_intCast.mpr (by omega)
  refine ⟨iz_divInt c0 (l30_int c0 c1), a1, Rat.le_trans a2 h2, sz_divInt (by omega) (by omega) (by omega), fun hh => sz_divInt (by omega) (by omega) (by omega), ?_⟩
  have := divInt_den_le (t := r) (b := c) (by omega)
  omega
theorem tm_int {m r : Int} (h0 : 0 ≤ r) (h1 : r < m) (hm : m ≤ 100000) : Tm m (r : Rat) := by
  refine ⟨iz_int _ _, Rat.intCast_nonneg.mpr h0, Rat.intCast_le_intCast.mpr (by omega), sz_int (by decide) (by omega), fun hh => sz_int (by decide) (by omega), by show 1 ≤ 30; decide⟩
theorem pc_frac {a b : Int} (a0 : 1 ≤ a) (a9 : a ≤ 9) (b0 : 1 ≤ b) (b9 : b ≤ 9) : Pc (Rat.divInt a b) := by
  refine ⟨?_, ?_, ?_⟩
  · rw [Rat.divInt_eq_div, Rat.div_def]
    exact Rat.mul_pos (Rat.intCast_pos.mpr (by omega)) (Rat.inv_pos.mpr (Rat.intCast_pos.mpr (by omega)))
  · have := divInt_num_le a b
    omega
  · have := divInt_den_le (t := a) (b := b) (by omega)
    omega
structure Wq (q : Rat) : Prop where
  iz : Iz 1100 q
  lo : 0 ≤ q
  hi : q ≤ 1
  sz : Sz 7 q
theorem wq_frac {r c : Int} (h0 : 0 ≤ r) (h1 : r ≤ c) (c0 : 0 < c) (hc : c ∣ 1100) (h7 : c ≤ 100) : Wq (Rat.divInt r c) := by
  refine ⟨iz_divInt c0 hc, (div_le h0 c0).1, ?_, sz_divInt (by omega) (by omega) (by omega)⟩
  have hp : (0 : Rat) < (c : Rat) := Rat.intCast_pos.mpr c0
  have hi := Rat.inv_pos.mpr hp
  have hm := Rat.mul_inv_cancel _ (ne_of_pos hp)
  have h2 : (r : Rat) ≤ (c : Rat) := Rat.intCast_le_intCast.mpr h1
  rw [Rat.divInt_eq_div, Rat.div_def]
  have := Rat.mul_le_mul_of_nonneg_right h2 (show 0 ≤ (c : Rat)⁻¹ by grind)
  grind
def bnd : Nat → Rat
  | 0 => 60
  | n + 1 => bnd n + 31
theorem bnd_le : ∀ n, 60 ≤ bnd n
  | 0 => by decide
  | n + 1 => by
    have := bnd_le n
    show 60 ≤ bnd n + 31
    grind
theorem bnd_step (n : Nat) : bnd n ≤ bnd (n + 1) := by
  show bnd n ≤ bnd n + 31
  grind
theorem bnd_300 : ∀ n, n ≤ 6 → bnd n ≤ 300
  | 0, _ => by decide
  | 1, _ => by show (60 : Rat) + 31 ≤ (300 : Rat); grind
  | 2, _ => by show (60 : Rat) + 31 + 31 ≤ (300 : Rat); grind
  | 3, _ => by show (60 : Rat) + 31 + 31 + 31 ≤ (300 : Rat); grind
  | 4, _ => by show (60 : Rat) + 31 + 31 + 31 + 31 ≤ (300 : Rat); grind
  | 5, _ => by show (60 : Rat) + 31 + 31 + 31 + 31 + 31 ≤ (300 : Rat); grind
  | 6, _ => by show (60 : Rat) + 31 + 31 + 31 + 31 + 31 + 31 ≤ (300 : Rat); grind
  | n + 7, h => absurd h (by omega)
/-- a stretch as it is drawn -/
theorem fs_drawn {i : Nat} (hi : i ≤ 5) {b t p : Rat} (zb : Iz L30 b) (b0 : 0 ≤ b) (bb : b ≤ bnd i) (ht : Tm 30 t) (hp : Pc p) : Fs L30 [] (b, b + (Rat.divInt 1 2 + t), p) ∧ b + (Rat.divInt 1 2 + t) ≤ bnd (i + 1) := by
  have h1 : (0 : Rat) < Rat.divInt 1 2 := by decide
  have h2 : Rat.divInt 1 2 ≤ 1 := by decide
  have h3 := ht.lo
  have h4 := ht.hi
  have e30 : ((30 : Int) : Rat) = 30 := rfl
  rw [e30] at h4
  have h5 : b + (Rat.divInt 1 2 + t) ≤ bnd (i + 1) := by
    show _ ≤ bnd i + 31
    grind
  have h6 := bnd_300 (i + 1) (by omega)
  refine ⟨⟨b0, ?_, Rat.le_trans h5 h6, zb, zb.add ((iz_divInt (by decide) (l30_int (by decide) (by decide))).add ht.iz), p, 1, by show p = p * 1; grind, hp, .nil⟩, h5⟩
  show b < b + (Rat.divInt 1 2 + t)
  grind
end R
namespace R
/-! ### cues, as plain data -/
structure TB (x : Rat) : Prop where
  lo : 0 ≤ x
  hi : x ≤ 100100
  dn : x.den ≤ 29700
theorem den_add_le (x y : Rat) : (x + y).den ≤ x.den * y.den := by
  rw [← add_parts]
  exact divInt_den_le (den_mul_ne x y)
theorem den_mul_le (x y : Rat) : (x * y).den ≤ x.den * y.den := by
  rw [← mul_parts]
  exact divInt_den_le (den_mul_ne x y)
theorem num_nonneg {x : Rat} (h : 0 ≤ x) : 0 ≤ x.num := by
  have h1 := (Rat.le_iff 0 x).mp h
  have e1 : (0 : Rat).num = 0 := rfl
  have e2 : (0 : Rat).den = 1 := rfl
  rw [e1, e2, Int.zero_mul] at h1
  omega
theorem TB.num {x : Rat} (h : TB x) : 0 ≤ x.num ∧ x.num ≤ 2972970000 := by
  refine ⟨num_nonneg h.lo, ?_⟩
  have h1 := mul_den x
  have h2 : x * (x.den : Rat) ≤ 100100 * (x.den : Rat) := Rat.mul_le_mul_of_nonneg_right h.hi Rat.natCast_nonneg
  have h3 : (x.den : Rat) ≤ ((29700 : Nat) : Rat) := Rat.natCast_le_natCast.mpr h.dn
  have e3 : ((29700 : Nat) : Rat) = 29700 := rfl
  have h4 : (x.num : Rat) ≤ ((2972970000 : Int) : Rat) := by
    rw [← h1]
    have e4 : ((2972970000 : Int) : Rat) = 2972970000 := rfl
    rw [e4]
    grind
  exact Rat.intCast_le_intCast.mp h4
theorem TB.sz {x : Rat} (h : TB x) : Sz 32 x := ⟨by have := h.num; omega, by have := h.dn; omega⟩
theorem dn3 : (Rat.divInt 1 3).den ≤ 3 := divInt_den_le (by decide)
structure CueB (b t : Rat) : Prop where
  b : Tm 99999 b
  t : Tm 25 t
section
variable {b t : Rat}
def cEnd (b t : Rat) : Rat := b + (Rat.divInt 1 3 + t)
theorem third : (0 : Rat) < Rat.divInt 1 3 ∧ Rat.divInt 1 3 ≤ 1 := by decide
theorem CueB.lt (h : CueB b t) : b < cEnd b t := by
  have := h.t.lo
  have := third.1
  unfold cEnd
  grind
theorem e25 : ((25 : Int) : Rat) = 25 := rfl
theorem e99 : ((99999 : Int) : Rat) = 99999 := rfl
theorem CueB.end_le (h : CueB b t) : cEnd b t ≤ 100100 := by
  have h1 := h.t.hi
  have h2 := third.2
  have h3 := h.b.hi
  rw [e25] at h1
  rw [e99] at h3
  unfold cEnd
  grind
theorem CueB.tb (h : CueB b t) : TB b := ⟨h.b.lo, by have h3 := h.b.hi; rw [e99] at h3; grind, by have := h.b.dn; omega⟩
theorem far_dn (h : CueB b t) : (Rat.divInt 1 3 + t).den ≤ 90 := by
  have h1 := den_add_le (Rat.divInt 1 3) t
  have h2 : (Rat.divInt 1 3).den * t.den ≤ 3 * 30 := Nat.mul_le_mul dn3 h.t.dn
  omega
theorem CueB.te (h : CueB b t) : TB (cEnd b t) := by
  refine ⟨?_, h.end_le, ?_⟩
  · have := h.lt
    have := h.b.lo
    grind
  · have h1 := den_add_le b (Rat.divInt 1 3 + t)
    have h2 : b.den * (Rat.divInt 1 3 + t).den ≤ 30 * 90 := Nat.mul_le_mul h.b.dn (far_dn h)
    unfold cEnd
    omega
theorem inv11 : (0 : Rat) ≤ ((11 : Int) : Rat)⁻¹ := Rat.le_of_lt (Rat.inv_pos.mpr (Rat.intCast_pos.mpr (by decide)))
/-- the time of a word -/
def cAt (b t : Rat) (a : Int) : Rat := b + (cEnd b t - b) * Rat.divInt a 11
theorem far_eq (b t : Rat) : cEnd b t - b = Rat.divInt 1 3 + t := by
  unfold cEnd
  grind
theorem cAt_le {a c : Int} (h : CueB b t) (hac : a ≤ c) : cAt b t a ≤ cAt b t c := by
  have hf : 0 ≤ cEnd b t - b := by have := h.lt; grind
  have hq : Rat.divInt a 11 ≤ Rat.divInt c 11 := by
    rw [Rat.divInt_eq_div, Rat.divInt_eq_div, Rat.div_def, Rat.div_def]
    exact Rat.mul_le_mul_of_nonneg_right (Rat.intCast_le_intCast.mpr hac) inv11
  have := Rat.mul_le_mul_of_nonneg_left hq hf
  unfold cAt
  grind
theorem cAt_rg {a : Int} (h : CueB b t) (h0 : 0 ≤ a) (h1 : a ≤ 10) : b ≤ cAt b t a ∧ cAt b t a < cEnd b t ∧ TB (cAt b t a) := by
  have hl := h.lt
  have hf : 0 < cEnd b t - b := by grind
  have q0 := (div_le (r := a) (c := 11) h0 (by decide)).1
  have q1 : Rat.divInt a 11 < 1 := by
    have e : Rat.divInt a 11 ≤ Rat.divInt 10 11 := by
      rw [Rat.divInt_eq_div, Rat.divInt_eq_div, Rat.div_def, Rat.div_def]
      exact Rat.mul_le_mul_of_nonneg_right (Rat.intCast_le_intCast.mpr h1) inv11
    have e2 : Rat.divInt 10 11 < 1 := by decide
    grind
  have m0 := Rat.mul_nonneg (Rat.le_of_lt hf) q0
  have m1 : (cEnd b t - b) * Rat.divInt a 11 < (cEnd b t - b) * 1 := Rat.mul_lt_mul_of_pos_left q1 hf
  have r0 : b ≤ cAt b t a := by
    unfold cAt
    grind
  have r1 : cAt b t a < cEnd b t := by
    unfold cAt
    grind
  refine ⟨r0, r1, ?_, ?_, ?_⟩
  · have := h.b.lo
    grind
  · have := h.end_le
    grind
  · have d1 := den_mul_le (cEnd b t - b) (Rat.divInt a 11)
    rw [far_eq] at d1
    have d2 : (Rat.divInt a 11).den ≤ 11 := divInt_den_le (by decide)
    have d3 : (Rat.divInt 1 3 + t).den * (Rat.divInt a 11).den ≤ 90 * 11 := Nat.mul_le_mul (far_dn h) d2
    have d4 := den_add_le b ((cEnd b t - b) * Rat.divInt a 11)
    have d5 : b.den * ((cEnd b t - b) * Rat.divInt a 11).den ≤ 30 * 990 := Nat.mul_le_mul h.b.dn (by rw [far_eq]; omega)
    unfold cAt
    omega
end
end R
namespace R
open PySem PySem.Spec PyProof.Rows L2
/-! ### sorted(xs), xs a list of like data -/
def rSortedD (K : PySem.W.Frag) {β : Type} (enc : β → PyData) : List V → Hp → VK → Prop := fun vs H Q => ∃ (a : Addr) (xs : List V) (bs : List β), vs = [V.ref a] ∧ SqL K H a xs ∧ DpAll K H xs (bs.map enc) ∧ PySem.W.AllAlike (bs.map enc) ∧ PySem.W.Sortable (bs.map enc) ∧ (∀ b ∈ bs, (enc b).depth ≤ 60) ∧
  ∀ ys p, H p = none → DpAll K H ys ((bs.mergeSort (PySem.W.dataLe false enc)).map enc) → Q (.ref p) (upd H p (.lst ys))
theorem dpl {K : PySem.W.Frag} {H : Hp} : ∀ {vs : List V} {ds : List PyData}, DpAll K H vs ds → vs.length = ds.length
  | _, _, .nil => rfl
  | _, _, .cons _ h => by rw [List.length_cons, List.length_cons, dpl h]
section
variable {X : Cx}
theorem dpa_each {K : PySem.W.Frag} {H : Hp} {β : Type} {enc : β → PyData} : ∀ {xs : List V} {us : List Value} {bs : List β}, Vals xs us → DpAll K H xs (bs.map enc) → PySem.W.EachIs (fun u b => ∃ v, RelV v u ∧ Dp K H v (enc b)) us bs
  | [], _, [], .nil, _ => .nil
  | [], _, _ :: _, .nil, h => by cases h
  | _ :: _, _, [], .cons _ _, h => by cases h
  | v :: xs, _, b :: bs, .cons r rs, h => by
    cases h with
    | cons h1 h2 => exact .cons ⟨v, r, h1⟩ (dpa_each rs h2)
theorem each_dpa {K : PySem.W.Frag} {H : Hp} {β : Type} {enc : β → PyData} : ∀ {us : List Value} {bs : List β}, PySem.W.EachIs (fun u b => ∃ v, RelV v u ∧ Dp K H v (enc b)) us bs → ∃ xs, Vals xs us ∧ DpAll K H xs (bs.map enc)
  | _, _, .nil => ⟨[], .nil, .nil⟩
  | _, _, .cons ⟨v, r, h1⟩ h2 => by
    obtain ⟨xs, rs, hs⟩ := each_dpa h2
    exact ⟨v :: xs, .cons r rs, .cons h1 hs⟩
theorem cr_sortedD {β : Type} (enc : β → PyData) (hu : X.A.units + 64 < cLine) : CallR X (.builtin "sorted") (rSortedD X.K enc) := by
  intro pins s σ H vs us Q I r h
  obtain ⟨a, xs, bs, rfl, hs, hx, hal, hso, hdp, q⟩ := h
  obtain ⟨its, rv, hl, hz⟩ := I.list hs
  obtain ⟨u, rfl, ru⟩ := vals1 r
  obtain rfl : u = Value.ref a := ru
  have e := dpa_each rv hx
  have lb : xs.length = bs.length := by rw [dpl hx, List.length_map]
  have er : PySem.W.EachIs (fun v b => ∃ as, Reads s.heap v (enc b) as) its bs := e.mono fun u b ⟨v, rv, hv⟩ => Dp.reads I _ _ _ hv rv
  refine PySem.W.sorted_data hl.isList e er hal hso (by rw [← lb]; exact hz) (fun b hb => ?_) fun out hlen eo => ?_
  · have := hdp b hb
    omega
  · obtain ⟨ys, ry, dy⟩ := each_dpa eo
    obtain ⟨n, hn⟩ := sortedAll_at s.heap its (List.toArray out)
    have hd : s.heap.objs.size ≤ s.heap.objs.size + 1 := Nat.le_succ _
    refine ⟨.ref (s.heap.objs.size + 1), upd H (s.heap.objs.size + 1) (.lst ys), I.laid (t' := s.toks) (fun b o e => sortedAll_old e) hd ⟨?_, out, n, ry, hn⟩, rfl, q _ _ (I.hok.fresh hd) dy⟩
    rw [ry.length, hlen, ← lb]
    exact hz
end
end R
namespace R
open PySem PySem.Spec PyProof.Rows L2
/-! ### defs that raise; classes of errors over ValueError, without methods of their own -/
structure ExcT (K : PySem.W.Frag) (mg : Str → Option Value) (x : Str) (C : Addr) : Prop where
  g : mg x = some (.ref C)
  x : PySem.W.excIn K C [.type "ValueError", .type "Exception", .type "BaseException", .type "object"] "ValueError.__new__" = true
  k : PySem.W.keepIn K (.ref C) = true
  b : PySem.W.subIn K (.ref C) (.type "BaseException") = some true
  t : PySem.W.typeIn K (.ref C) = some (.type "type")
  e : PySem.W.exmOne K (.ref C) (.ref C) = some true
theorem exm_gen {K : PySem.W.Frag} {S C : Addr} {r : Bool} (h1 : PySem.W.subIn K (.ref C) (.type "BaseException") = some true) (h2 : PySem.W.isClsIn K C = true)
    (h3 : PySem.W.typeIn K (.ref C) = some (.type "type")) (h4 : PySem.W.subIn K (.ref S) (.ref C) = some r) : PySem.W.exmOne K (.ref S) (.ref C) = some r := by
  unfold PySem.W.exmOne
  rw [if_pos (by rw [h1]; rfl)]
  unfold PySem.W.kitCls
  dsimp only
  rw [if_pos (by rw [show (PySem.W.clsIn K C).isSome = true from h2, h3]; rfl)]
  exact h4
section
variable {P : Program} {w : World} {K : PySem.W.Frag} {mg : Str → Option Value} {base : Heap}
theorem Df.clX {x : Str} {st : Stmt} {N ps : List Str} {k : Nat} {sp : Sp} (D : Df K mg x st ps) (S : FnScope N ps (defScope st)) (len : ∀ vs H Q E, sp vs H Q E → vs.length = ps.length)
    (hbody : ∀ (f : Addr) (cdv : Value) (A : Around) (outer : List Env) (s : Shared) (H : Hp) (vs : List V) (Q : VK) (E : XK), Room k (A.deeper (envOfC x (defScope st) s.heap.objs.size f cdv)) → sp vs H Q E →
      ∃ t, PSs (cxOf (L2.CX P w) P w K mg base N x (defScope st) f cdv A outer s H E) (defBody st) t ∧ t { nx := fun _ H' => Q .non H', rt := Q } (start N vs) H) : Cl P w K mg base (L2.CX P w) (k + 1) x sp := by
  obtain ⟨f, fd, F, g, b⟩ := D.ex
  exact ⟨f, fd, ps, F.okX S len (hbody f), g, F.kp, b⟩
end
section
variable {X : Cx}
theorem pe_clS {W : WX} {k j : Nat} {x : Str} {sp : Sp} {p pos : Pos} {e : Expr} {es : List Expr} {t : TA} (c : Cl X.prog X.w X.K X.mg X.base (L2.CX X.prog X.w) k x sp) (hr : Room j X.A) (hk : k ≤ j) (hg : Gl X x) (tk : Takes X W) (ha : PA X (e :: es) t)
    (hdb : (x == ("__debug__" : Str)) = false := by decide) (he : starEach (e :: es) X.env = (false, eval e X.env) :: starEach es X.env := by rfl) (hpl : (backTo pos (starEach es X.env)).any (·.1) = false := by rfl) :
    PE X (.Call (.Name x p) (e :: es) [] pos) (tCallS sp (WE W) t) := by
  obtain ⟨f, fd, ps, F, hm, kp, b⟩ := c.ex
  exact pe_callS F (hr.mono hk) hg hm kp b (fun σ => passAt tk σ) ha hdb he hpl
theorem pe_clN {k j : Nat} {x : Str} {sp : Sp} {p pos : Pos} {e : Expr} {es : List Expr} {t : TA} (c : Cl X.prog X.w X.K X.mg X.base (L2.CX X.prog X.w) k x sp) (hr : Room j X.A) (hk : k ≤ j) (hg : Gl X x) (ha : PA X (e :: es) t)
    (hdb : (x == ("__debug__" : Str)) = false := by decide) (he : starEach (e :: es) X.env = (false, eval e X.env) :: starEach es X.env := by rfl) (hpl : (backTo pos (starEach es X.env)).any (·.1) = false := by rfl) :
    PE X (.Call (.Name x p) (e :: es) [] pos) (tCall sp [] E0 t) := by
  obtain ⟨f, fd, ps, F, hm, kp, b⟩ := c.ex
  exact pe_call F (hr.mono hk) hg hm kp b .nil passL ha hdb he hpl
end
end R
namespace R
open PySem PySem.Spec PyProof.Rows L2
/-! ### isinstance(e, c) of a caught error e, its class told behind -/
def rIsX (K : PySem.W.Frag) (D a : Addr) (cls : Value) (d : Option Addr) : List V → Hp → VK → Prop := fun xs H Q => cls = .ref D ∧ d = none ∧ rIsE K D a xs H Q
theorem call_isX {X : Cx} {a D : Addr} {oe : Obj} {cls : Value} {d : Option Addr} {pn : List (Addr × Obj)} (C : ExcC X.K D) (hz : Zc cls d oe) (hf : ∃ vs, oe.data = .fields vs) :
    CallR (X.suite a ((a, oe) :: pn)) (.builtin "isinstance") (rIsX X.K D a cls d) := by
  intro pins s σ H xs us Q I r h
  obtain ⟨h1, h2, h⟩ := h
  subst h1 h2
  exact call_isE C hz hf pins s σ H xs us Q I r h
theorem op_eqDS {X : Cx} {a : Addr} {pn : List (Addr × Obj)} (hu : X.A.units + 64 < cLine) : OpR (X.suite a pn) (compareOp .Eq) (rEqD X.K) := op_eqD (X := X.suite a pn) hu
theorem kit_self {K : PySem.W.Frag} {S : Addr} : PySem.W.kitOne K (.ref S) (.ref S) = some true := by
  unfold PySem.W.kitOne
  rw [if_pos (beq_self_eq_true _)]
theorem kit_gen {K : PySem.W.Frag} {S C : Addr} {r : Bool} (h1 : PySem.W.subIn K (.ref S) (.ref C) = some r) (h2 : PySem.W.isClsIn K C = true) (h3 : PySem.W.typeIn K (.ref C) = some (.type "type"))
    (h4 : (Value.ref S == Value.ref C) = false) : PySem.W.kitOne K (.ref S) (.ref C) = some r := by
  unfold PySem.W.kitOne
  rw [if_neg (by rw [h4]; exact Bool.false_ne_true)]
  unfold PySem.W.kitCls
  dsimp only
  rw [if_pos (by rw [show (PySem.W.clsIn K C).isSome = true from h2, h3]; rfl)]
  exact h1
theorem kit_ve {K : PySem.W.Frag} {S : Addr} {r : Bool} (h1 : PySem.W.subIn K (.ref S) (.type "ValueError") = some r) : PySem.W.kitOne K (.ref S) (.type "ValueError") = some r := by
  unfold PySem.W.kitOne
  rw [show (Value.ref S == Value.type "ValueError") = false from rfl, if_neg Bool.false_ne_true]
  unfold PySem.W.kitCls
  dsimp only
  rw [if_pos (by decide +kernel)]
  exact h1
/-! the rules of lists and tuples with the written part told by a letter: within a comprehension -/
theorem sl_listK {X : Cx} {K : PySem.W.Frag} (h : X.K = K) : SlR X (rSlL K) := h ▸ sl_list
theorem ix_listK {X : Cx} {K : PySem.W.Frag} (h : X.K = K) : IxR X (rIxL K) := h ▸ ix_list
theorem ix_tupK {X : Cx} {K : PySem.W.Frag} (h : X.K = K) : IxR X (rIxT K) := h ▸ ix_tup
theorem pe_gC {X : Cx} {x : Str} {pos : Pos} {C : Addr} (hg : Gl X x) (h : X.mg x = some (.ref C)) (hd : (x == ("__debug__" : Str)) = false := by decide) : PE X (.Name x pos) (tC (.ref C)) := pe_glob hg h rfl hd
end R
namespace R
open PySem PySem.Spec PyProof.Rows L2
/-! ### the texts of times -/
def qw (q : Rat) : Int := q.num / (q.den : Int)
def qr (q : Rat) : Int := q.num % (q.den : Int)
structure Bd (n : Int) (q : Rat) : Prop where
  pos : 0 ≤ q.num
  num : q.num < n
  den : (q.den : Int) < n
def rs (t b : Int) : Str := if t = 0 then Str.empty else (" " : Str) ++ (sI t ++ (("/" : Str) ++ sI b))
def mixT (q : Rat) : Str := sI (qw q) ++ rs (qr q) (q.den : Int)
def framesT (q : Rat) : Str := mixT q ++ ("f" : Str)
def secondsT (q : Rat) (r : Int) : Str := mixT (q / (r : Rat)) ++ ("s" : Str)
def clockT (q : Rat) (r : Int) : Str := (sI (qw q / r / 3600) ++ ((":" : Str) ++ (pad2 (qw q / r / 60 % 60) ++ ((":" : Str) ++ (pad2 (qw q / r % 60) ++ ((":" : Str) ++ pad2 (qw q % r))))))) ++ rs (qr q) (q.den : Int)
theorem qf {q : Rat} : q.num.fdiv (q.den : Int) = qw q := Int.fdiv_eq_ediv_of_nonneg _ (by omega)
theorem qm {q : Rat} : q.num.fmod (q.den : Int) = qr q := Int.fmod_eq_emod_of_nonneg _ (by omega)
theorem qw_rg {q : Rat} {n : Int} (h : Bd n q) : 0 ≤ qw q ∧ qw q < n := by
  have h1 := den_pos q
  have h2 := h.pos
  have h3 := h.num
  have h4 : q.num / (q.den : Int) ≤ q.num := Int.ediv_le_self _ h2
  exact ⟨Int.ediv_nonneg h2 (by omega), by unfold qw; omega⟩
theorem qr_rg {q : Rat} {n : Int} (h : Bd n q) : 0 ≤ qr q ∧ qr q < n := by
  have h1 := den_pos q
  have h3 := h.den
  have := Int.emod_lt_of_pos q.num h1
  exact ⟨Int.emod_nonneg _ (by omega), by unfold qr; omega⟩
theorem cdq {q : Rat} {i : Int} (h : Bd (10 ^ 30) q) : CDivX i (q.den : Int) := cdiv (b := 100) (den_ne q) (by have := h.den; omega) (by decide) (by decide)
theorem rs_len {t b : Int} (t0 : 0 ≤ t) (t1 : t < 10 ^ 30) (b0 : 0 ≤ b) (b1 : b < 10 ^ 30) : (rs t b).length ≤ 62 := by
  unfold rs
  split
  · exact Nat.zero_le _
  · have := sI_len t0 t1
    have := sI_len b0 b1
    rw [slen, slen, slen]
    show 1 + (_ + (1 + _)) ≤ 62
    omega
theorem mix_len {q : Rat} (h : Bd (10 ^ 30) q) : (mixT q).length ≤ 92 := by
  have := sI_len (qw_rg h).1 (qw_rg h).2
  have := rs_len (qr_rg h).1 (qr_rg h).2 (show 0 ≤ (q.den : Int) by omega) h.den
  unfold mixT
  rw [slen]
  omega
theorem Bd.mono {n m : Int} {q : Rat} (h : Bd n q) (k : n ≤ m) : Bd m q := ⟨h.pos, by have := h.num; omega, by have := h.den; omega⟩
theorem div_rate (q : Rat) (r : Int) : Rat.divInt q.num ((q.den : Int) * r) = q / (r : Rat) := by
  rw [← div_parts q (r : Rat)]
  show _ = Rat.divInt (q.num * ((1 : Nat) : Int)) ((q.den : Int) * r)
  rw [show ((1 : Nat) : Int) = 1 from rfl, Int.mul_one]
theorem bd_rate {q : Rat} {r : Int} (h : Bd (10 ^ 27) q) (r0 : 0 < r) (r1 : r ≤ 120) : Bd (10 ^ 30) (q / (r : Rat)) := by
  have hd := den_pos q
  have hne : (q.den : Int) * r ≠ 0 := Int.mul_ne_zero (den_ne q) (by omega)
  rw [← div_rate]
  have h1 := divInt_num_le q.num ((q.den : Int) * r)
  have h2 := divInt_den_le (t := q.num) hne
  have h3 := h.num
  have h4 := h.den
  have h5 := h.pos
  have h7 : (q.den : Int) * r ≤ (q.den : Int) * 120 := Int.mul_le_mul_of_nonneg_left r1 (by omega)
  have h8 : 0 < (q.den : Int) * r := Int.mul_pos hd r0
  refine ⟨?_, by omega, by omega⟩
  rw [← fr_num hne]
  unfold frI
  rw [if_neg (by omega), Int.fdiv_eq_ediv_of_nonneg _ (by omega)]
  exact Int.ediv_nonneg h5 (by omega)
theorem sz_of_bd {n : Nat} {q : Rat} (h : Bd (2 ^ n : Nat) q) : Sz n q := ⟨by have := h.pos; have := h.num; omega, by have := h.den; omega⟩
theorem bd100 {q : Rat} (h : Bd (10 ^ 30) q) : Sz 100 q := ⟨by have := h.pos; have := h.num; omega, by have := h.den; omega⟩
theorem sz60 {n : Nat} (h : n ≤ 1000) : n ≤ sizeLine := Nat.le_trans h (by decide)
end R
namespace R
open PySem TL
/-! ### numbers in texts -/
def dig (c : Nat) : Bool := decide (48 ≤ c) && decide (c ≤ 57)
def numOk (w : List Nat) : Bool := w.all dig && !w.isEmpty && decide (w.length ≤ 9) && !(w.head? == some 48 && w != [48])
theorem val_snoc (w : List Nat) (c : Nat) : NumText.digitsVal (w ++ [c]) = NumText.digitsVal w * 10 + (c - 48) := by
  unfold NumText.digitsVal
  rw [List.foldl_append]
  rfl
theorem num_back : ∀ (n : Nat) (w : List Nat), w.length = n → w.all dig = true → w ≠ [] → (w.head? = some 48 → w = [48]) → numL (NumText.digitsVal w) = w
  | 0, w, hn, _, h, _ => absurd (List.eq_nil_of_length_eq_zero hn) h
  | n + 1, w, hn, hd, _, hz => by
    rcases List.eq_nil_or_concat w with e | ⟨v, c, e⟩
    · rw [e] at hn
      cases hn
    · have e : w = v ++ [c] := by rw [e]; simp
      subst e
      rw [List.all_append, Bool.and_eq_true] at hd
      have hc : 48 ≤ c ∧ c ≤ 57 := by
        have := hd.2
        simpa [dig] using this
      rw [val_snoc]
      cases v with
      | nil =>
        show numL (0 * 10 + (c - 48)) = [c]
        rw [numL_lt (by omega)]
        congr 1
        omega
      | cons d r =>
        have hd0 : d ≠ 48 := fun e => by
          have := hz (by rw [e]; rfl)
          simp at this
        have ih := num_back n (d :: r) (by simpa using hn) hd.1 (by simp) (fun h => absurd (Option.some.inj h) hd0)
        have h1 : 1 ≤ NumText.digitsVal (d :: r) := by
          refine Nat.pos_of_ne_zero fun e => ?_
          rw [e, numL_lt (by decide)] at ih
          exact hd0 (List.cons.inj ih).1.symm
        rw [numL_step (by omega), show (NumText.digitsVal (d :: r) * 10 + (c - 48)) / 10 = NumText.digitsVal (d :: r) by omega, ih]
        congr 2
        omega
theorem numL_head {n : Nat} (h : (numL n).head? = some 48) : n = 0 := by
  induction n using Nat.strongRecOn with
  | _ n ih =>
    by_cases h1 : n < 10
    · rw [numL_lt h1] at h
      have := Option.some.inj h
      omega
    · rw [numL_step (by omega)] at h
      have ne := numL_ne (n / 10)
      cases e : numL (n / 10) with
      | nil => exact absurd e ne
      | cons a r =>
        rw [e] at h
        have := ih (n / 10) (by omega) (by rw [e]; exact h)
        omega
theorem numL_nine {n : Nat} (h : (numL n).length ≤ 9) : n < 10 ^ 9 := by
  refine Nat.lt_of_not_le fun c => ?_
  have := PyProof.Rows.digits10_ge (k := 9) c
  unfold numL at h
  rw [List.length_map] at h
  omega
theorem numOk_num {n : Nat} (h : n < 10 ^ 9) : numOk (numL n) = true := by
  have h1 : (numL n).all dig = true := by
    rw [List.all_eq_true]
    intro c hc
    have := numL_digits n c hc
    simp [dig, this]
  have h2 : (numL n).length ≤ 9 := numL_len (by decide) h
  unfold numOk
  rw [h1, decide_eq_true h2]
  cases e : (numL n).head? with
  | none => exact absurd (List.head?_eq_none_iff.mp e) (numL_ne n)
  | some a =>
    have ne : (numL n).isEmpty = false := by
      cases e2 : numL n with
      | nil => exact absurd e2 (numL_ne n)
      | cons _ _ => rfl
    rw [ne]
    by_cases ha : a = 48
    · subst ha
      have := numL_head e
      subst this
      rfl
    · rw [show (some a == some 48) = false by simpa using ha]
      rfl
theorem num_of {w : List Nat} (h : numOk w = true) : ∃ n, w = numL n ∧ n < 10 ^ 9 ∧ NumText.digitsVal w = n := by
  unfold numOk at h
  simp only [Bool.and_eq_true, Bool.not_eq_true', decide_eq_true_eq] at h
  obtain ⟨⟨⟨h1, h2⟩, h3⟩, h4⟩ := h
  have ne : w ≠ [] := fun e => by
    rw [e] at h2
    cases h2
  have e := num_back w.length w rfl h1 ne (fun hh => by
    rw [hh] at h4
    simpa using h4)
  refine ⟨_, e.symm, ?_, rfl⟩
  rw [← e] at h3
  exact numL_nine h3
theorem tl_sI (n : Nat) : tl (sI (n : Int)) = numL n := tl_num n
theorem str_ext {a b : Str} (h : tl a = tl b) : a = b := by
  cases a
  cases b
  congr 1
  exact Array.toList_inj.mp h
theorem tl_app (a b : Str) : tl (a ++ b) = tl a ++ tl b := by
  show (a ++ b).cps.toList = _
  rw [Str.cps_append, Array.toList_append]
theorem len_tl' (a : Str) : a.length = (tl a).length := by
  show a.cps.size = _
  simp
/-! ### the first place of a sign -/
theorem first_split {s : Nat} : ∀ {l : List Nat}, s ∈ l → ∃ a b, l = a ++ s :: b ∧ s ∉ a
  | [], h => by cases h
  | c :: r, h => by
    by_cases e : c = s
    · exact ⟨[], r, by rw [e]; rfl, by simp⟩
    · obtain ⟨a, b, e1, e2⟩ := first_split (l := r) ((List.mem_cons.mp h).resolve_left (fun z => e z.symm))
      exact ⟨c :: a, b, by rw [e1]; rfl, by simp [e2, Ne.symm e]⟩
theorem part_cases (x y : Str) {s : Nat} (ey : tl y = [s]) : (s ∉ tl x ∧ Txt.partition x y = (x, Str.empty, Str.empty)) ∨ ∃ a b, x = a ++ y ++ b ∧ s ∉ tl a ∧ Txt.partition x y = (a, y, b) := by
  by_cases h : s ∈ tl x
  · obtain ⟨a, b, e, ha⟩ := first_split h
    refine .inr ⟨⟨a.toArray⟩, ⟨b.toArray⟩, ?_, ?_, ?_⟩
    · refine str_ext ?_
      rw [tl_app, tl_app, ey, e]
      simp [tl]
    · simpa [tl] using ha
    · have ex : x = (⟨a.toArray⟩ : Str) ++ y ++ ⟨b.toArray⟩ := by
        refine str_ext ?_
        rw [tl_app, tl_app, ey, e]
        simp [tl]
      rw [ex]
      exact partition_app ey (by simpa [tl] using ha)
  · exact .inl ⟨h, partition_none ey h⟩
theorem parts_of (s : Nat) : ∀ (n : Nat) (l : List Nat), l.length ≤ n → ∃ ps : List (List Nat), ps ≠ [] ∧ (∀ p ∈ ps, s ∉ p) ∧ l = joinL [s] ps
  | 0, l, h => ⟨[l], by simp, by
      have e : l = [] := List.eq_nil_of_length_eq_zero (by omega)
      simp [e], rfl⟩
  | n + 1, l, h => by
    by_cases hs : s ∈ l
    · obtain ⟨a, b, e, ha⟩ := first_split hs
      obtain ⟨ps, h1, h2, h3⟩ := parts_of s n b (by rw [e] at h; simp at h; omega)
      cases ps with
      | nil => exact absurd rfl h1
      | cons p r =>
        refine ⟨a :: p :: r, by simp, ?_, ?_⟩
        · intro q hq
          rcases List.mem_cons.mp hq with z | z
          · rw [z]
            exact ha
          · exact h2 q z
        · rw [e, h3]
          rfl
    · exact ⟨[l], by simp, by simpa using hs, rfl⟩
theorem split_parts (x y : Str) {s : Nat} (ey : tl y = [s]) (hk : y.cps.all (· < 256) = true) : ∃ ps : List Str, ps ≠ [] ∧ (∀ p ∈ ps, s ∉ tl p) ∧ x = Str.join y ps ∧ Txt.split x y = ps := by
  obtain ⟨ps, h1, h2, h3⟩ := parts_of s _ (tl x) (Nat.le_refl _)
  have e1 : (ps.map fun l => (⟨l.toArray⟩ : Str)).map tl = ps := by
    rw [List.map_map]
    conv => rhs; rw [← List.map_id ps]
    congr 1
  have hx : x = Str.join y (ps.map fun l => (⟨l.toArray⟩ : Str)) := by
    refine str_ext ?_
    rw [tl_join, e1, ey]
    exact h3
  have hp : ∀ p ∈ ps.map (fun l => (⟨l.toArray⟩ : Str)), s ∉ tl p := by
    intro p hp
    obtain ⟨l, hl, rfl⟩ := List.mem_map.mp hp
    simpa [tl] using h2 l hl
  refine ⟨_, by simpa using h1, hp, hx, ?_⟩
  conv => lhs; rw [hx, ← join_eq]
  exact split_join ey hk (by simpa using h1) hp
end R
namespace R
open PySem TL
open L2 (cutS)
/-! ### the reading of times, as plain functions -/
def rdNum (w : Str) : Option Int := if numOk (tl w) = true then some (NumText.digitsVal (tl w) : Int) else none
theorem rdNum_sI {i : Int} (h0 : 0 ≤ i) (h : i < 10 ^ 9) : rdNum (sI i) = some i := by
  obtain ⟨n, rfl⟩ := Int.eq_ofNat_of_zero_le h0
  unfold rdNum
  rw [show tl (sI ((n : Nat) : Int)) = numL n from tl_sI n, if_pos (numOk_num (by omega)), numL_val]
theorem rdNum_some {w : Str} {i : Int} (h : rdNum w = some i) : w = sI i ∧ 0 ≤ i ∧ i < 10 ^ 9 := by
  unfold rdNum at h
  split at h
  · rename_i c
    obtain ⟨n, e1, e2, e3⟩ := num_of c
    rw [e3] at h
    have e4 : (n : Int) = i := Option.some.inj h
    subst e4
    exact ⟨str_ext (by rw [e1, show tl (sI ((n : Nat) : Int)) = numL n from tl_sI n]), by omega, by omega⟩
  · cases h
theorem rdNum_empty : rdNum Str.empty = none := rfl
def rdRest (bl rt : Str) : Option Rat := if bl = Str.empty then some 0 else
  match rdNum (Txt.partition rt "/").1, rdNum (Txt.partition rt "/").2.2 with
  | some t, some b => if t = 0 ∨ b ≤ t then none else if (Rat.divInt t b).num = t ∧ ((Rat.divInt t b).den : Int) = b then some (Rat.divInt t b) else none
  | _, _ => none
def rdMixed (x : Str) : Option Rat := match rdNum (Txt.partition x " ").1 with
  | none => none
  | some n => (rdRest (Txt.partition x " ").2.1 (Txt.partition x " ").2.2).map fun y => (n : Rat) + y
def rdField (w : Str) (b : Int) : Option Int := if w.length < 2 then none else
  match rdNum (if (tl w).length = 2 ∧ (tl w).head? = some 48 then cutS w (some 1) none else w) with
  | none => none
  | some n => if b ≤ n then none else some n
def rdClock (x : Str) (r : Int) : Option Rat := match Txt.split (Txt.partition x " ").1 ":" with
  | [f0, f1, f2, f3] => match rdNum f0, rdField f1 60, rdField f2 60, rdField f3 r with
    | some h, some m, some s, some f => (rdRest (Txt.partition x " ").2.1 (Txt.partition x " ").2.2).map fun y => ((((h * 60 + m) * 60 + s) * r + f : Int) : Rat) + y
    | _, _, _, _ => none
  | _ => none
def rdTime (x : Str) (r : Int) : Option Rat := if Txt.endswith x "f" = true then rdMixed (cutS x none (some (-1))) else
  if Txt.endswith x "s" = true then (rdMixed (cutS x none (some (-1)))).map (· * (r : Rat)) else rdClock x r
/-! ### fractions by whole and rest -/
theorem divInt_lowest {t : Int} {b : Nat} (hb : b ≠ 0) (h : t.natAbs.Coprime b) : (Rat.divInt t b).num = t ∧ (Rat.divInt t b).den = b := by
  rw [← Rat.mk_eq_divInt (nz := hb) (c := h)]
  exact ⟨rfl, rfl⟩
theorem divInt_cop {t b : Int} (hb : 0 < b) (h1 : (Rat.divInt t b).num = t) (h2 : ((Rat.divInt t b).den : Int) = b) : t.natAbs.Coprime b.toNat := by
  have := (Rat.divInt t b).reduced
  rw [h1] at this
  rw [show b.toNat = (Rat.divInt t b).den by omega]
  exact this
theorem mixed_eq (n t : Int) {b : Int} (hb : 0 < b) : (n : Rat) + Rat.divInt t b = Rat.divInt (n * b + t) b := by
  have hb2 : b ≠ 0 := by omega
  rw [show (n : Rat) = Rat.divInt n 1 by rw [Rat.divInt_eq_div]; grind, Rat.divInt_add_divInt _ _ (by decide) hb2, Int.one_mul, Int.mul_one]
theorem mixed_parts {n t b : Int} (n0 : 0 ≤ n) (t0 : 0 ≤ t) (tb : t < b) (h : t.natAbs.Coprime b.toNat) : ((n : Rat) + Rat.divInt t b).num = n * b + t ∧ (((n : Rat) + Rat.divInt t b).den : Int) = b := by
  have hb : 0 < b := by omega
  rw [mixed_eq n t hb]
  obtain ⟨c, rfl⟩ := Int.eq_ofNat_of_zero_le (show 0 ≤ b by omega)
  obtain ⟨m, rfl⟩ := Int.eq_ofNat_of_zero_le n0
  obtain ⟨u, rfl⟩ := Int.eq_ofNat_of_zero_le t0
  have cop : ((m : Int) * (c : Int) + (u : Int)).natAbs.Coprime c := by
    have e : ((m : Int) * (c : Int) + (u : Int)).natAbs = m * c + u := by
      rw [show (m : Int) * (c : Int) + (u : Int) = ((m * c + u : Nat) : Int) by rw [Int.natCast_add, Int.natCast_mul]]
      exact Int.natAbs_natCast _
    rw [e]
    unfold Nat.Coprime
    rw [Nat.gcd_comm, ← gcd_turn, show ((c : Nat) % (m * c + u)) = c % (m * c + u) from rfl]
    rw [gcd_turn, Nat.gcd_comm, ← gcd_turn, Nat.mul_comm m c, Nat.mul_add_mod, gcd_turn]
    have : u.gcd c = 1 := h
    exact this
  have := divInt_lowest (t := (m : Int) * (c : Int) + (u : Int)) (b := c) (by omega) cop
  exact ⟨this.1, by rw [this.2]⟩
theorem q_cop (q : Rat) (h : 0 ≤ q.num) : (q.num % (q.den : Int)).natAbs.Coprime q.den := by
  obtain ⟨m, hm⟩ := Int.eq_ofNat_of_zero_le h
  have r := q.reduced
  rw [hm] at r ⊢
  rw [show ((m : Int) % (q.den : Int)) = ((m % q.den : Nat) : Int) from rfl, Int.natAbs_natCast]
  unfold Nat.Coprime
  rw [Nat.gcd_comm, gcd_turn]
  exact r
theorem q_split (q : Rat) : ((q.num / (q.den : Int) : Int) : Rat) + Rat.divInt (q.num % (q.den : Int)) (q.den : Int) = q := by
  rw [mixed_eq _ _ (den_pos q), show q.num / (q.den : Int) * (q.den : Int) + q.num % (q.den : Int) = q.num by
    have := Int.mul_ediv_add_emod q.num (q.den : Int)
    rw [Int.mul_comm]
    exact this]
  exact Rat.num_divInt_den q
theorem q_whole (q : Rat) (h : 0 ≤ q.num) (hr : q.num % (q.den : Int) = 0) : q.den = 1 := by
  have := q_cop q h
  rw [hr] at this
  simpa [Nat.Coprime] using this
/-! ### what is written is read -/
theorem tl_sign (c : Nat) : tl (⟨#[c]⟩ : Str) = [c] := rfl
theorem not_sI {s : Nat} {i : Int} (h0 : 0 ≤ i) (hs : s < 48 ∨ 57 < s) : s ∉ tl (sI i) := by
  obtain ⟨n, rfl⟩ := Int.eq_ofNat_of_zero_le h0
  rw [show tl (sI ((n : Nat) : Int)) = numL n from tl_sI n]
  exact numL_free hs
theorem blank_ne : (" " : Str) ≠ Str.empty := by decide
/-- the reading of a rest that was written -/
theorem rest_back {x : Str} {t b : Int} (hx : 32 ∉ tl x) (t0 : 0 ≤ t) (tb : t < b) (b1 : b < 10 ^ 9) (cop : t.natAbs.Coprime b.toNat) (hz : t = 0 → b = 1) :
    (Txt.partition (x ++ rs t b) " ").1 = x ∧ rdRest (Txt.partition (x ++ rs t b) " ").2.1 (Txt.partition (x ++ rs t b) " ").2.2 = some (Rat.divInt t b) := by
  unfold rs
  by_cases h : t = 0
  · rw [if_pos h, sapp_nil, partition_none (s := 32) (S := []) rfl hx]
    refine ⟨rfl, ?_⟩
    unfold rdRest
    rw [if_pos rfl, h, hz h]
    rfl
  · rw [if_neg h, show x ++ ((" " : Str) ++ (sI t ++ (("/" : Str) ++ sI b))) = x ++ (" " : Str) ++ (sI t ++ (("/" : Str) ++ sI b)) from (sapp _ _ _).symm]
    rw [partition_app (s := 32) (S := []) rfl hx]
    refine ⟨rfl, ?_⟩
    unfold rdRest
    dsimp only
    rw [if_neg blank_ne, show sI t ++ (("/" : Str) ++ sI b) = sI t ++ ("/" : Str) ++ sI b from (sapp _ _ _).symm, partition_app (s := 47) (S := []) rfl (not_sI t0 (by decide))]
    dsimp only
    rw [rdNum_sI t0 (by omega), rdNum_sI (by omega) b1]
    dsimp only
    have hl := divInt_lowest (t := t) (b := b.toNat) (by omega) cop
    rw [show ((b.toNat : Nat) : Int) = b by omega] at hl
    rw [if_neg (by omega), if_pos ⟨hl.1, by omega⟩]
theorem mix_back {q : Rat} (h0 : 0 ≤ q.num) (hw : qw q < 10 ^ 9) (hd : (q.den : Int) < 10 ^ 9) : rdMixed (mixT q) = some q := by
  have hp := den_pos q
  have w0 : 0 ≤ qw q := Int.ediv_nonneg h0 (by omega)
  have r0 : 0 ≤ qr q := Int.emod_nonneg _ (by omega)
  have r1 : qr q < (q.den : Int) := Int.emod_lt_of_pos _ hp
  have rb := rest_back (x := sI (qw q)) (not_sI w0 (by decide)) r0 r1 hd (by
    rw [show ((q.den : Int)).toNat = q.den by omega]
    exact q_cop q h0) (fun e => by
    have := q_whole q h0 e
    omega)
  unfold rdMixed mixT
  rw [rb.1, rdNum_sI w0 hw]
  dsimp only
  rw [rb.2]
  show some _ = some _
  congr 1
  exact q_split q
/-- what is read was written so -/
theorem rest_some {bl rt : Str} {y : Rat} (h : rdRest bl rt = some y) : (bl = Str.empty ∧ y = 0) ∨ ∃ t b : Int, rt = sI t ++ (("/" : Str) ++ sI b) ∧ 0 < t ∧ t < b ∧ b < 10 ^ 9 ∧ t.natAbs.Coprime b.toNat ∧ y = Rat.divInt t b := by
  unfold rdRest at h
  by_cases hb : bl = Str.empty
  · rw [if_pos hb] at h
    exact .inl ⟨hb, (Option.some.inj h).symm⟩
  · rw [if_neg hb] at h
    right
    rcases part_cases rt "/" (s := 47) rfl with ⟨_, e⟩ | ⟨a, b, e1, e2, e⟩
    · rw [e] at h
      dsimp only at h
      rw [rdNum_empty] at h
      split at h
      · rename_i z
        cases z
      · cases h
    · rw [e] at h
      dsimp only at h
      cases ha : rdNum a with
      | none => rw [ha] at h; cases h
      | some t =>
        cases hb2 : rdNum b with
        | none => rw [ha, hb2] at h; cases h
        | some u =>
          rw [ha, hb2] at h
          dsimp only at h
          obtain ⟨ea, t0, t1⟩ := rdNum_some ha
          obtain ⟨eb, u0, u1⟩ := rdNum_some hb2
          by_cases c1 : t = 0 ∨ u ≤ t
          · rw [if_pos c1] at h
            cases h
          · rw [if_neg c1] at h
            by_cases c2 : (Rat.divInt t u).num = t ∧ ((Rat.divInt t u).den : Int) = u
            · rw [if_pos c2] at h
              refine ⟨t, u, ?_, by omega, by omega, u1, divInt_cop (by omega) c2.1 c2.2, (Option.some.inj h).symm⟩
              rw [e1, ea, eb, sapp]
            · rw [if_neg c2] at h
              cases h
/-- a text of a number and a rest: by its parts -/
theorem whole_rest {x w : Str} {y : Rat} (hw : (Txt.partition x " ").1 = w) (h : rdRest (Txt.partition x " ").2.1 (Txt.partition x " ").2.2 = some y) :
    ∃ t b : Int, x = w ++ rs t b ∧ 0 ≤ t ∧ t < b ∧ b < 10 ^ 9 ∧ t.natAbs.Coprime b.toNat ∧ y = Rat.divInt t b := by
  rcases part_cases x " " (s := 32) rfl with ⟨_, e⟩ | ⟨a, b, e1, e2, e⟩
  · rw [e] at hw h
    dsimp only at hw h
    refine ⟨0, 1, ?_, by decide, by decide, by decide, by decide, ?_⟩
    · rw [hw]
      exact (sapp_nil _).symm
    · unfold rdRest at h
      rw [if_pos rfl] at h
      rw [← Option.some.inj h]
      rfl
  · rw [e] at hw h
    dsimp only at hw h
    rcases rest_some h with ⟨z, _⟩ | ⟨t, u, e3, h1, h2, h3, h4, h5⟩
    · exact absurd z blank_ne
    · refine ⟨t, u, ?_, by omega, h2, h3, h4, h5⟩
      unfold rs
      rw [if_neg (by omega), e1, hw, e3, sapp]
theorem mix_of {x : Str} {m : Rat} (h : rdMixed x = some m) : x = mixT m ∧ 0 ≤ m.num ∧ qw m < 10 ^ 9 ∧ (m.den : Int) < 10 ^ 9 := by
  unfold rdMixed at h
  cases hn : rdNum (Txt.partition x " ").1 with
  | none => rw [hn] at h; cases h
  | some n =>
    rw [hn] at h
    dsimp only at h
    obtain ⟨en, n0, n1⟩ := rdNum_some hn
    cases hy : rdRest (Txt.partition x " ").2.1 (Txt.partition x " ").2.2 with
    | none => rw [hy] at h; cases h
    | some y =>
      rw [hy] at h
      obtain ⟨t, b, e1, t0, tb, b1, cop, ey⟩ := whole_rest en hy
      have em : (n : Rat) + y = m := Option.some.inj h
      rw [ey] at em
      obtain ⟨p1, p2⟩ := mixed_parts n0 t0 tb cop
      rw [em] at p1 p2
      have hb : 0 < b := by omega
      have eqw : qw m = n := by
        unfold qw
        rw [p1, p2, Int.add_comm, Int.add_mul_ediv_right _ _ (by omega), Int.ediv_eq_zero_of_lt t0 tb, Int.zero_add]
      have eqr : qr m = t := by
        unfold qr
        rw [p1, p2, Int.add_comm, Int.add_mul_emod_self_right, Int.emod_eq_of_lt t0 tb]
      refine ⟨?_, ?_, by rw [eqw]; exact n1, by rw [p2]; exact b1⟩
      · unfold mixT
        rw [eqw, eqr, p2]
        exact e1
      · rw [p1]
        have := Int.mul_nonneg n0 (show 0 ≤ b by omega)
        omega
end R
namespace R
open PySem TL
open L2 (cutS)
/-! ### the last sign -/
theorem ends_one (x : Str) (c : Nat) : Txt.endswith x ⟨#[c]⟩ = ((tl x).getLast? == some c) := by
  show (decide (0 + 1 ≤ x.length) && Builtin.Str.subAt x ⟨#[c]⟩ (x.length - 1)) = _
  rw [PySem.StrLaws.subAt_eq, len_tl']
  show (decide (0 + 1 ≤ (tl x).length) && (((tl x).drop ((tl x).length - 1)).take 1 == [c])) = _
  rcases List.eq_nil_or_concat (tl x) with e | ⟨a, d, e⟩
  · rw [e]
    rfl
  · have e : tl x = a ++ [d] := by rw [e]; simp
    rw [e, List.getLast?_concat, List.length_append, decide_eq_true (by simp)]
    show (true && ((a ++ [d]).drop (a.length + 1 - 1)).take 1 == [c]) = _
    rw [Nat.add_sub_cancel, List.drop_left]
    show (true && ([d] == [c])) = (some d == some c)
    by_cases h : d = c
    · rw [h]
      simp
    · simp [h]
theorem cut_last (x : Str) : tl (cutS x none (some (-1))) = (tl x).dropLast := by
  show ((((tl x).drop (HT.sIx x.length 0 none)).take (HT.sIx x.length x.length (some (-1)) - HT.sIx x.length 0 none)).toArray).toList = _
  rw [HT.sIx_none]
  show ((((tl x).drop 0).take (((-1 : Int) + (x.length : Int)).toNat - 0)).toArray).toList = _
  rw [List.drop_zero, len_tl', List.dropLast_eq_take]
  simp
  congr 1
  omega
theorem cut_first (x : Str) : tl (cutS x (some 1) none) = (tl x).drop 1 := by
  show ((((tl x).drop (HT.sIx x.length 0 (some ((1 : Nat) : Int)))).take (HT.sIx x.length x.length none - HT.sIx x.length 0 (some ((1 : Nat) : Int)))).toArray).toList = _
  rw [HT.sIx_none, HT.sIx_nat, len_tl']
  show (((tl x).drop (min 1 (tl x).length)).take ((tl x).length - min 1 (tl x).length)) = _
  cases tl x with
  | nil => rfl
  | cons a r =>
    rw [show min 1 (a :: r).length = 1 by simp]
    show r.take (r.length + 1 - 1) = r
    rw [Nat.add_sub_cancel]
    exact List.take_length
theorem ends_app1 (a : Str) (c : Nat) : Txt.endswith (a ++ ⟨#[c]⟩) ⟨#[c]⟩ = true ∧ cutS (a ++ ⟨#[c]⟩) none (some (-1)) = a := by
  refine ⟨?_, str_ext ?_⟩
  · rw [ends_one, tl_app]
    show ((tl a ++ [c]).getLast? == some c) = true
    rw [List.getLast?_concat]
    simp
  · rw [cut_last, tl_app]
    exact List.dropLast_concat
theorem ends_not {x : Str} {c : Nat} (h : c ∉ tl x) : Txt.endswith x ⟨#[c]⟩ = false := by
  rw [ends_one]
  cases e : (tl x).getLast? with
  | none => rfl
  | some d =>
    have := List.mem_of_getLast? e
    by_cases hd : d = c
    · rw [hd] at this
      exact absurd this h
    · simpa using hd
theorem ends_cut {x : Str} {c : Nat} (h : Txt.endswith x ⟨#[c]⟩ = true) : x = cutS x none (some (-1)) ++ ⟨#[c]⟩ := by
  rw [ends_one] at h
  have e : (tl x).getLast? = some c := by simpa using h
  obtain ⟨pre, e⟩ := List.getLast?_eq_some_iff.mp e
  refine str_ext ?_
  rw [tl_app, cut_last, e, List.dropLast_concat]
/-! ### fields of a clock -/
theorem tl_pad2 (n : Nat) : tl (pad2 (n : Int)) = if n < 10 then [48, 48 + n] else numL n := by
  unfold pad2
  by_cases h : n < 10
  · rw [if_pos (by omega), if_pos h, tl_app, show tl (sI ((n : Nat) : Int)) = numL n from tl_sI n, numL_lt h]
    rfl
  · rw [if_neg (by omega), if_neg h]
    exact tl_sI n
theorem field_back {i b : Int} (h0 : 0 ≤ i) (hb : i < b) (h9 : i < 10 ^ 9) : rdField (pad2 i) b = some i := by
  obtain ⟨n, rfl⟩ := Int.eq_ofNat_of_zero_le h0
  have hl : ¬ (pad2 (n : Int)).length < 2 := by
    rw [len_tl', tl_pad2]
    by_cases h : n < 10
    · rw [if_pos h]
      exact (show ¬ 2 < 2 by decide)
    · rw [if_neg h, numL_step (by omega), List.length_append]
      have := numL_ne (n / 10)
      cases e : numL (n / 10) with
      | nil => exact absurd e this
      | cons _ _ => simp
  unfold rdField
  rw [if_neg hl]
  have hw : (if (tl (pad2 (n : Int))).length = 2 ∧ (tl (pad2 (n : Int))).head? = some 48 then cutS (pad2 (n : Int)) (some 1) none else pad2 (n : Int)) = sI (n : Int) := by
    by_cases h : n < 10
    · have e : tl (pad2 (n : Int)) = [48, 48 + n] := by rw [tl_pad2, if_pos h]
      rw [if_pos (by rw [e]; exact ⟨rfl, rfl⟩)]
      refine str_ext ?_
      rw [cut_first, e, show tl (sI ((n : Nat) : Int)) = numL n from tl_sI n, numL_lt h]
      rfl
    · have e : tl (pad2 (n : Int)) = numL n := by rw [tl_pad2, if_neg h]
      rw [if_neg (by
        rw [e]
        intro z
        have := numL_head z.2
        omega)]
      unfold pad2
      rw [if_neg (by omega)]
  rw [hw, rdNum_sI h0 h9]
  dsimp only
  rw [if_neg (by omega)]
theorem field_of {w : Str} {b i : Int} (h : rdField w b = some i) : w = pad2 i ∧ 0 ≤ i ∧ i < b ∧ i < 10 ^ 9 := by
  unfold rdField at h
  by_cases hl : w.length < 2
  · rw [if_pos hl] at h
    cases h
  · rw [if_neg hl] at h
    generalize hg : (if (tl w).length = 2 ∧ (tl w).head? = some 48 then cutS w (some 1) none else w) = g at h
    cases hn : rdNum g with
    | none => rw [hn] at h; cases h
    | some n =>
      rw [hn] at h
      dsimp only at h
      by_cases hb : b ≤ n
      · rw [if_pos hb] at h
        cases h
      · rw [if_neg hb] at h
        have e : n = i := Option.some.inj h
        subst e
        obtain ⟨eg, n0, n9⟩ := rdNum_some hn
        obtain ⟨k, rfl⟩ := Int.eq_ofNat_of_zero_le n0
        refine ⟨?_, n0, by omega, n9⟩
        refine str_ext ?_
        rw [tl_pad2]
        rw [len_tl'] at hl
        by_cases c : (tl w).length = 2 ∧ (tl w).head? = some 48
        · rw [if_pos c] at hg
          have e2 : (tl w).drop 1 = numL k := by rw [← cut_first, hg, eg]; exact tl_sI k
          match hw : tl w, c with
          | [x, y], c =>
            have hx : x = 48 := Option.some.inj c.2
            rw [hw] at e2
            have hk : k < 10 := by
              refine Nat.lt_of_not_le fun z => ?_
              have e3 : [y] = numL k := e2
              rw [numL_step z] at e3
              have := numL_ne (k / 10)
              cases e4 : numL (k / 10) with
              | nil => exact absurd e4 this
              | cons _ _ =>
                rw [e4] at e3
                simp at e3
            rw [if_pos hk, hx]
            have e3 : [y] = numL k := e2
            rw [numL_lt hk] at e3
            rw [(List.cons.inj e3).1]
        · rw [if_neg c] at hg
          subst hg
          have ew : tl w = numL k := by rw [eg]; exact tl_sI k
          by_cases hk : k < 10
          · rw [ew, numL_lt hk] at hl
            exact absurd (show 1 < 2 by decide) hl
          · rw [if_neg hk, ew]
theorem not_pad2 {s : Nat} {i : Int} (h0 : 0 ≤ i) (hs : s < 48 ∨ 57 < s) : s ∉ tl (pad2 i) := by
  unfold pad2
  split
  · rw [tl_app]
    intro h
    rcases List.mem_append.mp h with z | z
    · have : s = 48 := by simpa [tl] using z
      omega
    · exact not_sI h0 hs z
  · exact not_sI h0 hs
end R
namespace R
open PySem TL
open L2 (cutS)
/-! ### the three texts of a time are read to it, and nothing else is read -/
theorem frames_back {q : Rat} {r : Int} (h0 : 0 ≤ q.num) (hw : qw q < 10 ^ 9) (hd : (q.den : Int) < 10 ^ 9) : rdTime (framesT q) r = some q := by
  unfold rdTime framesT
  have e := ends_app1 (mixT q) 102
  rw [show Txt.endswith (mixT q ++ ("f" : Str)) ("f" : Str) = true from e.1, if_pos rfl, show cutS (mixT q ++ ("f" : Str)) none (some (-1)) = mixT q from e.2]
  exact mix_back h0 hw hd
theorem seconds_back {q : Rat} {r : Int} (hr : r ≠ 0) (h0 : 0 ≤ (q / (r : Rat)).num) (hw : qw (q / (r : Rat)) < 10 ^ 9) (hd : ((q / (r : Rat)).den : Int) < 10 ^ 9) : rdTime (secondsT q r) r = some q := by
  unfold rdTime secondsT
  have e := ends_app1 (mixT (q / (r : Rat))) 115
  have ef : Txt.endswith (mixT (q / (r : Rat)) ++ ("s" : Str)) ("f" : Str) = false := by
    show Txt.endswith (mixT (q / (r : Rat)) ++ (⟨#[115]⟩ : Str)) ⟨#[102]⟩ = false
    rw [ends_one, tl_app]
    show ((tl _ ++ [115]).getLast? == some 102) = false
    rw [List.getLast?_concat]
    rfl
  rw [ef, if_neg Bool.false_ne_true, show Txt.endswith (mixT (q / (r : Rat)) ++ ("s" : Str)) ("s" : Str) = true from e.1, if_pos rfl, show cutS (mixT (q / (r : Rat)) ++ ("s" : Str)) none (some (-1)) = mixT (q / (r : Rat)) from e.2, mix_back h0 hw hd]
  show some (q / (r : Rat) * (r : Rat)) = some q
  have hr2 : (r : Rat) ≠ 0 := fun e => hr (by
    have := congrArg Rat.num e
    exact this)
  rw [Rat.div_mul_cancel hr2]
theorem clock_join (a b c d : Str) : a ++ ((":" : Str) ++ (b ++ ((":" : Str) ++ (c ++ ((":" : Str) ++ d))))) = Str.join ":" [a, b, c, d] := by
  show _ = a ++ (":" : Str) ++ (b ++ (":" : Str) ++ (c ++ (":" : Str) ++ d))
  simp only [sapp]
theorem not_app {s : Nat} {a b : Str} (ha : s ∉ tl a) (hb : s ∉ tl b) : s ∉ tl (a ++ b) := by
  rw [tl_app]
  exact fun h => (List.mem_append.mp h).elim ha hb
theorem not_clk {s : Nat} {h m c f : Int} (h0 : 0 ≤ h) (m0 : 0 ≤ m) (c0 : 0 ≤ c) (f0 : 0 ≤ f) (hs : s < 48 ∨ 57 < s) (hc : s ≠ 58) : s ∉ tl (sI h ++ ((":" : Str) ++ (pad2 m ++ ((":" : Str) ++ (pad2 c ++ ((":" : Str) ++ pad2 f)))))) := by
  have hk : s ∉ tl (":" : Str) := by
    show s ∉ [58]
    simpa using hc
  exact not_app (not_sI h0 hs) (not_app hk (not_app (not_pad2 m0 hs) (not_app hk (not_app (not_pad2 c0 hs) (not_app hk (not_pad2 f0 hs))))))
theorem not_rs {s : Nat} {t b : Int} (t0 : 0 ≤ t) (b0 : 0 ≤ b) (hs : s < 48 ∨ 57 < s) (h1 : s ≠ 32) (h2 : s ≠ 47) : s ∉ tl (rs t b) := by
  unfold rs
  split
  · exact fun h => by cases h
  · refine not_app ?_ (not_app (not_sI t0 hs) (not_app ?_ (not_sI b0 hs)))
    · show s ∉ [32]
      simpa using h1
    · show s ∉ [47]
      simpa using h2
theorem clock_back {q : Rat} {r : Int} (r0 : 0 < r) (r1 : r ≤ 120) (h0 : 0 ≤ q.num) (hw : qw q < 10 ^ 9) (hd : (q.den : Int) < 10 ^ 9) : rdTime (clockT q r) r = some q := by
  have hp := den_pos q
  have w0 : 0 ≤ qw q := Int.ediv_nonneg h0 (by omega)
  have t0 : 0 ≤ qr q := Int.emod_nonneg _ (by omega)
  have t1 : qr q < (q.den : Int) := Int.emod_lt_of_pos _ hp
  have s0 : 0 ≤ qw q / r := Int.ediv_nonneg w0 (by omega)
  have s1 : qw q / r ≤ qw q := Int.ediv_le_self _ w0
  have f0 : 0 ≤ qw q % r := Int.emod_nonneg _ (by omega)
  have f1 : qw q % r < r := Int.emod_lt_of_pos _ r0
  have cop : (qr q).natAbs.Coprime ((q.den : Int)).toNat := by
    rw [show ((q.den : Int)).toNat = q.den by omega]
    exact q_cop q h0
  have hz : qr q = 0 → (q.den : Int) = 1 := fun e => by
    have := q_whole q h0 e
    omega
  have sum : (((qw q / r / 3600 * 60 + qw q / r / 60 % 60) * 60 + qw q / r % 60) * r + qw q % r) = qw q := by
    rw [show (qw q / r / 3600 * 60 + qw q / r / 60 % 60) * 60 + qw q / r % 60 = qw q / r by omega]
    have := Int.mul_ediv_add_emod (qw q) r
    rw [Int.mul_comm] at this
    exact this
  unfold clockT
  generalize eS : qw q / r = S at *
  generalize eF : qw q % r = F0 at *
  have rb := rest_back (x := sI (S / 3600) ++ ((":" : Str) ++ (pad2 (S / 60 % 60) ++ ((":" : Str) ++ (pad2 (S % 60) ++ ((":" : Str) ++ pad2 F0)))))) (not_clk (by omega) (by omega) (by omega) f0 (by decide) (by decide)) t0 t1 hd cop hz
  unfold rdTime
  have nf : ∀ s : Nat, 57 < s → s ≠ 58 → s ∉ tl (sI (S / 3600) ++ ((":" : Str) ++ (pad2 (S / 60 % 60) ++ ((":" : Str) ++ (pad2 (S % 60) ++ ((":" : Str) ++ pad2 F0))))) ++ rs (qr q) (q.den : Int)) := fun s h1 h2 =>
    not_app (not_clk (by omega) (by omega) (by omega) f0 (.inr h1) h2) (not_rs t0 (by omega) (.inr h1) (by omega) (by omega))
  rw [show Txt.endswith _ ("f" : Str) = false from ends_not (nf 102 (by decide) (by decide)), if_neg Bool.false_ne_true, show Txt.endswith _ ("s" : Str) = false from ends_not (nf 115 (by decide) (by decide)), if_neg Bool.false_ne_true]
  unfold rdClock
  rw [rb.1, rb.2, clock_join]
  have sp : Txt.split (Str.join ":" [sI (S / 3600), pad2 (S / 60 % 60), pad2 (S % 60), pad2 F0]) ":" = [sI (S / 3600), pad2 (S / 60 % 60), pad2 (S % 60), pad2 F0] := by
    rw [← join_eq]
    refine split_join (s := 58) (S := []) rfl (by decide +kernel) (by simp) (fun p hp => ?_)
    simp only [List.mem_cons, List.not_mem_nil, or_false] at hp
    rcases hp with e | e | e | e <;> subst e
    · exact not_sI (by omega) (by decide)
    · exact not_pad2 (by omega) (by decide)
    · exact not_pad2 (by omega) (by decide)
    · exact not_pad2 f0 (by decide)
  rw [sp]
  dsimp only
  rw [rdNum_sI (by omega) (by omega), field_back (by omega) (by omega) (by omega), field_back (by omega) (by omega) (by omega), field_back f0 f1 (by omega)]
  dsimp only
  show some _ = some _
  congr 1
  rw [sum]
  exact q_split q
theorem frames_of {x : Str} {r : Int} {q : Rat} (h : rdTime x r = some q) (hf : Txt.endswith x "f" = true) : x = framesT q ∧ 0 ≤ q.num ∧ qw q < 10 ^ 9 ∧ (q.den : Int) < 10 ^ 9 := by
  unfold rdTime at h
  rw [hf, if_pos rfl] at h
  obtain ⟨e, h1, h2, h3⟩ := mix_of h
  refine ⟨?_, h1, h2, h3⟩
  unfold framesT
  rw [← e]
  exact ends_cut hf
theorem seconds_of {x : Str} {r : Int} {q : Rat} (hr : r ≠ 0) (h : rdTime x r = some q) (hf : Txt.endswith x "f" = false) (hs : Txt.endswith x "s" = true) : ∃ m : Rat, q = m * (r : Rat) ∧ q / (r : Rat) = m ∧ x = secondsT q r ∧ 0 ≤ m.num ∧ qw m < 10 ^ 9 ∧ (m.den : Int) < 10 ^ 9 := by
  unfold rdTime at h
  rw [hf, if_neg Bool.false_ne_true, hs, if_pos rfl] at h
  cases hm : rdMixed (cutS x none (some (-1))) with
  | none => rw [hm] at h; cases h
  | some m =>
    rw [hm] at h
    have eq : m * (r : Rat) = q := Option.some.inj h
    obtain ⟨e, h1, h2, h3⟩ := mix_of hm
    have hr2 : (r : Rat) ≠ 0 := fun e => hr (by
      have := congrArg Rat.num e
      exact this)
    have ed : q / (r : Rat) = m := by rw [← eq, Rat.mul_div_cancel hr2]
    refine ⟨m, eq.symm, ed, ?_, h1, h2, h3⟩
    unfold secondsT
    rw [ed, ← e]
    exact ends_cut hs
theorem clock_of {x : Str} {r : Int} {q : Rat} (r0 : 0 < r) (r1 : r ≤ 120) (h : rdTime x r = some q) (hf : Txt.endswith x "f" = false) (hs : Txt.endswith x "s" = false) : x = clockT q r ∧ 0 ≤ q.num ∧ qw q < 10 ^ 15 ∧ (q.den : Int) < 10 ^ 9 := by
  unfold rdTime at h
  rw [hf, if_neg Bool.false_ne_true, hs, if_neg Bool.false_ne_true] at h
  unfold rdClock at h
  obtain ⟨ps, _, _, ej, es⟩ := split_parts (Txt.partition x " ").1 ":" (s := 58) rfl (by decide +kernel)
  rw [es] at h
  match ps, ej, h with
  | [f0, f1, f2, f3], ej, h =>
    dsimp only at h
    cases h0 : rdNum f0 with
    | none => rw [h0] at h; cases h
    | some hh =>
      cases h1 : rdField f1 60 with
      | none => rw [h0, h1] at h; cases h
      | some m =>
        cases h2 : rdField f2 60 with
        | none => rw [h0, h1, h2] at h; cases h
        | some s =>
          cases h3 : rdField f3 r with
          | none => rw [h0, h1, h2, h3] at h; cases h
          | some f =>
            rw [h0, h1, h2, h3] at h
            dsimp only at h
            cases hy : rdRest (Txt.partition x " ").2.1 (Txt.partition x " ").2.2 with
            | none => rw [hy] at h; cases h
            | some y =>
              rw [hy] at h
              obtain ⟨e0, a0, a1⟩ := rdNum_some h0
              obtain ⟨e1, b0, b1, b2⟩ := field_of h1
              obtain ⟨e2, c0, c1, c2⟩ := field_of h2
              obtain ⟨e3, d0, d1, d2⟩ := field_of h3
              obtain ⟨t, b, ex, t0, tb, bb, cop, ey⟩ := whole_rest rfl hy
              generalize eN : ((hh * 60 + m) * 60 + s) * r + f = N at h
              have n0 : 0 ≤ N := by
                have := Int.mul_nonneg (show 0 ≤ (hh * 60 + m) * 60 + s by omega) (show 0 ≤ r by omega)
                omega
              have n1 : N < 10 ^ 15 := by
                have := Int.mul_le_mul_of_nonneg_left r1 (show 0 ≤ (hh * 60 + m) * 60 + s by omega)
                omega
              have em : (N : Rat) + y = q := Option.some.inj h
              rw [ey] at em
              obtain ⟨p1, p2⟩ := mixed_parts n0 t0 tb cop
              rw [em] at p1 p2
              have eqw : qw q = N := by
                unfold qw
                rw [p1, p2, Int.add_comm, Int.add_mul_ediv_right _ _ (by omega), Int.ediv_eq_zero_of_lt t0 tb, Int.zero_add]
              have eqr : qr q = t := by
                unfold qr
                rw [p1, p2, Int.add_comm, Int.add_mul_emod_self_right, Int.emod_eq_of_lt t0 tb]
              have dv : N / r = (hh * 60 + m) * 60 + s := by
                rw [← eN, Int.add_comm, Int.add_mul_ediv_right _ _ (by omega), Int.ediv_eq_zero_of_lt d0 d1, Int.zero_add]
              have md : N % r = f := by
                rw [← eN, Int.add_comm, Int.add_mul_emod_self_right, Int.emod_eq_of_lt d0 d1]
              refine ⟨?_, ?_, by rw [eqw]; exact n1, by rw [p2]; exact bb⟩
              · unfold clockT
                rw [eqw, eqr, p2, dv, md, show ((hh * 60 + m) * 60 + s) / 3600 = hh by omega, show ((hh * 60 + m) * 60 + s) / 60 % 60 = m by omega, show ((hh * 60 + m) * 60 + s) % 60 = s by omega, clock_join, ex, ej, e0, e1, e2, e3]
              · rw [p1]
                have := Int.mul_nonneg n0 (show 0 ≤ b by omega)
                omega
  | [], _, h => cases h
  | [_], _, h => cases h
  | [_, _], _, h => cases h
  | [_, _, _], _, h => cases h
  | _ :: _ :: _ :: _ :: _ :: _, _, h => cases h
end R
namespace R
open PySem TL
open L2 (cutS)
/-! ### the first signs of a text -/
theorem starts_eq (x y : Str) : Txt.startswith x y = ((tl x).take (tl y).length == tl y) := by
  have h : Txt.startswith x y = (decide (0 + y.length ≤ x.length) && Builtin.Str.subAt x y 0) := rfl
  rw [h, PySem.StrLaws.subAt_eq, len_tl', len_tl']
  show (decide (0 + (tl y).length ≤ (tl x).length) && (((tl x).drop 0).take (tl y).length == tl y)) = _
  rw [List.drop_zero]
  by_cases c : (tl y).length ≤ (tl x).length
  · rw [decide_eq_true (by omega), Bool.true_and]
  · rw [decide_eq_false (by omega), Bool.false_and]
    symm
    apply beq_eq_false_iff_ne.mpr
    intro e
    have := congrArg List.length e
    rw [List.length_take] at this
    omega
theorem starts_app (a b : Str) : Txt.startswith (a ++ b) a = true := by
  rw [starts_eq, tl_app, List.take_left]
  simp
theorem cut_from (x : Str) (n : Nat) : tl (cutS x (some (n : Int)) none) = (tl x).drop n := by
  show ((((tl x).drop (HT.sIx x.length 0 (some (n : Int)))).take (HT.sIx x.length x.length none - HT.sIx x.length 0 (some (n : Int)))).toArray).toList = _
  rw [HT.sIx_none, HT.sIx_nat, len_tl']
  show (((tl x).drop (min n (tl x).length)).take ((tl x).length - min n (tl x).length)) = _
  by_cases c : n ≤ (tl x).length
  · rw [Nat.min_eq_left c, List.take_of_length_le]
    rw [List.length_drop]
    omega
  · rw [Nat.min_eq_right (by omega), Nat.sub_self, List.take_zero, List.drop_eq_nil_of_le (by omega)]
theorem cut_app (a b : Str) {n : Nat} (h : (tl a).length = n) : cutS (a ++ b) (some (n : Int)) none = b := by
  refine str_ext ?_
  rw [cut_from, tl_app, ← h, List.drop_left]
/-! ### parting at a longer text whose first sign may stand earlier -/
theorem par_two {s u : Nat} {S p rest acc : List Nat} (h1 : u ∉ p) (h2 : p.getLast? ≠ some s) : par (s :: u :: S) acc (p ++ ((s :: u :: S) ++ rest)) = some (acc ++ p, rest) := by
  refine par_part (by simp) fun i hi => ?_
  unfold pre
  apply beq_eq_false_iff_ne.mpr
  intro e
  obtain ⟨a, b, e1, e2⟩ : ∃ a b, p = a ++ b ∧ a.length = i := ⟨p.take i, p.drop i, (List.take_append_drop i p).symm, by rw [List.length_take]; omega⟩
  subst e2
  rw [e1, List.append_assoc, List.drop_left] at e
  cases b with
  | nil =>
    rw [e1, List.append_nil] at hi
    omega
  | cons c b =>
    cases b with
    | nil =>
      have e' : (c :: ((s :: u :: S) ++ rest)).take ((s :: u :: S).length) = s :: u :: S := e
      rw [List.length_cons, List.take_succ_cons] at e'
      have := (List.cons.inj e').1
      refine h2 ?_
      rw [e1, this, List.getLast?_concat]
    | cons d b =>
      have e' : (c :: d :: (b ++ ((s :: u :: S) ++ rest))).take ((s :: u :: S).length) = s :: u :: S := e
      rw [List.length_cons, List.length_cons, List.take_succ_cons, List.take_succ_cons] at e'
      have := (List.cons.inj (List.cons.inj e').2).1
      refine h1 ?_
      rw [e1, ← this]
      simp
theorem partition_two {y : Str} {s u : Nat} {S : List Nat} (ey : tl y = s :: u :: S) {a b : Str} (h1 : u ∉ tl a) (h2 : (tl a).getLast? ≠ some s) : Txt.partition (a ++ (y ++ b)) y = (a, y, b) := by
  rw [partition_par _ y (by rw [ey]; simp), tl_append, tl_append, ey, par_two h1 h2]
  show ((⟨([] ++ tl a).toArray⟩ : Str), y, (⟨(tl b).toArray⟩ : Str)) = _
  rw [List.nil_append, mk_tl, mk_tl]
theorem app_assoc (a b c : Str) : a ++ (b ++ c) = a ++ b ++ c := by
  refine str_ext ?_
  rw [tl_app, tl_app, tl_app, tl_app, List.append_assoc]
theorem partition_one {y : Str} {s : Nat} {S : List Nat} (ey : tl y = s :: S) {a b : Str} (h : s ∉ tl a) : Txt.partition (a ++ (y ++ b)) y = (a, y, b) := by
  rw [app_assoc]
  exact partition_app ey h
/-! ### times in frames -/
theorem fr_not {s : Nat} {q : Rat} (h0 : 0 ≤ q.num) (hs : s < 48 ∨ 57 < s) (h1 : s ≠ 32) (h2 : s ≠ 47) (h3 : s ≠ 102) : s ∉ tl (framesT q) := by
  unfold framesT mixT
  refine not_app (not_app (not_sI ?_ hs) (not_rs ?_ ?_ hs h1 h2)) ?_
  · exact Int.ediv_nonneg h0 (by omega)
  · exact Int.emod_nonneg _ (by have := q.den_nz; omega)
  · omega
  · intro z
    have : s = 102 := List.mem_singleton.mp z
    omega
theorem fr_last (q : Rat) : (tl (framesT q)).getLast? = some 102 := by
  unfold framesT
  rw [tl_app]
  exact List.getLast?_concat
theorem fr_back {q : Rat} (h0 : 0 ≤ q.num) (hw : qw q < 10 ^ 9) (hd : (q.den : Int) < 10 ^ 9) : Txt.endswith (framesT q) "f" = true ∧ rdMixed (cutS (framesT q) none (some (-1))) = some q := by
  obtain ⟨e1, e2⟩ := ends_app1 (mixT q) 102
  refine ⟨e1, ?_⟩
  show rdMixed (cutS (mixT q ++ (⟨#[102]⟩ : Str)) none (some (-1))) = some q
  rw [e2]
  exact mix_back h0 hw hd
/-! ### the lines of cues, part by part -/
section
variable {n : Int} {b e : Rat} {w : Str}
def lnC (n : Int) (b e : Rat) : Str := ("cue " : Str) ++ (sI n ++ ((" from " : Str) ++ (framesT b ++ ((" to " : Str) ++ framesT e))))
def lnW (w : Str) (t : Rat) : Str := ("  " : Str) ++ (w ++ ((" at " : Str) ++ framesT t))
theorem lnC_starts : Txt.startswith (lnC n b e) "cue " = true := starts_app _ _
theorem lnC_cut : cutS (lnC n b e) (some 4) none = sI n ++ ((" from " : Str) ++ (framesT b ++ ((" to " : Str) ++ framesT e))) := cut_app _ _ (n := 4) rfl
theorem lnC_from (h : 0 ≤ n) : Txt.partition (sI n ++ ((" from " : Str) ++ (framesT b ++ ((" to " : Str) ++ framesT e)))) " from " = (sI n, (" from " : Str), framesT b ++ ((" to " : Str) ++ framesT e)) := partition_one (s := 32) (S := [102, 114, 111, 109, 32]) rfl (not_sI h (.inl (by decide)))
theorem lnC_to (h : 0 ≤ b.num) : Txt.partition (framesT b ++ ((" to " : Str) ++ framesT e)) " to " = (framesT b, (" to " : Str), framesT e) := partition_two (s := 32) (u := 116) (S := [111, 32]) rfl (fr_not h (.inr (by decide)) (by decide) (by decide) (by decide)) (by rw [fr_last]; decide)
theorem lnW_starts (t : Rat) : Txt.startswith (lnW w t) "  " = true := starts_app _ _
theorem lnW_not (t : Rat) : Txt.startswith (lnW w t) "cue " = false := by
  rw [starts_eq]
  unfold lnW
  rw [tl_app]
  apply beq_eq_false_iff_ne.mpr
  intro z
  have z' : (32 :: 32 :: (tl (w ++ ((" at " : Str) ++ framesT t)))).take 4 = [99, 117, 101, 32] := z
  rw [List.take_succ_cons] at z'
  exact absurd (List.cons.inj z').1 (by decide)
theorem lnW_cut (t : Rat) : cutS (lnW w t) (some 2) none = w ++ ((" at " : Str) ++ framesT t) := cut_app _ _ (n := 2) rfl
theorem lnW_at (t : Rat) (h : 32 ∉ tl w) : Txt.partition (w ++ ((" at " : Str) ++ framesT t)) " at " = (w, (" at " : Str), framesT t) := partition_one (s := 32) (S := [97, 116, 32]) rfl h
theorem lnC_line (h : 0 ≤ n) (hb : 0 ≤ b.num) (he : 0 ≤ e.num) : 10 ∉ tl (lnC n b e) := by
  unfold lnC
  refine not_app ?_ (not_app (not_sI h (.inl (by decide))) (not_app ?_ (not_app (fr_not hb (.inl (by decide)) (by decide) (by decide) (by decide)) (not_app ?_ (fr_not he (.inl (by decide)) (by decide) (by decide) (by decide))))))
  · exact show 10 ∉ ([99, 117, 101, 32] : List Nat) by decide
  · exact show 10 ∉ ([32, 102, 114, 111, 109, 32] : List Nat) by decide
  · exact show 10 ∉ ([32, 116, 111, 32] : List Nat) by decide
theorem lnW_line {t : Rat} (h : 10 ∉ tl w) (ht : 0 ≤ t.num) : 10 ∉ tl (lnW w t) := by
  unfold lnW
  refine not_app ?_ (not_app h (not_app ?_ (fr_not ht (.inl (by decide)) (by decide) (by decide) (by decide))))
  · exact show 10 ∉ ([32, 32] : List Nat) by decide
  · exact show 10 ∉ ([32, 97, 116, 32] : List Nat) by decide
theorem lines_back {ls : List Str} (hne : ls ≠ []) (h : ∀ x ∈ ls, 10 ∉ tl x) : Txt.split (Txt.join "\n" ls) "\n" = ls := split_join (s := 10) (S := []) rfl (by decide +kernel) hne h
end
end R
namespace R
open PySem PySem.Spec PyProof.Rows L2 GxR
/-! ### all(sign in NAME for sign in text), NAME a text of the module: as the layer's rule, but the element may read the module's names -/
def EltG (prog : Program) (w : World) (mg : Str → Option Value) (sc : Scope) (x : Str) (el : Expr) (pb : Nat → Bool) : Prop :=
  ∀ (ce : Env) (B : Around) (R : Value → Shared → Prop) (n : Nat) (tk : Tok) (z : Shared) (ml : Str → Option Value), ce.scope = sc → ce.globals = mainGlobals → z.heap.Ns mainGlobals mg →
    z.heap.Ns ce.locals ml → ml x = some (.str ⟨#[n]⟩ tk) → wpAny (model prog w) B (eval el ce) (fun y z' => y = .bool (pb n) ∧ Keeps z z') R z
theorem elt_in {prog : Program} {w : World} {mg : Str → Option Value} {sc : Scope} {x g : Str} {t : Str} {p1 p2 p3 : Pos} (hk : sc.kind = .function) (hl : sc.names.lookup x = some .local) (hg : sc.names.lookup g = some .globalImplicit)
    (hm : ∃ u, mg g = some u ∧ RelV (.str t) u) (d1 : (x == ("__debug__" : Str)) = false := by decide) (d2 : (g == ("__debug__" : Str)) = false := by decide) :
    EltG prog w mg sc x (.Compare (.Name x p1) [.In] [.Name g p2] p3) (fun c => decide (c ∈ t.cps.toList)) := by
  intro ce B R n tk z ml es eg hG hL hx
  obtain ⟨u, hu, tk2, rfl⟩ := hm
  have k1 : ce.scope.kind = .function := es ▸ hk
  have k2 : ce.kindOf x = some .local := show ce.scope.names.lookup x = _ from es ▸ hl
  have k3 : ce.kindOf g = some .globalImplicit := show ce.scope.names.lookup g = _ from es ▸ hg
  refine wpAny_Compare1 (wpAny_Name (wpAny_loadName_local k1 k2 hL hx ?_) d1)
  refine Calls.Name_function_global k1 k3 (Calls.loadGlobal_global (mg := mg) (by rw [eg]; exact hG) hu ?_) d2
  refine PyProof.Rows.in_str ⟨?_, keeps_refl _⟩
  rw [PySem.StrLaws.found_one t n]
theorem noFree {sc : Scope} {env : Env} (h : ∀ y ∈ sc.names, y.2 ≠ .free) : ∀ y ∈ sc.names, y.2 = .free → ∃ c, env.cells.lookup y.1 = some c := fun y hy e => absurd e (h y hy)
section
variable {X : Cx} {pins : List (Addr × Obj)} {σ : L2.St} {H : Hp} {s : Shared}
theorem gen_strG {c P : Addr} {el it : Expr} {x : Str} {px gp : Pos} {sc : Scope} {pb : Nat → Bool} {te : TE} {k : Nat} {Z : Value → Shared → Prop} {Y : Str → Hp → Prop}
    (hr : Room k X.A) (tb : TabB X.base X.mg c P) (hc : X.env.code = .ref c) (gs : GenS X.env sc x) (pit : PE X it te) (hel : EltG X.prog X.w X.mg sc x el pb) (hf : ∀ v, genFold it X.env v = pure v) (I : Inv X pins σ H s)
    (h : te σ H fun v H1 => ∃ a : Str, v = .str a ∧ TabG H1 P ∧ Y a H1) (hZ : ∀ a H1 g z, Y a H1 → Ready X pins σ H1 P a pb g z → Z (.ref g) z) :
    wpAny (model X.prog X.w) X.A (eval (.GeneratorExp el [⟨.Name x px, it, [], 0⟩] sc gp) X.env) Z X.xe s := by
  refine wpAny_GeneratorExp_walksQ hr.hd gs.co (closure_ok gs.free) gs.cell gs.dot gs.loc gs.kind hr.depth (thn (pit.run pins s σ H _ I h) fun xv s1 q => ?_) hf
  obtain ⟨v, H1, J, rv, a, rfl, ⟨ps, eP, tri⟩, hY⟩ := q
  obtain ⟨tk, rfl⟩ := (show ∃ tk, xv = Value.str a tk from rv)
  refine wpAny_pyIter_str fun o Si W st => ?_
  have oP : s1.heap.get? P = some { cls := .none, data := .fields ps } := J.hok P _ eP
  have ltP : P < s1.heap.objs.size := Heap.lt_size oP
  have oP2 : (s1.heap.push o).get? P = some { cls := .none, data := .fields ps } := Heap.get?_push_of_some _ oP
  have hd : PySem.W.CodeHd (s1.heap.push o) c P := tb.code.keeps fun b u e => Heap.get?_push_of_some _ (J.bk b u e)
  have nl : (s1.heap.push o).NoLimit := J.nolimit.push o
  have go : ∀ (cv : Value) (h3 : Heap) (t3 : Nat) (ps3 : Array Value), Heap.ExtBut P (s1.heap.push o) h3 → (s1.heap.push o).objs.size ≤ h3.objs.size → h3.get? P = some { cls := .none, data := .fields ps3 } → (∃ more, ps3 = ps ++ more) → TriplesOk ps3.toList →
      wpAny (model X.prog X.w) X.A (builtinsFor X.env.globals X.env.builtins) (fun bi s4 => ∃ Ia fp wr n0 Pf St0 pz F, Value.ref s1.heap.objs.size = .ref Ia ∧ (∀ B : Around, B.handled = none → Walks X.prog X.w B Ia fp wr n0 Pf St0) ∧ St0 0 s4.heap ∧
          (∀ b ∈ fp, b < s4.heap.objs.size) ∧ s4.heap.NoLimit ∧ cStatics ∉ wr ∧
          (∀ href : Heap, (∀ b o, s4.heap.get? b = some o → href.get? b = some o) → QuietGen X.prog X.w (genEnv sc (cloFrom X.env.cells sc.names []) s4.heap.objs.size cv bi X.env) x [] el (List.range s4.heap.objs.size) wr Pf pz F href) ∧
          (∀ g h5 t5 gst, gst.bare = true → s4.heap.objs.size < g → h5.objs.size = g + 1 → (∀ b o, s4.heap.get? b = some o → h5.get? b = some o) →
            WalksS X.prog X.w X.A.in4 g (g :: s4.heap.objs.size :: List.range s4.heap.objs.size) (s4.heap.objs.size :: wr) (GenOnlyQ s4.gens.size) (passing pz n0 0).length (fun j y => ∃ i, (passing pz n0 0)[j]? = some i ∧ F i y)
              (GenAt X.prog X.w X.A.in4 g s4.gens.size s4.heap.objs.size (List.range s4.heap.objs.size) wr pz n0 F) →
            GenAt X.prog X.w X.A.in4 g s4.gens.size s4.heap.objs.size (List.range s4.heap.objs.size) wr pz n0 F 0 { s4 with gens := s4.gens.push gst, toks := t5, heap := h5 } →
            Z (.ref g) { s4 with gens := s4.gens.push gst, toks := t5, heap := h5 })) X.xe { s1 with heap := h3, toks := t3 } := by
    intro cv h3 t3 ps3 ext szl oP3 hmore tri3
    have keep : ∀ b u, b ≠ P → s1.heap.get? b = some u → h3.get? b = some u := fun b u nb e => ext b u nb (Heap.get?_push_of_some _ e)
    have glob3 : h3.Ns mainGlobals X.mg := ((J.mod.glob.keeps J.bk).push o).extBut ext tb.gP
    have neC : cStatics ≠ P := fun e => by
      obtain ⟨_, ⟨o', es, ep, ho, hdt, _⟩, _⟩ := J.nolimit
      rw [e, oP] at ho
      cases ho
      cases hdt
    have ltC : cStatics < s1.heap.objs.size := let ⟨_, hns, _⟩ := J.nolimit; hns.lt
    have ltG : mainGlobals < s1.heap.objs.size := (J.mod.glob.keeps J.bk).lt
    have szp : (s1.heap.push o).objs.size = s1.heap.objs.size + 1 := Heap.size_push ..
    obtain ⟨bm, ob, b1, b2, b3, b4, b5, b6, b7, b8⟩ := tb.bm
    refine wpAny_builtinsFor (m := X.mg) (by rw [J.ok.glob]; exact glob3) b1 b2 (keep _ _ b4 (J.bk _ _ b5)) b6 b7 b8 ?_
    refine ⟨s1.heap.objs.size, [s1.heap.objs.size], [s1.heap.objs.size], a.cps.size, SignAt a, Si, fun _ => true, fun i y => ∃ n, a.cps[i]? = some n ∧ y = .bool (pb n), rfl, W, ?_, ?_, nl.extBut ext neC, ?_, ?_, ?_⟩
    · exact (W X.A hr.hd).frame _ _ _ st fun b hb u e => ext b u (by rw [List.mem_singleton.mp hb]; exact (Nat.ne_of_lt ltP).symm) e
    · intro b hb
      rw [List.mem_singleton.mp hb]
      show s1.heap.objs.size < h3.objs.size
      omega
    · intro e
      exact Nat.ne_of_lt ltC (List.mem_singleton.mp e)
    · intro href hx
      constructor
      · intro B R i v z ml _ _ _ _ _
        rw [List.forIn_nil]
        exact wpAny_pure ⟨rfl, keeps_refl _⟩
      · intro B R i v z ml _ pv' _ hL hm hold
        obtain ⟨n, u, en, rfl⟩ := pv'
        have gz : z.heap.Ns mainGlobals X.mg := by
          obtain ⟨og, eg, ep, ho, rest⟩ := glob3
          refine ⟨og, eg, ep, hold mainGlobals (List.mem_range.mpr ?_) (fun e => Nat.ne_of_lt ltG (List.mem_singleton.mp e)) og (hx _ _ ho), rest⟩
          exact Heap.lt_size ho
        exact wpAny_mono (hel _ B R n u z ml rfl (show X.env.globals = mainGlobals from J.ok.glob) gz hL hm) (fun y z' q => ⟨⟨n, en, q.1⟩, q.2⟩) fun _ _ e => e
    · intro g h5 t5 gst gb lg sz5 keep5 W5 at5
      simp only [GxR.passing_true, List.length_range] at W5
      refine hZ a H1 g _ hY ⟨_, _, _, _, _, W5.in4_1, at5, ?_, fun s' mv => ?_⟩
      · intro j y sj Qj Ej fy hQ
        obtain ⟨i, ei, n, en, rfl⟩ := fy
        obtain ⟨hj, ej⟩ := List.getElem?_eq_some_iff.mp ei
        rw [List.getElem_range] at ej
        subst ej
        have e9 : a.cps.toList[j]? = some n := by
          rw [Array.getElem?_toList]
          exact en
        have hQ' : Qj (trF pb a.cps.toList j) sj := hQ
        rw [trF_some e9] at hQ'
        exact wpAny_truthy_bool hQ'
      · obtain ⟨more, rfl⟩ := hmore
        have nw : ∀ b u, s1.heap.get? b = some u → b ∉ h3.objs.size :: [s1.heap.objs.size] := fun b u e hb => by
          have lb := Heap.lt_size e
          rcases List.mem_cons.mp hb with q | q
          · rw [q] at lb
            have : (h3.objs.size : Nat) < s1.heap.objs.size := lb
            omega
          · rw [List.mem_singleton.mp q] at lb
            exact Nat.lt_irrefl _ lb
        have V := inv_tab (more := more) (h' := s'.heap) (g' := s'.gens) (d' := s'.drawn) (t' := s'.toks) J eP (fun b u nb e => mv.heap b u (nw b u e) (keep5 b u (keep b u nb e))) (mv.heap P _ (nw P _ oP) (keep5 P _ oP3)) (AllBare.movedS (J.bare.push gb) mv)
        rw [sh_eta s1 s' mv.os] at V
        exact ⟨_, ⟨⟨ps ++ more, upd_same, tri3⟩, fun b nb => upd_ne nb⟩, V⟩
  refine ⟨nl, ?_⟩
  cases cf : codeAmong gp ps.toList with
  | some cv => exact wpAny_genexprCode_hit hc (hd.code oP2 tri) cf (go cv (s1.heap.push o) s1.toks ps (Heap.ExtBut.refl _ _) (Nat.le_refl _) oP2 ⟨#[], by simp⟩ tri)
  | none =>
    refine wpAny_genexprCodeX hc (hd.code oP2 tri) (hd.tab oP2) cf fun c' h' tk' hx ge lt co _ tab _ => ?_
    obtain ⟨o1, vs, f1, tf, fl, tg, inF, tx, tt, op, _, _, _, _, _, _, _, _, _, htr, _⟩ := co
    exact go _ h' tk' _ hx (Nat.le_trans ge (Nat.le_of_lt lt)) tab.2 ⟨_, rfl⟩ htr
theorem pe_allG {c P : Addr} {el it : Expr} {x : Str} {px p pos gp : Pos} {sc : Scope} {pb : Nat → Bool} {te : TE} {k : Nat} (hr : Room k X.A) (hg : Gl X "all") (hm : X.mg "all" = none) (tb : TabB X.base X.mg c P) (hc : X.env.code = .ref c)
    (gs : GenS X.env sc x) (pit : PE X it te) (hel : EltG X.prog X.w X.mg sc x el pb) (hf : ∀ v, genFold it X.env v = pure v)
    (he : starEach [.GeneratorExp el [⟨.Name x px, it, [], 0⟩] sc gp] X.env = (false, eval (.GeneratorExp el [⟨.Name x px, it, [], 0⟩] sc gp) X.env) :: starEach [] X.env := by rfl) :
    PE X (.Call (.Name "all" p) [.GeneratorExp el [⟨.Name x px, it, [], 0⟩] sc gp] [] pos) (tAllS P pb te) := by
  constructor
  intro pins s σ H Q I h
  have hb : bootBuiltins "all" = some (.builtin "all") := by decide +kernel
  refine wpAny_Call_Name_kw (ld_blt I hg hm hb (PyProof.Rows.callWith_builtin1 ?_ he (by rfl)))
  rw [he]
  show wpAny _ _ (spliced ((false, eval (.GeneratorExp el [⟨.Name x px, it, [], 0⟩] sc gp) X.env) :: backTo pos (starEach [] X.env))) _ _ s
  refine Calls.spliced_cons (gen_strG (Y := fun a H1 => ∀ H2, Tabbed P H1 H2 → Q (.bl (a.cps.toList.all pb)) H2) hr tb hc gs pit hel hf I h fun a H1 g z hY rd => Calls.spliced_nil ?_)
  obtain ⟨fp, wr, G, F, St, W, st, tr, back⟩ := rd
  refine call_all_walkS (W.self 0 _ _ _ st ⟨g, fp, wr, G, _, F, St, _, rfl, W, st, tr, fun z' mv => ?_⟩)
  obtain ⟨H2, tbd, J⟩ := back z' mv
  exact ⟨.bl _, H2, J, rfl, by rw [all_signs a pb]; exact hY H2 tbd⟩
end
end R
namespace R
open PySem PySem.Spec PyProof.Rows L2
/-! ### the law's end, where the table of one def's code is told to be empty -/
theorem walk_tab {l : PySem.W.OpenLaw} {n k : Nat} {q : Program} {loose : List Str} {XP : (Str → Option Value) → Heap → Prop} {YP : World → Heap → Prop} {d : DefRec} {K : Params → PySem.W.Frag} {CX : World → CXT} {x : Str} (nm : Str)
    (hn : l.most = some n) (hn2 : n ≤ sizeLine) (hdf : d.params.defaults = []) (hr : Room k callerA) (hrec : ((recsOf q).any fun e => e.name == nm) = true) (hY : ∀ (w : World) (h : Heap), YP w h → (K w.params).In h)
    (F : ∀ (w : World) (mg : Str → Option Value) (fa : Addr) (h : Heap), (K w.params).In h → h.Ns mainGlobals mg → mg d.name = some (.ref fa) → (∀ f, mg nm = some (.ref f) → LamX.OwnTab (K w.params) f h) → LamX.LawAtS l w (K w.params) (CX w) k n x mg fa h)
    (hCX : ∀ (w : World) (H : Hp) (s : Shared) (e : Value) (s' : Shared), CX w [] H s (fun _ _ _ => False) e s' → False) : PySem.W.WalkO q loose XP YP l.row.toRowW d [] (fun f vs => PySem.call f vs) := by
  refine Att.attach_callB hn hdf fun w s₀ s₁ mg mb fa o pm cd doc a vs ns G Y ho hd hcd hmg hobj hints hlen hbits hg => ?_
  have inK := hY w _ Y
  have tabs : ∀ f, mg nm = some (.ref f) → LamX.OwnTab (K w.params) f s₁.heap := by
    intro f hf c P o1 fd1 e dd vc sl e1 e2 e3 e4 e5
    obtain ⟨dL, hm, he⟩ := List.any_eq_true.mp hrec
    obtain ⟨a', o', fd', c', P', g1, g2, g3, g4, g5, g6⟩ := G.T.tab dL hm
    rw [beq_iff_eq.mp he, hf] at g1
    cases g1
    have q1 := (inK _ _ e1).symm.trans g2
    cases q1
    have q2 := e2.symm.trans g3
    cases q2
    have q3 := e3.symm.trans g4
    cases q3
    obtain ⟨⟨oc, vc', r1, _, r3, r4⟩, rP⟩ := g6
    have q4 := (inK _ _ e4).symm.trans r1
    cases q4
    cases r3
    have q5 := e5.symm.trans r4
    cases q5
    exact rP
  obtain ⟨fd, cs, sp, hT, nT, C, hb, hsp, hF⟩ := F w mg fa _ inK G.T.g hmg tabs
  exact LamX.law_callTs inK G.T.g G.T.b G.T.builtins G.T.nolimit hg hT nT C G.T.bmain hobj hints (Nat.le_trans hlen hn2) hr hF hb (fun H hH hS => hsp H a ns hlen hbits hH hS) fun H e s' => hCX w H s₁ e s'
theorem walk_tabs {l : PySem.W.OpenLaw} {n k : Nat} {q : Program} {loose : List Str} {XP : (Str → Option Value) → Heap → Prop} {YP : World → Heap → Prop} {d : DefRec} {K : Params → PySem.W.Frag} {CX : World → CXT} {x : Str} (nms : List Str)
    (hn : l.most = some n) (hn2 : n ≤ sizeLine) (hdf : d.params.defaults = []) (hr : Room k callerA) (hrec : ∀ nm ∈ nms, ((recsOf q).any fun e => e.name == nm) = true) (hY : ∀ (w : World) (h : Heap), YP w h → (K w.params).In h)
    (F : ∀ (w : World) (mg : Str → Option Value) (fa : Addr) (h : Heap), (K w.params).In h → h.Ns mainGlobals mg → mg d.name = some (.ref fa) → (∀ nm ∈ nms, ∀ f, mg nm = some (.ref f) → LamX.OwnTab (K w.params) f h) → LamX.LawAtS l w (K w.params) (CX w) k n x mg fa h)
    (hCX : ∀ (w : World) (H : Hp) (s : Shared) (e : Value) (s' : Shared), CX w [] H s (fun _ _ _ => False) e s' → False) : PySem.W.WalkO q loose XP YP l.row.toRowW d [] (fun f vs => PySem.call f vs) := by
  refine Att.attach_callB hn hdf fun w s₀ s₁ mg mb fa o pm cd doc a vs ns G Y ho hd hcd hmg hobj hints hlen hbits hg => ?_
  have inK := hY w _ Y
  have tabs : ∀ nm ∈ nms, ∀ f, mg nm = some (.ref f) → LamX.OwnTab (K w.params) f s₁.heap := by
    intro nm hnm f hf c P o1 fd1 e dd vc sl e1 e2 e3 e4 e5
    obtain ⟨dL, hm, he⟩ := List.any_eq_true.mp (hrec nm hnm)
    obtain ⟨a', o', fd', c', P', g1, g2, g3, g4, g5, g6⟩ := G.T.tab dL hm
    rw [beq_iff_eq.mp he, hf] at g1
    cases g1
    have q1 := (inK _ _ e1).symm.trans g2
    cases q1
    have q2 := e2.symm.trans g3
    cases q2
    have q3 := e3.symm.trans g4
    cases q3
    obtain ⟨⟨oc, vc', r1, _, r3, r4⟩, rP⟩ := g6
    have q4 := (inK _ _ e4).symm.trans r1
    cases q4
    cases r3
    have q5 := e5.symm.trans r4
    cases q5
    exact rP
  obtain ⟨fd, cs, sp, hT, nT, C, hb, hsp, hF⟩ := F w mg fa _ inK G.T.g hmg tabs
  exact LamX.law_callTs inK G.T.g G.T.b G.T.builtins G.T.nolimit hg hT nT C G.T.bmain hobj hints (Nat.le_trans hlen hn2) hr hF hb (fun H hH hS => hsp H a ns hlen hbits hH hS) fun H e s' => hCX w H s₁ e s'
end R
namespace R
open PySem PySem.Spec PyProof.Rows L2 GxR
/-! ### sum(f(x) for x in xs), xs a list -/
def EltI (prog : Program) (w : World) (mg : Str → Option Value) (sc : Scope) (x : Str) (el : Expr) (ok : V → Prop) (val : V → Int) : Prop :=
  ∀ (ce : Env) (B : Around) (R : Value → Shared → Prop) (v : V) (u : Value) (z : Shared) (ml mb : Str → Option Value), ce.scope = sc → ce.globals = mainGlobals → z.heap.Ns mainGlobals mg → z.heap.Ns ce.builtins mb → (∀ y : Str, y ≠ "__name__" → mb y = bootBuiltins y) → z.heap.Ns ce.locals ml → ok v → RelV v u → ml x = some u →
    wpAny (model prog w) B (eval el ce) (fun y z' => (∃ t, y = .int (val v) t) ∧ Keeps z z') R z
def lenV : V → Int
  | .str a => a.length
  | _ => 0
theorem elt_len {prog : Program} {w : World} {mg : Str → Option Value} {sc : Scope} {x : Str} {p1 p2 p3 : Pos} (hk : sc.kind = .function) (hl : sc.names.lookup x = some .local) (hg : sc.names.lookup ("len" : Str) = some .globalImplicit) (hm : mg "len" = none) (d1 : (x == ("__debug__" : Str)) = false := by decide) :
    EltI prog w mg sc x (.Call (.Name "len" p1) [.Name x p2] [] p3) (fun v => ∃ a : Str, v = .str a ∧ a.length ≤ sizeLine) lenV := by
  intro ce B R v u z ml mb es eg hG hB hb hL ok rv hx
  obtain ⟨a, rfl, ha⟩ := ok
  obtain ⟨tk, rfl⟩ := (show ∃ tk, u = Value.str a tk from rv)
  have k1 : ce.scope.kind = .function := es ▸ hk
  have k2 : ce.kindOf x = some .local := show ce.scope.names.lookup x = _ from es ▸ hl
  have k3 : ce.kindOf "len" = some .globalImplicit := show ce.scope.names.lookup ("len" : Str) = _ from es ▸ hg
  have hv : bootBuiltins "len" = some (.builtin "len") := by decide +kernel
  refine wpAny_Call_Name_kw (Calls.Name_function_global k1 k3 (Calls.loadGlobal_builtin (mg := mg) (mb := mb) (by rw [eg]; exact hG) hm hB ((hb "len" (by decide)).trans hv) ?_) (by decide))
  have he : starEach [.Name x p2] ce = (false, eval (.Name x p2) ce) :: starEach [] ce := by rfl
  refine PyProof.Rows.callWith_builtin1 ?_ he (by rfl)
  rw [he]
  show wpAny _ _ (spliced ((false, eval (.Name x p2) ce) :: backTo p3 (starEach [] ce))) _ _ z
  refine Calls.spliced_cons (wpAny_Name (wpAny_loadName_local k1 k2 hL hx (Calls.spliced_nil ?_)) d1)
  have hn := line63
  exact len_str (by omega) ⟨⟨_, rfl⟩, keeps_tok z _⟩
section
variable {X : Cx} {pins : List (Addr × Obj)} {σ : L2.St} {H : Hp} {s : Shared}
/-- a generator over a list is made -/
def ReadyI (X : Cx) (pins : List (Addr × Obj)) (σ : L2.St) (H1 : Hp) (P : Addr) (xs : List V) (val : V → Int) (g : Addr) (s5 : Shared) : Prop :=
  ∃ (fp wr : List Addr) (G : Array GenState → Array GenState → Prop) (F : Nat → Value → Prop) (St : Nat → Shared → Prop) (vn : Nat → Int), WalksS X.prog X.w X.A.in1 g fp wr G xs.length F St ∧ St 0 s5 ∧ (∀ b ∈ fp, b < s5.heap.objs.size) ∧ (∀ j y, F j y → ∃ t, y = .int (vn j) t) ∧ (∀ j v, xs[j]? = some v → vn j = val v) ∧
    ∀ s', Moved wr G s5 s' → ∃ H2, Tabbed P H1 H2 ∧ Inv X pins σ H2 s'
theorem gen_listG {c P : Addr} {el it : Expr} {x : Str} {px gp : Pos} {sc : Scope} {ok : V → Prop} {val : V → Int} {te : TE} {k : Nat} {Z : Value → Shared → Prop} {Y : Addr → List V → Hp → Prop}
    (hr : Room k X.A) (tb : TabB X.base X.mg c P) (hc : X.env.code = .ref c) (gs : GenS X.env sc x) (pit : PE X it te) (hel : EltI X.prog X.w X.mg sc x el ok val) (hf : ∀ v, genFold it X.env v = pure v) (I : Inv X pins σ H s)
    (h : te σ H fun v H1 => ∃ l xs, v = .ref l ∧ SqL X.K H1 l xs ∧ (∀ y ∈ xs, ok y) ∧ TabG H1 P ∧ Y l xs H1) (hZ : ∀ l xs H1 g z, Y l xs H1 → ReadyI X pins σ H1 P xs val g z → Z (.ref g) z) :
    wpAny (model X.prog X.w) X.A (eval (.GeneratorExp el [⟨.Name x px, it, [], 0⟩] sc gp) X.env) Z X.xe s := by
  refine wpAny_GeneratorExp_walksQ hr.hd gs.co (closure_ok gs.free) gs.cell gs.dot gs.loc gs.kind hr.depth (thn (pit.run pins s σ H _ I h) fun xv s1 q => ?_) hf
  obtain ⟨v, H1, J, rv, l, xs, rfl, hs, hok, ⟨ps, eP, tri⟩, hY⟩ := q
  obtain rfl : xv = Value.ref l := rv
  obtain ⟨its, rvs, hl, hz⟩ := J.list hs
  have isl := hl.isList
  refine wpAny_pyIter_list isl ?_
  have oP : s1.heap.get? P = some { cls := .none, data := .fields ps } := J.hok P _ eP
  have ltP : P < s1.heap.objs.size := Heap.lt_size oP
  have ltl : l < s1.heap.objs.size := by
    obtain ⟨o', ho', _⟩ := isl
    exact Heap.lt_size ho'
  have neP : l ≠ P := fun z => by
    obtain ⟨o', ho', hd', _⟩ := isl
    rw [z, oP] at ho'
    cases ho'
    cases hd'
  generalize ho : ({ cls := .type "list_iterator", data := .fields #[.ref l, .int 0 0] } : Obj) = o
  have oP2 : (s1.heap.push o).get? P = some { cls := .none, data := .fields ps } := Heap.get?_push_of_some _ oP
  have hd : PySem.W.CodeHd (s1.heap.push o) c P := tb.code.keeps fun b u e => Heap.get?_push_of_some _ (J.bk b u e)
  have nl : (s1.heap.push o).NoLimit := J.nolimit.push o
  have lit : (s1.heap.push o).get? s1.heap.objs.size = some o := Heap.get?_push_size _ (by rw [← ho]; rfl)
  have neI : l ≠ s1.heap.objs.size := Nat.ne_of_lt ltl
  have W : ∀ B : Around, B.handled = none → Walks X.prog X.w B s1.heap.objs.size [s1.heap.objs.size, l] [s1.heap.objs.size] its.toArray.size (fun i v => its.toArray[i]? = some v) (fun i h => h.IsListIter s1.heap.objs.size l i ∧ h.IsList l its.toArray) := fun B hB => Walks.list hB s1.heap.objs.size l neI its.toArray
  have st : (s1.heap.push o).IsListIter s1.heap.objs.size l 0 ∧ (s1.heap.push o).IsList l its.toArray := ⟨⟨o, lit, by rw [← ho], by rw [← ho]; rfl⟩, isl.at fun u e => Heap.get?_push_of_some _ e⟩
  obtain ⟨mb, hb1, hb2⟩ := J.mod.blt
  have go : ∀ (cv : Value) (h3 : Heap) (t3 : Nat) (ps3 : Array Value), Heap.ExtBut P (s1.heap.push o) h3 → (s1.heap.push o).objs.size ≤ h3.objs.size → h3.get? P = some { cls := .none, data := .fields ps3 } → (∃ more, ps3 = ps ++ more) → TriplesOk ps3.toList →
      wpAny (model X.prog X.w) X.A (builtinsFor X.env.globals X.env.builtins) (fun bi s4 => ∃ Ia fp wr n0 Pf St0 pz F, Value.ref s1.heap.objs.size = .ref Ia ∧ (∀ B : Around, B.handled = none → Walks X.prog X.w B Ia fp wr n0 Pf St0) ∧ St0 0 s4.heap ∧
          (∀ b ∈ fp, b < s4.heap.objs.size) ∧ s4.heap.NoLimit ∧ cStatics ∉ wr ∧
          (∀ href : Heap, (∀ b o, s4.heap.get? b = some o → href.get? b = some o) → QuietGen X.prog X.w (genEnv sc (cloFrom X.env.cells sc.names []) s4.heap.objs.size cv bi X.env) x [] el (List.range s4.heap.objs.size) wr Pf pz F href) ∧
          (∀ g h5 t5 gst, gst.bare = true → s4.heap.objs.size < g → h5.objs.size = g + 1 → (∀ b o, s4.heap.get? b = some o → h5.get? b = some o) →
            WalksS X.prog X.w X.A.in4 g (g :: s4.heap.objs.size :: List.range s4.heap.objs.size) (s4.heap.objs.size :: wr) (GenOnlyQ s4.gens.size) (passing pz n0 0).length (fun j y => ∃ i, (passing pz n0 0)[j]? = some i ∧ F i y)
              (GenAt X.prog X.w X.A.in4 g s4.gens.size s4.heap.objs.size (List.range s4.heap.objs.size) wr pz n0 F) →
            GenAt X.prog X.w X.A.in4 g s4.gens.size s4.heap.objs.size (List.range s4.heap.objs.size) wr pz n0 F 0 { s4 with gens := s4.gens.push gst, toks := t5, heap := h5 } →
            Z (.ref g) { s4 with gens := s4.gens.push gst, toks := t5, heap := h5 })) X.xe { s1 with heap := h3, toks := t3 } := by
    intro cv h3 t3 ps3 ext szl oP3 hmore tri3
    have keep : ∀ b u, b ≠ P → s1.heap.get? b = some u → h3.get? b = some u := fun b u nb e => ext b u nb (Heap.get?_push_of_some _ e)
    have glob3 : h3.Ns mainGlobals X.mg := ((J.mod.glob.keeps J.bk).push o).extBut ext tb.gP
    have neC : cStatics ≠ P := fun e => by
      obtain ⟨_, ⟨o', es, ep, ho, hdt, _⟩, _⟩ := J.nolimit
      rw [e, oP] at ho
      cases ho
      cases hdt
    have neB : builtinsNs ≠ P := fun e => by
      obtain ⟨o', es, ep, ho, hdt, _⟩ := hb1.keeps J.bk
      rw [e, oP] at ho
      cases ho
      cases hdt
    have blt3 : h3.Ns builtinsNs mb := ((hb1.keeps J.bk).push o).extBut ext neB
    have ltC : cStatics < s1.heap.objs.size := let ⟨_, hns, _⟩ := J.nolimit; hns.lt
    have ltG : mainGlobals < s1.heap.objs.size := (J.mod.glob.keeps J.bk).lt
    have ltB : builtinsNs < s1.heap.objs.size := (hb1.keeps J.bk).lt
    have szp : (s1.heap.push o).objs.size = s1.heap.objs.size + 1 := Heap.size_push ..
    obtain ⟨bm, ob, b1, b2, b3, b4, b5, b6, b7, b8⟩ := tb.bm
    refine wpAny_builtinsFor (m := X.mg) (by rw [J.ok.glob]; exact glob3) b1 b2 (keep _ _ b4 (J.bk _ _ b5)) b6 b7 b8 ?_
    refine ⟨s1.heap.objs.size, [s1.heap.objs.size, l], [s1.heap.objs.size], its.toArray.size, _, _, fun _ => true, fun i y => ∃ v, xs[i]? = some v ∧ ∃ t, y = .int (val v) t, rfl, W, ?_, ?_, nl.extBut ext neC, ?_, ?_, ?_⟩
    · refine (W X.A hr.hd).frame _ _ _ st fun b hb u e => ext b u ?_ e
      rcases List.mem_cons.mp hb with z | z
      · rw [z]
        exact (Nat.ne_of_lt ltP).symm
      · rw [List.mem_singleton.mp z]
        exact neP
    · intro b hb
      have h3s : s1.heap.objs.size + 1 ≤ h3.objs.size := by rw [← szp]; exact szl
      show b < h3.objs.size
      rcases List.mem_cons.mp hb with z | z
      · rw [z]
        exact h3s
      · rw [List.mem_singleton.mp z]
        exact Nat.lt_trans ltl h3s
    · intro e
      exact Nat.ne_of_lt ltC (List.mem_singleton.mp e)
    · intro href hx
      constructor
      · intro B R i v z ml _ _ _ _ _
        rw [List.forIn_nil]
        exact wpAny_pure ⟨rfl, keeps_refl _⟩
      · intro B R i v z ml _ pv' _ hL hm hold
        have pv' : its.toArray[i]? = some v := pv'
        have pv2 : its[i]? = some v := by
          rw [List.getElem?_toArray] at pv'
          exact pv'
        have hi : i < xs.length := by
          rw [rvs.length]
          exact (List.getElem?_eq_some_iff.mp pv2).1
        obtain ⟨vx, hvx⟩ : ∃ vx, xs[i]? = some vx := ⟨_, List.getElem?_eq_getElem hi⟩
        obtain ⟨u, hu, ru⟩ := rvs.get hvx
        rw [pv2] at hu
        obtain rfl := Option.some.inj hu
        have nsz : ∀ {ad : Addr} {m : Str → Option Value}, h3.Ns ad m → ad < s1.heap.objs.size → z.heap.Ns ad m := fun {ad m} hns hlt => by
          obtain ⟨og, eg, ep, hog, rest⟩ := hns
          exact ⟨og, eg, ep, hold ad (List.mem_range.mpr (Heap.lt_size hog)) (fun e => Nat.ne_of_lt hlt (List.mem_singleton.mp e)) og (hx _ _ hog), rest⟩
        exact wpAny_mono (hel _ B R vx v z ml mb rfl (show X.env.globals = mainGlobals from J.ok.glob) (nsz glob3 ltG) (nsz blt3 ltB) hb2 hL (hok vx (List.mem_of_getElem? hvx)) ru hm) (fun y z' q => ⟨⟨vx, hvx, q.1⟩, q.2⟩) fun _ _ e => e
    · intro g h5 t5 gst gb lg sz5 keep5 W5 at5
      simp only [GxR.passing_true, List.length_range] at W5
      have ln : its.toArray.size = xs.length := by rw [List.size_toArray, rvs.length]
      rw [ln] at W5 at5
      refine hZ l xs H1 g _ hY ⟨_, _, _, _, _, fun j => match xs[j]? with | some v => val v | none => 0, W5.in4_1, at5, ?_, fun j y fy => ?_, fun j v hj => by show (match xs[j]? with | some v => val v | none => 0) = val v; rw [hj], fun s' mv => ?_⟩
      · intro b hb
        show b < h5.objs.size
        have lg' : h3.objs.size < g := lg
        have g5 : g < h5.objs.size := by rw [sz5]; exact Nat.lt_succ_self _
        rcases List.mem_cons.mp hb with z | z
        · rw [z]
          exact g5
        · rcases List.mem_cons.mp z with y | y
          · rw [y]
            exact Nat.lt_trans lg' g5
          · exact Nat.lt_trans (List.mem_range.mp y) (Nat.lt_trans lg' g5)
      · obtain ⟨i, ei, v, hv, t, rfl⟩ := fy
        obtain ⟨hj, ej⟩ := List.getElem?_eq_some_iff.mp ei
        rw [List.getElem_range] at ej
        subst ej
        show ∃ t', Value.int (val v) t = .int (match xs[j]? with | some v => val v | none => 0) t'
        rw [hv]
        exact ⟨t, rfl⟩
      · obtain ⟨more, rfl⟩ := hmore
        have nw : ∀ b u, s1.heap.get? b = some u → b ∉ h3.objs.size :: [s1.heap.objs.size] := fun b u e hb => by
          have lb := Heap.lt_size e
          rcases List.mem_cons.mp hb with q | q
          · rw [q] at lb
            have : (h3.objs.size : Nat) < s1.heap.objs.size := lb
            omega
          · rw [List.mem_singleton.mp q] at lb
            exact Nat.lt_irrefl _ lb
        have V := inv_tab (more := more) (h' := s'.heap) (g' := s'.gens) (d' := s'.drawn) (t' := s'.toks) J eP (fun b u nb e => mv.heap b u (nw b u e) (keep5 b u (keep b u nb e))) (mv.heap P _ (nw P _ oP) (keep5 P _ oP3)) (AllBare.movedS (J.bare.push gb) mv)
        rw [sh_eta s1 s' mv.os] at V
        exact ⟨_, ⟨⟨ps ++ more, upd_same, tri3⟩, fun b nb => upd_ne nb⟩, V⟩
  refine ⟨nl, ?_⟩
  cases cf : codeAmong gp ps.toList with
  | some cv => exact wpAny_genexprCode_hit hc (hd.code oP2 tri) cf (go cv (s1.heap.push o) s1.toks ps (Heap.ExtBut.refl _ _) (Nat.le_refl _) oP2 ⟨#[], by simp⟩ tri)
  | none =>
    refine wpAny_genexprCodeX hc (hd.code oP2 tri) (hd.tab oP2) cf fun c' h' tk' hx ge lt co _ tab _ => ?_
    obtain ⟨o1, vs, f1, tf, fl, tg, inF, tx, tt, op, _, _, _, _, _, _, _, _, _, htr, _⟩ := co
    exact go _ h' tk' _ hx (Nat.le_trans ge (Nat.le_of_lt lt)) tab.2 ⟨_, rfl⟩ htr
theorem presum_list {val : V → Int} {vn : Nat → Int} : ∀ (n : Nat) {xs : List V}, (∀ j v, xs[j]? = some v → vn j = val v) → n ≤ xs.length → preSum vn n = ((xs.take n).map val).sum
  | 0, xs, _, _ => rfl
  | n + 1, xs, h, hn => by
    obtain ⟨v, hv⟩ : ∃ v, xs[n]? = some v := ⟨_, List.getElem?_eq_getElem (by omega)⟩
    show preSum vn n + vn n = _
    rw [presum_list n h (by omega), h n v hv, List.take_add_one, hv, List.map_append, List.sum_append]
    show _ = _ + (val v + 0)
    omega
def tSumI (P : Addr) (K : PySem.W.Frag) (ok : V → Prop) (val : V → Int) (te : TE) : TE := fun σ H Q => te σ H fun v H1 => ∃ l xs, v = .ref l ∧ SqL K H1 l xs ∧ (∀ y ∈ xs, ok y) ∧ TabG H1 P ∧ ∀ H2, Tabbed P H1 H2 → Q (.int (xs.map val).sum) H2
theorem pe_sumI {c P : Addr} {el it : Expr} {x : Str} {px p pos gp : Pos} {sc : Scope} {ok : V → Prop} {val : V → Int} {te : TE} {k : Nat} (hr : Room k X.A) (hg : Gl X "sum") (hm : X.mg "sum" = none) (tb : TabB X.base X.mg c P) (hc : X.env.code = .ref c)
    (gs : GenS X.env sc x) (pit : PE X it te) (hel : EltI X.prog X.w X.mg sc x el ok val) (hf : ∀ v, genFold it X.env v = pure v)
    (he : starEach [.GeneratorExp el [⟨.Name x px, it, [], 0⟩] sc gp] X.env = (false, eval (.GeneratorExp el [⟨.Name x px, it, [], 0⟩] sc gp) X.env) :: starEach [] X.env := by rfl) :
    PE X (.Call (.Name "sum" p) [.GeneratorExp el [⟨.Name x px, it, [], 0⟩] sc gp] [] pos) (tSumI P X.K ok val te) := by
  constructor
  intro pins s σ H Q I h
  have hb : bootBuiltins "sum" = some (.builtin "sum") := by decide +kernel
  refine wpAny_Call_Name_kw (ld_blt I hg hm hb (PyProof.Rows.callWith_builtin1 ?_ he (by rfl)))
  rw [he]
  show wpAny _ _ (spliced ((false, eval (.GeneratorExp el [⟨.Name x px, it, [], 0⟩] sc gp) X.env) :: backTo pos (starEach [] X.env))) _ _ s
  refine Calls.spliced_cons (gen_listG (Y := fun l xs H1 => ∀ H2, Tabbed P H1 H2 → Q (.int (xs.map val).sum) H2) hr tb hc gs pit hel hf I h fun l xs H1 g z hY rd => Calls.spliced_nil ?_)
  obtain ⟨fp, wr, G, F, St, vn, W, st, hfp, hval, hvn, back⟩ := rd
  refine call_sum_walkAnyS (W.self 0 _ _ _ st ⟨g, fp, wr, G, _, F, St, vn, rfl, W, st, hfp, hval, fun z' t' mv => ?_⟩)
  obtain ⟨H2, tbd, J⟩ := back z' mv
  have e := presum_list xs.length hvn (Nat.le_refl _)
  rw [List.take_length] at e
  exact ⟨.int _, H2, J, ⟨t', by rw [e]⟩, hY H2 tbd⟩
end
end R
namespace R
open PySem PySem.Spec PyProof.Rows L2 GxR
/-! ### sum(b for a, b in xs), xs a list of pairs of whole numbers -/
section
variable {X : Cx} {pins : List (Addr × Obj)} {σ : L2.St} {H : Hp} {s : Shared}
/-- the pairs of a list -/
inductive Prs (K : PySem.W.Frag) (H : Hp) : List V → List (Int × Int) → Prop
  | nil : Prs K H [] []
  | cons {a : Addr} {i j : Int} {xs : List V} {ps : List (Int × Int)} : SqT K H a [.int i, .int j] → Prs K H xs ps → Prs K H (.ref a :: xs) ((i, j) :: ps)
theorem Prs.at {K : PySem.W.Frag} {H : Hp} : ∀ {xs : List V} {ps : List (Int × Int)} {k : Nat} {v : V}, Prs K H xs ps → xs[k]? = some v → ∃ a q, ps[k]? = some q ∧ v = .ref a ∧ SqT K H a [.int q.1, .int q.2]
  | _, _, _, _, .nil, h => by simp at h
  | _, _, 0, _, .cons a b, h => ⟨_, _, rfl, (Option.some.inj h).symm, a⟩
  | _, _, k + 1, _, .cons a b, h => Prs.at (k := k) b h
theorem Prs.len {K : PySem.W.Frag} {H : Hp} : ∀ {xs : List V} {ps : List (Int × Int)}, Prs K H xs ps → xs.length = ps.length
  | _, _, .nil => rfl
  | _, _, .cons _ b => by rw [List.length_cons, List.length_cons, Prs.len b]
def ReadyP (X : Cx) (pins : List (Addr × Obj)) (σ : L2.St) (H1 : Hp) (P : Addr) (qs : List (Int × Int)) (g : Addr) (s5 : Shared) : Prop :=
  ∃ (fp wr : List Addr) (G : Array GenState → Array GenState → Prop) (F : Nat → Value → Prop) (St : Nat → Shared → Prop) (vn : Nat → Int), WalksS X.prog X.w X.A.in1 g fp wr G qs.length F St ∧ St 0 s5 ∧ (∀ b ∈ fp, b < s5.heap.objs.size) ∧ (∀ j y, F j y → ∃ t, y = .int (vn j) t) ∧ (∀ j q, qs[j]? = some q → vn j = q.2) ∧
    ∀ s', Moved wr G s5 s' → ∃ H2, Tabbed P H1 H2 ∧ Inv X pins σ H2 s'
theorem gen_pairG {c P : Addr} {it : Expr} {xa xb : Str} {pa pb pt pe gp : Pos} {kt : Nat} {sc : Scope} {te : TE} {k : Nat} {Z : Value → Shared → Prop} {Y : Addr → List (Int × Int) → Hp → Prop}
    (hr : Room k X.A) (tb : TabB X.base X.mg c P) (hc : X.env.code = .ref c) (gs : GenS X.env sc xa) (gb : sc.names.lookup xb = some .local) (hab : xa ≠ xb) (d1 : (xb == ("__debug__" : Str)) = false) (pit : PE X it te) (hf : ∀ v, genFold it X.env v = pure v) (I : Inv X pins σ H s)
    (h : te σ H fun v H1 => ∃ l xs qs, v = .ref l ∧ SqL X.K H1 l xs ∧ Prs X.K H1 xs qs ∧ TabG H1 P ∧ Y l qs H1) (hZ : ∀ l qs H1 g z, Y l qs H1 → ReadyP X pins σ H1 P qs g z → Z (.ref g) z) :
    wpAny (model X.prog X.w) X.A (eval (.GeneratorExp (.Name xb pe) [⟨.Tuple [.Name xa pa, .Name xb pb] kt pt, it, [], 0⟩] sc gp) X.env) Z X.xe s := by
  refine wpAny_GeneratorExp_walksQT hr.hd gs.co (closure_ok gs.free) gs.cell gs.dot gs.loc gb hab gs.kind hr.depth (thn (pit.run pins s σ H _ I h) fun xv s1 q => ?_) hf
  obtain ⟨v, H1, J, rv, l, xs, qs, rfl, hs, hpr, ⟨ps, eP, tri⟩, hY⟩ := q
  obtain rfl : xv = Value.ref l := rv
  obtain ⟨its, rvs, hl, hz⟩ := J.list hs
  have isl := hl.isList
  refine wpAny_pyIter_list isl ?_
  have oP : s1.heap.get? P = some { cls := .none, data := .fields ps } := J.hok P _ eP
  have ltP : P < s1.heap.objs.size := Heap.lt_size oP
  have ltl : l < s1.heap.objs.size := by
    obtain ⟨o', ho', _⟩ := isl
    exact Heap.lt_size ho'
  have neP : l ≠ P := fun z => by
    obtain ⟨o', ho', hd', _⟩ := isl
    rw [z, oP] at ho'
    cases ho'
    cases hd'
  generalize ho : ({ cls := .type "list_iterator", data := .fields #[.ref l, .int 0 0] } : Obj) = o
  have oP2 : (s1.heap.push o).get? P = some { cls := .none, data := .fields ps } := Heap.get?_push_of_some _ oP
  have hd : PySem.W.CodeHd (s1.heap.push o) c P := tb.code.keeps fun b u e => Heap.get?_push_of_some _ (J.bk b u e)
  have nl : (s1.heap.push o).NoLimit := J.nolimit.push o
  have lit : (s1.heap.push o).get? s1.heap.objs.size = some o := Heap.get?_push_size _ (by rw [← ho]; rfl)
  have neI : l ≠ s1.heap.objs.size := Nat.ne_of_lt ltl
  have each : ∀ j, j < its.toArray.size → ∃ (a : Addr) (q : Int × Int) (t1 t2 : Tok), its.toArray[j]? = some (.ref a) ∧ qs[j]? = some q ∧ s1.heap.IsTuple a #[.int q.1 t1, .int q.2 t2] := fun j hj => by
    have hj' : j < xs.length := by
      rw [rvs.length]
      rw [List.size_toArray] at hj
      exact hj
    obtain ⟨vx, hvx⟩ : ∃ vx, xs[j]? = some vx := ⟨_, List.getElem?_eq_getElem hj'⟩
    obtain ⟨a, q, hq, rfl, ht⟩ := hpr.at hvx
    obtain ⟨u, hu, ru⟩ := rvs.get hvx
    obtain rfl : u = Value.ref a := ru
    obtain ⟨us, ru, hti, _⟩ := J.tuple ht
    obtain ⟨t1, t2, rfl⟩ := Vals.int2 ru
    exact ⟨a, q, t1, t2, by rw [List.getElem?_toArray]; exact hu, hq, hti⟩
  let Ts : Nat → Addr := fun j => match its.toArray[j]? with | some (.ref a) => a | _ => 0
  have hTs : ∀ j, j < its.toArray.size → its.toArray[j]? = some (.ref (Ts j)) := fun j hj => by
    obtain ⟨a, q, t1, t2, e, _⟩ := each j hj
    show its.toArray[j]? = some (.ref (match its.toArray[j]? with | some (.ref a) => a | _ => 0))
    rw [e]
  have tv : ∃ vals : Nat → Array Value, ∀ j, j < its.toArray.size → s1.heap.IsTuple (Ts j) (vals j) ∧ ∃ (q : Int × Int) (t1 t2 : Tok), qs[j]? = some q ∧ vals j = #[.int q.1 t1, .int q.2 t2] := by
    have ch : ∀ j, ∃ v : Array Value, j < its.toArray.size → s1.heap.IsTuple (Ts j) v ∧ ∃ (q : Int × Int) (t1 t2 : Tok), qs[j]? = some q ∧ v = #[.int q.1 t1, .int q.2 t2] := fun j => by
      by_cases hj : j < its.toArray.size
      · obtain ⟨a, q, t1, t2, e, hq, ht⟩ := each j hj
        refine ⟨#[.int q.1 t1, .int q.2 t2], fun _ => ⟨?_, q, t1, t2, hq, rfl⟩⟩
        have e2 := hTs j hj
        rw [e] at e2
        injection e2 with e2
        injection e2 with e2
        rw [← e2]
        exact ht
      · exact ⟨#[], fun h => absurd h hj⟩
    exact ⟨fun j => (ch j).choose, fun j hj => (ch j).choose_spec hj⟩
  obtain ⟨vals, hvals⟩ := tv
  have ltT : ∀ j, j < its.toArray.size → Ts j < s1.heap.objs.size := fun j hj => by
    obtain ⟨_, e, _⟩ := (hvals j hj).1
    exact Heap.lt_size e
  have neTP : ∀ j, j < its.toArray.size → Ts j ≠ P := fun j hj z => by
    obtain ⟨o', ho', hc', _⟩ := (hvals j hj).1
    rw [z, oP] at ho'
    cases ho'
    cases hc'
  have W : ∀ B : Around, B.handled = none → WalksU X.prog X.w B s1.heap.objs.size (s1.heap.objs.size :: l :: (List.range its.toArray.size).map Ts) [s1.heap.objs.size] its.toArray.size (fun j v => j < its.toArray.size ∧ v = vals j) (fun j h => h.IsListIter s1.heap.objs.size l j ∧ h.IsList l its.toArray ∧ ∀ k, k < its.toArray.size → h.IsTuple (Ts k) (vals k)) (fun j T h => (j < its.toArray.size ∧ T = Ts j) ∧ h.IsListIter s1.heap.objs.size l (j + 1) ∧ h.IsList l its.toArray ∧ ∀ k, k < its.toArray.size → h.IsTuple (Ts k) (vals k)) := fun B hB => (WalksU.listOfTuples hB s1.heap.objs.size l neI its.toArray Ts vals hTs fun j hj => Nat.ne_of_lt (ltT j hj)).bound
  have st : (s1.heap.push o).IsListIter s1.heap.objs.size l 0 ∧ (s1.heap.push o).IsList l its.toArray ∧ ∀ k, k < its.toArray.size → (s1.heap.push o).IsTuple (Ts k) (vals k) := ⟨⟨o, lit, by rw [← ho], by rw [← ho]; rfl⟩, isl.at fun u e => Heap.get?_push_of_some _ e, fun k hk => (hvals k hk).1.at fun u e => Heap.get?_push_of_some _ e⟩
  obtain ⟨mb, hb1, hb2⟩ := J.mod.blt
  have go : ∀ (cv : Value) (h3 : Heap) (t3 : Nat) (ps3 : Array Value), Heap.ExtBut P (s1.heap.push o) h3 → (s1.heap.push o).objs.size ≤ h3.objs.size → h3.get? P = some { cls := .none, data := .fields ps3 } → (∃ more, ps3 = ps ++ more) → TriplesOk ps3.toList →
      wpAny (model X.prog X.w) X.A (builtinsFor X.env.globals X.env.builtins) (fun bi s4 => ∃ Ia fp wr n0 Pf St0 Mid pz F, Value.ref s1.heap.objs.size = .ref Ia ∧ (∀ B : Around, B.handled = none → WalksU X.prog X.w B Ia fp wr n0 Pf St0 Mid) ∧ (∀ i vals, Pf i vals → ∃ va vb, vals = #[va, vb]) ∧ St0 0 s4.heap ∧
          (∀ b ∈ fp, b < s4.heap.objs.size) ∧ s4.heap.NoLimit ∧ cStatics ∉ wr ∧
          (∀ href : Heap, (∀ b o, s4.heap.get? b = some o → href.get? b = some o) → QuietGenT X.prog X.w (genEnv sc (cloFrom X.env.cells sc.names []) s4.heap.objs.size cv bi X.env) xa xb [] (.Name xb pe) (List.range s4.heap.objs.size) wr Pf pz F href) ∧
          (∀ g h5 t5 gst, gst.bare = true → s4.heap.objs.size < g → h5.objs.size = g + 1 → (∀ b o, s4.heap.get? b = some o → h5.get? b = some o) →
            WalksS X.prog X.w X.A.in4 g (g :: s4.heap.objs.size :: List.range s4.heap.objs.size) (s4.heap.objs.size :: wr) (GenOnlyQ s4.gens.size) (passing pz n0 0).length (fun j y => ∃ i, (passing pz n0 0)[j]? = some i ∧ F i y)
              (GenAt X.prog X.w X.A.in4 g s4.gens.size s4.heap.objs.size (List.range s4.heap.objs.size) wr pz n0 F) →
            GenAt X.prog X.w X.A.in4 g s4.gens.size s4.heap.objs.size (List.range s4.heap.objs.size) wr pz n0 F 0 { s4 with gens := s4.gens.push gst, toks := t5, heap := h5 } →
            Z (.ref g) { s4 with gens := s4.gens.push gst, toks := t5, heap := h5 })) X.xe { s1 with heap := h3, toks := t3 } := by
    intro cv h3 t3 ps3 ext szl oP3 hmore tri3
    have keep : ∀ b u, b ≠ P → s1.heap.get? b = some u → h3.get? b = some u := fun b u nb e => ext b u nb (Heap.get?_push_of_some _ e)
    have glob3 : h3.Ns mainGlobals X.mg := ((J.mod.glob.keeps J.bk).push o).extBut ext tb.gP
    have neC : cStatics ≠ P := fun e => by
      obtain ⟨_, ⟨o', es, ep, ho, hdt, _⟩, _⟩ := J.nolimit
      rw [e, oP] at ho
      cases ho
      cases hdt
    have neB : builtinsNs ≠ P := fun e => by
      obtain ⟨o', es, ep, ho, hdt, _⟩ := hb1.keeps J.bk
      rw [e, oP] at ho
      cases ho
      cases hdt
    have blt3 : h3.Ns builtinsNs mb := ((hb1.keeps J.bk).push o).extBut ext neB
    have ltC : cStatics < s1.heap.objs.size := let ⟨_, hns, _⟩ := J.nolimit; hns.lt
    have ltG : mainGlobals < s1.heap.objs.size := (J.mod.glob.keeps J.bk).lt
    have ltB : builtinsNs < s1.heap.objs.size := (hb1.keeps J.bk).lt
    have szp : (s1.heap.push o).objs.size = s1.heap.objs.size + 1 := Heap.size_push ..
    obtain ⟨bm, ob, b1, b2, b3, b4, b5, b6, b7, b8⟩ := tb.bm
    refine wpAny_builtinsFor (m := X.mg) (by rw [J.ok.glob]; exact glob3) b1 b2 (keep _ _ b4 (J.bk _ _ b5)) b6 b7 b8 ?_
    refine ⟨s1.heap.objs.size, _, [s1.heap.objs.size], its.toArray.size, _, _, _, fun _ => true, fun i y => ∃ q, qs[i]? = some q ∧ ∃ t, y = .int q.2 t, rfl, W, fun i v hv => ?_, ?_, ?_, nl.extBut ext neC, ?_, ?_, ?_⟩
    · obtain ⟨hi, rfl⟩ := hv
      obtain ⟨_, q, t1, t2, _, e⟩ := hvals i hi
      exact ⟨_, _, e⟩
    · refine (W X.A hr.hd).frame _ _ _ st fun b hb u e => ext b u ?_ e
      rcases List.mem_cons.mp hb with z | z
      · rw [z]
        exact (Nat.ne_of_lt ltP).symm
      · rcases List.mem_cons.mp z with y | y
        · rw [y]
          exact neP
        · obtain ⟨k, hk, rfl⟩ := List.mem_map.mp y
          exact neTP k (List.mem_range.mp hk)
    · intro b hb
      have h3s : s1.heap.objs.size + 1 ≤ h3.objs.size := by rw [← szp]; exact szl
      show b < h3.objs.size
      rcases List.mem_cons.mp hb with z | z
      · rw [z]
        exact h3s
      · rcases List.mem_cons.mp z with y | y
        · rw [y]
          exact Nat.lt_trans ltl h3s
        · obtain ⟨k, hk, rfl⟩ := List.mem_map.mp y
          exact Nat.lt_trans (ltT k (List.mem_range.mp hk)) h3s
    · intro e
      exact Nat.ne_of_lt ltC (List.mem_singleton.mp e)
    · intro href hx
      constructor
      · intro B R i va vb z ml _ _ _ _ _ _
        rw [List.forIn_nil]
        exact wpAny_pure ⟨rfl, keeps_refl _⟩
      · intro B R i va vb z ml _ pv' _ hL hma hmb hold
        obtain ⟨hi, pv'⟩ := pv'
        obtain ⟨_, q, t1, t2, hq, e⟩ := hvals i hi
        rw [e] at pv'
        obtain ⟨ea, eb⟩ : va = .int q.1 t1 ∧ vb = .int q.2 t2 := by simpa using congrArg Array.toList pv'
        subst ea eb
        exact wpAny_Name (wpAny_loadName_local gs.kind gb hL hmb ⟨⟨q, hq, t2, rfl⟩, keeps_refl _⟩) d1
    · intro g h5 t5 gst gbr lg sz5 keep5 W5 at5
      simp only [GxR.passing_true, List.length_range] at W5
      have ln : its.toArray.size = qs.length := by rw [List.size_toArray, ← rvs.length, hpr.len]
      rw [ln] at W5 at5
      refine hZ l qs H1 g _ hY ⟨_, _, _, _, _, fun j => match qs[j]? with | some v => v.2 | none => 0, W5.in4_1, at5, ?_, fun j y fy => ?_, fun j v hj => by show (match qs[j]? with | some v => v.2 | none => 0) = v.2; rw [hj], fun s' mv => ?_⟩
      · intro b hb
        show b < h5.objs.size
        have lg' : h3.objs.size < g := lg
        have g5 : g < h5.objs.size := by rw [sz5]; exact Nat.lt_succ_self _
        rcases List.mem_cons.mp hb with z | z
        · rw [z]
          exact g5
        · rcases List.mem_cons.mp z with y | y
          · rw [y]
            exact Nat.lt_trans lg' g5
          · exact Nat.lt_trans (List.mem_range.mp y) (Nat.lt_trans lg' g5)
      · obtain ⟨i, ei, v, hv, t, rfl⟩ := fy
        obtain ⟨hj, ej⟩ := List.getElem?_eq_some_iff.mp ei
        rw [List.getElem_range] at ej
        subst ej
        show ∃ t', Value.int v.2 t = .int (match qs[j]? with | some v => v.2 | none => 0) t'
        rw [hv]
        exact ⟨t, rfl⟩
      · obtain ⟨more, rfl⟩ := hmore
        have nw : ∀ b u, s1.heap.get? b = some u → b ∉ h3.objs.size :: [s1.heap.objs.size] := fun b u e hb => by
          have lb := Heap.lt_size e
          rcases List.mem_cons.mp hb with q | q
          · rw [q] at lb
            have : (h3.objs.size : Nat) < s1.heap.objs.size := lb
            omega
          · rw [List.mem_singleton.mp q] at lb
            exact Nat.lt_irrefl _ lb
        have V := inv_tab (more := more) (h' := s'.heap) (g' := s'.gens) (d' := s'.drawn) (t' := s'.toks) J eP (fun b u nb e => mv.heap b u (nw b u e) (keep5 b u (keep b u nb e))) (mv.heap P _ (nw P _ oP) (keep5 P _ oP3)) (AllBare.movedS (J.bare.push gbr) mv)
        rw [sh_eta s1 s' mv.os] at V
        exact ⟨_, ⟨⟨ps ++ more, upd_same, tri3⟩, fun b nb => upd_ne nb⟩, V⟩
  refine ⟨nl, ?_⟩
  cases cf : codeAmong gp ps.toList with
  | some cv => exact wpAny_genexprCode_hit hc (hd.code oP2 tri) cf (go cv (s1.heap.push o) s1.toks ps (Heap.ExtBut.refl _ _) (Nat.le_refl _) oP2 ⟨#[], by simp⟩ tri)
  | none =>
    refine wpAny_genexprCodeX hc (hd.code oP2 tri) (hd.tab oP2) cf fun c' h' tk' hx ge lt co _ tab _ => ?_
    obtain ⟨o1, vs, f1, tf, fl, tg, inF, tx, tt, op, _, _, _, _, _, _, _, _, _, htr, _⟩ := co
    exact go _ h' tk' _ hx (Nat.le_trans ge (Nat.le_of_lt lt)) tab.2 ⟨_, rfl⟩ htr
theorem presum_pairs {vn : Nat → Int} : ∀ (n : Nat) {qs : List (Int × Int)}, (∀ j q, qs[j]? = some q → vn j = q.2) → n ≤ qs.length → preSum vn n = ((qs.take n).map (·.2)).sum
  | 0, qs, _, _ => rfl
  | n + 1, qs, h, hn => by
    obtain ⟨v, hv⟩ : ∃ v, qs[n]? = some v := ⟨_, List.getElem?_eq_getElem (by omega)⟩
    show preSum vn n + vn n = _
    rw [presum_pairs n h (by omega), h n v hv, List.take_add_one, hv, List.map_append, List.sum_append]
    show _ = _ + (v.2 + 0)
    omega
def sm2 (qs : List (Int × Int)) : Int := (qs.map (·.2)).sum
def tSumP (P : Addr) (K : PySem.W.Frag) (te : TE) : TE := fun σ H Q => te σ H fun v H1 => ∃ l xs qs, v = .ref l ∧ SqL K H1 l xs ∧ Prs K H1 xs qs ∧ TabG H1 P ∧ ∀ H2, Tabbed P H1 H2 → Q (.int (sm2 qs)) H2
theorem pe_sumP {c P : Addr} {it : Expr} {xa xb : Str} {pa pb pt pe p pos gp : Pos} {kt : Nat} {sc : Scope} {te : TE} {k : Nat} (hr : Room k X.A) (hg : Gl X "sum") (hm : X.mg "sum" = none) (tb : TabB X.base X.mg c P) (hc : X.env.code = .ref c)
    (gs : GenS X.env sc xa) (gb : sc.names.lookup xb = some .local) (hab : xa ≠ xb) (d1 : (xb == ("__debug__" : Str)) = false) (pit : PE X it te) (hf : ∀ v, genFold it X.env v = pure v)
    (he : starEach [.GeneratorExp (.Name xb pe) [⟨.Tuple [.Name xa pa, .Name xb pb] kt pt, it, [], 0⟩] sc gp] X.env = (false, eval (.GeneratorExp (.Name xb pe) [⟨.Tuple [.Name xa pa, .Name xb pb] kt pt, it, [], 0⟩] sc gp) X.env) :: starEach [] X.env := by rfl) :
    PE X (.Call (.Name "sum" p) [.GeneratorExp (.Name xb pe) [⟨.Tuple [.Name xa pa, .Name xb pb] kt pt, it, [], 0⟩] sc gp] [] pos) (tSumP P X.K te) := by
  constructor
  intro pins s σ H Q I h
  have hb : bootBuiltins "sum" = some (.builtin "sum") := by decide +kernel
  refine wpAny_Call_Name_kw (ld_blt I hg hm hb (PyProof.Rows.callWith_builtin1 ?_ he (by rfl)))
  rw [he]
  show wpAny _ _ (spliced ((false, eval (.GeneratorExp (.Name xb pe) [⟨.Tuple [.Name xa pa, .Name xb pb] kt pt, it, [], 0⟩] sc gp) X.env) :: backTo pos (starEach [] X.env))) _ _ s
  refine Calls.spliced_cons (gen_pairG (Y := fun (l : Addr) (qs : List (Int × Int)) (H1 : Hp) => ∀ H2, Tabbed P H1 H2 → Q (.int (sm2 qs)) H2) hr tb hc gs gb hab d1 pit hf I h fun l qs H1 g z hY rd => Calls.spliced_nil ?_)
  obtain ⟨fp, wr, G, F, St, vn, W, st, hfp, hval, hvn, back⟩ := rd
  refine call_sum_walkAnyS (W.self 0 _ _ _ st ⟨g, fp, wr, G, _, F, St, vn, rfl, W, st, hfp, hval, fun z' t' mv => ?_⟩)
  obtain ⟨H2, tbd, J⟩ := back z' mv
  have e : preSum vn qs.length = sm2 qs := by
    have e := presum_pairs qs.length hvn (Nat.le_refl _)
    rw [List.take_length] at e
    exact e
  exact ⟨.int _, H2, J, ⟨t', by rw [e]⟩, hY H2 tbd⟩
end
end R
namespace R
open PySem PySem.Spec PyProof.Rows L2
/-! ### rules for the moving part: text times number, slices of tuples in blocks, comprehensions with two loops -/
theorem sl_tupK {X : Cx} {K : PySem.W.Frag} (h : X.K = K) : SlR X (rSlT K) := h ▸ sl_tup
theorem pi_listK {X : Cx} {tg e : Expr} {te : TE} {K : PySem.W.Frag} (h : X.K = K) (he : PE X e te) : PI X tg e (iList K te) := h ▸ pi_list he
theorem pi_tupK {X : Cx} {tg e : Expr} {te : TE} {K : PySem.W.Frag} (h : X.K = K) (he : PE X e te) : PI X tg e (iTup K te) := h ▸ pi_tup he
theorem call_isiK {X : Cx} {K : PySem.W.Frag} (h : X.K = K) : CallR X (.builtin "isinstance") (rIsi K) := h ▸ call_isi
theorem call_len_seqK {X : Cx} {K : PySem.W.Frag} (h : X.K = K) : CallR X (.builtin "len") (fun xs H Q => ∃ p ys, xs = [.ref p] ∧ (SqL K H p ys ∨ SqT K H p ys) ∧ Q (.int ys.length) H) := by
  subst h
  exact call_len_seq
theorem foldl_cps (x : Array Nat) : ∀ (n : Nat) (z : Array Nat), ((List.replicate n x).foldl (· ++ ·) z).size = z.size + n * x.size
  | 0, z => by simp
  | n + 1, z => by
    rw [List.replicate_succ, List.foldl_cons, foldl_cps x n (z ++ x), Array.size_append, Nat.add_mul]
    omega
theorem foldl_all (p : Nat → Bool) (x : Array Nat) (hx : x.all p = true) : ∀ (n : Nat) (z : Array Nat), z.all p = true → ((List.replicate n x).foldl (· ++ ·) z).all p = true
  | 0, z, h => h
  | n + 1, z, h => by
    rw [List.replicate_succ, List.foldl_cons]
    refine foldl_all p x hx n (z ++ x) ?_
    rw [Array.all_append, h, hx]
    rfl
/-- a text times a small number: its length is told, and that it is lawful -/
theorem op_repS {X : Cx} : OpR X (binaryOp .Mult) (fun x y H Q => ∃ (a : Str) (k : Nat), x = .str a ∧ y = .int (k : Int) ∧ 1 ≤ k ∧ k ≤ 1000 ∧ a.length = 1 ∧ ∀ z : Str, z.length = k → (PyData.strOk a = true → PyData.strOk z = true) → Q (.str z) H) := by
  intro pins s σ H x y v u Q I rx ry h
  obtain ⟨a, k, rfl, rfl, k1, k2, ha, q⟩ := h
  obtain ⟨t, rfl⟩ := rx
  obtain ⟨t', rfl⟩ := ry
  refine PySem.P.mul_str ?_ (fun _ _ => ?_) (fun _ _ => ?_) ?_
  · rw [decide_eq_false (by omega), decide_eq_false (by omega)]
    rfl
  · rw [ha]
    intro h
    have h2 : (1 : Int) ≤ (2 ^ 63 - 1) / (k : Int) := by
      rw [Int.le_ediv_iff_mul_le (by omega)]
      omega
    exact absurd h (Int.not_lt.mpr h2)
  · rw [ha]
    have e : ¬ 1 * (k : Int).toNat > sizeLine := by
      have : (1000 : Nat) ≤ sizeLine := by decide
      rw [Int.toNat_natCast]
      omega
    exact decide_eq_false e
  · rw [if_neg (by omega)]
    by_cases k1' : k = 1
    · subst k1'
      rw [if_pos (by simp)]
      exact ⟨.str a, H, I, ⟨_, rfl⟩, q a ha fun h => h⟩
    · have hz : (⟨(List.replicate (k : Int).toNat a.cps).foldl (· ++ ·) #[]⟩ : Str).length = k := by
        have := foldl_cps a.cps (k : Int).toNat #[]
        have e : a.cps.size = 1 := ha
        show ((List.replicate (k : Int).toNat a.cps).foldl (· ++ ·) #[]).size = k
        rw [this, e, Int.toNat_natCast]
        simp
      rw [if_neg (by
        have e1 : ((k : Int) == 1) = false := by
          simp only [beq_eq_false_iff_ne]
          omega
        rw [e1, ha]
        simp)]
      exact ⟨by show _ ≤ sizeLine; rw [hz]; exact Nat.le_trans k2 (by decide), .str _, H, I.tok _, ⟨_, rfl⟩, q _ hz fun h => foldl_all _ _ h _ _ (by simp)⟩
section
variable {J J1 : It} {n : Nat} {G : Hp → Prop} {Y : Nat → Hp → V → Hp → Prop}
/-- the outer loop of a comprehension with two -/
theorem lc2_it (w : Walk J n G Y) {g g1 : TG} {tt tt1 : TT} {wi1 : TI} {te : TE} {vs vs1 : List Nat} {σ : L2.St} {H1 : Hp} {D : Addr} {Qd : Hp → Prop} (Pv : Nat → Hp → Prop) (h0 : Pv 0 (upd H1 D (.lst []))) (hG : ∀ i H, i ≤ n → Pv i H → G H)
    (hs : ∀ i x H H', i < n → Pv i H → Y i H x H' → g x (wipe σ vs) H' fun σ2 H2 => wipe σ2 vs = wipe σ vs ∧ tt σ2 H2 fun b H3 =>
      if b = true then wi1 σ2 H3 fun J1 H4 => ∃ W1 : Nat → Nat → Hp → Prop, (∃ m, W1 0 m H4) ∧ ∀ j k H, W1 j k H →
      (J1.stop j H ∧ Pv (i + 1) H) ∨ (J1.go j H ∧ ∃ Nx1 : Hp → Prop, (∀ H', Nx1 H' → ∃ k', k' < k ∧ W1 (j + 1) k' H') ∧ ∀ x H', J1.yld j H x H' → g1 x (wipe σ2 vs1) H' fun σ3 H5 => wipe σ3 vs1 = wipe σ2 vs1 ∧ tt1 σ3 H5 fun b H6 =>
        if b = true then te σ3 H6 fun y H7 => ∃ acc, H7 D = some (.lst acc) ∧ acc.length < sizeLine ∧ Nx1 (upd H7 D (.lst (acc ++ [y]))) else Nx1 H6)
      else Pv (i + 1) H3) (hd : ∀ H, Pv n H → Qd H) :
    ∃ W : Nat → Nat → Hp → Prop, (∃ m, W 0 m (upd H1 D (.lst []))) ∧ ∀ i m H, W i m H →
  (J.stop i H ∧ Qd H) ∨ (J.go i H ∧ ∃ Nx : Hp → Prop, (∀ H', Nx H' → ∃ m', m' < m ∧ W (i + 1) m' H') ∧ ∀ x H', J.yld i H x H' → g x (wipe σ vs) H' fun σ2 H2 => wipe σ2 vs = wipe σ vs ∧ tt σ2 H2 fun b H3 =>
    if b = true then wi1 σ2 H3 fun J1 H4 => ∃ W1 : Nat → Nat → Hp → Prop, (∃ m, W1 0 m H4) ∧ ∀ j k H, W1 j k H →
      (J1.stop j H ∧ Nx H) ∨ (J1.go j H ∧ ∃ Nx1 : Hp → Prop, (∀ H', Nx1 H' → ∃ k', k' < k ∧ W1 (j + 1) k' H') ∧ ∀ x H', J1.yld j H x H' → g1 x (wipe σ2 vs1) H' fun σ3 H5 => wipe σ3 vs1 = wipe σ2 vs1 ∧ tt1 σ3 H5 fun b H6 =>
        if b = true then te σ3 H6 fun y H7 => ∃ acc, H7 D = some (.lst acc) ∧ acc.length < sizeLine ∧ Nx1 (upd H7 D (.lst (acc ++ [y]))) else Nx1 H6)
    else Nx H3) := by
  refine ⟨fun i m H => m = n - i ∧ i ≤ n ∧ Pv i H, ⟨n, by simp, Nat.zero_le _, h0⟩, ?_⟩
  rintro i m H ⟨rfl, hi, p⟩
  have q := hG i H hi p
  by_cases hlt : i < n
  · exact .inr ⟨w.goes i H hlt q, Pv (i + 1), fun H' p' => ⟨n - (i + 1), by omega, rfl, hlt, p'⟩, fun x H' y => hs i x H H' hlt p (w.yields i H x H' hlt q y)⟩
  · have e : i = n := by omega
    subst e
    exact .inl ⟨w.stops H q, hd H p⟩
/-- the inner loop -/
theorem lc2_in (w : Walk J1 n G Y) {g1 : TG} {tt1 : TT} {te : TE} {vs1 : List Nat} {σ2 : L2.St} {H4 : Hp} {D : Addr} {Nx : Hp → Prop} (Pv : Nat → Hp → Prop) (h0 : Pv 0 H4) (hG : ∀ i H, i ≤ n → Pv i H → G H)
    (hs : ∀ j x H H', j < n → Pv j H → Y j H x H' → g1 x (wipe σ2 vs1) H' fun σ3 H5 => wipe σ3 vs1 = wipe σ2 vs1 ∧ tt1 σ3 H5 fun b H6 =>
        if b = true then te σ3 H6 fun y H7 => ∃ acc, H7 D = some (.lst acc) ∧ acc.length < sizeLine ∧ Pv (j + 1) (upd H7 D (.lst (acc ++ [y]))) else Pv (j + 1) H6) (hd : ∀ H, Pv n H → Nx H) :
    ∃ W1 : Nat → Nat → Hp → Prop, (∃ m, W1 0 m H4) ∧ ∀ j k H, W1 j k H →
      (J1.stop j H ∧ Nx H) ∨ (J1.go j H ∧ ∃ Nx1 : Hp → Prop, (∀ H', Nx1 H' → ∃ k', k' < k ∧ W1 (j + 1) k' H') ∧ ∀ x H', J1.yld j H x H' → g1 x (wipe σ2 vs1) H' fun σ3 H5 => wipe σ3 vs1 = wipe σ2 vs1 ∧ tt1 σ3 H5 fun b H6 =>
        if b = true then te σ3 H6 fun y H7 => ∃ acc, H7 D = some (.lst acc) ∧ acc.length < sizeLine ∧ Nx1 (upd H7 D (.lst (acc ++ [y]))) else Nx1 H6) := by
  refine ⟨fun i m H => m = n - i ∧ i ≤ n ∧ Pv i H, ⟨n, by simp, Nat.zero_le _, h0⟩, ?_⟩
  rintro i m H ⟨rfl, hi, p⟩
  have q := hG i H hi p
  by_cases hlt : i < n
  · exact .inr ⟨w.goes i H hlt q, Pv (i + 1), fun H' p' => ⟨n - (i + 1), by omega, rfl, hlt, p'⟩, fun x H' y => hs i x H H' hlt p (w.yields i H x H' hlt q y)⟩
  · have e : i = n := by omega
    subst e
    exact .inl ⟨w.stops H q, hd H p⟩
end
end R
namespace R
open PySem PySem.Spec PyProof.Rows L2
/-! ### an own error over ValueError whose beginning hands a text on by super() and keeps a number -/
section
variable {prog : Program} {w : World} {A : Around} {E : Value → Shared → Prop} {h : Heap} {g : Array GenState} {d : Drawn} {tk : Nat} {os : OsState}
/-- the bound beginning of ValueError, called: only the error's own record changes -/
theorem vi_call {u x C t : Addr} {nm q : Str} {N : Addr} {bs bm : List Value} {hdct : Bool} {sn : List Str} {sub : List Value} {ab : Bool} {col : Option Bool} {dd : Option Addr} {k0 k1 k2 k3 k5 : Option Value} {rest : List Value} {Q : Value → Shared → Prop}
    (hC : h.get? C = some (excClassObj nm q C N bs bm hdct sn sub ab col dd k0 k1 k2 k3 k5 "ValueError.__new__")) (hu : h.get? u = some (PySem.W.kxs_mw "ValueError.__init__" x)) (he : h.get? x = some (PySem.W.excObj C t none .none)) (hz : rest.length ≤ sizeLine)
    (fin : ∀ h' t', (∀ b o, b ≠ x → h.get? b = some o → h'.get? b = some o) → h'.get? x = some (PySem.W.excObj C t' none .none) → Q .none ⟨h', g, d, tk, os⟩) : wpAny (model prog w) A (call (.ref u) rest) Q E ⟨h, g, d, tk, os⟩ := by
  have FB := F.excBase_ValueError
  refine wpAny_call (codeAny_of_tree (show wpAny _ A.in1 (callAny (.ref u) ⟨rest, []⟩) _ _ _ from ?_))
  unfold callAny
  refine wpAny_bind (wpAny_load hu ?_)
  have e1 : (Value.type "method-wrapper" == Value.type "method" || Value.type "method-wrapper" == Value.type "builtin_function_or_method" || Value.type "method-wrapper" == Value.type "method-wrapper") = true := by decide
  dsimp only [PySem.W.kxs_mw]
  rw [if_pos e1]
  refine PySem.W.KFB.if_so (by decide) (wpAny_bind (PySem.W.check_bound_init FB.toExcCallFacts hC he rfl ?_))
  refine wpAny_bind (wpAny_pure (wpAny_pure ⟨plainId_quiet FB.init.plain _, codeAny_builtin FB.initEntry ?_⟩))
  exact PySem.W.exc_init_tree (cls := .ref C) (t0 := t) (dv := none) (c2 := .none) (c3 := .none) (b4 := .bool false) he hz fun h' k1 k2 _ => fin h' _ k1 k2
end
/-- what the written part says of such a class and its beginning -/
structure NtC (P : Program) (K : PySem.W.Frag) (mg : Str → Option Value) (C fI cda cc : Addr) : Prop where
  oex : OexC K C
  cell : ∃ cl cld csl, K.lookup cc = some ⟨cl, cld, .cell (some (.ref C)), csl⟩
  code : ∃ ccl cdd vs ccs file tf, K.lookup cda = some ⟨ccl, cdd, .fields vs, ccs⟩ ∧ vs[2]? = some (.str file tf) ∧ ((P.main.file : Str) == file) = true
  self : PySem.W.mroIn K C (.ref C) = some true
  sup : mg "super" = none
  top : (P.main.scope.names.lookup ("super" : Str)).isSome = false
  ini : PySem.W.ks_superIn K C C "__init__" = some (some (.builtin "ValueError.__init__"))
  ve : PySem.W.subIn K (.ref C) (.type "ValueError") = some true
  any : PySem.W.nsIn K cStatics "thirdparty.any" = some none
  no : PySem.W.findIn K (.ref C) "line" = some none
def spNote (K : PySem.W.Frag) (C : Addr) : Sp := fun vs H Q _ => ∃ (a : Addr) (n : Nat), vs = [.ref a, .int (n : Int)] ∧ n ≤ 100000 ∧ H a = some (exo a C none) ∧ ∀ dx, H dx = none → dx ≠ a → Q .non (upd (upd H dx (exd dx [("line", .int (n : Int))])) a (exo a C (some dx)))
/-- what the beginning of such an error promises, whether or not an error is being handled -/
def NtRun (P : Program) (w : World) (K : PySem.W.Frag) (mg : Str → Option Value) (base : Heap) (fI : Addr) (fd : FuncData) (sp : Sp) : Prop :=
  ∀ (A : Around) (outer : List Env) (s : Shared) (H : Hp) (args : Args) (us : List Value) (vs : List V) (Q : VK) (E : XK), A.depth < recursionLimit → Env0 P w K mg base A outer s H → BindsTo s fd args ((["self", "line"] : List Str).zip us) → Vals vs us → sp vs H Q E → codeAny (model P w) A (.call (.ref fI) args) (CR CX0 outer P w H s Q E) s
def nmN : List (Str × NameKind) := [("self", .local), ("line", .local), ("__class__", .free), ("super", .globalImplicit)]
def scN : Scope := { kind := .function, names := nmN, isGenerator := false, isCoroutine := false, more := [] }
section
variable {P : Program} {w : World} {K : PySem.W.Frag} {mg : Str → Option Value} {base : Heap} {A : Around} {outer : List Env} {s : Shared} {H : Hp} {f cc : Addr} {cdv : Value}
abbrev enN (qual : Str) (L f : Addr) (cdv : Value) (cc : Addr) : Env := PySem.W.ksEnv qual scN L f cdv cc
/-- the context of its body -/
def cxN (P : Program) (w : World) (K : PySem.W.Frag) (mg : Str → Option Value) (base : Heap) (qual : Str) (f : Addr) (cdv : Value) (cc : Addr) (A : Around) (outer : List Env) (s : Shared) (H : Hp) (xe : Value → Shared → Prop) : Cx :=
  { prog := P, w := w, K := K, mg := mg, base := base, A := A.deeper (enN qual s.heap.objs.size f cdv cc), N := ["self", "line"], s_0 := s, H_0 := H, env := enN qual s.heap.objs.size f cdv cc, outer := outer, stack := enN qual s.heap.objs.size f cdv cc :: outer, ex := [], fn := fun _ => false, calm := false, pn := [], xe := xe }
theorem inv_N {qual : Str} {xe : Value → Shared → Prop} {a : Addr} {n : Int} {u1 u2 : Value} {h1 : Heap} {tk : Nat} {oc : Obj} {v : Option Value} (e0 : Env0 P w K mg base A outer s H) (r1 : RelV (.ref a) u1) (r2 : RelV (.int n) u2)
    (hn : h1.Ns s.heap.objs.size fun x => (List.zip (["self", "line"] : List Str) [u1, u2]).reverse.lookup x) (hk : ∀ b o, s.heap.get? b = some o → h1.get? b = some o) (hc : K.lookup cc = some oc) (hv : oc.data = .cell v) :
    Inv (cxN P w K mg base qual f cdv cc A outer s H xe) [] [some (.ref a), some (.int n)] H { s with heap := h1, toks := tk } := by
  have bc := e0.mod.kin _ _ hc
  obtain ⟨c1, c2⟩ := e0.bs _ _ bc
  have one : ∀ (y : Str) (c : Addr), (enN qual s.heap.objs.size f cdv cc).cells.lookup y = some c → y = "__class__" ∧ c = cc := fun y c h => by
    have h : List.lookup y [(("__class__" : Str), cc)] = some c := h
    rw [List.lookup_cons] at h
    by_cases e : (y == ("__class__" : Str)) = true
    · rw [e] at h
      exact ⟨beq_iff_eq.mp e, (Option.some.inj h).symm⟩
    · rw [Bool.not_eq_true] at e
      rw [e] at h
      cases h
  have noA : ∀ b : Addr, b ∉ (cxN P w K mg base qual f cdv cc A outer s H xe).ex := fun b z => absurd (show b ∈ ([] : List Addr) from z) (by simp)
  refine ⟨⟨e0.mod, rfl, rfl, rfl, Nat.le_refl _, fun y z c h1 h2 => ?_, fun y hy => ?_, fun y c hf _ => Bool.noConfusion hf, fun z => Bool.noConfusion z, Around.frames_deeper e0.frames, .inr ⟨rfl, rfl⟩, fun b z => absurd z (noA b), e0.bs, e0.bsz, fun b _ _ => noA b, fun b z => absurd z (noA b), e0.funs, e0.frf⟩, rfl, e0.bare, Un.kept hk, ⟨_, hn, fun i y v h1 h2 _ => ?_⟩, fun y c h => ?_, e0.hok.fresh (Nat.le_refl _), fun y c h => ?_, fun p hp => absurd (show p ∈ ([] : List (Addr × Obj)) from hp) (by simp), e0.hok.kept hk, rfl⟩
  · rw [(one y c h1).1, (one z c h2).1]
  · refine ⟨cc, ?_⟩
    have hy : nmN.lookup y = some .cell ∨ nmN.lookup y = some .free := hy
    have : y = "__class__" := by
      rcases hy with h | h
      · have := PySem.mem_of_lookup h
        simp [nmN] at this
      · have := PySem.mem_of_lookup h
        simp [nmN] at this
        exact this
    rw [this]
    rfl
  · match i, h1, h2 with
    | 0, h1, h2 =>
      cases h1
      cases h2
      exact ⟨u1, r1, .inl ⟨rfl, rfl⟩⟩
    | 1, h1, h2 =>
      cases h1
      cases h2
      exact ⟨u2, r2, .inl ⟨rfl, rfl⟩⟩
    | i + 2, h1, _ => cases h1
  · rw [(one y c h).2]
    exact ⟨v, _, hk _ _ c1, hv⟩
  · rw [(one y c h).2]
    exact c2
theorem note_run {fI C cda : Addr} {qual : Str} {params : Arguments} {kV dc pm ct oc : Value} {an od : Option Addr} {osl : Array (Option Value)} {p0 p1 p2 p3 p4 q1 q2 q3 q4 q5 r1 r2 r3 r4 : Pos} {x1 x2 : Str} (T : NtC P K mg C fI cda cc)
    (lk : K.lookup fI = some ⟨oc, od, .func (PySem.W.ksFn "__init__" qual params [.Expr (.Call (.Attribute (.Call (.Name "super" p0) [] [] p1) "__init__" p2) [.JoinedStr [.Constant (.str x1) 0 q1, .FormattedValue (.Name "line" q2) (-1) none q3, .Constant (.str x2) 0 q4] q5] [] p3) p4, .Assign [.Attribute (.Name "self" r1) "line" r2] (.Name "line" r3) r4] scN .none kV dc pm an (.ref cda) ct cc), osl⟩)
    (hev : ∀ L : Addr, ∃ pl : Sem Bool, eval (.Call (.Attribute (.Call (.Name "super" p0) [] [] p1) "__init__" p2) [.JoinedStr [.Constant (.str x1) 0 q1, .FormattedValue (.Name "line" q2) (-1) none q3, .Constant (.str x2) 0 q4] q5] [] p3) (enN qual L fI (.ref cda) cc) = (do
      let ov ← attributeBase (.Call (.Name "super" p0) [] [] p1) "__init__" (enN qual L fI (.ref cda) cc) (eval (.Call (.Name "super" p0) [] [] p1) (enN qual L fI (.ref cda) cc))
      standAt p2.atName
      let (f, first) ← holding [ov] (getMethod ov "__init__" pl)
      callWith p3 f first (backTo p3 (starEach [.JoinedStr [.Constant (.str x1) 0 q1, .FormattedValue (.Name "line" q2) (-1) none q3, .Constant (.str x2) 0 q4] q5] (enN qual L fI (.ref cda) cc))) []))
    (hcd : PySem.W.codeIn K (.ref cda) qual = true) (hp : (params.posonlyargs ++ params.args).head?.map (·.arg) = some ("self" : Str)) (hx : x1.length + x2.length ≤ 1000) :
    NtRun P w K mg base fI (PySem.W.ksFn "__init__" qual params [.Expr (.Call (.Attribute (.Call (.Name "super" p0) [] [] p1) "__init__" p2) [.JoinedStr [.Constant (.str x1) 0 q1, .FormattedValue (.Name "line" q2) (-1) none q3, .Constant (.str x2) 0 q4] q5] [] p3) p4, .Assign [.Attribute (.Name "self" r1) "line" r2] (.Name "line" r3) r4] scN .none kV dc pm an (.ref cda) ct cc) (spNote K C) := by
  intro A outer s H args us vs Q E hr e0 hb r hsp
  obtain ⟨a, n, rfl, n9, ha, q⟩ := hsp
  obtain ⟨u1, u2, rfl, rr1, rr2⟩ := vals2 r
  have KX : K.In s.heap := e0.mod.kin.keeps fun b o e => (e0.bs b o e).1
  have lim : s.heap.NoLimit := e0.mod.nolimit.keeps fun b o e => (e0.bs b o e).1
  obtain ⟨cl, cld, csl, hcell⟩ := T.cell
  obtain ⟨ccl, cdd, cvs, ccs, file, tf, hcode, hvs, hfile⟩ := T.code
  refine ks_codeAny_call_defAt hr (KX _ _ lk) rfl lim (PySem.W.codeRec_of KX hcd) rfl hb (show ∀ x ∈ nmN, x.2 ≠ .cell by decide) (fun y hy => ?_) (fun h1 hns hk1 => ?_)
  · have hy : y ∈ [(("self" : Str), u1), (("line" : Str), u2)] := hy
    simp only [List.mem_cons, List.not_mem_nil, or_false] at hy
    rcases hy with rfl | rfl <;> rfl
  let xe : Value → Shared → Prop := fun e s' => wpAny (model P w) (A.deeper (enN qual s.heap.objs.size fI (.ref cda) cc)) (leaving (enN qual s.heap.objs.size fI (.ref cda) cc) e) (fun _ s'' => CR CX0 outer P w H s Q E (.error e) s'') (fun e' s'' => CR CX0 outer P w H s Q E (.error e') s'') s'
  have I : Inv (cxN P w K mg base qual fI (.ref cda) cc A outer s H xe) [] [some (.ref a), some (.int (n : Int))] H { s with heap := h1, toks := s.toks + (List.zip (["self", "line"] : List Str) [u1, u2]).length } := inv_N e0 rr1 rr2 hns hk1 hcell rfl
  obtain rfl : u1 = Value.ref a := rr1
  obtain ⟨t2, rfl⟩ := rr2
  obtain ⟨pl, hev⟩ := hev s.heap.objs.size
  refine ks_wpAt_execs_cons (ks_wpAt_Expr_any (ks_wpAt_MethodCall (pl := pl) ?_ hev))
  obtain ⟨ar, har, hnm⟩ : ∃ ar, (params.posonlyargs ++ params.args).head? = some ar ∧ ar.arg = ("self" : Str) := by
    cases e : (params.posonlyargs ++ params.args).head? with
    | none => rw [e] at hp; cases hp
    | some ar => rw [e] at hp; exact ⟨ar, rfl, Option.some.inj hp⟩
  have XK := I.kIn
  have hnsL : h1.Ns s.heap.objs.size _ := hns
  obtain ⟨mb, hb1, hb2⟩ := e0.mod.blt
  refine ks_wpAt_super_base (env := enN qual s.heap.objs.size fI (.ref cda) cc) rfl rfl (by decide) rfl (XK _ _ lk) rfl har rfl (XK _ _ hcode) rfl hvs hfile T.top ?_
  refine PySem.W.ks_loadName_global rfl rfl (Calls.loadGlobal_builtin (env := enN qual s.heap.objs.size fI (.ref cda) cc) (e0.mod.glob.keeps I.bk) T.sup (hb1.keeps I.bk) ((hb2 _ (by decide)).trans (by decide +kernel)) ⟨rfl, ?_⟩)
  refine wpAny_loadName_free rfl rfl rfl ⟨_, XK _ _ hcell, rfl⟩ ?_
  rw [hnm]
  refine wpAny_loadName_local rfl rfl hns rfl ?_
  obtain ⟨nm, cq, cN, cbs, cbm, csn, csub, cab, ccol, cdd', k0, k1, k2, k3, k5, hC, hbm⟩ := T.oex.cls
  have clC := XK _ _ hC
  obtain ⟨t1, hoa⟩ := exo_at I.hok ha
  refine ks_wpAny_isType_cls clC rfl ⟨rfl, ?_⟩
  refine ks_wpAny_call_super clC rfl hoa rfl (fun c z => by cases z) (PySem.W.looks_mroIn XK T.self) (fun h2 hso kk => ?_)
  have I2 := I.kept (h' := h2) (t' := s.toks + (List.zip (["self", "line"] : List Str) [Value.ref a, Value.int (n : Int) t2]).length) kk
  have XK2 := I2.kIn
  have hoa2 := kk _ _ hoa
  have inst : PySem.W.InstAt h2 a (PySem.W.excObj C t1 none .none) C none := ⟨hoa2, rfl, rfl, trivial⟩
  cases hc : PySem.W.clsIn K C with
  | none =>
    have z := T.ini
    unfold PySem.W.ks_superIn at z
    rw [hc] at z
    cases z
  | some cd =>
    have ini := T.ini
    unfold PySem.W.ks_superIn at ini
    rw [hc] at ini
    refine PySem.W.kxs_getMethod PySem.W.kxs_ValueError hso (PySem.W.looks_opaque XK2 T.any) (l₀ := cd.mro) (fun A' Q' E' s' k' q' => wpAny_bind ((PySem.W.looks_clsIn XK2 hc) A' _ E' s' k' (wpAny_pure q'))) rfl XK2 ini (inst.type.andThen (PySem.W.looks_subIn XK2 T.ve)) (PySem.W.ks_ne XK2 inst hc) (by decide) ?_
    have kp : ∀ b o, h2.get? b = some o → (h2.push (PySem.W.kxs_mw "ValueError.__init__" a)).get? b = some o := fun b o e => Heap.get?_push_of_some _ e
    have I3 := (I2.kept (h' := h2.push (PySem.W.kxs_mw "ValueError.__init__" a)) (t' := s.toks + (List.zip (["self", "line"] : List Str) [Value.ref a, Value.int (n : Int) t2]).length + 1) kp).pins_of (pins' := [(h2.objs.size, PySem.W.kxs_mw "ValueError.__init__" a)]) (fun p hp' => by
      rw [List.mem_singleton.mp hp']
      exact ⟨Heap.get?_push_at rfl rfl, I2.hok.fresh (Nat.le_refl _), Nat.ne_of_gt I2.lt, I2.nofs (Nat.le_refl _), fun v z => by cases z⟩)
    have hs : ∀ sz : Nat, sz ≤ 1000000 → sz ≤ sizeLine := fun sz h => Nat.le_trans h (by decide)
    have pa := pa_cons (X := cxN P w K mg base qual fI (.ref cda) cc A outer s H xe) (pe_joined (pos := q5) (.cons (pe_str (x := x1) (j := 0) (pos := q1)) (.cons (pe_fmt (pos := q3) (pv 1 (pos := q2))) (.cons (pe_str (x := x2) (j := 0) (pos := q4)) .nil)))) pa_nil
    refine PySem.W.kxs_callWith (i := "ValueError.__init__") (x := a) (by rfl) (Calls.evalArgs_plain ?_)
    refine thn (pa.run p3 _ _ _ _ (fun vs H1 => H1 = H ∧ vs.length = 1) I3 ?_) (fun us s4 h4 => ?_)
    · have ln : ((n : Int)).natAbs.log2 < 1920 := Nat.lt_of_lt_of_le (PySem.Flt.log2_lt_of (k := 20) (by decide) (by rw [Int.natAbs_natCast]; omega)) (by decide)
      have l2 := int_text_len_1921 ln
      have le : (Str.empty : Str).length = 0 := rfl
      refine ⟨x1, rfl, hs _ (by rw [slen, le]; omega), _, rfl, .inr ⟨_, rfl, ln, _, rfl, hs _ (by rw [slen, slen, le]; omega), x2, rfl, hs _ (by rw [slen, slen, slen, le]; omega), rfl, rfl⟩⟩
    · obtain ⟨vs, H1, I4, rv4, eH, lv⟩ := h4
      rw [eH] at I4
      have pu := (I4.pin (h2.objs.size, PySem.W.kxs_mw "ValueError.__init__" a) (by simp)).1
      refine ⟨pu, ?_⟩
      obtain ⟨t4, hoa4⟩ := exo_at I4.hok ha
      have lu : us.length ≤ sizeLine := hs _ (by rw [← Paired.length rv4, lv]; decide)
      obtain ⟨h4, g4, d4, tk4, os4⟩ := s4
      refine vi_call (I4.kIn _ _ hC) pu hoa4 lu (fun h5 t5 k5' e5 => ?_)
      have I5 := I4.write (t' := tk4) (x := a) (e := a) (o := exo a C none) (by rw [ha]; exact True.intro) (.inl rfl) k5' ⟨_, e5⟩ (exo_ok e5)
      have eu : upd H a (exo a C none) = H := by
        funext b
        by_cases hb' : b = a
        · rw [hb', upd_same, ha]
        · rw [upd_ne hb']
      rw [eu] at I5
      have pb := pss_one (X := cxN P w K mg base qual fI (.ref cda) cc A outer s H xe) (ps_ost (pos := r4) (p' := r2) (f := "line") (pv 0 (pos := r1)) (pv 1 (pos := r3)))
      refine wpAt_of_wpAny (thn (pb.run _ _ _ _ { nx := fun _ H' => Q .non H', rt := Q } I5 ⟨_, rfl, _, rfl, a, C, rfl, T.oex, T.no, .inl ⟨ha, fun dx n1 n2 => q dx n1 n2⟩⟩) (fun fl s6 h6 => ?_))
      cases fl with
      | ret u =>
        obtain ⟨v, σ', H', J, rv, q'⟩ := h6
        exact ⟨v, H', J.os, J.bare, J.base, J.hok, rv, q'⟩
      | next =>
        obtain ⟨σ', H', J, q'⟩ := h6
        exact ⟨.non, H', J.os, J.bare, J.base, J.hok, rfl, q'⟩
      | brk =>
        obtain ⟨_, _, _, z⟩ := h6
        exact False.elim z
      | cont =>
        obtain ⟨_, _, _, z⟩ := h6
        exact False.elim z
end
end R
namespace R
open PySem PySem.Spec PyProof.Rows L2
/-! ### raising an own error with such a beginning, handled or not; errors without a context; isinstance of a caught one with fields -/
structure NtX (P : Program) (w : World) (K : PySem.W.Frag) (mg : Str → Option Value) (base : Heap) (x : Str) (C : Addr) : Prop where
  oex : OexC K C
  g : mg x = some (.ref C)
  ex : ∃ (fI : Addr) (fd : FuncData), PySem.W.findIn K (.ref C) "__init__" = some (some (.ref fI)) ∧ PySem.W.typeIn K (.ref fI) = some (.type "function") ∧ Binds K fd ["self", "line"] [] ∧ NtRun P w K mg base fI fd (spNote K C)
/-- all that is there stays behind two new objects -/
theorem two_more {hp : Heap} {o1 o2 : Obj} : ∀ b o, hp.get? b = some o → ((hp.push o1).push o2).get? b = some o := fun _ _ z => Heap.get?_push_of_some _ (Heap.get?_push_of_some _ z)
theorem pmk_note {X : Cx} {x : Str} {C : Addr} {e : Expr} {ta : TA} {p pos : Pos} (N : NtX X.prog X.w X.K X.mg X.base x C) (hr : L2H.RoomH 2 X.A) (hg : Gl X x) (ha : PA X [e] ta)
    (hdb : (x == ("__debug__" : Str)) = false := by decide) (he : starEach [e] X.env = (false, eval e X.env) :: starEach [] X.env := by rfl) (hpl : (backTo pos (starEach [] X.env)).any (·.1) = false := by rfl) :
    L2H.PMk5 X (.Call (.Name x p) [e] [] pos) (tMkO C (spNote X.K C) [] ta) := by
  obtain ⟨fI, fd, iC, tI, hb, run⟩ := N.ex
  obtain ⟨c1, c2, c3, c4, mro, c6, c7, c8, c9, c10, m0, m1, m2, m3, m5, hC, hmro⟩ := N.oex.cls
  intro pins s σ H Q I h
  refine wpAny_Call_Name_kw (ld_glob I hg N.g ?_ hdb)
  refine PySem.W.callWith_K (h₀ := X.base) I.ok.mod.kin N.oex.kC (thn (ha.run pos pins s σ H _ I h) fun us s1 hus => ?_) he hpl
  obtain ⟨vs, H1, I1, r1, hz, q1⟩ := hus
  refine ⟨I1.kIn, ?_⟩
  show wpAny _ _ (call (.ref C) us) _ _ _
  obtain ⟨hp, g, dr, tk, os⟩ := s1
  -- the place of the new error
  obtain ⟨a, ea⟩ : ∃ a, a = hp.objs.size + 1 := ⟨_, rfl⟩
  have hsz : hp.objs.size ≤ a := by rw [ea]; exact Nat.le_succ _
  have na1 : H1 a = none := I1.hok.fresh hsz
  have hq := q1 a na1
  rw [List.append_nil] at hq
  have at_a : ((hp.push (PySem.W.kdv_tup us)).push (PySem.HandSPX.excO C hp.objs.size)).get? a = some (PySem.HandSPX.excO C hp.objs.size) := by
    rw [ea]
    heap_get
  have I2 := I1.laid (t' := tk) (a := a) (o := exo a C none) (h' := (hp.push (PySem.W.kdv_tup us)).push (PySem.HandSPX.excO C hp.objs.size)) two_more hsz (exo_ok at_a)
  have r2 : Vals (V.ref a :: vs) (Value.ref a :: us) := .cons rfl r1
  have ln : (Value.ref a :: us ++ []).length = (["self", "line"] : List Str).length := by
    obtain ⟨_, _, ev, _⟩ := hq
    rw [List.append_nil, ← r2.length, ev]
    rfl
  have lus : us.length ≤ sizeLine := by
    have := Paired.length r1
    rw [sizeLine_eq]
    omega
  have b2 := hb _ (Value.ref a :: us) I2.kIn ln
  rw [List.append_nil] at b2
  have dp : (X.A.under (.builtin "type.__call__" ⟨.ref C :: us, []⟩)).depth < recursionLimit := (L2H.RoomH.make (k := 1) hr C us []).depth
  refine wpAny_call (PySem.HandSPX.call_own F.excBase_ValueError (fun Y => PySem.HandSPX.refsVE_contains Y mro hmro) (I1.kIn _ _ hC) (PySem.W.looks_findIn I1.kIn iC) (fun self => PySem.W.bind_fn I1.kIn self tI) lus ?_)
  rw [← ea]
  refine codeAny_mono (run _ X.stack _ _ ⟨Value.ref a :: us, []⟩ (Value.ref a :: us) _ _ (fun _ _ _ => False) dp (I2.env0.make C us []) b2 r2 hq) fun r s' hq' => ?_
  cases r with
  | error er => exact False.elim hq'
  | ok fl =>
    cases fl with
    | ret u =>
      obtain ⟨v, H2, os2, bare2, un2, hok2, rv, ev, d, fs, ea2, ed, hd1, q2⟩ := hq'
      subst ev
      obtain ⟨h2, g2, d2, t2, os'⟩ := s'
      obtain ⟨t0, G, J, kG, ge, hoe, na⟩ := mk_end0 (d2 := d2) (t2 := t2) I1 hsz two_more un2 hok2 os2 bare2 ea2 ed hd1
      refine ⟨rv, ⟨a, _, _, ⟨G, g2, d2, t2, os'⟩, _, .ref C, some d, rfl, J, kG, ge, hoe, ⟨rfl, rfl, fun ws hw => ?_⟩, rfl, rfl, na, rfl, bare2, raises_own N.oex.exC N.oex.tyC, q2⟩, fun a' oe ws e1 hg2 hd2 => ?_⟩
      · cases hw
        rfl
      · cases e1
        have hg3 : h2.get? a = some oe := hg2
        rw [hoe] at hg3
        cases hg3
        cases hd2
        exact (by decide : (4 : Nat) < 6)
    | next => exact False.elim hq'
    | brk => exact False.elim hq'
    | cont => exact False.elim hq'
theorem pmk_noteK {X : Cx} {K : PySem.W.Frag} {x : Str} {C : Addr} {e : Expr} {ta : TA} {p pos : Pos} (hK : X.K = K) (N : NtX X.prog X.w X.K X.mg X.base x C) (hr : L2H.RoomH 2 X.A) (hg : Gl X x) (ha : PA X [e] ta)
    (hdb : (x == ("__debug__" : Str)) = false := by decide) (he : starEach [e] X.env = (false, eval e X.env) :: starEach [] X.env := by rfl) (hpl : (backTo pos (starEach [] X.env)).any (·.1) = false := by rfl) :
    L2H.PMk5 X (.Call (.Name x p) [e] [] pos) (tMkO C (spNote K C) [] ta) := by
  subst hK
  exact pmk_note N hr hg ha hdb he hpl
/-- try .. except x: with a suite that raises, its reading kept under a name (for a loop's body) -/
def tTryX (tb : WX → TS) (w : Ends → WX) : TS := fun D σ H => tb (w D) D σ H
theorem ps_tryX {X : Cx} {x : Str} {c : Value} {body suite : List Stmt} {b₀ : Stmt} {np pos pos' : Pos} {tb : WX → TS} {ts : Addr → Value → Option Addr → TS} {Wout : WX} (hs : X.stack = X.env :: X.outer) (hf : X.env.frame = some X.env.locals) (hc : Names X x c) (hpa : ∀ hd : Option Value, PassesOwnAt (model X.prog X.w) (X.A.mark hd) X.A X.env X.xe) (tk : L2.Takes X Wout)
    (hb : ∀ (W : WX) (pn : List (Addr × Obj)) (xe : Value → Shared → Prop), L2N.Takes (X.tr pn xe) W → L2.Takes (X.tr pn xe) (L2H.wPass X.K c Wout) → PassesOwn (model X.prog X.w) X.A X.env xe → PSs (X.tr pn xe) body (tb W))
    (hsu : ∀ (a : Addr) (oe : Obj) (cls : Value) (d : Option Addr) (pn : List (Addr × Obj)), L2N.Zn cls d oe → (∃ vs, oe.data = .fields vs) → L2.Takes (L2H.suiteX X a ((a, oe) :: pn)) Wout → L2H.HotC (L2H.suiteX X a ((a, oe) :: pn)) → PSs (L2H.suiteX X a ((a, oe) :: pn)) (b₀ :: suite) (ts a cls d)) :
    PS X (.Try body [.ExceptHandler (some (.Name x np)) none (b₀ :: suite) pos'] [] [] pos) (tTryX tb (wOnly X.K c ts Wout)) := L2H.ps_try_onlyX hs hf hc hpa tk hb hsu
/-- what is to be shown of BadNote(n) -/
theorem note_reads {K : PySem.W.Frag} {C : Addr} {H1 : Hp} {n : Nat} {Q : XK} (h9 : n ≤ 100000) (q : ∀ d, H1 d = none → Q (.ref C) (some d) (upd H1 d (.xd [("line", .int (n : Int))]))) :
    ([V.int (n : Int)]).length ≤ 1000 ∧ ∀ a, H1 a = none → spNote K C (.ref a :: ([V.int (n : Int)] ++ [])) (upd H1 a (exo a C none))
      (fun v H2 => v = .non ∧ ∃ (d : Addr) (fs : List (Str × V)), H2 a = some (exo a C (some d)) ∧ H2 d = some (exd d fs) ∧ H1 d = none ∧ Q (.ref C) (some d) (upd (del H2 a) d (.xd fs))) (fun _ _ _ => False) := by
  refine ⟨(show 1 ≤ 1000 by decide), fun a na => ⟨a, n, rfl, h9, upd_same, fun dx ndx dne => ⟨rfl, dx, [("line", .int (n : Int))], upd_same, ?_, ?_, ?_⟩⟩⟩
  · rw [upd_ne dne, upd_same]
  · rw [upd_ne dne] at ndx
    exact ndx
  · rw [upd_ne dne] at ndx
    have e : upd (del (upd (upd (upd H1 a (exo a C none)) dx (exd dx [("line", .int (n : Int))])) a (exo a C (some dx))) a) dx (.xd [("line", .int (n : Int))]) = upd H1 dx (.xd [("line", .int (n : Int))]) := by
      funext b
      by_cases h1 : b = dx
      · rw [h1, upd_same, upd_same]
      · rw [upd_ne h1, upd_ne h1]
        by_cases h2 : b = a
        · rw [h2, del_same, na]
        · rw [del_ne h2, upd_ne h2, upd_ne h1, upd_ne h2]
    rw [e]
    exact q dx ndx
section
variable {P : Program} {w : World} {K : PySem.W.Frag} {mg : Str → Option Value} {base : Heap}
/-- a def whose errors have no context -/
theorem Df.clXN {x : Str} {st : Stmt} {N ps : List Str} {k : Nat} {sp : Sp} (D : Df K mg x st ps) (S : FnScope N ps (defScope st)) (len : ∀ vs H Q E, sp vs H Q E → vs.length = ps.length)
    (hbody : ∀ (f : Addr) (cdv : Value) (A : Around) (outer : List Env) (s : Shared) (H : Hp) (vs : List V) (Q : VK) (E : XK), Room k (A.deeper (envOfC x (defScope st) s.heap.objs.size f cdv)) → sp vs H Q E →
      ∃ t, PSs (cxOf (L2N.CX P w) P w K mg base N x (defScope st) f cdv A outer s H E) (defBody st) t ∧ t { nx := fun _ H' => Q .non H', rt := Q } (start N vs) H) : Cl P w K mg base (L2N.CX P w) (k + 1) x sp := by
  obtain ⟨f, fd, F, g, b⟩ := D.ex
  have kp := F.kp
  obtain ⟨oc, od, kV, doc, pm, an, cdv, ct, osl, rfl, lk, hcd⟩ := F.ex
  exact ⟨f, _, ps, fn_of lk hcd S len fun A outer s H vs Q E hr hsp => hbody f cdv A outer s H vs Q E hr hsp, g, kp, b⟩
end
section
variable {X : Cx}
theorem pe_clSN {W : WX} {k j : Nat} {x : Str} {sp : Sp} {p pos : Pos} {e : Expr} {es : List Expr} {t : TA} (c : Cl X.prog X.w X.K X.mg X.base (L2N.CX X.prog X.w) k x sp) (hr : Room j X.A) (hk : k ≤ j) (hg : Gl X x) (tk : L2N.Takes X W) (ha : PA X (e :: es) t)
    (hdb : (x == ("__debug__" : Str)) = false := by decide) (he : starEach (e :: es) X.env = (false, eval e X.env) :: starEach es X.env := by rfl) (hpl : (backTo pos (starEach es X.env)).any (·.1) = false := by rfl) :
    PE X (.Call (.Name x p) (e :: es) [] pos) (tCallS sp (WE W) t) := by
  obtain ⟨f, fd, ps, F, hm, kp, b⟩ := c.ex
  exact pe_callS F (hr.mono hk) hg hm kp b (fun σ => L2N.passAt tk σ) ha hdb he hpl
/-- room within a suite -/
theorem roomS {j : Nat} {A : Around} (hr : Room j A) (h : Option Value) (hj : 2 ≤ j) : L2H.RoomH 2 (A.mark h) := (L2H.roomH_mark hr h).mono hj
theorem room0 {j : Nat} {A : Around} (hr : Room j A) (hj : 2 ≤ j) : L2H.RoomH 2 A := (L2H.roomH_of hr).mono hj
/-- isinstance(e, c) of a caught error e with fields -/
def rIsY (K : PySem.W.Frag) (D a : Addr) (cls : Value) (d : Option Addr) : List V → Hp → VK → Prop := fun xs H Q => cls = .ref D ∧ (∃ dd fs, d = some dd ∧ H dd = some (.xd fs)) ∧ rIsE K D a xs H Q
theorem call_isY {a D : Addr} {oe : Obj} {cls : Value} {d : Option Addr} {pn : List (Addr × Obj)} (C : ExcC X.K D) (hz : Zc cls d oe) (hf : ∃ vs, oe.data = .fields vs) :
    CallR (X.suite a ((a, oe) :: pn)) (.builtin "isinstance") (rIsY X.K D a cls d) := by
  intro pins s σ H xs us Q I r h
  obtain ⟨ec, ⟨dd, fs, ed, hdd⟩, c, cv, b, rfl, hcv, e, q⟩ := h
  subst ec ed
  cases r with
  | cons rx rr =>
    cases rr with
    | cons rt rr =>
      cases rr
      cases rx
      have e1 := hcv _ rt
      subst e1
      have hget := (I.pin (a, oe) (List.mem_append.mpr (.inl List.mem_cons_self))).1
      have ho : ObjOk X.prog X.w H s.heap dd (.xd fs) := I.hok dd _ hdd
      obtain ⟨mA, hns, _⟩ := ho
      obtain ⟨od, hod, _⟩ := lookIn_ns hns
      obtain ⟨vs, hv⟩ := hf
      have J : PySem.W.InstAt s.heap a oe D (some od) := ⟨hget, hz.1, by unfold PySem.W.notCls; rw [hv] <;> rfl, by rw [hz.2]; exact hod⟩
      have hcl : (PySem.W.clsIn X.K D).isSome = true := by
        obtain ⟨cd, hc, _⟩ := PySem.W.any_some C.hd
        rw [hc]
        rfl
      exact PySem.W.kia_one (PySem.W.kitx_exc hcl C.hg C.hk C.hs C.ha C.hn C.ht C.hm) I.kIn J e (fun z => nomatch z) fun tk => ⟨.bl b, H, I.kept (t' := tk) fun _ _ z => z, rfl, q⟩
end
end R
namespace R
open PySem PySem.Spec PyProof.Rows L2
open TL
/-! ### parting and cutting, told backwards -/
theorem par_back (S : List Nat) : ∀ (p acc a b : List Nat), par S acc p = some (a, b) → acc ++ p = a ++ (S ++ b)
  | [], acc, a, b, h => by
    unfold par at h
    cases h
  | c :: r, acc, a, b, h => by
    cases e : pre S (c :: r) with
    | true =>
      rw [par_hit e] at h
      cases h
      have e' : (c :: r).take S.length = S := beq_iff_eq.mp e
      have e2 := List.take_append_drop S.length (c :: r)
      rw [e'] at e2
      rw [e2]
    | false =>
      rw [par_miss e] at h
      have := par_back S r (acc ++ [c]) a b h
      rw [← this]
      simp
theorem part_back (x y : Str) (hy : tl y ≠ []) : Txt.partition x y = (x, Str.empty, Str.empty) ∨ ∃ a b, x = a ++ (y ++ b) ∧ Txt.partition x y = (a, y, b) := by
  rw [partition_par _ y hy]
  cases e : par (tl y) [] (tl x) with
  | none => exact .inl rfl
  | some q =>
    obtain ⟨a, b⟩ := q
    refine .inr ⟨⟨a.toArray⟩, ⟨b.toArray⟩, ?_, rfl⟩
    have := par_back _ _ _ _ _ e
    refine str_ext ?_
    rw [tl_app, tl_app]
    exact this
theorem part_le (x y : Str) (hy : tl y ≠ []) : (Txt.partition x y).1.length ≤ x.length ∧ (Txt.partition x y).2.2.length ≤ x.length := by
  rcases part_back x y hy with e | ⟨a, b, e1, e⟩
  · rw [e]
    exact ⟨Nat.le_refl _, Nat.zero_le _⟩
  · rw [e, e1, slen, slen]
    dsimp only
    omega
theorem starts_back {x y : Str} {n : Nat} (hn : (tl y).length = n) (h : Txt.startswith x y = true) : x = y ++ cutS x (some (n : Int)) none := by
  rw [starts_eq] at h
  have e : (tl x).take (tl y).length = tl y := beq_iff_eq.mp h
  refine str_ext ?_
  rw [tl_app, cut_from, ← hn]
  conv => lhs; rw [← List.take_append_drop (tl y).length (tl x), e]
theorem cut_take (x : Str) (n : Nat) : tl (cutS x none (some (n : Int))) = (tl x).take n := by
  show ((((tl x).drop (HT.sIx x.length 0 none)).take (HT.sIx x.length x.length (some (n : Int)) - HT.sIx x.length 0 none)).toArray).toList = _
  rw [HT.sIx_none, HT.sIx_nat, len_tl']
  show ((tl x).drop 0).take (min n (tl x).length - 0) = _
  rw [List.drop_zero, Nat.sub_zero]
  by_cases c : n ≤ (tl x).length
  · rw [Nat.min_eq_left c]
  · rw [Nat.min_eq_right (by omega), List.take_of_length_le (Nat.le_refl _), List.take_of_length_le (by omega)]
end R
namespace R
open PySem PySem.Spec PyProof.Rows L2
open TL (tl)
def topS (i : Nat) : Stmt := PySem.Challenge.pw_reels_k19_whole_cues_read.main.body.getD i (.Pass ⟨0, 0, 0, 0⟩)
abbrev s_common_divisor : Stmt := topS 6
theorem sc_common_divisor : FnScope ["one", "two"] ["one", "two"] (defScope s_common_divisor) := ⟨rfl, rfl, rfl, by decide +kernel, rfl, by decide +kernel, by decide +kernel⟩
abbrev s_made : Stmt := topS 7
theorem sc_made : FnScope ["top", "bottom", "divisor"] ["top", "bottom"] (defScope s_made) := ⟨rfl, rfl, rfl, by decide +kernel, rfl, by decide +kernel, by decide +kernel⟩
abbrev s_added : Stmt := topS 8
theorem sc_added : FnScope ["one", "two", "shared", "top", "divisor"] ["one", "two"] (defScope s_added) := ⟨rfl, rfl, rfl, by decide +kernel, rfl, by decide +kernel, by decide +kernel⟩
abbrev s_is_below : Stmt := topS 9
theorem sc_is_below : FnScope ["one", "two"] ["one", "two"] (defScope s_is_below) := ⟨rfl, rfl, rfl, by decide +kernel, rfl, by decide +kernel, by decide +kernel⟩
abbrev s_read_frames : Stmt := topS 13
theorem sc_read_frames : FnScope ["text"] ["text"] (defScope s_read_frames) := ⟨rfl, rfl, rfl, by decide +kernel, rfl, by decide +kernel, by decide +kernel⟩
abbrev s_read_mixed : Stmt := topS 14
theorem sc_read_mixed : FnScope ["text", "whole", "blank", "rest"] ["text"] (defScope s_read_mixed) := ⟨rfl, rfl, rfl, by decide +kernel, rfl, by decide +kernel, by decide +kernel⟩
abbrev s_read_rest : Stmt := topS 15
theorem sc_read_rest : FnScope ["blank", "rest", "top_word", "slash", "bottom_word", "top", "bottom"] ["blank", "rest"] (defScope s_read_rest) := ⟨rfl, rfl, rfl, by decide +kernel, rfl, by decide +kernel, by decide +kernel⟩
abbrev s_read_number : Stmt := topS 16
theorem sc_read_number : FnScope ["word"] ["word"] (defScope s_read_number) := ⟨rfl, rfl, rfl, by decide +kernel, rfl, by decide +kernel, by decide +kernel⟩
abbrev s_read_cues : Stmt := topS 22
theorem sc_read_cues : FnScope ["text", "cues", "at", "line"] ["text"] (defScope s_read_cues) := ⟨rfl, rfl, rfl, by decide +kernel, rfl, by decide +kernel, by decide +kernel⟩
abbrev s_read_line : Stmt := topS 23
theorem sc_read_line : FnScope ["line", "at", "cues", "number", "begin", "end", "words", "earliest"] ["line", "at", "cues"] (defScope s_read_line) := ⟨rfl, rfl, rfl, by decide +kernel, rfl, by decide +kernel, by decide +kernel⟩
abbrev s_read_cue : Stmt := topS 24
theorem sc_read_cue : FnScope ["line", "at", "cues", "number_word", "joint", "span", "begin_text", "end_text", "number", "begin", "end"] ["line", "at", "cues"] (defScope s_read_cue) := ⟨rfl, rfl, rfl, by decide +kernel, rfl, by decide +kernel, by decide +kernel⟩
abbrev s_read_word : Stmt := topS 25
theorem sc_read_word : FnScope ["line", "at", "earliest", "end", "word", "joint", "time_text", "time"] ["line", "at", "earliest", "end"] (defScope s_read_word) := ⟨rfl, rfl, rfl, by decide +kernel, rfl, by decide +kernel, by decide +kernel⟩
abbrev s_is_word : Stmt := topS 26
theorem sc_is_word : FnScope ["text"] ["text"] (defScope s_is_word) := ⟨rfl, rfl, rfl, by decide +kernel, rfl, by decide +kernel, by decide +kernel⟩
abbrev s_Lbegun : Stmt := topS 28
theorem sc_Lbegun : FnScope ["_law_script", "_law_stirred", "_law_cell"] ["_law_script"] (defScope s_Lbegun) := ⟨rfl, rfl, rfl, by decide +kernel, rfl, by decide +kernel, by decide +kernel⟩
abbrev s_Ltake : Stmt := topS 29
theorem sc_Ltake : FnScope ["_law_box", "_law_many", "_law_number"] ["_law_box", "_law_many"] (defScope s_Ltake) := ⟨rfl, rfl, rfl, by decide +kernel, rfl, by decide +kernel, by decide +kernel⟩
abbrev s_Lfr : Stmt := topS 31
theorem sc_Lfr : FnScope ["_law_top", "_law_bottom", "_law_one", "_law_two", "_law_rest"] ["_law_top", "_law_bottom"] (defScope s_Lfr) := ⟨rfl, rfl, rfl, by decide +kernel, rfl, by decide +kernel, by decide +kernel⟩
abbrev s_Lsum : Stmt := topS 32
theorem sc_Lsum : FnScope ["_law_one", "_law_two"] ["_law_one", "_law_two"] (defScope s_Lsum) := ⟨rfl, rfl, rfl, by decide +kernel, rfl, by decide +kernel, by decide +kernel⟩
abbrev s_Lminus : Stmt := topS 33
theorem sc_Lminus : FnScope ["_law_one", "_law_two"] ["_law_one", "_law_two"] (defScope s_Lminus) := ⟨rfl, rfl, rfl, by decide +kernel, rfl, by decide +kernel, by decide +kernel⟩
abbrev s_Ltimes : Stmt := topS 34
theorem sc_Ltimes : FnScope ["_law_one", "_law_two"] ["_law_one", "_law_two"] (defScope s_Ltimes) := ⟨rfl, rfl, rfl, by decide +kernel, rfl, by decide +kernel, by decide +kernel⟩
abbrev s_Llow : Stmt := topS 36
theorem sc_Llow : FnScope ["_law_one", "_law_two"] ["_law_one", "_law_two"] (defScope s_Llow) := ⟨rfl, rfl, rfl, by decide +kernel, rfl, by decide +kernel, by decide +kernel⟩
abbrev s_Ltime : Stmt := topS 37
theorem sc_Ltime : FnScope ["_law_box", "_law_most", "_law_top", "_law_bottom"] ["_law_box", "_law_most"] (defScope s_Ltime) := ⟨rfl, rfl, rfl, by decide +kernel, rfl, by decide +kernel, by decide +kernel⟩
abbrev s_Lcue : Stmt := topS 38
theorem sc_Lcue : FnScope ["_law_box", "_law_number", "_law_some", "_law_signs", "_law_k", "_law_begin", "_law_end", "_law_many", "_law_word", "_law_far", "_law_words", "_law_at", "_law_j"] ["_law_box", "_law_number"] (defScope s_Lcue) := ⟨rfl, rfl, rfl, by decide +kernel, rfl, by decide +kernel, by decide +kernel⟩
abbrev s_Lcues : Stmt := topS 39
theorem sc_Lcues : FnScope ["_law_box", "_law_cues_here", "_law_number", "_law_k"] ["_law_box"] (defScope s_Lcues) := ⟨rfl, rfl, rfl, by decide +kernel, rfl, by decide +kernel, by decide +kernel⟩
abbrev s_Lmixed : Stmt := topS 40
theorem sc_Lmixed : FnScope ["_law_time_here", "_law_whole", "_law_rest"] ["_law_time_here"] (defScope s_Lmixed) := ⟨rfl, rfl, rfl, by decide +kernel, rfl, by decide +kernel, by decide +kernel⟩
abbrev s_Llines : Stmt := topS 41
theorem sc_Llines : FnScope ["_law_cues_here", "_law_lines_here", "_law_number", "_law_begin", "_law_end", "_law_words", "_law_head", "_law_time_here", "_law_word"] ["_law_cues_here"] (defScope s_Llines) := ⟨rfl, rfl, rfl, by decide +kernel, rfl, by decide +kernel, by decide +kernel⟩
abbrev s_Lgood : Stmt := topS 42
theorem sc_Lgood : FnScope ["_law_cues_here", "_law_last", "_law_cue_here", "_law_at", "_law_word", "_law_time_here", "_law_sign"] ["_law_cues_here"] (defScope s_Lgood) := ⟨rfl, rfl, rfl, by decide +kernel, rfl, by decide +kernel, by decide +kernel⟩
abbrev s_Lnone : Stmt := topS 43
theorem sc_Lnone : FnScope ["_law_box", "_law_some"] ["_law_box"] (defScope s_Lnone) := ⟨rfl, rfl, rfl, by decide +kernel, rfl, by decide +kernel, by decide +kernel⟩
abbrev s_Lspoilt : Stmt := topS 44
theorem sc_Lspoilt : FnScope ["_law_box", "_law_line", "_law_j", "_law_at", "_law_sign", "_law_cut", "_law_behind"] ["_law_box", "_law_line"] (defScope s_Lspoilt) := ⟨rfl, rfl, rfl, by decide +kernel, rfl, by decide +kernel, by decide +kernel⟩
abbrev s_Lodd : Stmt := topS 45
theorem sc_Lodd : FnScope ["_law_box", "_law_cues_here", "_law_lines_here", "_law_heads", "_law_pick", "_law_head", "_law_way", "_law_at", "_law_word", "_law_k"] ["_law_box", "_law_cues_here", "_law_lines_here"] (defScope s_Lodd) := ⟨rfl, rfl, rfl, by decide +kernel, rfl, by decide +kernel, by decide +kernel⟩
abbrev s_law : Stmt := topS 46
theorem sc_law : FnScope ["_law_script", "_law_box", "_law_cues_here", "_law_lines_here", "_law_at", "_law_way", "_law_none_here", "_law_line", "_law_text", "_law_told", "e"] ["_law_script"] (defScope s_law) := ⟨rfl, rfl, rfl, by decide +kernel, rfl, by decide +kernel, by decide +kernel⟩
structure Txt (K : PySem.W.Frag) (mg : Str → Option Value) : Prop where
  d_common_divisor : Df K mg "common_divisor" s_common_divisor ["one", "two"]
  d_made : Df K mg "made" s_made ["top", "bottom"]
  d_added : Df K mg "added" s_added ["one", "two"]
  d_is_below : Df K mg "is_below" s_is_below ["one", "two"]
  d_read_frames : Df K mg "read_frames" s_read_frames ["text"]
  d_read_mixed : Df K mg "read_mixed" s_read_mixed ["text"]
  d_read_rest : Df K mg "read_rest" s_read_rest ["blank", "rest"]
  d_read_number : Df K mg "read_number" s_read_number ["word"]
  d_read_cues : Df K mg "read_cues" s_read_cues ["text"]
  d_read_line : Df K mg "read_line" s_read_line ["line", "at", "cues"]
  d_read_cue : Df K mg "read_cue" s_read_cue ["line", "at", "cues"]
  d_read_word : Df K mg "read_word" s_read_word ["line", "at", "earliest", "end"]
  d_is_word : Df K mg "is_word" s_is_word ["text"]
  d_Lbegun : Df K mg "_law_begun" s_Lbegun ["_law_script"]
  d_Ltake : Df K mg "_law_take" s_Ltake ["_law_box", "_law_many"]
  d_Lfr : Df K mg "_law_fr" s_Lfr ["_law_top", "_law_bottom"]
  d_Lsum : Df K mg "_law_sum" s_Lsum ["_law_one", "_law_two"]
  d_Lminus : Df K mg "_law_minus" s_Lminus ["_law_one", "_law_two"]
  d_Ltimes : Df K mg "_law_times" s_Ltimes ["_law_one", "_law_two"]
  d_Llow : Df K mg "_law_low" s_Llow ["_law_one", "_law_two"]
  d_Ltime : Df K mg "_law_time" s_Ltime ["_law_box", "_law_most"]
  d_Lcue : Df K mg "_law_cue" s_Lcue ["_law_box", "_law_number"]
  d_Lcues : Df K mg "_law_cues" s_Lcues ["_law_box"]
  d_Lmixed : Df K mg "_law_mixed" s_Lmixed ["_law_time_here"]
  d_Llines : Df K mg "_law_lines" s_Llines ["_law_cues_here"]
  d_Lgood : Df K mg "_law_good" s_Lgood ["_law_cues_here"]
  d_Lnone : Df K mg "_law_none" s_Lnone ["_law_box"]
  d_Lspoilt : Df K mg "_law_spoilt" s_Lspoilt ["_law_box", "_law_line"]
  d_Lodd : Df K mg "_law_odd" s_Lodd ["_law_box", "_law_cues_here", "_law_lines_here"]
  d_law : Df K mg "law" s_law ["_law_script"]
  m_abs : mg "abs" = none
  m_all : mg "all" = none
  m_len : mg "len" = none
  m_int : mg "int" = none
  m_enumerate : mg "enumerate" = none
  m_list : mg "list" = none
  m_range : mg "range" = none
  m_sorted : mg "sorted" = none
  m_str : mg "str" = none
  m_isinstance : mg "isinstance" = none
  m_tuple : mg "tuple" = none
  m_ValueError : mg "ValueError" = none
  m_bool : mg "bool" = none
  e_BadTime : ∃ C, ExcT K mg "BadTime" C
  n_BadNote : ∃ C, mg "BadNote" = some (.ref C)
  e_ReelError : ∃ C, ExcT K mg "ReelError" C
  x_nc : ∀ C : Addr, mg "BadNote" = some (.ref C) → ExcC K C
  x_nt : ∀ C C2 : Addr, mg "BadNote" = some (.ref C) → mg "BadTime" = some (.ref C2) → PySem.W.exmOne K (.ref C) (.ref C2) = some false
  x_nr : ∀ C C2 : Addr, mg "BadNote" = some (.ref C) → mg "ReelError" = some (.ref C2) → PySem.W.exmOne K (.ref C) (.ref C2) = some true
  x_nk : ∀ C C2 : Addr, mg "BadNote" = some (.ref C) → mg "BadTime" = some (.ref C2) → PySem.W.kitOne K (.ref C) (.ref C2) = some false
  x_nv : ∀ C : Addr, mg "BadNote" = some (.ref C) → PySem.W.kitOne K (.ref C) (.type "ValueError") = some true
  x_no : ∀ C : Addr, mg "BadNote" = some (.ref C) → PySem.W.findIn K (.ref C) "line" = some none
  c_NOUGHT : ∃ a : Addr, (∃ u, mg "NOUGHT" = some u ∧ RelV (.ref a) u) ∧ ∀ H : Hp, SqT K H a [.int 0, .int 1]
  c_MOST_FIGURES : ∃ u, mg "MOST_FIGURES" = some u ∧ RelV (.int 9) u
  c_FIGURES : ∃ u, mg "FIGURES" = some u ∧ RelV (.str "0123456789") u
  c_CUE : ∃ u, mg "CUE" = some u ∧ RelV (.str "cue ") u
  c_WORD : ∃ u, mg "WORD" = some u ∧ RelV (.str "  ") u
  c_MOST_LETTERS : ∃ u, mg "MOST_LETTERS" = some u ∧ RelV (.int 20) u
  c_LETTERS : ∃ u, mg "LETTERS" = some u ∧ RelV (.str "abcdefghijklmnopqrstuvwxyz") u
/-! ### fractions on the heap -/
def dF (q : Rat) : PyData := .tuple [.int q.num, .int (q.den : Int)]
theorem dF_at {K : PySem.W.Frag} {H : Hp} {v : V} {q : Rat} (h : Dp K H v (dF q)) : ∃ a, v = .ref a ∧ SqT K H a [.int q.num, .int (q.den : Int)] := by
  unfold dF at h
  cases h with
  | tup hs ha =>
    cases ha with
    | cons h1 h2 =>
      cases h1
      cases h2 with
      | cons h3 h4 =>
        cases h3
        cases h4
        exact ⟨_, rfl, hs⟩
theorem dF_mk {K : PySem.W.Frag} {H : Hp} {p : Addr} {q : Rat} (h : SqT K H p [.int q.num, .int (q.den : Int)]) : Dp K H (.ref p) (dF q) := .tup h (.cons (.int _) (.cons (.int _) .nil))
def spGcd : Sp := fun vs H Q _ => ∃ i j : Int, vs = [.int i, .int j] ∧ Q (.int (Nat.gcd i.natAbs j.natAbs : Nat)) H
def spMade (K : PySem.W.Frag) : Sp := fun vs H Q _ => ∃ t b : Int, vs = [.int t, .int b] ∧ b ≠ 0 ∧ b.natAbs < 2 ^ 9000 ∧ ∀ H' v, Same H H' → Dp K H' v (dF (Rat.divInt t b)) → Q v H'
def spF2 (K : PySem.W.Frag) (f : Rat → Rat → Rat) (C : Rat → Rat → Prop) : Sp := fun vs H Q _ => ∃ (u v : V) (x y : Rat) (n m : Nat), vs = [u, v] ∧ Dp K H u (dF x) ∧ Dp K H v (dF y) ∧ Sz n x ∧ Sz m y ∧ n + m ≤ 9000 ∧ C x y ∧
  ∀ H' z, Same H H' → Dp K H' z (dF (f x y)) → Q z H'
def spLow (K : PySem.W.Frag) : Sp := fun vs H Q _ => ∃ (u v : V) (x y : Rat) (n m : Nat), vs = [u, v] ∧ Dp K H u (dF x) ∧ Dp K H v (dF y) ∧ Sz n x ∧ Sz m y ∧ n + m ≤ 9000 ∧ Q (.bl (decide (x < y))) H
theorem Sz.pos {n : Nat} {x : Rat} (h : Sz n x) : 0 < n := by
  have h1 := h.den
  have h2 := x.den_nz
  cases n with
  | zero =>
    have : x.den < 1 := h1
    omega
  | succ n => exact Nat.succ_pos n
theorem mnd {n m : Nat} {x y : Rat} (hx : Sz n x) (hy : Sz m y) (h : n + m ≤ 9000) : CMulW x.num (y.den : Int) := wide_mul hx.num hy.den' hx.pos hy.pos (by omega)
theorem mnd' {n m : Nat} {x y : Rat} (hx : Sz n x) (hy : Sz m y) (h : n + m ≤ 9000) : CMulW y.num (x.den : Int) := wide_mul hy.num hx.den' hy.pos hx.pos (by omega)
theorem mdd {n m : Nat} {x y : Rat} (hx : Sz n x) (hy : Sz m y) (h : n + m ≤ 9000) : CMulW (x.den : Int) (y.den : Int) := wide_mul hx.den' hy.den' hx.pos hy.pos (by omega)
theorem mnn {n m : Nat} {x y : Rat} (hx : Sz n x) (hy : Sz m y) (h : n + m ≤ 9000) : CMulW x.num y.num := wide_mul hx.num hy.num hx.pos hy.pos (by omega)
theorem mdn {n m : Nat} {x y : Rat} (hx : Sz n x) (hy : Sz m y) (h : n + m ≤ 9000) : CMulW (x.den : Int) y.num := wide_mul hx.den' hy.num hx.pos hy.pos (by omega)
theorem up9 {i : Int} {n : Nat} (h : i.natAbs < 2 ^ n) (k : n ≤ 9000) : i.natAbs < 2 ^ 9000 := Nat.lt_of_lt_of_le h (Nat.pow_le_pow_right (by decide) k)
theorem num_zero {y : Rat} (h : y.num ≠ 0) : y ≠ 0 := fun e => h (by rw [e]; rfl)
theorem p20 {i : Int} (h : i.natAbs < 2 ^ 20) : i.natAbs < 2 ^ 9000 := Nat.lt_of_lt_of_le h (Nat.pow_le_pow_right (by decide) (by decide))
/-! ### the box of draws: a list of ints and a number, at b and l -/
def hid (b l : Addr) (H : Hp) : Hp := fun a => if a = b ∨ a = l then none else H a
structure Bx (H : Hp) (b l : Addr) : Prop where
  ne : b ≠ l
  ex : ∃ (xs : List Int) (st : Int), H b = some (.lst [.ref l, .int st]) ∧ H l = some (.lst (xs.map V.int))
theorem hid_b {b l : Addr} {H : Hp} {o : HO} : hid b l (upd H b o) = hid b l H := by
  funext a
  unfold hid upd
  split
  · rfl
  · rename_i h
    rw [if_neg (fun e => h (.inl e))]
theorem hid_l {b l : Addr} {H : Hp} {o : HO} : hid b l (upd H l o) = hid b l H := by
  funext a
  unfold hid upd
  split
  · rfl
  · rename_i h
    rw [if_neg (fun e => h (.inr e))]
theorem Same.hid {b l : Addr} {H H' : Hp} (s : Same H H') : Same (hid b l H) (hid b l H') := fun a o h => by
  unfold R.hid at h ⊢
  split at h
  · cases h
  · rename_i k
    rw [if_neg k]
    exact s _ _ h
theorem hid_same {b l : Addr} {H : Hp} : Same (hid b l H) H := fun a o h => by
  unfold hid at h
  split at h
  · cases h
  · exact h
theorem Bx.mono {b l : Addr} {H H' : Hp} (B : Bx H b l) (s : Same H H') : Bx H' b l := by
  obtain ⟨xs, st, h1, h2⟩ := B.ex
  exact ⟨B.ne, xs, st, s _ _ h1, s _ _ h2⟩
theorem dpa_ints {K : PySem.W.Frag} {H : Hp} : ∀ xs : List Int, DpAll K H (xs.map V.int) (xs.map PyData.int)
  | [] => .nil
  | _ :: r => .cons (.int _) (dpa_ints r)
theorem lay_ints : ∀ xs : List Int, PyData.canLayAll0 (xs.map PyData.int) = true
  | [] => rfl
  | _ :: r => by
    show (PyData.canLay0 _ && PyData.canLayAll0 (r.map PyData.int)) = true
    rw [lay_ints r]
    rfl
theorem depth_ints : ∀ xs : List Int, PyData.depthAll (xs.map PyData.int) = 0
  | [] => rfl
  | _ :: r => by
    show max (PyData.depth _) (PyData.depthAll (r.map PyData.int)) = 0
    rw [depth_ints r]
    rfl
theorem shaped_ints (xs : List Int) : SeqAt.shaped (.list (xs.map PyData.int)) = true := by
  unfold SeqAt.shaped
  rw [show PyData.canLay0 (.list (xs.map PyData.int)) = true from lay_ints xs, show PyData.depth (.list (xs.map PyData.int)) = 1 by
    show PyData.depthAll (xs.map PyData.int) + 1 = 1
    rw [depth_ints]]
  rfl
theorem fmod_rg {x m : Int} (h : 0 < m) : 0 ≤ x.fmod m ∧ x.fmod m < m := by
  rw [Int.fmod_eq_emod_of_nonneg _ (by omega)]
  exact ⟨Int.emod_nonneg _ (by omega), Int.emod_lt_of_pos _ h⟩
def spBegun (K : PySem.W.Frag) : Sp := fun vs H Q _ => ∃ (a : Addr) (ns : List Int), vs = [.ref a] ∧ SqL K H a (ns.map V.int) ∧ ∀ H' b l, Same H H' → H b = none → H l = none → Bx H' b l → Q (.ref b) H'
def spTake (K : PySem.W.Frag) : Sp := fun vs H Q _ => ∃ (b l : Addr) (m : Int), vs = [.ref b, .int m] ∧ Bx H b l ∧ 0 < m ∧ m < 1073741824 ∧ ∀ H' (r : Int), Same (hid b l H) (hid b l H') → Bx H' b l → 0 ≤ r → r < m → Q (.int r) H'
theorem ixN0 {n : Nat} : ixN (n + 1) 0 = some 0 := by
  unfold ixN
  rw [if_pos (by decide), if_pos (by omega)]
  rfl
theorem hid_at {b l p : Addr} {H : Hp} {o : HO} (B : Bx H b l) (hp : H p = none) : hid b l (upd H p o) p = some o := by
  obtain ⟨xs, st, h1, h2⟩ := B.ex
  unfold hid
  rw [if_neg, upd_same]
  rintro (e | e)
  · rw [e, h1] at hp
    cases hp
  · rw [e, h2] at hp
    cases hp
theorem hid_tup {K : PySem.W.Frag} {b l a : Addr} {H : Hp} {xs : List V} (B : Bx H b l) (h : SqT K H a xs) : SqT K (hid b l H) a xs := by
  obtain ⟨ys, st, h1, h2⟩ := B.ex
  have key : ∀ u : HO, H a = some u → (∀ zs, u ≠ .lst zs) → hid b l H a = some u := by
    intro u hu hn
    unfold hid
    rw [if_neg, hu]
    rintro (e | e)
    · rw [e, h1] at hu
      exact hn _ (Option.some.inj hu).symm
    · rw [e, h2] at hu
      exact hn _ (Option.some.inj hu).symm
  rcases h with (h | ⟨o, h⟩) | h
  · exact .inl (.inl (key _ h (fun _ z => nomatch z)))
  · exact .inl (.inr ⟨o, key _ h (fun _ z => nomatch z)⟩)
  · exact .inr h
theorem frac_hid {K : PySem.W.Frag} {b l : Addr} {H : Hp} {v : V} {q : Rat} (B : Bx H b l) (h : Dp K H v (dF q)) : Dp K (hid b l H) v (dF q) := by
  obtain ⟨a, rfl, h2⟩ := dF_at h
  exact dF_mk (hid_tup B h2)
theorem frac_keep {K : PySem.W.Frag} {b l : Addr} {H H' : Hp} {v : V} {q : Rat} (h : Dp K H v (dF q)) (B : Bx H b l) (s : Same (hid b l H) (hid b l H')) : Dp K H' v (dF q) := dp_mono hid_same _ _ (dp_mono s _ _ (frac_hid B h))
/-! ### alike: the same data -/
theorem iteY {c : Bool} {A B : Prop} (h : c = true) (a : A) : if c = true then A else B := by
  rw [if_pos h]
  exact a
theorem iteN {c : Bool} {A B : Prop} (h : c = false) (b : B) : if c = true then A else B := by
  rw [if_neg (by rw [h]; exact Bool.false_ne_true)]
  exact b
theorem tyL {K : PySem.W.Frag} {H : Hp} {a : Addr} {xs : List V} (h : SqL K H a xs) : TyX K H (.ref a) (.type "list") := by
  rcases h with (h | ⟨o, h⟩) | ⟨o, its, n, h1, h2, _⟩
  · exact .base (.lst h)
  · exact .base (.frz h)
  · exact .kList h1 h2
theorem tyT {K : PySem.W.Frag} {H : Hp} {a : Addr} {xs : List V} (h : SqT K H a xs) : TyX K H (.ref a) (.type "tuple") := by
  rcases h with (h | ⟨o, h⟩) | ⟨o, its, n, h1, h2, _⟩
  · exact .base (.tup h)
  · exact .fTuple h
  · exact .kTuple h1 h2
theorem rIx_of {K : PySem.W.Frag} {H : Hp} {a : Addr} {xs : List V} {j : Nat} {v : V} {Q : VK} (h : SqL K H a xs ∨ SqT K H a xs) (hv : xs[j]? = some v) (q : Q v H) : rIx K (.ref a) (.int (j : Int)) H Q := by
  rcases h with h | h
  · exact .inl ⟨_, _, _, _, rfl, rfl, h, atI_nat hv, q⟩
  · exact .inr (.inl ⟨_, _, _, _, rfl, rfl, h, atI_nat hv, q⟩)
mutual
def szOk : PyData → Bool
  | .list xs | .tuple xs => decide (xs.length < 2 ^ 62) && szAll xs
  | _ => true
def szAll : List PyData → Bool
  | [] => true
  | x :: xs => szOk x && szAll xs
end
theorem szAll_at : ∀ {ds : List PyData} {i : Nat} {d : PyData}, szAll ds = true → ds[i]? = some d → szOk d = true
  | [], _, _, _, h => by simp at h
  | x :: r, 0, d, a, h => by
    have e : x = d := Option.some.inj h
    have := Bool.and_eq_true_iff.mp (show (szOk x && szAll r) = true from a)
    rw [← e]
    exact this.1
  | x :: r, i + 1, d, a, h => szAll_at (ds := r) (i := i) (Bool.and_eq_true_iff.mp (show (szOk x && szAll r) = true from a)).2 h
theorem depth_at : ∀ {ds : List PyData} {i : Nat} {d : PyData}, ds[i]? = some d → d.depth ≤ PyData.depthAll ds
  | [], _, _, h => by simp at h
  | x :: r, 0, d, h => by
    have e : x = d := Option.some.inj h
    rw [← e]
    exact Nat.le_max_left _ _
  | x :: r, i + 1, d, h => Nat.le_trans (depth_at (ds := r) (i := i) h) (Nat.le_max_right _ _)
theorem dpa_at {K : PySem.W.Frag} {H : Hp} : ∀ {vs : List V} {ds : List PyData} {i : Nat} {v : V}, DpAll K H vs ds → vs[i]? = some v → ∃ d, ds[i]? = some d ∧ Dp K H v d
  | [], _, _, _, _, h => by simp at h
  | x :: r, _, 0, v, .cons h1 h2, h => by
    have e : x = v := Option.some.inj h
    rw [← e]
    exact ⟨_, rfl, h1⟩
  | x :: r, _, i + 1, v, .cons h1 h2, h => dpa_at (vs := r) (i := i) h2 h
theorem dpa_len {K : PySem.W.Frag} {H : Hp} : ∀ {vs : List V} {ds : List PyData}, DpAll K H vs ds → vs.length = ds.length
  | _, _, .nil => rfl
  | _, _, .cons _ h => by rw [List.length_cons, List.length_cons, dpa_len h]
def spAlike (K : PySem.W.Frag) (n : Nat) : Sp := fun vs H Q _ => ∃ (u v : V) (d : PyData), vs = [u, v] ∧ Dp K H u d ∧ Dp K H v d ∧ d.depth < n ∧ szOk d = true ∧ Q (.bl true) H
/-! ### shows on the heap -/
def dS (s : St3) : PyData := .tuple [dF s.1, dF s.2.1, dF s.2.2]
def dSh (xs : List St3) : PyData := .list (xs.map dS)
def dRow (x : Rat × Rat × St3) : PyData := .tuple [dF x.1, dF x.2.1, dS x.2.2]
mutual
def tupD : PyData → Bool
  | .list _ | .dict _ => false
  | .tuple xs => tupA xs
  | _ => true
def tupA : List PyData → Bool
  | [] => true
  | x :: xs => tupD x && tupA xs
end
def IsL (H : Hp) (a : Addr) : Prop := ∃ xs, H a = some (.lst xs)
theorem hid_tupL {K : PySem.W.Frag} {b l a : Addr} {H : Hp} {xs : List V} (Lb : IsL H b) (Ll : IsL H l) (h : SqT K H a xs) : SqT K (hid b l H) a xs := by
  obtain ⟨x1, h1⟩ := Lb
  obtain ⟨x2, h2⟩ := Ll
  have key : ∀ u : HO, H a = some u → (∀ zs, u ≠ .lst zs) → hid b l H a = some u := by
    intro u hu hn
    unfold hid
    rw [if_neg, hu]
    rintro (e | e)
    · rw [e, h1] at hu
      exact hn _ (Option.some.inj hu).symm
    · rw [e, h2] at hu
      exact hn _ (Option.some.inj hu).symm
  rcases h with (h | ⟨o, h⟩) | h
  · exact .inl (.inl (key _ h (fun _ z => nomatch z)))
  · exact .inl (.inr ⟨o, key _ h (fun _ z => nomatch z)⟩)
  · exact .inr h
mutual
theorem dp_hid {K : PySem.W.Frag} {b l : Addr} {H : Hp} (Lb : IsL H b) (Ll : IsL H l) : ∀ (d : PyData) (v : V), tupD d = true → Dp K H v d → Dp K (hid b l H) v d
  | .none, _, _, h => by cases h; exact .non
  | .bool _, _, _, h => by cases h; exact .bl _
  | .int _, _, _, h => by cases h; exact .int _
  | .str _, _, _, h => by cases h; exact .str _
  | .list ds, _, z, _ => by cases z
  | .tuple ds, _, z, h => by
    cases h with
    | tup hs ha => exact .tup (hid_tupL Lb Ll hs) (dpa_hid Lb Ll ds _ z ha)
  | .dict _, _, z, _ => by cases z
theorem dpa_hid {K : PySem.W.Frag} {b l : Addr} {H : Hp} (Lb : IsL H b) (Ll : IsL H l) : ∀ (ds : List PyData) (vs : List V), tupA ds = true → DpAll K H vs ds → DpAll K (hid b l H) vs ds
  | [], _, _, h => by cases h; exact .nil
  | d :: ds, _, z, h => by
    have z2 := Bool.and_eq_true_iff.mp (show (tupD d && tupA ds) = true from z)
    cases h with
    | cons h1 h2 => exact .cons (dp_hid Lb Ll d _ z2.1 h1) (dpa_hid Lb Ll ds _ z2.2 h2)
end
theorem tupD_dF (q : Rat) : tupD (dF q) = true := rfl
theorem tupD_dS (s : St3) : tupD (dS s) = true := rfl
theorem tupA_dS : ∀ xs : List St3, tupA (xs.map dS) = true
  | [] => rfl
  | s :: r => by
    show (tupD (dS s) && tupA (r.map dS)) = true
    rw [tupA_dS r]
    rfl
theorem dS_at {K : PySem.W.Frag} {H : Hp} {v : V} {s : St3} (h : Dp K H v (dS s)) : ∃ a v1 v2 v3, v = .ref a ∧ SqT K H a [v1, v2, v3] ∧ Dp K H v1 (dF s.1) ∧ Dp K H v2 (dF s.2.1) ∧ Dp K H v3 (dF s.2.2) := by
  unfold dS at h
  cases h with
  | tup hs ha =>
    cases ha with
    | cons h1 h2 =>
      cases h2 with
      | cons h3 h4 =>
        cases h4 with
        | cons h5 h6 =>
          cases h6
          exact ⟨_, _, _, _, rfl, hs, h1, h3, h5⟩
theorem dS_mk {K : PySem.W.Frag} {H : Hp} {p : Addr} {v1 v2 v3 : V} {s : St3} (h : SqT K H p [v1, v2, v3]) (h1 : Dp K H v1 (dF s.1)) (h2 : Dp K H v2 (dF s.2.1)) (h3 : Dp K H v3 (dF s.2.2)) : Dp K H (.ref p) (dS s) := .tup h (.cons h1 (.cons h2 (.cons h3 .nil)))
theorem dRow_at {K : PySem.W.Frag} {H : Hp} {v : V} {x : Rat × Rat × St3} (h : Dp K H v (dRow x)) : ∃ a v1 v2 v3, v = .ref a ∧ SqT K H a [v1, v2, v3] ∧ Dp K H v1 (dF x.1) ∧ Dp K H v2 (dF x.2.1) ∧ Dp K H v3 (dS x.2.2) := by
  unfold dRow at h
  cases h with
  | tup hs ha =>
    cases ha with
    | cons h1 h2 =>
      cases h2 with
      | cons h3 h4 =>
        cases h4 with
        | cons h5 h6 =>
          cases h6
          exact ⟨_, _, _, _, rfl, hs, h1, h3, h5⟩
theorem dRow_mk {K : PySem.W.Frag} {H : Hp} {p : Addr} {v1 v2 v3 : V} {x : Rat × Rat × St3} (h : SqT K H p [v1, v2, v3]) (h1 : Dp K H v1 (dF x.1)) (h2 : Dp K H v2 (dF x.2.1)) (h3 : Dp K H v3 (dS x.2.2)) : Dp K H (.ref p) (dRow x) := .tup h (.cons h1 (.cons h2 (.cons h3 .nil)))
theorem dSh_at {K : PySem.W.Frag} {H : Hp} {v : V} {xs : List St3} (h : Dp K H v (dSh xs)) : ∃ a vs, v = .ref a ∧ SqL K H a vs ∧ DpAll K H vs (xs.map dS) := by
  unfold dSh at h
  cases h with
  | lst hs ha => exact ⟨_, _, rfl, hs, ha⟩
theorem dpa_map {α : Type} {K : PySem.W.Frag} {H : Hp} {f : α → PyData} {vs : List V} {xs : List α} {i : Nat} {v : V} (h : DpAll K H vs (xs.map f)) (hv : vs[i]? = some v) : ∃ s, xs[i]? = some s ∧ Dp K H v (f s) := by
  obtain ⟨d, h1, h2⟩ := dpa_at h hv
  rw [List.getElem?_map] at h1
  cases e : xs[i]? with
  | none =>
    rw [e] at h1
    cases h1
  | some s =>
    rw [e] at h1
    exact ⟨s, rfl, by rw [show d = f s from (Option.some.inj h1).symm] at h2; exact h2⟩
theorem dpa_snoc {K : PySem.W.Frag} {H : Hp} : ∀ {vs : List V} {ds : List PyData} {v : V} {d : PyData}, DpAll K H vs ds → Dp K H v d → DpAll K H (vs ++ [v]) (ds ++ [d])
  | _, _, _, _, .nil, h => .cons h .nil
  | _, _, _, _, .cons h1 h2, h => .cons h1 (dpa_snoc h2 h)
/-- what stood at the entry stands beside a list r that was made since -/
theorem hid_old {H H' : Hp} {r : Addr} (s : Same H H') (hr : H r = none) : Same H (hid r r H') := fun a o h => by
  unfold hid
  rw [if_neg, s _ _ h]
  rintro (e | e)
  · rw [e, hr] at h
    cases h
  · rw [e, hr] at h
    cases h
def spSt (K : PySem.W.Frag) (g : St3 → Rat) : Sp := fun vs H Q _ => ∃ (v : V) (s : St3) (N : Nat), vs = [v] ∧ Dp K H v (dS s) ∧ StOk N s ∧ N ≤ 2240 ∧ ∀ H' z, Same H H' → Dp K H' z (dF (g s)) → Q z H'
def spLen (K : PySem.W.Frag) : Sp := fun vs H Q _ => ∃ (v : V) (xs : List St3) (N : Nat), vs = [v] ∧ Dp K H v (dSh xs) ∧ ShOk N xs ∧ N ≤ 2240 ∧ ∀ H' z, Same H H' → Dp K H' z (dF (lenS xs)) → Q z H'
def spTab (K : PySem.W.Frag) : Sp := fun vs H Q _ => ∃ (v : V) (xs : List St3) (N : Nat), vs = [v] ∧ Dp K H v (dSh xs) ∧ ShOk N xs ∧ N ≤ 2240 ∧ xs.length ≤ 1000 ∧ ∀ H' p ys, Same H H' → H p = none → H' p = some (.lst ys) → DpAll K H' ys ((tabF 0 xs).map dRow) → Q (.ref p) H'
def spNorm (K : PySem.W.Frag) : Sp := fun vs H Q _ => ∃ (v : V) (xs : List St3), vs = [v] ∧ Dp K H v (dSh xs) ∧ xs.length ≤ 1000 ∧ ∀ H' p ys, Same H H' → H p = none → H' p = some (.lst ys) → DpAll K H' ys ((normM xs).map dS) → Q (.ref p) H'
def spPlace (K : PySem.W.Frag) : Sp := fun vs H Q _ => ∃ (v u : V) (s : St3) (t : Rat) (N : Nat), vs = [v, u] ∧ Dp K H v (dS s) ∧ Dp K H u (dF t) ∧ StOk N s ∧ Sz (2 * N + 1) t ∧ N ≤ 2240 ∧ ∀ H' z, Same H H' → Dp K H' z (dF (s.1 + t * s.2.2)) → Q z H'
/-! ### data of tuples alone stays, whatever is done to lists -/
theorem keepT {K : PySem.W.Frag} {b l : Addr} {H H' : Hp} {v : V} {d : PyData} (h : Dp K H v d) (hd : tupD d = true) (Lb : IsL H b) (Ll : IsL H l) (s : Same (hid b l H) (hid b l H')) : Dp K H' v d := dp_mono hid_same _ _ (dp_mono s _ _ (dp_hid Lb Ll _ _ hd h))
theorem keepA {K : PySem.W.Frag} {b l : Addr} {H H' : Hp} {vs : List V} {ds : List PyData} (h : DpAll K H vs ds) (hd : tupA ds = true) (Lb : IsL H b) (Ll : IsL H l) (s : Same (hid b l H) (hid b l H')) : DpAll K H' vs ds := dpa_mono hid_same _ _ (dpa_mono s _ _ (dpa_hid Lb Ll _ _ hd h))
theorem keepU {K : PySem.W.Frag} {r : Addr} {H : Hp} {o : HO} {v : V} {d : PyData} (h : Dp K H v d) (hd : tupD d = true) (Lr : IsL H r) : Dp K (upd H r o) v d := keepT h hd Lr Lr (by rw [hid_b]; exact Same.refl _)
theorem keepAU {K : PySem.W.Frag} {r : Addr} {H : Hp} {o : HO} {vs : List V} {ds : List PyData} (h : DpAll K H vs ds) (hd : tupA ds = true) (Lr : IsL H r) : DpAll K (upd H r o) vs ds := keepA h hd Lr Lr (by rw [hid_b]; exact Same.refl _)
theorem Bx.lb {H : Hp} {b l : Addr} (B : Bx H b l) : IsL H b := let ⟨_, _, h, _⟩ := B.ex; ⟨_, h⟩
theorem Bx.ll {H : Hp} {b l : Addr} (B : Bx H b l) : IsL H l := let ⟨_, _, _, h⟩ := B.ex; ⟨_, h⟩
theorem dpa_split {K : PySem.W.Frag} {H : Hp} : ∀ {ds : List PyData} {vs : List V} {d : PyData}, DpAll K H vs (ds ++ [d]) → ∃ vs' v, vs = vs' ++ [v] ∧ DpAll K H vs' ds ∧ Dp K H v d
  | [], _, _, .cons h .nil => ⟨[], _, rfl, .nil, h⟩
  | _ :: ds, _, _, .cons h1 h2 => by
    obtain ⟨vs', v, rfl, h3, h4⟩ := dpa_split (ds := ds) h2
    exact ⟨_ :: vs', v, rfl, .cons h1 h3, h4⟩
theorem rat_eq {x y : Rat} (h1 : x.num = y.num) (h2 : (x.den : Int) = (y.den : Int)) : x = y := Rat.ext h1 (by omega)
theorem eqv_dF (x y : Rat) : PyData.eqv (dF x) (dF y) = decide (x = y) := by
  show ((x.num == y.num) && (((x.den : Int) == (y.den : Int)) && true)) = _
  by_cases h : x = y
  · rw [h, decide_eq_true rfl, beq_self_eq_true, beq_self_eq_true]
    rfl
  · rw [decide_eq_false h]
    cases c1 : (x.num == y.num) with
    | false => rfl
    | true =>
      cases c2 : ((x.den : Int) == (y.den : Int)) with
      | false => rfl
      | true => exact absurd (rat_eq (eq_of_beq c1) (eq_of_beq c2)) h
theorem shaped_dF (x : Rat) : SeqAt.shaped (dF x) = true := rfl
theorem lay_dS : ∀ xs : List St3, PyData.canLayAll0 (xs.map dS) = true
  | [] => rfl
  | s :: r => by
    show (PyData.canLay0 (dS s) && PyData.canLayAll0 (r.map dS)) = true
    rw [lay_dS r]
    rfl
theorem depth_dS : ∀ xs : List St3, PyData.depthAll (xs.map dS) ≤ 2
  | [] => Nat.zero_le _
  | s :: r => Nat.max_le.mpr ⟨Nat.le_refl 2, depth_dS r⟩
theorem shaped_dSh (xs : List St3) : SeqAt.shaped (dSh xs) = true := by
  unfold SeqAt.shaped
  rw [show PyData.canLay0 (dSh xs) = true from lay_dS xs]
  have : PyData.depth (dSh xs) ≤ 64 := by
    show PyData.depthAll (xs.map dS) + 1 ≤ 64
    have := depth_dS xs
    omega
  rw [decide_eq_true this]
  rfl
theorem sz_dS : ∀ xs : List St3, szAll (xs.map dS) = true
  | [] => rfl
  | s :: r => by
    show (szOk (dS s) && szAll (r.map dS)) = true
    rw [sz_dS r]
    rfl
theorem sz_dSh (xs : List St3) (h : xs.length < 2 ^ 62) : szOk (dSh xs) = true := by
  show (decide ((xs.map dS).length < 2 ^ 62) && szAll (xs.map dS)) = true
  rw [sz_dS, List.length_map, decide_eq_true h]
  rfl
theorem dep_dSh (xs : List St3) : (dSh xs).depth < 4 := by
  show PyData.depthAll (xs.map dS) + 1 < 4
  have := depth_dS xs
  omega
def spPick (K : PySem.W.Frag) (g : Rat → Rat → Bool) : Sp := fun vs H Q _ => ∃ (u v : V) (x y : Rat) (n m : Nat), vs = [u, v] ∧ Dp K H u (dF x) ∧ Dp K H v (dF y) ∧ Sz n x ∧ Sz m y ∧ n + m ≤ 9000 ∧ Q (if g x y = true then v else u) H
def spPiece (K : PySem.W.Frag) : Sp := fun vs H Q _ => ∃ (v u1 u2 : V) (s : St3) (t1 t2 : Rat) (N : Nat), vs = [v, u1, u2] ∧ Dp K H v (dS s) ∧ Dp K H u1 (dF t1) ∧ Dp K H u2 (dF t2) ∧ StOk N s ∧ Sz (2 * N + 1) t1 ∧ Sz (2 * N + 1) t2 ∧ N ≤ 2240 ∧
  ∀ H' z, Same H H' → Dp K H' z (dS (s.1 + t1 * s.2.2, s.1 + t2 * s.2.2, s.2.2)) → Q z H'
def refused (xs : List St3) (b e : Rat) : Prop := e < b ∨ lenS xs < e
def spTaken (K : PySem.W.Frag) (C : Addr) : Sp := fun vs H Q E => ∃ (v u1 u2 : V) (xs : List St3) (b e : Rat) (N : Nat), vs = [v, u1, u2] ∧ Dp K H v (dSh xs) ∧ Dp K H u1 (dF b) ∧ Dp K H u2 (dF e) ∧ ShOk N xs ∧ Sz N b ∧ Sz N e ∧ N ≤ 2240 ∧ xs.length ≤ 900 ∧
  (refused xs b e → ∀ H', Same H H' → E (.ref C) none H') ∧
  (¬ refused xs b e → ∀ H' p ys, Same H H' → H p = none → H' p = some (.lst ys) → DpAll K H' ys ((normM (cutM xs b e)).map dS) → Q (.ref p) H')
def spRest : Sp := fun vs H Q _ => ∃ (x : Str) (t b : Int), vs = [.str x, .int t, .int b] ∧ x.length ≤ 500 ∧ 0 ≤ t ∧ t < 10 ^ 30 ∧ 0 ≤ b ∧ b < 10 ^ 30 ∧ Q (.str (x ++ rs t b)) H
def spMix (K : PySem.W.Frag) (n : Int) (g : Rat → Str) : Sp := fun vs H Q _ => ∃ (v : V) (q : Rat), vs = [v] ∧ Dp K H v (dF q) ∧ Bd n q ∧ Q (.str (g q)) H
def spTxt2 (K : PySem.W.Frag) (g : Rat → Int → Str) : Sp := fun vs H Q _ => ∃ (v : V) (q : Rat) (r : Int), vs = [v, .int r] ∧ Dp K H v (dF q) ∧ Bd (10 ^ 27) q ∧ 0 < r ∧ r ≤ 120 ∧ ∀ H', Same H H' → Q (.str (g q r)) H'
/-! ### the table of read_number's code may grow; all else stays -/
def Tb (P : Addr) (H H' : Hp) : Prop := GxR.TabG H' P ∧ ∀ a o, a ≠ P → H a = some o → H' a = some o
theorem Tb.refl {P : Addr} {H : Hp} (t : GxR.TabG H P) : Tb P H H := ⟨t, fun _ _ _ h => h⟩
theorem Tb.trans {P : Addr} {H H1 H2 : Hp} (a : Tb P H H1) (b : Tb P H1 H2) : Tb P H H2 := ⟨b.1, fun x o n h => b.2 x o n (a.2 x o n h)⟩
theorem tabG_same {P : Addr} {H H' : Hp} (t : GxR.TabG H P) (s : Same H H') : GxR.TabG H' P := let ⟨ps, h, q⟩ := t; ⟨ps, s _ _ h, q⟩
theorem Tb.same {P : Addr} {H H' : Hp} (t : GxR.TabG H P) (s : Same H H') : Tb P H H' := ⟨tabG_same t s, fun a o _ h => s a o h⟩
theorem Tb.tabbed {P : Addr} {H H' : Hp} (t : GxR.Tabbed P H H') : Tb P H H' := ⟨t.1, fun a o n h => by rw [t.2 a n]; exact h⟩
theorem Tb.at {P a : Addr} {H H' : Hp} {o : HO} (t : GxR.TabG H P) (s : Tb P H H') (h : H a = some o) (ho : ∀ q, o ≠ .tbl q) : H' a = some o := by
  refine s.2 a o (fun e => ?_) h
  obtain ⟨ps, hp, _⟩ := t
  rw [e, hp] at h
  exact ho _ (Option.some.inj h).symm
theorem tb_list {K : PySem.W.Frag} {P a : Addr} {H H' : Hp} {xs : List V} (t : GxR.TabG H P) (s : Tb P H H') (h : SqL K H a xs) : SqL K H' a xs := by
  rcases h with (h | ⟨o, h⟩) | h
  · exact .inl (.inl (s.at t h (fun _ z => nomatch z)))
  · exact .inl (.inr ⟨o, s.at t h (fun _ z => nomatch z)⟩)
  · exact .inr h
theorem tb_tup {K : PySem.W.Frag} {P a : Addr} {H H' : Hp} {xs : List V} (t : GxR.TabG H P) (s : Tb P H H') (h : SqT K H a xs) : SqT K H' a xs := by
  rcases h with (h | ⟨o, h⟩) | h
  · exact .inl (.inl (s.at t h (fun _ z => nomatch z)))
  · exact .inl (.inr ⟨o, s.at t h (fun _ z => nomatch z)⟩)
  · exact .inr h
theorem tb_dF {K : PySem.W.Frag} {P : Addr} {H H' : Hp} {v : V} {q : Rat} (t : GxR.TabG H P) (s : Tb P H H') (h : Dp K H v (dF q)) : Dp K H' v (dF q) := by
  obtain ⟨a, rfl, h2⟩ := dF_at h
  exact dF_mk (tb_tup t s h2)
/-! ### the promises of the reading defs -/
def spNum (P C : Addr) : Sp := fun vs H Q E => ∃ x : Str, vs = [.str x] ∧ x.length ≤ 1000 ∧ GxR.TabG H P ∧ (∀ i, rdNum x = some i → ∀ H', Tb P H H' → Q (.int i) H') ∧ (rdNum x = none → ∀ H', Tb P H H' → E (.ref C) none H')
def spField (P C : Addr) : Sp := fun vs H Q E => ∃ (x : Str) (b : Int), vs = [.str x, .int b] ∧ x.length ≤ 1000 ∧ GxR.TabG H P ∧ (∀ i, rdField x b = some i → ∀ H', Tb P H H' → Q (.int i) H') ∧ (rdField x b = none → ∀ H', Tb P H H' → E (.ref C) none H')
def spRst (K : PySem.W.Frag) (P C : Addr) : Sp := fun vs H Q E => ∃ (x y : Str), vs = [.str x, .str y] ∧ y.length ≤ 1000 ∧ GxR.TabG H P ∧ (∀ q, rdRest x y = some q → ∀ H' z, Tb P H H' → Dp K H' z (dF q) → Q z H') ∧ (rdRest x y = none → ∀ H', Tb P H H' → E (.ref C) none H')
def spMixed (K : PySem.W.Frag) (P C : Addr) : Sp := fun vs H Q E => ∃ (x : Str), vs = [.str x] ∧ x.length ≤ 1000 ∧ GxR.TabG H P ∧ (∀ q, rdMixed x = some q → ∀ H' z, Tb P H H' → Dp K H' z (dF q) → Q z H') ∧ (rdMixed x = none → ∀ H', Tb P H H' → E (.ref C) none H')
def spClock (K : PySem.W.Frag) (P C : Addr) (g : Str → Int → Option Rat) : Sp := fun vs H Q E => ∃ (x : Str) (r : Int), vs = [.str x, .int r] ∧ x.length ≤ 1000 ∧ 0 < r ∧ r ≤ 120 ∧ GxR.TabG H P ∧ (∀ q, g x r = some q → ∀ H' z, Tb P H H' → Dp K H' z (dF q) → Q z H') ∧ (g x r = none → ∀ H', Tb P H H' → E (.ref C) none H')
structure Dfc (K : PySem.W.Frag) (mg : Str → Option Value) (x : Str) (st : Stmt) (ps : List Str) (c : Addr) : Prop where
  ex : ∃ (f : Addr) (oc : Value) (od : Option Addr) (kV doc pm : Value) (an : Option Addr) (ct : Value) (osl : Array (Option Value)),
    K.lookup f = some ⟨oc, od, .func (PySem.W.fnOf x x (defArgs st) (defBody st) (defScope st) .none kV doc pm an (.ref c) ct), osl⟩ ∧ PySem.W.codeIn K (.ref c) x = true ∧ PySem.W.keepIn K (.ref f) = true ∧ mg x = some (.ref f) ∧
    Binds K (PySem.W.fnOf x x (defArgs st) (defBody st) (defScope st) .none kV doc pm an (.ref c) ct) ps []
section
variable {P : Program} {w : World} {K : PySem.W.Frag} {mg : Str → Option Value} {base : Heap}
theorem Dfc.clX {x : Str} {st : Stmt} {N ps : List Str} {k : Nat} {sp : Sp} {c : Addr} (D : Dfc K mg x st ps c) (S : FnScope N ps (defScope st)) (len : ∀ vs H Q E, sp vs H Q E → vs.length = ps.length)
    (hbody : ∀ (f : Addr) (A : Around) (outer : List Env) (s : Shared) (H : Hp) (vs : List V) (Q : VK) (E : XK), Room k (A.deeper (envOfC x (defScope st) s.heap.objs.size f (.ref c))) → sp vs H Q E →
      ∃ t, PSs (cxOf (L2.CX P w) P w K mg base N x (defScope st) f (.ref c) A outer s H E) (defBody st) t ∧ t { nx := fun _ H' => Q .non H', rt := Q } (start N vs) H) : Cl P w K mg base (L2.CX P w) (k + 1) x sp := by
  obtain ⟨f, oc, od, kV, doc, pm, an, ct, osl, lk, hcd, kp, g, b⟩ := D.ex
  exact ⟨f, _, ps, fn_of lk hcd S len fun A outer s H vs Q E hr hsp => hbody f A outer s H vs Q E hr hsp, g, kp, b⟩
end
theorem fig_dig (c : Nat) : decide (c ∈ ("0123456789" : Str).cps.toList) = dig c := by
  show decide (c ∈ [48, 49, 50, 51, 52, 53, 54, 55, 56, 57]) = dig c
  rw [Bool.eq_iff_iff, decide_eq_true_eq]
  unfold dig
  simp only [List.mem_cons, List.not_mem_nil, or_false, Bool.and_eq_true, decide_eq_true_eq]
  omega
theorem le1000 {n : Nat} (h : n ≤ 1000) : n ≤ sizeLine := Nat.le_trans h (by decide)
section
variable {P : Program} {w : World} {K : PySem.W.Frag} {mg : Str → Option Value} {base : Heap}
theorem Dfc.clXN {x : Str} {st : Stmt} {N ps : List Str} {k : Nat} {sp : Sp} {c : Addr} (D : Dfc K mg x st ps c) (S : FnScope N ps (defScope st)) (len : ∀ vs H Q E, sp vs H Q E → vs.length = ps.length)
    (hbody : ∀ (f : Addr) (A : Around) (outer : List Env) (s : Shared) (H : Hp) (vs : List V) (Q : VK) (E : XK), Room k (A.deeper (envOfC x (defScope st) s.heap.objs.size f (.ref c))) → sp vs H Q E →
      ∃ t, PSs (cxOf (L2N.CX P w) P w K mg base N x (defScope st) f (.ref c) A outer s H E) (defBody st) t ∧ t { nx := fun _ H' => Q .non H', rt := Q } (start N vs) H) : Cl P w K mg base (L2N.CX P w) (k + 1) x sp := by
  obtain ⟨f, oc, od, kV, doc, pm, an, ct, osl, lk, hcd, kp, g, b⟩ := D.ex
  exact ⟨f, _, ps, fn_of lk hcd S len fun A outer s H vs Q E hr hsp => hbody f A outer s H vs Q E hr hsp, g, kp, b⟩
theorem cl_common_divisor (T : Txt K mg) : Cl P w K mg base CX0 1 "common_divisor" spGcd := by
  refine T.d_common_divisor.cl sc_common_divisor (fun vs H Q E h => ?_) (fun f cdv A outer s H vs Q E hr h => ?_)
  · obtain ⟨i, j, rfl, _⟩ := h
    rfl
  · obtain ⟨i, j, rfl, q⟩ := h
    refine ⟨_, (pss_cons (ps_set (i := 0) sc_common_divisor.nd rfl (.inl rfl) (pe_callB call_abs (by rfl) T.m_abs (by decide +kernel) (pa_cons (pv 0) pa_nil)))
      (pss_cons (ps_set (i := 1) sc_common_divisor.nd rfl (.inl rfl) (pe_callB call_abs (by rfl) T.m_abs (by decide +kernel) (pa_cons (pv 1) pa_nil)))
      (pss_cons (ps_while PassesOwn.never (pt_cmpR op_gt (pv 1) pe_int (nomark _))
        (pss_one (ps_par (i := 0) (j := 1) (by rfl) sc_common_divisor.nd rfl rfl (by decide) rfl rfl (pa_cons (pv 1) (pa_cons (pe_op op_modN (pv 0) (pv 1)) pa_nil)) (by rfl))))
      (pss_one (ps_ret (pv 0)))))), ?_⟩
    refine ⟨_, rfl, _, rfl, _, rfl, _, rfl, ?_⟩
    refine while_by (fun σ H' => ∃ a b : Nat, σ = [some (.int (a : Int)), some (.int (b : Int))] ∧ H' = H ∧ Nat.gcd a b = Nat.gcd i.natAbs j.natAbs) (fun σ _ => match σ with | [_, some (.int b)] => b.natAbs | _ => 0) ?_ ?_ ?_
    · refine ⟨i.natAbs, j.natAbs, ?_, rfl, rfl⟩
      show [some (V.int (if i < 0 then -i else i)), some (V.int (if j < 0 then -j else j))] = _
      rw [abs_nat, abs_nat]
    · intro σ H' h
      obtain ⟨a, b, rfl, rfl, e⟩ := h
      refine ⟨_, rfl, _, _, rfl, rfl, _, rfl, ite2 (fun z => ?_) (fun z => ?_)⟩
      · have hb : 0 < b := by
          have := of_decide_eq_true z
          omega
        refine ⟨_, rfl, _, rfl, _, rfl, _, _, rfl, rfl, (by omega), _, _, rfl, ⟨b, a % b, ?_, rfl, ?_⟩, ?_⟩
        · show [some (V.int (b : Int)), some (V.int ((a : Int).fmod (b : Int)))] = _
          rw [fmod_nat]
        · rw [gcd_turn]
          exact e
        · show Int.natAbs (Int.fmod (a : Int) (b : Int)) < Int.natAbs (b : Int)
          rw [fmod_nat]
          have := Nat.mod_lt a hb
          omega
      · have hb : b = 0 := by
          have z2 : ¬ ((0 : Int) < (b : Int)) := fun y => z (decide_eq_true y)
          omega
        subst hb
        refine ⟨_, rfl, ?_⟩
        rw [Nat.gcd_zero_right] at e
        rw [← e] at q
        exact q
    · intro σ H' Q1 Q2 h12 h
      obtain ⟨v, e, i, j, e1, e2, k, e3, h⟩ := h
      exact ⟨v, e, i, j, e1, e2, k, e3, h12 _ _ h⟩
theorem cl_made (T : Txt K mg) : Cl P w K mg base CX0 2 "made" (spMade K) := by
  have c_common_divisor := cl_common_divisor (P := P) (w := w) (base := base) T
  refine T.d_made.cl sc_made (fun vs H Q E h => ?_) (fun f cdv A outer s H vs Q E hr h => ?_)
  · obtain ⟨i, j, rfl, _⟩ := h
    rfl
  · obtain ⟨t, b, rfl, hb, hs, q⟩ := h
    refine ⟨_, (pss_cons (ps_set (i := 2) sc_made.nd rfl (.inl rfl) (pe_cl c_common_divisor hr (by decide) (by rfl) (pa_cons (pv 0) (pa_cons (pv 1) pa_nil))))
      (pss_cons (ps_if (pt_cmpR op_lt (pv 1) pe_int (nomark _))
        (pss_one (ps_set (i := 2) sc_made.nd rfl (.inl rfl) (pe_un un_neg (pv 2))))
        pss_nil)
      (pss_one (ps_ret (pe_tup (pa_cons (pe_op op_fdivX (pv 0) (pv 2)) (pa_cons (pe_op op_fdivX (pv 1) (pv 2)) pa_nil))))))), ?_⟩
    have last : ∀ d : Int, d = frI t b → ∀ p, H p = none → Q (.ref p) (upd H p (.tup [.int (t.fdiv d), .int (b.fdiv d)])) := by
      intro d e p hp
      subst e
      refine q _ _ (Same.new hp) (dF_mk ?_)
      rw [fr_num hb, fr_den hb]
      exact .inl (.inl upd_same)
    have hd : ∀ d : Int, d = frI t b → CDivX t d ∧ CDivX b d := by
      intro d e
      subst e
      have h1 := Nat.lt_of_le_of_lt (frI_natAbs (t := t) hb) hs
      exact ⟨cdiv (frI_ne hb) h1 (by decide) (by decide), cdiv (frI_ne hb) h1 (by decide) (by decide)⟩
    refine ⟨_, rfl, _, rfl, _, _, rfl, _, rfl, _, _, rfl, rfl, _, rfl, ite2 (fun z => ?_) (fun z => ?_)⟩
    · have z1 : b < 0 := of_decide_eq_true z
      have e : -((Nat.gcd t.natAbs b.natAbs : Nat) : Int) = frI t b := by
        unfold frI
        rw [if_pos z1]
      refine ⟨_, rfl, _, rfl, _, rfl, _, rfl, _, _, rfl, rfl, (hd _ e).1, _, rfl, _, rfl, _, _, rfl, rfl, (hd _ e).2, (show 2 ≤ sizeLine by decide), fun p hp => last _ e p hp⟩
    · have z1 : ¬ b < 0 := fun y => z (decide_eq_true y)
      have e : ((Nat.gcd t.natAbs b.natAbs : Nat) : Int) = frI t b := by
        unfold frI
        rw [if_neg z1]
      refine ⟨_, rfl, _, rfl, _, _, rfl, rfl, (hd _ e).1, _, rfl, _, rfl, _, _, rfl, rfl, (hd _ e).2, (show 2 ≤ sizeLine by decide), fun p hp => last _ e p hp⟩
theorem cl_added (T : Txt K mg) : Cl P w K mg base CX0 2 "added" (spF2 K (fun x y => x + y) (fun x y => True)) := by
  have c_common_divisor := cl_common_divisor (P := P) (w := w) (base := base) T
  refine T.d_added.cl sc_added (fun vs H Q E h => ?_) (fun f cdv A outer s H vs Q E hr h => ?_)
  · obtain ⟨u, v, x, y, n, m, rfl, _⟩ := h
    rfl
  · obtain ⟨u, v, x, y, n, m, rfl, hu, hv, sx, sy, hnm, hc, q⟩ := h
    obtain ⟨a, rfl, h0⟩ := dF_at hu
    obtain ⟨b, rfl, h1⟩ := dF_at hv
    refine ⟨_, (pss_cons (ps_set (i := 2) sc_added.nd rfl (.inl rfl) (pe_cl c_common_divisor hr (by decide) (by rfl) (pa_cons (pe_ix ix_tup (pv 0) pe_int (fun _ _ => rfl)) (pa_cons (pe_ix ix_tup (pv 1) pe_int (fun _ _ => rfl)) pa_nil))))
      (pss_cons (ps_set (i := 3) sc_added.nd rfl (.inl rfl) (pe_op op_add (pe_op op_mulW (pe_ix ix_tup (pv 0) pe_int (fun _ _ => rfl)) (pe_op op_fdivX (pe_ix ix_tup (pv 1) pe_int (fun _ _ => rfl)) (pv 2))) (pe_op op_mulW (pe_ix ix_tup (pv 1) pe_int (fun _ _ => rfl)) (pe_op op_fdivX (pe_ix ix_tup (pv 0) pe_int (fun _ _ => rfl)) (pv 2)))))
      (pss_cons (ps_set (i := 4) sc_added.nd rfl (.inl rfl) (pe_cl c_common_divisor hr (by decide) (by rfl) (pa_cons (pv 3) (pa_cons (pv 2) pa_nil))))
      (pss_one (ps_ret (pe_tup (pa_cons (pe_op op_fdivX (pv 3) (pv 4)) (pa_cons (pe_op op_mulW (pe_op op_fdivX (pe_ix ix_tup (pv 0) pe_int (fun _ _ => rfl)) (pv 2)) (pe_op op_fdivX (pe_ix ix_tup (pv 1) pe_int (fun _ _ => rfl)) (pv 4))) pa_nil)))))))), ?_⟩
    have g0 := sG_pos x y
    have d0 := sD_pos x y
    have gn : ((sG x y : Nat) : Int).natAbs < 2 ^ n := Nat.lt_of_le_of_lt (sG_le x y) sx.den
    have dn : ((sD x y : Nat) : Int).natAbs < 2 ^ n := Nat.lt_of_le_of_lt (sD_le x y) sx.den
    have cg : ∀ i : Int, CDivX i ((sG x y : Nat) : Int) := fun i => cdiv (by omega) gn sx.pos (by omega)
    have cd : ∀ i : Int, CDivX i ((sD x y : Nat) : Int) := fun i => cdiv (by omega) dn sx.pos (by omega)
    have m1 : CMulW x.num (((y.den : Nat) : Int).fdiv ((sG x y : Nat) : Int)) := by
      rw [fdiv_nat]
      exact wide_mul sx.num (Nat.lt_of_le_of_lt (Nat.div_le_self _ _) sy.den) sx.pos sy.pos (by omega)
    have m2 : CMulW y.num (((x.den : Nat) : Int).fdiv ((sG x y : Nat) : Int)) := by
      rw [fdiv_nat]
      exact wide_mul sy.num (Nat.lt_of_le_of_lt (Nat.div_le_self _ _) sx.den) sy.pos sx.pos (by omega)
    have m3 : CMulW (((x.den : Nat) : Int).fdiv ((sG x y : Nat) : Int)) (((y.den : Nat) : Int).fdiv ((sD x y : Nat) : Int)) := by
      rw [fdiv_nat, fdiv_nat]
      exact wide_mul (Nat.lt_of_le_of_lt (Nat.div_le_self _ _) sx.den) (Nat.lt_of_le_of_lt (Nat.div_le_self _ _) sy.den) sx.pos sy.pos (by omega)
    refine ⟨_, rfl, _, _, _, _, rfl, rfl, h0, atI_nat (j := 1) rfl, _, rfl, _, _, _, _, rfl, rfl, h1, atI_nat (j := 1) rfl, _, _, rfl, ?_⟩
    refine ⟨_, rfl, _, _, _, _, rfl, rfl, h0, atI_nat (j := 0) rfl, _, rfl, _, _, _, _, rfl, rfl, h1, atI_nat (j := 1) rfl, _, rfl, _, _, rfl, rfl, cg _, _, _, rfl, rfl, m1, _, rfl, _, _, _, _, rfl, rfl, h1, atI_nat (j := 0) rfl, _, rfl, _, _, _, _, rfl, rfl, h0, atI_nat (j := 1) rfl, _, rfl, _, _, rfl, rfl, cg _, _, _, rfl, rfl, m2, _, _, rfl, rfl, ?_⟩
    have e : x.num * ((y.den : Int).fdiv ((sG x y : Nat) : Int)) + y.num * ((x.den : Int).fdiv ((sG x y : Nat) : Int)) = sT x y := by
      rw [fdiv_nat, fdiv_nat]
      rfl
    refine ⟨.int (sT x y), ?_, .int ((sG x y : Nat) : Int), rfl, _, _, rfl, ?_⟩
    · exact congrArg (fun z => some (some (V.int z))) e
    refine ⟨.int (sT x y), congrArg (fun z => some (some (V.int z))) e, .int ((sD x y : Nat) : Int), rfl, _, _, rfl, rfl, cd _, _, rfl, _, _, _, _, rfl, rfl, h0, atI_nat (j := 1) rfl, .int ((sG x y : Nat) : Int), rfl, _, _, rfl, rfl, cg _, _, rfl, _, _, _, _, rfl, rfl, h1, atI_nat (j := 1) rfl, .int ((sD x y : Nat) : Int), rfl, _, _, rfl, rfl, cd _, _, _, rfl, rfl, m3, (show 2 ≤ sizeLine by decide), fun p hp => ?_⟩
    refine q _ _ (Same.new hp) (dF_mk ?_)
    rw [← sum_num, ← sum_den, ← fdiv_nat, ← fdiv_nat]
    exact .inl (.inl upd_same)
theorem cl_is_below (T : Txt K mg) : Cl P w K mg base CX0 1 "is_below" (spLow K) := by
  refine T.d_is_below.cl sc_is_below (fun vs H Q E h => ?_) (fun f cdv A outer s H vs Q E hr h => ?_)
  · obtain ⟨u, v, x, y, n, m, rfl, _⟩ := h
    rfl
  · obtain ⟨u, v, x, y, n, m, rfl, hu, hv, sx, sy, hnm, q⟩ := h
    obtain ⟨a, rfl, h0⟩ := dF_at hu
    obtain ⟨b, rfl, h1⟩ := dF_at hv
    refine ⟨_, (pss_one (ps_ret (pe_cmpR op_lt (pe_op op_mulW (pe_ix ix_tup (pv 0) pe_int (fun _ _ => rfl)) (pe_ix ix_tup (pv 1) pe_int (fun _ _ => rfl))) (pe_op op_mulW (pe_ix ix_tup (pv 1) pe_int (fun _ _ => rfl)) (pe_ix ix_tup (pv 0) pe_int (fun _ _ => rfl))) (nomark _)))), ?_⟩
    refine ⟨_, rfl, _, _, _, _, rfl, rfl, h0, atI_nat (j := 0) rfl, _, rfl, _, _, _, _, rfl, rfl, h1, atI_nat (j := 1) rfl, _, _, rfl, rfl, mnd sx sy hnm, _, rfl, _, _, _, _, rfl, rfl, h1, atI_nat (j := 0) rfl, _, rfl, _, _, _, _, rfl, rfl, h0, atI_nat (j := 1) rfl, _, _, rfl, rfl, mnd' sx sy hnm, _, _, rfl, rfl, ?_⟩
    show Q (.bl (decide (x.num * (y.den : Int) < y.num * (x.den : Int)))) H
    rw [lt_parts]
    exact q
theorem cl_read_number (T : Txt K mg) {c P0 C : Addr} (D : Dfc K mg "read_number" s_read_number ["word"] c) (TB : GxR.TabB base mg c P0) (e_BadTime : ExcT K mg "BadTime" C) : Cl P w K mg base (L2N.CX P w) 1 "read_number" (spNum P0 C) := by
  refine D.clXN sc_read_number (fun vs H Q E h => ?_) (fun f A outer s H vs Q E hr h => ?_)
  · obtain ⟨x, rfl, _⟩ := h
    rfl
  · obtain ⟨x, rfl, hl, tb, q, qE⟩ := h
    refine ⟨_, (pss_cons (ps_if (pt_not (pt_val (pe_allG hr (by rfl) T.m_all TB rfl ⟨rfl, rfl, by decide +kernel, rfl, rfl, noFree (by decide +kernel)⟩ (pv 0) (elt_in rfl rfl rfl T.c_FIGURES) (fun _ => rfl))))
        (pss_one (L2N.ps_raise rfl (L2N.takes_of rfl rfl rfl rfl) (L2N.pmk_own PySem.F.excBase_ValueError e_BadTime.x e_BadTime.g e_BadTime.k (raises_own e_BadTime.b e_BadTime.t) rfl)))
        pss_nil)
      (pss_cons (ps_if (PW.pt (pw_or (pt_cmpR op_eq (pv 0) pe_str (nomark _)) (pw_or1 (pt_cmpR op_gt (pe_callB call_len_str (by rfl) T.m_len (by decide +kernel) (pa_cons (pv 0) pa_nil)) (pe_gl (by rfl) T.c_MOST_FIGURES) (nomark _)))))
        (pss_one (L2N.ps_raise rfl (L2N.takes_of rfl rfl rfl rfl) (L2N.pmk_own PySem.F.excBase_ValueError e_BadTime.x e_BadTime.g e_BadTime.k (raises_own e_BadTime.b e_BadTime.t) rfl)))
        pss_nil)
      (pss_cons (ps_if (PW.pt (pw_and (pt_cmpR op_eq (pe_ix ix_str (pv 0) pe_int (fun _ _ => rfl)) pe_str (nomark _)) (pw_and1 (pt_cmpR op_ne (pv 0) pe_str (nomark _)))))
        (pss_one (L2N.ps_raise rfl (L2N.takes_of rfl rfl rfl rfl) (L2N.pmk_own PySem.F.excBase_ValueError e_BadTime.x e_BadTime.g e_BadTime.k (raises_own e_BadTime.b e_BadTime.t) rfl)))
        pss_nil)
      (pss_one (ps_ret (pe_callTy call_int_str (by rfl) T.m_int (by decide +kernel) (pa_cons (pv 0) pa_nil))))))), ?_⟩
    have lt := len_tl' x
    refine ⟨_, rfl, x, rfl, tb, fun H1 tbd => ?_⟩
    have t1 : Tb P0 H H1 := Tb.tabbed tbd
    have ea : ((tl x).all fun c => decide (c ∈ ("0123456789" : Str).cps.toList)) = (tl x).all dig := by
      congr 1
      funext c
      exact fig_dig c
    refine ⟨_, rfl, ?_⟩
    change if (!((tl x).all fun c => decide (c ∈ ("0123456789" : Str).cps.toList))) = true then _ else _
    rw [ea]
    by_cases c1 : (tl x).all dig = true
    · rw [c1]
      refine iteN rfl ?_
      refine ⟨_, rfl, rfl, _, rfl, ite2 (fun z => ?_) (fun z => ?_)⟩
      · have ex : x = Str.empty := V.str.inj (of_decide_eq_true z)
        refine qE ?_ _ t1
        rw [ex]
        rfl
      · have ne : (tl x) ≠ [] := fun e => z (by
          rw [show x = Str.empty from str_ext e]
          rfl)
        refine ⟨_, rfl, _, rfl, le1000 hl, _, _, rfl, rfl, _, rfl, ite2 (fun z => ?_) (fun z => ?_)⟩
        · have z : (9 : Int) < (x.length : Int) := of_decide_eq_true z
          refine qE ?_ _ t1
          unfold rdNum numOk
          rw [decide_eq_false (show ¬ (tl x).length ≤ 9 by omega)]
          simp
        · have z : ¬ (9 : Int) < (x.length : Int) := fun c => z (decide_eq_true c)
          obtain ⟨d, r, ed⟩ : ∃ d r, tl x = d :: r := by
            cases e : tl x with
            | nil => exact absurd e ne
            | cons d r => exact ⟨d, r, rfl⟩
          have base : ∀ b : Bool, (!(d == 48 && (d :: r) != [48])) = b → numOk (tl x) = b := fun b hb => by
            unfold numOk
            rw [c1, decide_eq_true (show (tl x).length ≤ 9 by omega), ed]
            show (true && true && true && !((some d == some 48) && (d :: r) != [48])) = b
            rw [← hb]
            simp
          have fin : numOk (tl x) = true → ∀ D : Ends, D.rt = Q → tRet (tCB (fun xs H Q => ∃ a n, xs = [.str a] ∧ PySem.intText? a = some n ∧ a.length ≤ 640 ∧ Q (.int n) H) (tCons (tVar 0) tNil)) D [some (.str x)] H1 := by
            intro ok D eD
            obtain ⟨n, en, n9, ev⟩ := num_of ok
            have ex : x = Str.ofString (toString ((n : Nat) : Int)) := str_ext (by rw [en]; exact (tl_sI n).symm)
            refine ⟨_, rfl, x, (n : Int), rfl, ?_, by omega, ?_⟩
            · rw [ex]
              exact TL.int_num (Nat.le_trans (TL.numL_len (k := 9) (by decide) n9) (by decide))
            · rw [eD]
              refine q _ ?_ _ t1
              unfold rdNum
              rw [if_pos ok, ev]
          refine ⟨_, rfl, _, _, d, rfl, rfl, le1000 hl, ?_, rfl, _, rfl, ?_⟩
          · exact atI_nat (j := 0) (by rw [show x.cps.toList = d :: r from ed]; rfl)
          by_cases c2 : d = 48
          · subst c2
            refine iteY (by decide) ?_
            refine ⟨_, rfl, rfl, _, rfl, ite2 (fun z => ?_) (fun z => ?_)⟩
            · refine qE ?_ _ t1
              unfold rdNum
              rw [base false ?_, if_neg Bool.false_ne_true]
              have : (48 :: r) ≠ [48] := fun e => by
                have ex : x = ("0" : Str) := str_ext (ed.trans e)
                rw [ex] at z
                exact absurd z (by decide)
              simp [this]
            · refine fin (base true ?_) _ rfl
              have ex : x = ("0" : Str) := by
                refine Decidable.byContradiction fun n => z ?_
                rw [decide_eq_false (fun e => n (V.str.inj e))]
                rfl
              have e2 : (48 :: r) = [48] := by rw [← ed, ex]; rfl
              rw [e2]
              rfl
          · refine iteN ?_ (iteN rfl ?_)
            · refine decide_eq_false fun e => c2 ?_
              have := congrArg (fun z : Str => z.cps.toList) (V.str.inj e)
              exact (List.cons.inj this).1
            · exact fin (base true (by simp [c2])) _ rfl
    · have c1 : (tl x).all dig = false := by
        cases h : (tl x).all dig with
        | false => rfl
        | true => exact absurd h c1
      rw [c1]
      refine iteY rfl ?_
      refine qE ?_ _ t1
      unfold rdNum numOk
      rw [c1]
      rfl
theorem part_len (x y : Str) {s : Nat} (ey : tl y = [s]) : (Txt.partition x y).1.length ≤ x.length ∧ (Txt.partition x y).2.2.length ≤ x.length := by
  rcases part_cases x y ey with ⟨_, e⟩ | ⟨a, b, e1, _, e⟩
  · rw [e]
    exact ⟨Nat.le_refl _, Nat.zero_le _⟩
  · rw [e, e1, slen, slen]
    dsimp only
    omega
theorem eqv_pair (q : Rat) (t b : Int) : PyData.eqv (dF q) (.tuple [.int t, .int b]) = (decide (q.num = t) && decide ((q.den : Int) = b)) := by
  show ((q.num == t) && (((q.den : Int) == b) && true)) = _
  rw [Bool.and_true]
  rfl
theorem cl_read_rest (T : Txt K mg) {c P0 C : Addr} (D : Dfc K mg "read_number" s_read_number ["word"] c) (TB : GxR.TabB base mg c P0) (e_BadTime : ExcT K mg "BadTime" C) : Cl P w K mg base (L2N.CX P w) 3 "read_rest" (spRst K P0 C) := by
  have c_read_number := cl_read_number (P := P) (w := w) (base := base) T D TB e_BadTime
  have c_made := cl_made (P := P) (w := w) (base := base) T
  obtain ⟨aN, g_NOUGHT, hN⟩ := T.c_NOUGHT
  refine T.d_read_rest.clXN sc_read_rest (fun vs H Q E h => ?_) (fun f cdv A outer s H vs Q E hr h => ?_)
  · obtain ⟨x, y, rfl, _⟩ := h
    rfl
  · obtain ⟨x, y, rfl, hl, tb, q, qE⟩ := h
    refine ⟨_, (pss_cons (ps_if (pt_cmpR op_eq (pv 0) pe_str (nomark _))
        (pss_one (ps_ret (pe_gl (by rfl) g_NOUGHT)))
        pss_nil)
      (pss_cons (ps_asg (pe_partition (pv 1) pe_str) (pg_tup rfl (pgs_cons (pg_name (i := 2) sc_read_rest.nd rfl (.inl rfl)) (pgs_cons (pg_name (i := 3) sc_read_rest.nd rfl (.inl rfl)) (pgs_cons (pg_name (i := 4) sc_read_rest.nd rfl (.inl rfl)) pgs_nil)))))
      (pss_cons (ps_set (i := 5) sc_read_rest.nd rfl (.inl rfl) (pe_clSN c_read_number hr (by decide) (by rfl) (L2N.takes_of rfl rfl rfl rfl) (pa_cons (pv 2) pa_nil)))
      (pss_cons (ps_set (i := 6) sc_read_rest.nd rfl (.inl rfl) (pe_clSN c_read_number hr (by decide) (by rfl) (L2N.takes_of rfl rfl rfl rfl) (pa_cons (pv 4) pa_nil)))
      (pss_cons (ps_if (PW.pt (pw_or (pt_cmpR op_eq (pv 5) pe_int (nomark _)) (pw_or1 (pt_cmpR op_ge (pv 5) (pv 6) (nomark _)))))
        (pss_one (L2N.ps_raise rfl (L2N.takes_of rfl rfl rfl rfl) (L2N.pmk_own PySem.F.excBase_ValueError e_BadTime.x e_BadTime.g e_BadTime.k (raises_own e_BadTime.b e_BadTime.t) rfl)))
        pss_nil)
      (pss_cons (ps_if (pt_cmpR (op_neD hr.units) (pe_cl c_made hr (by decide) (by rfl) (pa_cons (pv 5) (pa_cons (pv 6) pa_nil))) (pe_tup (pa_cons (pv 5) (pa_cons (pv 6) pa_nil))) (nomark _))
        (pss_one (L2N.ps_raise rfl (L2N.takes_of rfl rfl rfl rfl) (L2N.pmk_own PySem.F.excBase_ValueError e_BadTime.x e_BadTime.g e_BadTime.k (raises_own e_BadTime.b e_BadTime.t) rfl)))
        pss_nil)
      (pss_one (ps_ret (pe_tup (pa_cons (pv 5) (pa_cons (pv 6) pa_nil))))))))))), ?_⟩
    refine ⟨_, rfl, rfl, _, rfl, ite2 (fun z => ?_) (fun z => ?_)⟩
    · have ex : x = Str.empty := V.str.inj (of_decide_eq_true z)
      refine q 0 ?_ _ _ (Tb.refl tb) (dF_mk (hN H))
      unfold rdRest
      rw [if_pos ex]
    · have ex : ¬ x = Str.empty := fun e => z (by rw [e]; rfl)
      have pl := part_len y "/" (s := 47) rfl
      have er : rdRest x y = (match rdNum (Txt.partition y "/").1, rdNum (Txt.partition y "/").2.2 with
        | some t, some b => if t = 0 ∨ b ≤ t then none else if (Rat.divInt t b).num = t ∧ ((Rat.divInt t b).den : Int) = b then some (Rat.divInt t b) else none
        | _, _ => none) := by
        unfold rdRest
        exact if_neg ex
      refine ⟨_, rfl, ⟨_, rfl⟩, _, _, rfl, rfl, rfl, le1000 hl, fun p hp => ?_⟩
      generalize Txt.partition y "/" = pr at pl er ⊢
      have t1 : Tb P0 H (upd H p (.tup [.str pr.1, .str pr.2.1, .str pr.2.2])) := Tb.same tb (Same.new hp)
      refine ⟨p, _, rfl, .inl (.inl upd_same), rfl, _, _, rfl, _, _, rfl, _, _, rfl, rfl, ?_⟩
      generalize upd H p (.tup [.str pr.1, .str pr.2.1, .str pr.2.2]) = H1 at t1 ⊢
      refine ⟨_, rfl, pr.1, rfl, by omega, t1.1, fun t ht H2 t2 => ?_, fun hn H2 t2 => qE (by rw [er, hn]) _ (t1.trans t2)⟩
      have t12 := t1.trans t2
      refine ⟨_, rfl, pr.2.2, rfl, by omega, t12.1, fun b hb H3 t3 => ?_, fun hn H3 t3 => qE (by rw [er, ht, hn]) _ (t12.trans t3)⟩
      have t13 := t12.trans t3
      rw [ht, hb] at er
      dsimp only at er
      obtain ⟨_, ta0, ta1⟩ := rdNum_some ht
      obtain ⟨_, tb0, tb1⟩ := rdNum_some hb
      refine ⟨_, rfl, rfl, _, rfl, ?_⟩
      by_cases h0 : t = 0
      · refine iteY (decide_eq_true (by rw [h0])) (iteY rfl ?_)
        exact qE (by rw [er, if_pos (.inl h0)]) _ t13
      · refine iteN (decide_eq_false fun e => h0 (V.int.inj e)) ?_
        refine ⟨_, rfl, _, rfl, _, _, rfl, rfl, _, rfl, ite2 (fun z => ?_) (fun z => ?_)⟩
        · exact qE (by rw [er, if_pos (.inr (of_decide_eq_true z))]) _ t13
        · have hbt : ¬ b ≤ t := fun c => z (decide_eq_true c)
          rw [if_neg (fun c => c.elim h0 hbt)] at er
          refine ⟨_, rfl, _, rfl, t, b, rfl, by omega, up9 (n := 30) (by omega) (by decide), fun H4 z4 s4 d4 => ?_⟩
          refine ⟨_, rfl, _, rfl, (show 2 ≤ sizeLine by decide), fun p2 hp2 => ?_⟩
          have s5 := Same.new (o := .tup [.int t, .int b]) hp2
          have t15 := t13.trans (Tb.same t13.1 (s4.trans s5))
          have d5 := dp_mono s5 _ _ d4
          have e5 : Dp K (upd H4 p2 (.tup [.int t, .int b])) (.ref p2) (.tuple [.int t, .int b]) := .tup (.inl (.inl upd_same)) (.cons (.int _) (.cons (.int _) .nil))
          generalize upd H4 p2 (.tup [.int t, .int b]) = H5 at t15 d5 e5 ⊢
          refine ⟨_, _, d5, e5, rfl, rfl, _, rfl, ?_⟩
          rw [eqv_pair]
          by_cases c : (Rat.divInt t b).num = t ∧ ((Rat.divInt t b).den : Int) = b
          · rw [decide_eq_true c.1, decide_eq_true c.2]
            refine iteN rfl ?_
            rw [if_pos c] at er
            refine ⟨_, rfl, _, rfl, (show 2 ≤ sizeLine by decide), fun p3 hp3 => ?_⟩
            refine q _ er _ _ (t15.trans (Tb.same t15.1 (Same.new hp3))) (dF_mk ?_)
            rw [c.1, c.2]
            exact .inl (.inl upd_same)
          · rw [if_neg c] at er
            have e : (!(decide ((Rat.divInt t b).num = t) && decide (((Rat.divInt t b).den : Int) = b))) = true := by
              by_cases c1 : (Rat.divInt t b).num = t
              · rw [decide_eq_true c1, decide_eq_false (fun c2 => c ⟨c1, c2⟩)]
                rfl
              · rw [decide_eq_false c1]
                rfl
            rw [e]
            exact iteY rfl (qE er _ t15)
theorem rest_sz {x y : Str} {q : Rat} (h : rdRest x y = some q) : Sz 30 q := by
  rcases rest_some h with ⟨_, e⟩ | ⟨t, b, _, h1, h2, h3, _, e⟩
  · rw [e]
    exact ⟨by decide, by decide⟩
  · rw [e]
    exact sz_divInt (by omega) (by omega) (by omega)
theorem cl_read_mixed (T : Txt K mg) {c P0 C : Addr} (D : Dfc K mg "read_number" s_read_number ["word"] c) (TB : GxR.TabB base mg c P0) (e_BadTime : ExcT K mg "BadTime" C) : Cl P w K mg base (L2N.CX P w) 4 "read_mixed" (spMixed K P0 C) := by
  have c_read_number := cl_read_number (P := P) (w := w) (base := base) T D TB e_BadTime
  have c_read_rest := cl_read_rest (P := P) (w := w) (base := base) T D TB e_BadTime
  have c_added := cl_added (P := P) (w := w) (base := base) T
  refine T.d_read_mixed.clXN sc_read_mixed (fun vs H Q E h => ?_) (fun f cdv A outer s H vs Q E hr h => ?_)
  · obtain ⟨x, rfl, _⟩ := h
    rfl
  · obtain ⟨x, rfl, hl, tb, q, qE⟩ := h
    refine ⟨_, (pss_cons (ps_asg (pe_partition (pv 0) pe_str) (pg_tup rfl (pgs_cons (pg_name (i := 1) sc_read_mixed.nd rfl (.inl rfl)) (pgs_cons (pg_name (i := 2) sc_read_mixed.nd rfl (.inl rfl)) (pgs_cons (pg_name (i := 3) sc_read_mixed.nd rfl (.inl rfl)) pgs_nil)))))
      (pss_one (ps_ret (pe_cl c_added hr (by decide) (by rfl) (pa_cons (pe_tup (pa_cons (pe_clSN c_read_number hr (by decide) (by rfl) (L2N.takes_of rfl rfl rfl rfl) (pa_cons (pv 1) pa_nil)) (pa_cons pe_int pa_nil))) (pa_cons (pe_clSN c_read_rest hr (by decide) (by rfl) (L2N.takes_of rfl rfl rfl rfl) (pa_cons (pv 2) (pa_cons (pv 3) pa_nil))) pa_nil)))))), ?_⟩
    have pl := part_len x " " (s := 32) rfl
    have er : rdMixed x = (match rdNum (Txt.partition x " ").1 with
      | none => none
      | some n => (rdRest (Txt.partition x " ").2.1 (Txt.partition x " ").2.2).map fun y => (n : Rat) + y) := rfl
    refine ⟨_, rfl, ⟨_, rfl⟩, _, _, rfl, rfl, rfl, le1000 hl, fun p hp => ?_⟩
    generalize Txt.partition x " " = pr at pl er ⊢
    have t1 : Tb P0 H (upd H p (.tup [.str pr.1, .str pr.2.1, .str pr.2.2])) := Tb.same tb (Same.new hp)
    refine ⟨p, _, rfl, .inl (.inl upd_same), rfl, _, _, rfl, _, _, rfl, _, _, rfl, rfl, ?_⟩
    generalize upd H p (.tup [.str pr.1, .str pr.2.1, .str pr.2.2]) = H1 at t1 ⊢
    refine ⟨_, rfl, pr.1, rfl, by omega, t1.1, fun n hn H2 t2 => ?_, fun hn H2 t2 => qE (by rw [er, hn]) _ (t1.trans t2)⟩
    have t12 := t1.trans t2
    rw [hn] at er
    dsimp only at er
    obtain ⟨_, n0, n1⟩ := rdNum_some hn
    refine ⟨(show 2 ≤ sizeLine by decide), fun p2 hp2 => ?_⟩
    have t13 := t12.trans (Tb.same t12.1 (Same.new (o := .tup [.int n, .int 1]) hp2))
    have d2 : Dp K (upd H2 p2 (.tup [.int n, .int 1])) (.ref p2) (dF (n : Rat)) := dF_mk (.inl (.inl upd_same))
    generalize upd H2 p2 (.tup [.int n, .int 1]) = H3 at t13 d2 ⊢
    refine ⟨_, rfl, _, rfl, pr.2.1, pr.2.2, rfl, by omega, t13.1, fun y hy H4 z4 t4 d4 => ?_, fun hy H4 t4 => qE (by rw [er, hy]; rfl) _ (t13.trans t4)⟩
    have t14 := t13.trans t4
    rw [hy] at er
    refine ⟨_, _, (n : Rat), y, 30, 30, rfl, tb_dF t13.1 t4 d2, d4, sz_int (by decide) (by omega), rest_sz hy, by decide, trivial, fun H5 z5 s5 d5 => ?_⟩
    exact q _ er _ _ (t14.trans (Tb.same t14.1 s5)) d5
def rdFrames (x : Str) : Option Rat := if Txt.endswith x "f" = true then rdMixed (cutS x none (some (-1))) else none
def spFrames (K : PySem.W.Frag) (P C : Addr) : Sp := fun vs H Q E => ∃ (x : Str), vs = [.str x] ∧ x.length ≤ 1000 ∧ GxR.TabG H P ∧ (∀ q, rdFrames x = some q → ∀ H' z, Tb P H H' → Dp K H' z (dF q) → Q z H') ∧ (rdFrames x = none → ∀ H', Tb P H H' → E (.ref C) none H')
theorem cl_read_frames (T : Txt K mg) {c P0 C : Addr} (D : Dfc K mg "read_number" s_read_number ["word"] c) (TB : GxR.TabB base mg c P0) (e_BadTime : ExcT K mg "BadTime" C) : Cl P w K mg base (L2N.CX P w) 5 "read_frames" (spFrames K P0 C) := by
  have c_read_mixed := cl_read_mixed (P := P) (w := w) (base := base) T D TB e_BadTime
  refine T.d_read_frames.clXN sc_read_frames (fun vs H Q E h => ?_) (fun f cdv A outer s H vs Q E hr h => ?_)
  · obtain ⟨x, rfl, _⟩ := h
    rfl
  · obtain ⟨x, rfl, hl, tb, q, qE⟩ := h
    refine ⟨_, (pss_cons (ps_if (pt_not (pt_val (pe_m1 PySem.F.slot_str_endswith PySem.F.type_str_endswith mt_endswith (pv 0) pe_str)))
        (pss_one (L2N.ps_raise rfl (L2N.takes_of rfl rfl rfl rfl) (L2N.pmk_own PySem.F.excBase_ValueError e_BadTime.x e_BadTime.g e_BadTime.k (raises_own e_BadTime.b e_BadTime.t) rfl)))
        pss_nil)
      (pss_one (ps_ret (pe_clSN c_read_mixed hr (by decide) (by rfl) (L2N.takes_of rfl rfl rfl rfl) (pa_cons (pe_slice sl_str (pv 0) po_none (po_some (pe_un un_neg pe_int))) pa_nil))))), ?_⟩
    have er : rdFrames x = if Txt.endswith x "f" = true then rdMixed (cutS x none (some (-1))) else none := rfl
    have lc : (cutS x none (some (-1))).length ≤ 1000 := Nat.le_trans (cutS_length _ _ _) hl
    refine ⟨_, rfl, ⟨_, rfl⟩, _, _, rfl, rfl, _, rfl, ite2 (fun z => ?_) (fun z => ?_)⟩
    · have z1 : ¬ Txt.endswith x "f" = true := fun y => by rw [y] at z; cases z
      rw [if_neg z1] at er
      exact qE er _ (Tb.refl tb)
    · have z1 : Txt.endswith x "f" = true := by
        cases e : Txt.endswith x "f" with
        | true => rfl
        | false =>
          rw [e] at z
          exact absurd rfl z
      rw [if_pos z1] at er
      refine ⟨_, rfl, _, rfl, _, rfl, _, rfl, le1000 hl, _, rfl, lc, tb, fun y hy H1 z1 t1 d1 => q _ (er.trans hy) _ _ t1 d1, fun hy H1 t1 => qE (er.trans hy) _ t1⟩
theorem Dfc.cl {x : Str} {st : Stmt} {N ps : List Str} {k : Nat} {sp : Sp} {c : Addr} (D : Dfc K mg x st ps c) (S : FnScope N ps (defScope st)) (len : ∀ vs H Q E, sp vs H Q E → vs.length = ps.length)
    (hbody : ∀ (f : Addr) (A : Around) (outer : List Env) (s : Shared) (H : Hp) (vs : List V) (Q : VK) (E : XK), Room k (A.deeper (envOfC x (defScope st) s.heap.objs.size f (.ref c))) → sp vs H Q E →
      ∃ t, PSs (cxOf CX0 P w K mg base N x (defScope st) f (.ref c) A outer s H E) (defBody st) t ∧ t { nx := fun _ H' => Q .non H', rt := Q } (start N vs) H) : Cl P w K mg base CX0 (k + 1) x sp := by
  obtain ⟨f, oc, od, kV, doc, pm, an, ct, osl, lk, hcd, kp, g, b⟩ := D.ex
  exact ⟨f, _, ps, fn_of lk hcd S len fun A outer s H vs Q E hr hsp => hbody f A outer s H vs Q E hr hsp, g, kp, b⟩
def low26 (c : Nat) : Bool := decide (97 ≤ c) && decide (c ≤ 122)
def isWordM (x : Str) : Bool := decide (1 ≤ x.length) && decide (x.length ≤ 20) && (tl x).all low26
theorem let_low (c : Nat) : decide (c ∈ ("abcdefghijklmnopqrstuvwxyz" : Str).cps.toList) = low26 c := by
  show decide (c ∈ [97, 98, 99, 100, 101, 102, 103, 104, 105, 106, 107, 108, 109, 110, 111, 112, 113, 114, 115, 116, 117, 118, 119, 120, 121, 122]) = low26 c
  rw [Bool.eq_iff_iff, decide_eq_true_eq]
  unfold low26
  simp only [List.mem_cons, List.not_mem_nil, or_false, Bool.and_eq_true, decide_eq_true_eq]
  omega
def spIsWord (P : Addr) : Sp := fun vs H Q _ => ∃ x : Str, vs = [.str x] ∧ x.length ≤ 1000 ∧ GxR.TabG H P ∧ ∀ H', Tb P H H' → Q (.bl (isWordM x)) H'
theorem cl_is_word (T : Txt K mg) {c P1 : Addr} (D : Dfc K mg "is_word" s_is_word ["text"] c) (TB : GxR.TabB base mg c P1) : Cl P w K mg base CX0 1 "is_word" (spIsWord P1) := by
  refine D.cl sc_is_word (fun vs H Q E h => ?_) (fun f A outer s H vs Q E hr h => ?_)
  · obtain ⟨x, rfl, _⟩ := h
    rfl
  · obtain ⟨x, rfl, hl, tb, q⟩ := h
    refine ⟨_, (pss_one (ps_ret (pe_and (pe_chain op_le op_le pe_int (pe_callB call_len_str (by rfl) T.m_len (by decide +kernel) (pa_cons (pv 0) pa_nil)) (pe_gl (by rfl) T.c_MOST_LETTERS)) (pe_one (pe_allG hr (by rfl) T.m_all TB rfl ⟨rfl, rfl, by decide +kernel, rfl, rfl, noFree (by decide +kernel)⟩ (pv 0) (elt_in rfl rfl rfl T.c_LETTERS) (fun _ => rfl)))))), ?_⟩
    have q0 : isWordM x = false → Q (.bl false) H := fun e => by
      have := q H (Tb.refl tb)
      rw [e] at this
      exact this
    have lt := len_tl' x
    refine ⟨_, rfl, _, rfl, le1000 hl, _, _, rfl, rfl, _, rfl, ite2 (fun z => ?_) (fun z => ?_)⟩
    · have z : (1 : Int) ≤ (x.length : Int) := of_decide_eq_true z
      refine ⟨_, _, rfl, rfl, _, rfl, ite2 (fun z2 => ?_) (fun z2 => ?_)⟩
      · have z2 : (x.length : Int) ≤ 20 := of_decide_eq_true z2
        refine ⟨_, rfl, x, rfl, tb, fun H1 tbd => ?_⟩
        have ea : ((tl x).all fun c => decide (c ∈ ("abcdefghijklmnopqrstuvwxyz" : Str).cps.toList)) = isWordM x := by
          unfold isWordM
          rw [decide_eq_true (show 1 ≤ x.length by omega), decide_eq_true (show x.length ≤ 20 by omega), Bool.true_and, Bool.true_and]
          congr 1
          funext c
          exact let_low c
        have := q H1 (Tb.tabbed tbd)
        rw [← ea] at this
        exact this
      · have z2 : ¬ (x.length : Int) ≤ 20 := fun y => z2 (decide_eq_true y)
        refine q0 ?_
        unfold isWordM
        rw [decide_eq_false (show ¬ x.length ≤ 20 by omega), Bool.and_false, Bool.false_and]
    · have z : ¬ (1 : Int) ≤ (x.length : Int) := fun y => z (decide_eq_true y)
      refine ⟨_, rfl, iteN rfl (q0 ?_)⟩
      unfold isWordM
      rw [decide_eq_false (show ¬ 1 ≤ x.length by omega), Bool.false_and, Bool.false_and]
theorem cl_Lbegun (T : Txt K mg) : Cl P w K mg base CX0 1 "_law_begun" (spBegun K) := by
  refine T.d_Lbegun.cl sc_Lbegun (fun vs H Q E h => ?_) (fun f cdv A outer s H vs Q E hr h => ?_)
  · obtain ⟨i, j, rfl, _⟩ := h
    rfl
  · obtain ⟨a, ns, rfl, hS, q⟩ := h
    refine ⟨_, (pss_cons (ps_set (i := 1) sc_Lbegun.nd rfl (.inl rfl) pe_int)
      (pss_cons (ps_for PassesOwn.never rfl (pi_list (pv 0)) (pg_name (i := 2) sc_Lbegun.nd rfl (.inl rfl))
        (pss_one (ps_set (i := 1) sc_Lbegun.nd rfl (.inl rfl) (pe_op op_mod (pe_op op_add (pe_op op_add (pe_op op_mul (pv 1) pe_int) (pe_op op_mul (pv 2) pe_int)) pe_int) pe_int))))
      (pss_one (ps_ret (pe_lst (pa_cons (pe_callTy call_list_of (by rfl) T.m_list (by decide +kernel) (pa_cons (pv 0) pa_nil)) (pa_cons (pe_op op_mul (pv 1) (pe_callTy call_int1 (by rfl) T.m_int (by decide +kernel) (pa_cons (pe_cmpR op_gt (pe_callB call_len_seq (by rfl) T.m_len (by decide +kernel) (pa_cons (pv 0) pa_nil)) pe_int (nomark _)) pa_nil))) pa_nil))))))), ?_⟩
    refine ⟨_, rfl, a, rfl, ⟨_, hS⟩, for_list (K := K) (a := a) (xs := ns.map V.int) (fun i σ H' => ∃ (x : Int) (c : Option V), σ = [some (.ref a), some (.int x), c] ∧ H' = H) ⟨0, none, rfl, rfl⟩ (fun i σ H' _ h => ?_) (fun i x σ H' hx h => ?_) (fun σ H' h => ?_)⟩
    · obtain ⟨x, c, rfl, rfl⟩ := h
      exact hS
    · obtain ⟨y, c, rfl, rfl⟩ := h
      obtain ⟨z, hz, rfl⟩ : ∃ z : Int, z ∈ ns ∧ V.int z = x := by
        have := List.mem_of_getElem? hx
        exact List.mem_map.mp this
      refine ⟨_, rfl, _, _, rfl, rfl, .inr ⟨by decide, by decide⟩, _, rfl, _, _, rfl, rfl, .inr ⟨by decide, by decide⟩, _, _, rfl, rfl, _, _, rfl, rfl, _, _, rfl, rfl, (show (0 : Int) < 2147483647 by decide), _, _, rfl, rfl⟩
    · obtain ⟨y, c, rfl, rfl⟩ := h
      refine ⟨_, rfl, a, _, rfl, .inl hS, fun l hl => ?_⟩
      have hS2 : SqL K (upd H' l (.lst (ns.map V.int))) a (ns.map V.int) := (Same.new hl).seq hS
      refine ⟨_, rfl, _, rfl, a, _, rfl, .inl hS2, _, _, rfl, rfl, .inr ⟨_, rfl, _, _, rfl, rfl, .inr ?_, (show 2 ≤ sizeLine by decide), fun b hb => ?_⟩⟩
      · split <;> exact ⟨by decide, by decide⟩
      · refine q _ b l ((Same.new hl).trans (Same.new hb)) ((Same.new hl).free hb) hl ⟨fun e => ?_, ns, _, upd_same, ?_⟩
        · rw [e, upd_same] at hb
          cases hb
        · rw [upd_ne (fun e => ?_), upd_same]
          rw [← e, upd_same] at hb
          cases hb
theorem cl_Ltake (T : Txt K mg) : Cl P w K mg base CX0 1 "_law_take" (spTake K) := by
  refine T.d_Ltake.cl sc_Ltake (fun vs H Q E h => ?_) (fun f cdv A outer s H vs Q E hr h => ?_)
  · obtain ⟨b, l, m, rfl, _⟩ := h
    rfl
  · obtain ⟨b, l, m, rfl, B, m0, m1, q⟩ := h
    obtain ⟨xs, st, hb, hl⟩ := B.ex
    have ne := B.ne
    refine ⟨_, (pss_cons (ps_if (pt_cmpR (op_eqD hr.units) (pe_ix ix_list (pv 0) pe_int (fun _ _ => rfl)) (pe_lst pa_nil) (nomark _))
        (pss_cons (ps_asg (pe_op op_mod (pe_op op_mul (pe_ix ix_list (pv 0) pe_int (fun _ _ => rfl)) pe_int) pe_int) (pg_sub (pv 0) pe_int set_list))
      (pss_one (ps_ret (pe_op op_modN (pe_op op_fdiv (pe_ix ix_list (pv 0) pe_int (fun _ _ => rfl)) pe_int) (pv 1)))))
        pss_nil)
      (pss_cons (ps_set (i := 2) sc_Ltake.nd rfl (.inl rfl) (pe_ix ix_list (pe_ix ix_list (pv 0) pe_int (fun _ _ => rfl)) pe_int (fun _ _ => rfl)))
      (pss_cons (ps_asg (pe_op op_fdivX (pv 2) (pv 1)) (pg_sub (pe_ix ix_list (pv 0) pe_int (fun _ _ => rfl)) pe_int set_list))
      (pss_cons (ps_if (PW.pt (pw_or (pt_cmpR op_eq (pe_ix ix_list (pe_ix ix_list (pv 0) pe_int (fun _ _ => rfl)) pe_int (fun _ _ => rfl)) pe_int (nomark _)) (pw_or1 (pt_cmpR op_eq (pe_ix ix_list (pe_ix ix_list (pv 0) pe_int (fun _ _ => rfl)) pe_int (fun _ _ => rfl)) (pe_un un_neg pe_int) (nomark _)))))
        (pss_one (ps_expr (pe_bm PySem.F.plainAttrs_list PySem.F.slot_list_pop PySem.F.type_list_pop mt_popAt (pe_ix ix_list (pv 0) pe_int (fun _ _ => rfl)) (pa_cons pe_int pa_nil))))
        pss_nil)
      (pss_one (ps_ret (pe_op op_modN (pv 2) (pv 1)))))))), ?_⟩
    refine ⟨_, rfl, _, _, _, _, rfl, rfl, .inl (.inl hb), atI_nat (j := 0) rfl, Nat.zero_le _, fun o no => ?_⟩
    have sH : Same H (upd H o (.lst [])) := Same.new no
    have hb1 := sH _ _ hb
    have hl1 := sH _ _ hl
    have s0 : Same (hid b l H) (hid b l (upd H o (.lst []))) := Same.hid sH
    have he : SqL K (upd H o (.lst [])) o [] := .inl (.inl upd_same)
    generalize upd H o (.lst []) = H1 at hb1 hl1 s0 he ⊢
    refine ⟨.list (xs.map PyData.int), .list [], .lst (.inl (.inl hl1)) (dpa_ints xs), .lst he .nil, shaped_ints xs, rfl, _, rfl, ite2 (fun z => ?_) (fun z => ?_)⟩
    · refine ⟨_, rfl, _, _, _, _, rfl, rfl, .inl (.inl hb1), atI_nat (j := 1) rfl, _, _, rfl, rfl, .inr ⟨by decide, by decide⟩, _, _, rfl, rfl, (show (0 : Int) < 2147483647 by decide), _, rfl, _, _, _, 1, rfl, rfl, hb1, rfl, ?_⟩
      refine ⟨_, rfl, _, _, _, _, rfl, rfl, .inl (.inl upd_same), atI_nat (j := 1) rfl, _, _, rfl, rfl, ⟨by decide, by decide⟩, _, rfl, _, _, rfl, rfl, (by omega), ?_⟩
      refine q _ _ ?_ ⟨ne, xs, _, upd_same, ?_⟩ (fmod_rg m0).1 (fmod_rg m0).2
      · rw [hid_b]
        exact s0
      · rw [upd_ne ne.symm]
        exact hl1
    · cases xs with
      | nil => exact absurd rfl z
      | cons x r =>
        have fin : ∀ H', Same (hid b l H) (hid b l H') → Bx H' b l → Q (.int (x.fmod m)) H' := fun H' s1 B1 => q _ _ s1 B1 (fmod_rg m0).1 (fmod_rg m0).2
        refine ⟨_, rfl, _, _, _, _, rfl, rfl, .inl (.inl hb1), atI_nat (j := 0) rfl, _, _, _, _, rfl, rfl, .inl (.inl hl1), atI_nat (j := 0) rfl, ?_⟩
        refine ⟨_, rfl, _, rfl, _, _, rfl, rfl, cdiv (b := 30) (by omega) (by omega) (by decide) (by decide), _, rfl, _, _, _, _, rfl, rfl, .inl (.inl hb1), atI_nat (j := 0) rfl, _, _, _, 0, rfl, rfl, hl1, ixN0, ?_⟩
        have hb2 : (upd H1 l (.lst ((V.int (x.fdiv m)) :: r.map V.int))) b = some (.lst [.ref l, .int st]) := by
          rw [upd_ne ne]
          exact hb1
        have hl2 : (upd H1 l (.lst ((V.int (x.fdiv m)) :: r.map V.int))) l = some (.lst ((V.int (x.fdiv m)) :: r.map V.int)) := upd_same
        have s2 : Same (hid b l H) (hid b l (upd H1 l (.lst ((V.int (x.fdiv m)) :: r.map V.int)))) := by
          rw [hid_l]
          exact s0
        change tSeq _ _ _ _ (upd H1 l (.lst ((V.int (x.fdiv m)) :: r.map V.int)))
        generalize upd H1 l (.lst ((V.int (x.fdiv m)) :: r.map V.int)) = H2 at hb2 hl2 s2 ⊢
        have pop : ∀ D : Ends, D.nx [some (.ref b), some (.int m), some (.int x)] (upd H2 l (.lst (r.map V.int))) → tDrop (tBM K "list" rPopAt (tOp (rIxL K) (tVar 0) (tC (.int 0))) (tCons (tC (.int 0)) tNil)) D [some (.ref b), some (.int m), some (.int x)] H2 := by
          intro D hD
          exact ⟨_, rfl, _, _, _, _, rfl, rfl, .inl (.inl hb2), atI_nat (j := 0) rfl, .inl ⟨rfl, _, .inl (.inl hl2)⟩, l, _, 0, 0, _, rfl, rfl, hl2, by decide, by decide, (ixN_seq ixN0).1, rfl, hD⟩
        have fin2 : Q (.int (x.fmod m)) (upd H2 l (.lst (r.map V.int))) := by
          refine fin _ ?_ ⟨ne, r, st, ?_, upd_same⟩
          · rw [hid_l]
            exact s2
          · rw [upd_ne ne]
            exact hb2
        refine ⟨_, rfl, _, _, _, _, rfl, rfl, .inl (.inl hb2), atI_nat (j := 0) rfl, _, _, _, _, rfl, rfl, .inl (.inl hl2), atI_nat (j := 0) rfl, rfl, _, rfl, ite2 (fun z => ?_) (fun z => ?_)⟩
        · refine iteT (pop _ ?_)
          exact ⟨_, rfl, _, rfl, _, _, rfl, rfl, (by omega), fin2⟩
        · refine ⟨_, rfl, _, _, _, _, rfl, rfl, .inl (.inl hb2), atI_nat (j := 0) rfl, _, _, _, _, rfl, rfl, .inl (.inl hl2), atI_nat (j := 0) rfl, _, rfl, rfl, _, rfl, ite2 (fun z => ?_) (fun z => ?_)⟩
          · refine pop _ ?_
            exact ⟨_, rfl, _, rfl, _, _, rfl, rfl, (by omega), fin2⟩
          · exact ⟨_, rfl, _, rfl, _, _, rfl, rfl, (by omega), fin _ s2 ⟨ne, x.fdiv m :: r, st, hb2, hl2⟩⟩
theorem cl_Lfr (T : Txt K mg) : Cl P w K mg base CX0 1 "_law_fr" (spMade K) := by
  refine T.d_Lfr.cl sc_Lfr (fun vs H Q E h => ?_) (fun f cdv A outer s H vs Q E hr h => ?_)
  · obtain ⟨i, j, rfl, _⟩ := h
    rfl
  · obtain ⟨t, b, rfl, hb, hs, q⟩ := h
    refine ⟨_, (pss_cons (ps_set (i := 2) sc_Lfr.nd rfl (.inl rfl) (pe_callB call_abs (by rfl) T.m_abs (by decide +kernel) (pa_cons (pv 0) pa_nil)))
      (pss_cons (ps_set (i := 3) sc_Lfr.nd rfl (.inl rfl) (pe_callB call_abs (by rfl) T.m_abs (by decide +kernel) (pa_cons (pv 1) pa_nil)))
      (pss_cons (ps_while PassesOwn.never (pt_cmpR op_gt (pv 3) pe_int (nomark _))
        (pss_cons (ps_set (i := 4) sc_Lfr.nd rfl (.inl rfl) (pe_op op_modN (pv 2) (pv 3)))
      (pss_cons (ps_set (i := 2) sc_Lfr.nd rfl (.inl rfl) (pv 3))
      (pss_one (ps_set (i := 3) sc_Lfr.nd rfl (.inl rfl) (pv 4))))))
      (pss_cons (ps_if (pt_cmpR op_lt (pv 1) pe_int (nomark _))
        (pss_one (ps_set (i := 2) sc_Lfr.nd rfl (.inl rfl) (pe_op op_sub pe_int (pv 2))))
        pss_nil)
      (pss_one (ps_ret (pe_tup (pa_cons (pe_op op_fdivX (pv 0) (pv 2)) (pa_cons (pe_op op_fdivX (pv 1) (pv 2)) pa_nil))))))))), ?_⟩
    have last : ∀ d : Int, d = frI t b → ∀ p, H p = none → Q (.ref p) (upd H p (.tup [.int (t.fdiv d), .int (b.fdiv d)])) := by
      intro d e p hp
      subst e
      refine q _ _ (Same.new hp) (dF_mk ?_)
      rw [fr_num hb, fr_den hb]
      exact .inl (.inl upd_same)
    have hd : ∀ d : Int, d = frI t b → CDivX t d ∧ CDivX b d := by
      intro d e
      subst e
      have h1 := Nat.lt_of_le_of_lt (frI_natAbs (t := t) hb) hs
      exact ⟨cdiv (frI_ne hb) h1 (by decide) (by decide), cdiv (frI_ne hb) h1 (by decide) (by decide)⟩
    refine ⟨_, rfl, _, rfl, _, rfl, _, rfl, ?_⟩
    refine while_by (fun σ H' => ∃ (a c : Nat) (o : Option V), σ = [some (.int t), some (.int b), some (.int (a : Int)), some (.int (c : Int)), o] ∧ H' = H ∧ Nat.gcd a c = Nat.gcd t.natAbs b.natAbs) (fun σ _ => match σ with | [_, _, _, some (.int b), _] => b.natAbs | _ => 0) ?_ ?_ ?_
    · refine ⟨t.natAbs, b.natAbs, none, ?_, rfl, rfl⟩
      show [some (V.int t), some (V.int b), some (V.int (if t < 0 then -t else t)), some (V.int (if b < 0 then -b else b)), none] = _
      rw [abs_nat, abs_nat]
    · intro σ H' h
      obtain ⟨a, c, o, rfl, rfl, e⟩ := h
      refine ⟨_, rfl, _, _, rfl, rfl, _, rfl, ite2 (fun z => ?_) (fun z => ?_)⟩
      · have hc : 0 < c := by
          have := of_decide_eq_true z
          omega
        refine ⟨_, rfl, _, rfl, _, _, rfl, rfl, (by omega), _, rfl, _, rfl, ⟨c, a % c, some (V.int ((a : Int).fmod (c : Int))), ?_, rfl, ?_⟩, ?_⟩
        · show [some (V.int t), some (V.int b), some (V.int (c : Int)), some (V.int ((a : Int).fmod (c : Int))), some (V.int ((a : Int).fmod (c : Int)))] = _
          rw [fmod_nat]
        · rw [gcd_turn]
          exact e
        · show Int.natAbs (Int.fmod (a : Int) (c : Int)) < Int.natAbs (c : Int)
          rw [fmod_nat]
          have := Nat.mod_lt a hc
          omega
      · have hc : c = 0 := by
          have z2 : ¬ ((0 : Int) < (c : Int)) := fun y => z (decide_eq_true y)
          omega
        subst hc
        rw [Nat.gcd_zero_right] at e
        refine ⟨_, rfl, _, _, rfl, rfl, _, rfl, ite2 (fun z => ?_) (fun z => ?_)⟩
        · have z1 : b < 0 := of_decide_eq_true z
          have e : 0 - (a : Int) = frI t b := by
            unfold frI
            rw [if_pos z1, ← e]
            omega
          refine ⟨_, rfl, _, _, rfl, rfl, _, rfl, _, rfl, _, _, rfl, rfl, (hd _ e).1, _, rfl, _, rfl, _, _, rfl, rfl, (hd _ e).2, (show 2 ≤ sizeLine by decide), fun p hp => last _ e p hp⟩
        · have z1 : ¬ b < 0 := fun y => z (decide_eq_true y)
          have e : (a : Int) = frI t b := by
            unfold frI
            rw [if_neg z1, ← e]
          refine ⟨_, rfl, _, rfl, _, _, rfl, rfl, (hd _ e).1, _, rfl, _, rfl, _, _, rfl, rfl, (hd _ e).2, (show 2 ≤ sizeLine by decide), fun p hp => last _ e p hp⟩
    · intro σ H' Q1 Q2 h12 h
      obtain ⟨v, e, i, j, e1, e2, k, e3, h⟩ := h
      exact ⟨v, e, i, j, e1, e2, k, e3, h12 _ _ h⟩
theorem cl_Llow (T : Txt K mg) : Cl P w K mg base CX0 1 "_law_low" (spLow K) := by
  refine T.d_Llow.cl sc_Llow (fun vs H Q E h => ?_) (fun f cdv A outer s H vs Q E hr h => ?_)
  · obtain ⟨u, v, x, y, n, m, rfl, _⟩ := h
    rfl
  · obtain ⟨u, v, x, y, n, m, rfl, hu, hv, sx, sy, hnm, q⟩ := h
    obtain ⟨a, rfl, h0⟩ := dF_at hu
    obtain ⟨b, rfl, h1⟩ := dF_at hv
    refine ⟨_, (pss_one (ps_ret (pe_cmpR op_lt (pe_op op_mulW (pe_ix ix_tup (pv 0) pe_int (fun _ _ => rfl)) (pe_ix ix_tup (pv 1) pe_int (fun _ _ => rfl))) (pe_op op_mulW (pe_ix ix_tup (pv 1) pe_int (fun _ _ => rfl)) (pe_ix ix_tup (pv 0) pe_int (fun _ _ => rfl))) (nomark _)))), ?_⟩
    refine ⟨_, rfl, _, _, _, _, rfl, rfl, h0, atI_nat (j := 0) rfl, _, rfl, _, _, _, _, rfl, rfl, h1, atI_nat (j := 1) rfl, _, _, rfl, rfl, mnd sx sy hnm, _, rfl, _, _, _, _, rfl, rfl, h1, atI_nat (j := 0) rfl, _, rfl, _, _, _, _, rfl, rfl, h0, atI_nat (j := 1) rfl, _, _, rfl, rfl, mnd' sx sy hnm, _, _, rfl, rfl, ?_⟩
    show Q (.bl (decide (x.num * (y.den : Int) < y.num * (x.den : Int)))) H
    rw [lt_parts]
    exact q
theorem cl_Lsum (T : Txt K mg) : Cl P w K mg base CX0 2 "_law_sum" (spF2 K (fun x y => x + y) (fun x y => True)) := by
  have c_Lfr := cl_Lfr (P := P) (w := w) (base := base) T
  refine T.d_Lsum.cl sc_Lsum (fun vs H Q E h => ?_) (fun f cdv A outer s H vs Q E hr h => ?_)
  · obtain ⟨u, v, x, y, n, m, rfl, _⟩ := h
    rfl
  · obtain ⟨u, v, x, y, n, m, rfl, hu, hv, sx, sy, hnm, hc, q⟩ := h
    obtain ⟨a, rfl, h0⟩ := dF_at hu
    obtain ⟨b, rfl, h1⟩ := dF_at hv
    refine ⟨_, (pss_one (ps_ret (pe_cl c_Lfr hr (by decide) (by rfl) (pa_cons (pe_op op_add (pe_op op_mulW (pe_ix ix_tup (pv 0) pe_int (fun _ _ => rfl)) (pe_ix ix_tup (pv 1) pe_int (fun _ _ => rfl))) (pe_op op_mulW (pe_ix ix_tup (pv 1) pe_int (fun _ _ => rfl)) (pe_ix ix_tup (pv 0) pe_int (fun _ _ => rfl)))) (pa_cons (pe_op op_mulW (pe_ix ix_tup (pv 0) pe_int (fun _ _ => rfl)) (pe_ix ix_tup (pv 1) pe_int (fun _ _ => rfl))) pa_nil))))), ?_⟩
    refine ⟨_, rfl, _, _, _, _, rfl, rfl, h0, atI_nat (j := 0) rfl, _, rfl, _, _, _, _, rfl, rfl, h1, atI_nat (j := 1) rfl, _, _, rfl, rfl, mnd sx sy hnm, _, rfl, _, _, _, _, rfl, rfl, h1, atI_nat (j := 0) rfl, _, rfl, _, _, _, _, rfl, rfl, h0, atI_nat (j := 1) rfl, _, _, rfl, rfl, mnd' sx sy hnm, _, _, rfl, rfl, _, rfl, _, _, _, _, rfl, rfl, h0, atI_nat (j := 1) rfl, _, rfl, _, _, _, _, rfl, rfl, h1, atI_nat (j := 1) rfl, _, _, rfl, rfl, mdd sx sy hnm, _, _, rfl, ?_, ?_, fun H2 z s2 r2 => ?_⟩
    · exact den_mul_ne x y
    · exact up9 (mul_bits sx.den' sy.den') hnm
    · change Dp K H2 z (dF (Rat.divInt (x.num * (y.den : Int) + y.num * (x.den : Int)) ((x.den : Int) * (y.den : Int)))) at r2
      rw [add_parts] at r2
      exact q _ _ s2 r2
theorem cl_Lminus (T : Txt K mg) : Cl P w K mg base CX0 2 "_law_minus" (spF2 K (fun x y => x - y) (fun x y => True)) := by
  have c_Lfr := cl_Lfr (P := P) (w := w) (base := base) T
  refine T.d_Lminus.cl sc_Lminus (fun vs H Q E h => ?_) (fun f cdv A outer s H vs Q E hr h => ?_)
  · obtain ⟨u, v, x, y, n, m, rfl, _⟩ := h
    rfl
  · obtain ⟨u, v, x, y, n, m, rfl, hu, hv, sx, sy, hnm, hc, q⟩ := h
    obtain ⟨a, rfl, h0⟩ := dF_at hu
    obtain ⟨b, rfl, h1⟩ := dF_at hv
    refine ⟨_, (pss_one (ps_ret (pe_cl c_Lfr hr (by decide) (by rfl) (pa_cons (pe_op op_sub (pe_op op_mulW (pe_ix ix_tup (pv 0) pe_int (fun _ _ => rfl)) (pe_ix ix_tup (pv 1) pe_int (fun _ _ => rfl))) (pe_op op_mulW (pe_ix ix_tup (pv 1) pe_int (fun _ _ => rfl)) (pe_ix ix_tup (pv 0) pe_int (fun _ _ => rfl)))) (pa_cons (pe_op op_mulW (pe_ix ix_tup (pv 0) pe_int (fun _ _ => rfl)) (pe_ix ix_tup (pv 1) pe_int (fun _ _ => rfl))) pa_nil))))), ?_⟩
    refine ⟨_, rfl, _, _, _, _, rfl, rfl, h0, atI_nat (j := 0) rfl, _, rfl, _, _, _, _, rfl, rfl, h1, atI_nat (j := 1) rfl, _, _, rfl, rfl, mnd sx sy hnm, _, rfl, _, _, _, _, rfl, rfl, h1, atI_nat (j := 0) rfl, _, rfl, _, _, _, _, rfl, rfl, h0, atI_nat (j := 1) rfl, _, _, rfl, rfl, mnd' sx sy hnm, _, _, rfl, rfl, _, rfl, _, _, _, _, rfl, rfl, h0, atI_nat (j := 1) rfl, _, rfl, _, _, _, _, rfl, rfl, h1, atI_nat (j := 1) rfl, _, _, rfl, rfl, mdd sx sy hnm, _, _, rfl, ?_, ?_, fun H2 z s2 r2 => ?_⟩
    · exact den_mul_ne x y
    · exact up9 (mul_bits sx.den' sy.den') hnm
    · change Dp K H2 z (dF (Rat.divInt (x.num * (y.den : Int) - y.num * (x.den : Int)) ((x.den : Int) * (y.den : Int)))) at r2
      rw [sub_parts] at r2
      exact q _ _ s2 r2
theorem cl_Ltimes (T : Txt K mg) : Cl P w K mg base CX0 2 "_law_times" (spF2 K (fun x y => x * y) (fun x y => True)) := by
  have c_Lfr := cl_Lfr (P := P) (w := w) (base := base) T
  refine T.d_Ltimes.cl sc_Ltimes (fun vs H Q E h => ?_) (fun f cdv A outer s H vs Q E hr h => ?_)
  · obtain ⟨u, v, x, y, n, m, rfl, _⟩ := h
    rfl
  · obtain ⟨u, v, x, y, n, m, rfl, hu, hv, sx, sy, hnm, hc, q⟩ := h
    obtain ⟨a, rfl, h0⟩ := dF_at hu
    obtain ⟨b, rfl, h1⟩ := dF_at hv
    refine ⟨_, (pss_one (ps_ret (pe_cl c_Lfr hr (by decide) (by rfl) (pa_cons (pe_op op_mulW (pe_ix ix_tup (pv 0) pe_int (fun _ _ => rfl)) (pe_ix ix_tup (pv 1) pe_int (fun _ _ => rfl))) (pa_cons (pe_op op_mulW (pe_ix ix_tup (pv 0) pe_int (fun _ _ => rfl)) (pe_ix ix_tup (pv 1) pe_int (fun _ _ => rfl))) pa_nil))))), ?_⟩
    refine ⟨_, rfl, _, _, _, _, rfl, rfl, h0, atI_nat (j := 0) rfl, _, rfl, _, _, _, _, rfl, rfl, h1, atI_nat (j := 0) rfl, _, _, rfl, rfl, mnn sx sy hnm, _, rfl, _, _, _, _, rfl, rfl, h0, atI_nat (j := 1) rfl, _, rfl, _, _, _, _, rfl, rfl, h1, atI_nat (j := 1) rfl, _, _, rfl, rfl, mdd sx sy hnm, _, _, rfl, ?_, ?_, fun H2 z s2 r2 => ?_⟩
    · exact den_mul_ne x y
    · exact up9 (mul_bits sx.den' sy.den') hnm
    · change Dp K H2 z (dF (Rat.divInt (x.num * y.num) ((x.den : Int) * (y.den : Int)))) at r2
      rw [mul_parts] at r2
      exact q _ _ s2 r2
def spTime (K : PySem.W.Frag) : Sp := fun vs H Q _ => ∃ (b l : Addr) (m : Int), vs = [.ref b, .int m] ∧ Bx H b l ∧ 0 < m ∧ m ≤ 100000 ∧ ∀ H' v (x : Rat), Same (hid b l H) (hid b l H') → Bx H' b l → Dp K H' v (dF x) → Tm m x → Q v H'
theorem cl_Ltime (T : Txt K mg) : Cl P w K mg base CX0 2 "_law_time" (spTime K) := by
  have c_Ltake := cl_Ltake (P := P) (w := w) (base := base) T
  have c_Lfr := cl_Lfr (P := P) (w := w) (base := base) T
  refine T.d_Ltime.cl sc_Ltime (fun vs H Q E h => ?_) (fun f cdv A outer s H vs Q E hr h => ?_)
  · obtain ⟨b, l, m, rfl, _⟩ := h
    rfl
  · obtain ⟨b, l, m, rfl, B, m0, m1, q⟩ := h
    refine ⟨_, (pss_cons (ps_set (i := 2) sc_Ltime.nd rfl (.inl rfl) (pe_cl c_Ltake hr (by decide) (by rfl) (pa_cons (pv 0) (pa_cons (pv 1) pa_nil))))
      (pss_cons (ps_if (pt_cmpR op_eq (pe_cl c_Ltake hr (by decide) (by rfl) (pa_cons (pv 0) (pa_cons pe_int pa_nil))) pe_int (nomark _))
        (pss_one (ps_ret (pe_tup (pa_cons (pv 2) (pa_cons pe_int pa_nil)))))
        pss_nil)
      (pss_cons (ps_set (i := 3) sc_Ltime.nd rfl (.inl rfl) (pe_op op_add pe_int (pe_cl c_Ltake hr (by decide) (by rfl) (pa_cons (pv 0) (pa_cons (pe_ix ix_list (pe_lst (pa_cons pe_int (pa_cons pe_int pa_nil))) (pe_callTy call_int1 (by rfl) T.m_int (by decide +kernel) (pa_cons (pe_cmpR op_eq (pe_cl c_Ltake hr (by decide) (by rfl) (pa_cons (pv 0) (pa_cons pe_int pa_nil))) pe_int (nomark _)) pa_nil)) (fun _ _ => rfl)) pa_nil)))))
      (pss_one (ps_ret (pe_cl c_Lfr hr (by decide) (by rfl) (pa_cons (pv 2) (pa_cons (pv 3) pa_nil)))))))), ?_⟩
    refine ⟨_, rfl, _, rfl, _, l, _, rfl, B, m0, by omega, fun H1 r1 s1 B1 a1 b1 => ?_⟩
    refine ⟨_, rfl, _, l, _, rfl, B1, by decide, by decide, fun H2 r2 s2 B2 a2 b2 => ?_⟩
    refine ⟨rfl, _, rfl, ite2 (fun z => ?_) (fun z => ?_)⟩
    · refine ⟨_, rfl, (show 2 ≤ sizeLine by decide), fun p hp => ?_⟩
      have s3 := Same.new (o := .tup [.int r1, .int 1]) hp
      exact q _ _ (r1 : Rat) ((s1.trans s2).trans (Same.hid s3)) (B2.mono s3) (dF_mk (.inl (.inl upd_same))) (tm_int a1 b1 m1)
    · refine ⟨_, rfl, (show 2 ≤ sizeLine by decide), fun p hp => ?_⟩
      have s3 := Same.new (o := .lst [.int 6, .int 30]) hp
      have B3 := B2.mono s3
      have hP : hid b l (upd H2 p (.lst [.int 6, .int 30])) p = some (.lst [.int 6, .int 30]) := hid_at B2 hp
      refine ⟨_, rfl, _, l, _, rfl, B3, by decide, by decide, fun H4 r4 s4 B4 a4 b4 => ?_⟩
      have hP4 : SqL K H4 p [.int 6, .int 30] := .inl (.inl (hid_same _ _ (s4 _ _ hP)))
      refine ⟨rfl, .inr ⟨_, rfl, p, _, _, .int (if decide (V.int r4 = V.int 1) = true then 30 else 6), rfl, rfl, hP4, ?_, ?_⟩⟩
      · by_cases c : decide (V.int r4 = V.int 1) = true
        · rw [if_pos c, if_pos c]
          exact atI_nat (j := 1) rfl
        · rw [if_neg c, if_neg c]
          exact atI_nat (j := 0) rfl
      have hk : (if decide (V.int r4 = V.int 1) = true then (30 : Int) else 6) = 30 ∨ (if decide (V.int r4 = V.int 1) = true then (30 : Int) else 6) = 6 := by
        by_cases c : decide (V.int r4 = V.int 1) = true
        · rw [if_pos c]
          exact .inl rfl
        · rw [if_neg c]
          exact .inr rfl
      generalize (if decide (V.int r4 = V.int 1) = true then (30 : Int) else 6) = k at hk ⊢
      refine ⟨_, l, _, rfl, B4, by omega, by omega, fun H5 r5 s5 B5 a5 b5 => ?_⟩
      refine ⟨_, _, rfl, rfl, _, rfl, _, rfl, _, _, rfl, (by omega), p20 (by omega), fun H6 z6 s6 d6 => ?_⟩
      exact q _ _ _ ((((s1.trans s2).trans (Same.hid s3)).trans s4).trans (s5.trans (Same.hid s6))) (B5.mono s6) d6 (tm_frac a1 b1 m1 (by omega) (by omega))
theorem mem_snoc {α : Type} {P : α → Prop} {xs : List α} {x : α} (h : ∀ s ∈ xs, P s) (hx : P x) : ∀ s ∈ xs ++ [x], P s := by
  intro s hs
  rcases List.mem_append.mp hs with h1 | h1
  · exact h s h1
  · rw [List.mem_singleton.mp h1]
    exact hx
theorem hid_upd {b l r : Addr} {H : Hp} {o : HO} {ys : List V} (h : hid b l H r = some (.lst ys)) : hid b l (upd H r o) r = some o ∧ ∀ G, (∀ a x, a ≠ r → hid b l G a = some x → hid b l H a = some x) → G r = none → Same (hid b l G) (hid b l (upd H r o)) := by
  have hr : ¬ (r = b ∨ r = l) := fun z => by
    unfold hid at h
    rw [if_pos z] at h
    cases h
  refine ⟨by unfold hid; rw [if_neg hr, upd_same], fun G k hG a x ha => ?_⟩
  have har : a ≠ r := fun e => by
    unfold hid at ha
    rw [e, if_neg hr, hG] at ha
    cases ha
  have := k a x har ha
  unfold hid at this ⊢
  split
  · rename_i z
    rw [if_pos z] at this
    cases this
  · rename_i z
    rw [if_neg z] at this
    rw [upd_ne har]
    exact this
theorem bx_upd {b l r : Addr} {H : Hp} {o : HO} {ys : List V} (B : Bx H b l) (h : hid b l H r = some (.lst ys)) : Bx (upd H r o) b l := by
  have hr : ¬ (r = b ∨ r = l) := fun z => by
    unfold hid at h
    rw [if_pos z] at h
    cases h
  obtain ⟨xs, st, h1, h2⟩ := B.ex
  exact ⟨B.ne, xs, st, by rw [upd_ne (fun e => hr (.inl e.symm))]; exact h1, by rw [upd_ne (fun e => hr (.inr e.symm))]; exact h2⟩
/-! ### heaps with some addresses left out -/
def hidL (S : List Addr) (H : Hp) : Hp := fun a => if a ∈ S then none else H a
theorem hidL_same {S : List Addr} {H : Hp} : Same (hidL S H) H := fun a o h => by
  unfold hidL at h
  split at h
  · cases h
  · exact h
theorem hidL_at {S : List Addr} {H : Hp} {a : Addr} {o : HO} (h : a ∉ S) (e : H a = some o) : hidL S H a = some o := by
  unfold hidL
  rw [if_neg h]
  exact e
theorem hidL_ne {S : List Addr} {H : Hp} {a : Addr} {o : HO} (e : hidL S H a = some o) : a ∉ S ∧ H a = some o := by
  unfold hidL at e
  split at e
  · cases e
  · rename_i h
    exact ⟨h, e⟩
theorem Same.hidL {S : List Addr} {H H' : Hp} (s : Same H H') : Same (hidL S H) (hidL S H') := fun a o h => by
  obtain ⟨h1, h2⟩ := hidL_ne h
  exact hidL_at h1 (s _ _ h2)
theorem hidL_upd {S : List Addr} {H : Hp} {a : Addr} {o : HO} (h : a ∈ S) : R.hidL S (upd H a o) = R.hidL S H := by
  funext c
  unfold R.hidL
  by_cases e : c ∈ S
  · rw [if_pos e, if_pos e]
  · rw [if_neg e, if_neg e, upd_ne (fun z => e (by rw [z]; exact h))]
theorem hidL_more {S S' : List Addr} {H : Hp} (h : ∀ a ∈ S, a ∈ S') : Same (R.hidL S' H) (R.hidL S H) := fun a o e => by
  obtain ⟨h1, h2⟩ := hidL_ne e
  exact hidL_at (fun z => h1 (h _ z)) h2
theorem sub_hidL {S S' : List Addr} {H H' : Hp} (h : ∀ a ∈ S, a ∈ S') (s : Same (R.hidL S H) (R.hidL S H')) : Same (R.hidL S' H) (R.hidL S' H') := fun a o e => by
  obtain ⟨h1, h2⟩ := hidL_ne e
  exact hidL_at h1 (hidL_same _ _ (s _ _ (hidL_at (fun z => h1 (h _ z)) h2)))
theorem hid_hidL {S : List Addr} {b l : Addr} {H H' : Hp} (hb : b ∈ S) (hl : l ∈ S) (s : Same (hid b l H) (hid b l H')) : Same (R.hidL S H) (R.hidL S H') := fun a o e => by
  obtain ⟨h1, h2⟩ := hidL_ne e
  refine hidL_at h1 (hid_same _ _ (s a o ?_))
  unfold hid
  rw [if_neg, h2]
  rintro (z | z)
  · exact h1 (by rw [z]; exact hb)
  · exact h1 (by rw [z]; exact hl)
/-- what stands at an address is no tuple -/
def NoT (H : Hp) (a : Addr) : Prop := ∃ u, H a = some u ∧ (∀ zs, u ≠ .tup zs) ∧ ∀ o zs, u ≠ .frz o (.tup zs)
theorem NoT.lst {H : Hp} {a : Addr} {xs : List V} (h : H a = some (.lst xs)) : NoT H a := ⟨_, h, fun _ z => (nomatch z), fun _ _ z => (nomatch z)⟩
theorem NoT.ins {H : Hp} {a C dx : Addr} {fs : List (Str × V)} (h : H a = some (.ins C dx fs)) : NoT H a := ⟨_, h, fun _ z => (nomatch z), fun _ _ z => (nomatch z)⟩
theorem NoT.mono {H H' : Hp} {a : Addr} (h : NoT H a) (s : Same H H') : NoT H' a := let ⟨u, h1, h2, h3⟩ := h; ⟨u, s _ _ h1, h2, h3⟩
theorem hidL_tup {K : PySem.W.Frag} {S : List Addr} {a : Addr} {H : Hp} {xs : List V} (n : ∀ b ∈ S, NoT H b) (h : SqT K H a xs) : SqT K (R.hidL S H) a xs := by
  have key : ∀ o : HO, H a = some o → (∀ b, b ∈ S → a = b → False) → R.hidL S H a = some o := fun o ho hn => hidL_at (fun z => hn a z rfl) ho
  rcases h with (h | ⟨o, h⟩) | h
  · refine .inl (.inl (key _ h fun b hb e => ?_))
    obtain ⟨u, h1, h2, h3⟩ := n b hb
    rw [← e, h] at h1
    exact h2 xs (Option.some.inj h1).symm
  · refine .inl (.inr ⟨o, key _ h fun b hb e => ?_⟩)
    obtain ⟨u, h1, h2, h3⟩ := n b hb
    rw [← e, h] at h1
    exact h3 o xs (Option.some.inj h1).symm
  · exact .inr h
mutual
theorem dp_hidL {K : PySem.W.Frag} {S : List Addr} {H : Hp} (n : ∀ b ∈ S, NoT H b) : ∀ (d : PyData) (v : V), tupD d = true → Dp K H v d → Dp K (R.hidL S H) v d
  | .none, _, _, h => by cases h; exact .non
  | .bool _, _, _, h => by cases h; exact .bl _
  | .int _, _, _, h => by cases h; exact .int _
  | .str _, _, _, h => by cases h; exact .str _
  | .list ds, _, z, _ => by cases z
  | .tuple ds, _, z, h => by
    cases h with
    | tup hs ha => exact .tup (hidL_tup n hs) (dpa_hidL n ds _ z ha)
  | .dict _, _, z, _ => by cases z
theorem dpa_hidL {K : PySem.W.Frag} {S : List Addr} {H : Hp} (n : ∀ b ∈ S, NoT H b) : ∀ (ds : List PyData) (vs : List V), tupA ds = true → DpAll K H vs ds → DpAll K (R.hidL S H) vs ds
  | [], _, _, h => by cases h; exact .nil
  | d :: ds, _, z, h => by
    have z2 := Bool.and_eq_true_iff.mp (show (tupD d && tupA ds) = true from z)
    cases h with
    | cons h1 h2 => exact .cons (dp_hidL n d _ z2.1 h1) (dpa_hidL n ds _ z2.2 h2)
end
/-- a list of stretches beside what is left out -/
theorem show_hidL {K : PySem.W.Frag} {S : List Addr} {H : Hp} {p : Addr} {ys : List V} {xs : List St3} (n : ∀ b ∈ S, NoT H b) (np : p ∉ S) (hp : H p = some (.lst ys)) (da : DpAll K H ys (xs.map dS)) : Dp K (R.hidL S H) (.ref p) (dSh xs) :=
  .lst (.inl (.inl (hidL_at np hp))) (dpa_hidL n _ _ (tupA_dS _) da)
/-! ### cues on the heap -/
abbrev Wd := Str × Rat
abbrev Cue := Int × Rat × Rat × List Wd
def dW (w : Wd) : PyData := .tuple [.str w.1, dF w.2]
def dWs (ws : List Wd) : PyData := .list (ws.map dW)
def dC (c : Cue) : PyData := .tuple [.int c.1, dF c.2.1, dF c.2.2.1, dWs c.2.2.2]
def dCs (cs : List Cue) : PyData := .list (cs.map dC)
def dIS (x : Int × Str) : PyData := .tuple [.int x.1, .str x.2]
structure WordOk (s : Str) : Prop where
  l0 : 0 < s.length
  l20 : s.length ≤ 20
  abc : ∀ x ∈ s.cps.toList, 97 ≤ x ∧ x ≤ 122
structure CueOk (c : Cue) : Prop where
  tb : TB c.2.1
  te : TB c.2.2.1
  lt : c.2.1 < c.2.2.1
  wn : c.2.2.2.length ≤ 11
  ws : ∀ x ∈ c.2.2.2, WordOk x.1 ∧ TB x.2 ∧ c.2.1 ≤ x.2 ∧ x.2 < c.2.2.1
  ord : c.2.2.2.Pairwise fun x y => x.2 ≤ y.2
theorem dIS_le {x y : Int × Str} (h : PySem.W.dataLe false dIS x y = true) : x.1 ≤ y.1 := by
  rw [PySem.W.dataLe_eq] at h
  have h : (!PySem.W.dataLt (dIS y) (dIS x)) = true := h
  unfold dIS at h
  rw [PySem.W.dataLt_pair (by simp [PySem.W.alike]) (by simp [PySem.W.alike])] at h
  by_cases c : x.1 ≤ y.1
  · exact c
  · exfalso
    have n : ¬ (y.1 = x.1) := by omega
    have e : PyData.eqv (.int y.1) (.int x.1) = false := by
      show (y.1 == x.1) = false
      exact beq_eq_false_iff_ne.mpr n
    rw [e, if_neg (by decide)] at h
    have e2 : PySem.W.dataLt (.int y.1) (.int x.1) = decide (y.1 < x.1) := by
      have := congrFun (congrFun (PySem.W.dataLe_int (β := Int) id) x.1) y.1
      rw [PySem.W.dataLe_eq] at this
      have this : (!PySem.W.dataLt (.int y.1) (.int x.1)) = decide (x.1 ≤ y.1) := this
      rw [decide_eq_false c] at this
      rw [decide_eq_true (by omega)]
      cases hh : PySem.W.dataLt (.int y.1) (.int x.1) with
      | true => rfl
      | false =>
        rw [hh] at this
        cases this
    rw [e2, decide_eq_true (by omega)] at h
    cases h
theorem dIS_alike (bs : List (Int × Str)) : PySem.W.AllAlike (bs.map dIS) := PySem.W.AllAlike.of fun _ _ => by simp [PySem.W.alike, PySem.W.alikeAll, dIS]
theorem dIS_sortable (bs : List (Int × Str)) : PySem.W.Sortable (bs.map dIS) := PySem.W.Sortable.tuples fun _ => ⟨_, _, rfl⟩
theorem dIS_total : PySem.W.TotalLe (PySem.W.dataLe false dIS) := PySem.W.sortLe_total _ _ _
/-- the words of a drawn cue -/
def cWords (b t : Rat) (bs : List (Int × Str)) : List Wd := (bs.mergeSort (PySem.W.dataLe false dIS)).map fun x => (x.2, cAt b t x.1)
theorem cue_ok {n : Int} {b t : Rat} {bs : List (Int × Str)} (h : CueB b t) (hb : ∀ x ∈ bs, 0 ≤ x.1 ∧ x.1 ≤ 10 ∧ WordOk x.2) (hl : bs.length ≤ 11) : CueOk (n, b, cEnd b t, cWords b t bs) := by
  have pm := List.mergeSort_perm bs (PySem.W.dataLe false dIS)
  refine ⟨h.tb, h.te, h.lt, ?_, fun x hx => ?_, ?_⟩
  · show (cWords b t bs).length ≤ 11
    unfold cWords
    rw [List.length_map, pm.length_eq]
    exact hl
  · obtain ⟨y, hy, rfl⟩ := List.mem_map.mp hx
    obtain ⟨h0, h1, h2⟩ := hb y (pm.mem_iff.mp hy)
    obtain ⟨r0, r1, r2⟩ := cAt_rg h h0 h1
    exact ⟨h2, r2, r0, r1⟩
  · show (cWords b t bs).Pairwise _
    unfold cWords
    rw [List.pairwise_map]
    exact (PySem.W.sort_pairwise dIS_total bs).imp fun hxy => cAt_le h (dIS_le hxy)
/-! parts of what stands on the heap -/
theorem dW_at {K : PySem.W.Frag} {H : Hp} {v : V} {x : Wd} (h : Dp K H v (dW x)) : ∃ a v2, v = .ref a ∧ SqT K H a [.str x.1, v2] ∧ Dp K H v2 (dF x.2) := by
  unfold dW at h
  cases h with
  | tup hs ha =>
    cases ha with
    | cons h1 h2 =>
      cases h1
      cases h2 with
      | cons h3 h4 =>
        cases h4
        exact ⟨_, _, rfl, hs, h3⟩
theorem dIS_at {K : PySem.W.Frag} {H : Hp} {v : V} {x : Int × Str} (h : Dp K H v (dIS x)) : ∃ a, v = .ref a ∧ SqT K H a [.int x.1, .str x.2] := by
  unfold dIS at h
  cases h with
  | tup hs ha =>
    cases ha with
    | cons h1 h2 =>
      cases h1
      cases h2 with
      | cons h3 h4 =>
        cases h3
        cases h4
        exact ⟨_, rfl, hs⟩
theorem dC_at {K : PySem.W.Frag} {H : Hp} {v : V} {c : Cue} (h : Dp K H v (dC c)) : ∃ a v1 v2 al vs, v = .ref a ∧ SqT K H a [.int c.1, v1, v2, .ref al] ∧ Dp K H v1 (dF c.2.1) ∧ Dp K H v2 (dF c.2.2.1) ∧ SqL K H al vs ∧ DpAll K H vs (c.2.2.2.map dW) := by
  unfold dC dWs at h
  cases h with
  | tup hs ha =>
    cases ha with
    | cons h1 h2 =>
      cases h1
      cases h2 with
      | cons h3 h4 =>
        cases h4 with
        | cons h5 h6 =>
          cases h6 with
          | cons h7 h8 =>
            cases h8
            cases h7 with
            | lst hl hd => exact ⟨_, _, _, _, _, rfl, hs, h3, h5, hl, hd⟩
theorem dW_mk {K : PySem.W.Frag} {H : Hp} {p : Addr} {v2 : V} {x : Wd} (h : SqT K H p [.str x.1, v2]) (h2 : Dp K H v2 (dF x.2)) : Dp K H (.ref p) (dW x) := .tup h (.cons (.str _) (.cons h2 .nil))
theorem dC_mk {K : PySem.W.Frag} {H : Hp} {p al : Addr} {v1 v2 : V} {vs : List V} {c : Cue} (h : SqT K H p [.int c.1, v1, v2, .ref al]) (h1 : Dp K H v1 (dF c.2.1)) (h2 : Dp K H v2 (dF c.2.2.1)) (hl : SqL K H al vs) (hd : DpAll K H vs (c.2.2.2.map dW)) : Dp K H (.ref p) (dC c) :=
  .tup h (.cons (.int _) (.cons h1 (.cons h2 (.cons (.lst hl hd) .nil))))
theorem dCs_at {K : PySem.W.Frag} {H : Hp} {v : V} {cs : List Cue} (h : Dp K H v (dCs cs)) : ∃ a vs, v = .ref a ∧ SqL K H a vs ∧ DpAll K H vs (cs.map dC) := by
  unfold dCs at h
  cases h with
  | lst hs ha => exact ⟨_, _, rfl, hs, ha⟩
theorem tupA_dW : ∀ ws : List Wd, tupA (ws.map dW) = true
  | [] => rfl
  | x :: r => by
    show (tupD (dW x) && tupA (r.map dW)) = true
    rw [tupA_dW r]
    rfl
theorem tupA_dIS : ∀ ws : List (Int × Str), tupA (ws.map dIS) = true
  | [] => rfl
  | x :: r => by
    show (tupD (dIS x) && tupA (r.map dIS)) = true
    rw [tupA_dIS r]
    rfl
theorem sgn_mem {xs : List Nat} {r : Int} (h0 : 0 ≤ r) (h1 : r < (xs.length : Int)) : ∃ c, atI xs r = some c ∧ c ∈ xs := by
  obtain ⟨n, rfl⟩ : ∃ n : Nat, r = (n : Int) := ⟨r.toNat, by omega⟩
  have hn : n < xs.length := by omega
  exact ⟨xs[n], atI_nat (List.getElem?_eq_getElem hn), List.getElem_mem hn⟩
/-- texts of one sign each -/
def ones (cs : List Nat) : List Str := cs.map fun c => (⟨#[c]⟩ : Str)
theorem join_ones : ∀ cs : List Nat, (Str.join "" (ones cs)).cps.toList = cs
  | [] => rfl
  | [c] => rfl
  | c :: d :: r => by
    have ih := join_ones (d :: r)
    show ((((⟨#[c]⟩ : Str) ++ ("" : Str)) ++ Str.join "" (ones (d :: r))).cps).toList = _
    rw [Str.cps_append, Array.toList_append, ih, Str.cps_append, Array.toList_append]
    rfl
theorem ones_sum : ∀ cs : List Nat, ((ones cs).map (·.length)).sum = cs.length
  | [] => rfl
  | c :: r => by
    show (1 : Nat) + ((ones r).map (·.length)).sum = r.length + 1
    rw [ones_sum r]
    omega
theorem slen_list (z : Str) : z.length = z.cps.toList.length := rfl
structure SgOk (z : Str) : Prop where
  l0 : 0 < z.length
  l10 : z.length ≤ 10
  abc : ∀ x ∈ z.cps.toList, 97 ≤ x ∧ x ≤ 122
theorem sg_six : SgOk "abcxyz" := ⟨by decide +kernel, by decide +kernel, by decide +kernel⟩
theorem abc26 : ∀ x ∈ ("abcdefghijklmnopqrstuvwxyz" : Str).cps.toList, 97 ≤ x ∧ x ≤ 122 := by decide +kernel
/-- a cue stands at v, its words' list at al -/
def CueAt (K : PySem.W.Frag) (H : Hp) (v : V) (c : Cue) (al : Addr) : Prop := ∃ a v1 v2 vs, v = .ref a ∧ SqT K H a [.int c.1, v1, v2, .ref al] ∧ Dp K H v1 (dF c.2.1) ∧ Dp K H v2 (dF c.2.2.1) ∧ H al = some (.lst vs) ∧ DpAll K H vs (c.2.2.2.map dW)
theorem CueAt.dp {K : PySem.W.Frag} {H : Hp} {v : V} {c : Cue} {al : Addr} {S : List Addr} (h : CueAt K H v c al) (nt : ∀ a ∈ S, NoT H a) (n : al ∉ S) : Dp K (R.hidL S H) v (dC c) := by
  obtain ⟨a, v1, v2, vs, rfl, h1, h2, h3, h4, h5⟩ := h
  exact dC_mk (hidL_tup nt h1) (dp_hidL nt _ _ rfl h2) (dp_hidL nt _ _ rfl h3) (.inl (.inl (hidL_at n h4))) (dpa_hidL nt _ _ (tupA_dW _) h5)
def spCue (K : PySem.W.Frag) : Sp := fun vs H Q _ => ∃ (b l : Addr) (n : Int), vs = [.ref b, .int n] ∧ Bx H b l ∧ ∀ H' v (c : Cue) al, Same (hid b l H) (hid b l H') → Bx H' b l → H al = none → CueAt K H' v c al → c.1 = n → CueOk c → Q v H'
theorem hid_ne {b l a : Addr} {H : Hp} {o : HO} (h : hid b l H a = some o) : a ≠ b ∧ a ≠ l := by
  unfold hid at h
  split at h
  · cases h
  · rename_i z
    exact ⟨fun y => z (.inl y), fun y => z (.inr y)⟩
theorem hid_new {b l a : Addr} {H H' : Hp} {o : HO} (B : Bx H b l) (n : H a = none) (h : H' a = some o) : hid b l H' a = some o := by
  obtain ⟨xs, st, h1, h2⟩ := B.ex
  unfold hid
  rw [if_neg, h]
  rintro (z | z)
  · rw [z, h1] at n
    cases n
  · rw [z, h2] at n
    cases n
theorem cl_Lcue (T : Txt K mg) : Cl P w K mg base CX0 3 "_law_cue" (spCue K) := by
  have c_Ltake := cl_Ltake (P := P) (w := w) (base := base) T
  have c_Ltime := cl_Ltime (P := P) (w := w) (base := base) T
  have c_Lsum := cl_Lsum (P := P) (w := w) (base := base) T
  have c_Lminus := cl_Lminus (P := P) (w := w) (base := base) T
  have c_Ltimes := cl_Ltimes (P := P) (w := w) (base := base) T
  have c_Lfr := cl_Lfr (P := P) (w := w) (base := base) T
  refine T.d_Lcue.cl sc_Lcue (fun vs H Q E h => ?_) (fun f cdv A outer s H vs Q E hr h => ?_)
  · obtain ⟨b, l, n, rfl, _⟩ := h
    rfl
  · obtain ⟨b, l, n, rfl, B, q⟩ := h
    refine ⟨_, (pss_cons (ps_set (i := 2) sc_Lcue.nd rfl (.inl rfl) (pe_lst pa_nil))
      (pss_cons (ps_set (i := 3) sc_Lcue.nd rfl (.inr rfl) pe_str)
      (Evl.pss_cut (ps_if (pt_cmpR op_eq (pe_cl c_Ltake hr (by decide) (by rfl) (pa_cons (pv 0) (pa_cons pe_int pa_nil))) pe_int (nomark _))
        (pss_one (ps_set (i := 3) sc_Lcue.nd rfl (.inr rfl) (pe_join pe_str (pe_lc (own := [("_law_k", 4)]) (g := (gName 4)) (tt := tYes) (by rfl) sc_Lcue.nd (pi_range1 (by rfl) T.m_range (pa_cons pe_int pa_nil)) (blkOk_by (N := ["_law_box", "_law_number", "_law_some", "_law_signs", "_law_k", "_law_begin", "_law_end", "_law_many", "_law_word", "_law_far", "_law_words", "_law_at", "_law_j"]) (sc := defScope s_Lcue) (by decide +kernel)) (fun _ _ _ _ _ => (pg_name (i := 4) sc_Lcue.nd rfl (Or.inl rfl))) (fun _ _ _ _ _ => pts_nil) (fun _ _ _ _ _ => (pe_ix ix_str pe_str (pe_cl c_Ltake hr (by decide) (by rfl) (pa_cons (pv 0) (pa_cons pe_int pa_nil))) (fun _ _ => rfl)))))))
        pss_nil)
      (pss_cons (ps_set (i := 5) sc_Lcue.nd rfl (.inr rfl) (pe_cl c_Ltime hr (by decide) (by rfl) (pa_cons (pv 0) (pa_cons (pe_ix ix_list (pe_lst (pa_cons pe_int (pa_cons pe_int pa_nil))) (pe_callTy call_int1 (by rfl) T.m_int (by decide +kernel) (pa_cons (pe_cmpR op_eq (pe_cl c_Ltake hr (by decide) (by rfl) (pa_cons (pv 0) (pa_cons pe_int pa_nil))) pe_int (nomark _)) pa_nil)) (fun _ _ => rfl)) pa_nil))))
      (pss_cons (ps_set (i := 6) sc_Lcue.nd rfl (.inl rfl) (pe_cl c_Lsum hr (by decide) (by rfl) (pa_cons (pv 5) (pa_cons (pe_cl c_Lsum hr (by decide) (by rfl) (pa_cons (pe_tup (pa_cons pe_int (pa_cons pe_int pa_nil))) (pa_cons (pe_cl c_Ltime hr (by decide) (by rfl) (pa_cons (pv 0) (pa_cons pe_int pa_nil))) pa_nil))) pa_nil))))
      (pss_cons (ps_for PassesOwn.never rfl (pi_range1 (by rfl) T.m_range (pa_cons (pe_ix ix_list (pe_lst (pa_cons (pe_cl c_Ltake hr (by decide) (by rfl) (pa_cons (pv 0) (pa_cons pe_int pa_nil))) (pa_cons (pe_cl c_Ltake hr (by decide) (by rfl) (pa_cons (pv 0) (pa_cons pe_int pa_nil))) pa_nil))) (pe_callTy call_int1 (by rfl) T.m_int (by decide +kernel) (pa_cons (pe_cmpR op_eq (pe_cl c_Ltake hr (by decide) (by rfl) (pa_cons (pv 0) (pa_cons pe_int pa_nil))) pe_int (nomark _)) pa_nil)) (fun _ _ => rfl)) pa_nil)) (pg_name (i := 4) sc_Lcue.nd rfl (.inl rfl))
        (pss_cons (ps_set (i := 7) sc_Lcue.nd rfl (.inl rfl) (pe_op op_add pe_int (pe_cl c_Ltake hr (by decide) (by rfl) (pa_cons (pv 0) (pa_cons (pe_ix ix_list (pe_lst (pa_cons pe_int (pa_cons pe_int pa_nil))) (pe_callTy call_int1 (by rfl) T.m_int (by decide +kernel) (pa_cons (pe_cmpR op_eq (pe_cl c_Ltake hr (by decide) (by rfl) (pa_cons (pv 0) (pa_cons pe_int pa_nil))) pe_int (nomark _)) pa_nil)) (fun _ _ => rfl)) pa_nil)))))
      (pss_cons (ps_set (i := 8) sc_Lcue.nd rfl (.inl rfl) (pe_join pe_str (pe_lc (own := [("_law_j", 12)]) (g := (gName 12)) (tt := tYes) (by rfl) sc_Lcue.nd (pi_range1 (by rfl) T.m_range (pa_cons (pv 7) pa_nil)) (blkOk_by (N := ["_law_box", "_law_number", "_law_some", "_law_signs", "_law_k", "_law_begin", "_law_end", "_law_many", "_law_word", "_law_far", "_law_words", "_law_at", "_law_j"]) (sc := defScope s_Lcue) (by decide +kernel)) (fun _ _ _ _ _ => (pg_name (i := 12) sc_Lcue.nd rfl (Or.inl rfl))) (fun _ _ _ _ _ => pts_nil) (fun _ _ _ _ _ => (pe_ix ix_str (pv 3) (pe_cl c_Ltake hr (by decide) (by rfl) (pa_cons (pv 0) (pa_cons (pe_callB call_len_str (by rfl) T.m_len (by decide +kernel) (pa_cons (pv 3) pa_nil)) pa_nil))) (fun _ _ => rfl))))))
      (pss_one (ps_expr (pe_bm PySem.F.plainAttrs_list PySem.F.slot_list_append PySem.F.type_list_append mt_append (pv 2) (pa_cons (pe_tup (pa_cons (pe_cl c_Ltake hr (by decide) (by rfl) (pa_cons (pv 0) (pa_cons pe_int pa_nil))) (pa_cons (pv 8) pa_nil))) pa_nil)))))))
      (pss_cons (ps_set (i := 9) sc_Lcue.nd rfl (.inr rfl) (pe_cl c_Lminus hr (by decide) (by rfl) (pa_cons (pv 6) (pa_cons (pv 5) pa_nil))))
      (pss_cons (ps_setLc (i := 10) (own := [("_law_at", 11), ("_law_word", 8)]) (g := (gTup K 2 (gCons (gName 11) (gCons (gName 8) gNil)))) (tt := tYes) (by rfl) sc_Lcue.nd rfl rfl (sw_true rfl rfl rfl (by decide +kernel)) (pi_list (pe_callB (cr_sortedD dIS hr.units) (by rfl) T.m_sorted (by decide +kernel) (pa_cons (pv 2) pa_nil))) (blkOk_by (N := ["_law_box", "_law_number", "_law_some", "_law_signs", "_law_k", "_law_begin", "_law_end", "_law_many", "_law_word", "_law_far", "_law_words", "_law_at", "_law_j"]) (sc := defScope s_Lcue) (by decide +kernel)) (fun _ _ _ _ _ => (pg_tup rfl (pgs_cons (pg_name (i := 11) sc_Lcue.nd rfl (Or.inl rfl)) (pgs_cons (pg_name (i := 8) sc_Lcue.nd rfl (Or.inl rfl)) pgs_nil)))) (fun _ _ _ _ _ => pts_nil) (fun _ _ _ _ _ => (pe_tup (pa_cons (pv 8) (pa_cons (pe_cl c_Lsum hr (by decide) (by rfl) (pa_cons (pv 5) (pa_cons (pe_cl c_Ltimes hr (by decide) (by rfl) (pa_cons (pv 9) (pa_cons (pe_cl c_Lfr hr (by decide) (by rfl) (pa_cons (pv 11) (pa_cons pe_int pa_nil))) pa_nil))) pa_nil))) pa_nil)))))
      (pss_one (ps_ret (pe_tup (pa_cons (pv 1) (pa_cons (pv 5) (pa_cons (pv 6) (pa_cons (pv 10) pa_nil))))))))))))))), ?_⟩
    refine ⟨Nat.zero_le _, fun r hr0 => ?_⟩
    have s0' := Same.new (o := .lst []) hr0
    have B0 := B.mono s0'
    have hr1 : hid b l (upd H r (.lst [])) r = some (.lst []) := hid_at B hr0
    have s0 : Same (hid b l H) (hid b l (upd H r (.lst []))) := Same.hid s0'
    generalize upd H r (.lst []) = H0 at s0 B0 hr1 ⊢
    clear s0'
    refine ⟨fun σ' H' => ∃ z : Str, σ' = [some (.ref b), some (.int n), some (.ref r), some (.str z), none, none, none, none, none, none, none, none, none] ∧ Same (hid b l H) (hid b l H') ∧ Bx H' b l ∧ hid b l H' r = some (.lst []) ∧ SgOk z, ?_, fun σ' H2 hM => ?_⟩
    · refine ⟨_, rfl, _, l, _, rfl, B0, by decide, by decide, fun H1 r1 s1 B1 a1 b1 => ?_⟩
      refine ⟨rfl, _, rfl, ite2 (fun z => ?_) (fun z => ?_)⟩
      · refine ⟨⟨_, rfl⟩, 3, rfl, by decide, by decide, fun D hD => ?_⟩
        refine lc_range (lo := 0) (n := 3) (fun i H' => Same (hid b l H1) (hid b l H') ∧ Bx H' b l ∧ ∃ cs : List Nat, hid b l H' D = some (.lst ((ones cs).map V.str)) ∧ cs.length = i ∧ ∀ x ∈ cs, 97 ≤ x ∧ x ≤ 122) ⟨Same.hid (Same.new hD), B1.mono (Same.new hD), [], hid_at B1 hD, rfl, fun y hy => by cases hy⟩ (fun i H' hi h => ?_) (fun H' h => ?_)
        · obtain ⟨s3, B3, cs, hz, lc, oc⟩ := h
          refine ⟨rfl, ?_⟩
          refine ⟨_, rfl, b, l, _, rfl, B3, by decide, by decide, fun H4 sg s4 B4 g0 g1 => ?_⟩
          obtain ⟨c, hc, mc⟩ := sgn_mem (xs := ("abcdefghijklmnopqrstuvwxyz" : Str).cps.toList) g0 g1
          have hz4 := s4 _ _ hz
          refine ⟨_, _, c, rfl, rfl, (show 26 ≤ sizeLine by decide), hc, _, hid_same _ _ hz4, le1000 (by rw [List.length_map]; unfold ones; rw [List.length_map]; omega), ?_⟩
          refine ⟨(hid_upd hz4).2 H1 (fun a x _ ha => s4 _ _ (s3 _ _ ha)) hD, bx_upd B4 hz4, cs ++ [c], ?_, by rw [List.length_append, lc]; rfl, mem_snoc oc (abc26 c mc)⟩
          unfold ones
          rw [List.map_append, List.map_append]
          exact (hid_upd hz4).1
        · obtain ⟨s3, B3, cs, hz, lc, oc⟩ := h
          refine ⟨_, D, ones cs, rfl, rfl, .inl (.inl (.inl (hid_same _ _ hz))), ?_, ?_⟩
          · rw [ones_sum]
            show cs.length + (ones cs).length * 0 ≤ 16777216
            omega
          · rw [TL.join_eq]
            have e := join_ones cs
            refine ⟨_, rfl, (s0.trans s1).trans s3, B3, s3 _ _ (s1 _ _ hr1), ⟨?_, ?_, ?_⟩⟩
            · rw [slen_list, show Str.join "" (ones cs) = Str.join "" (ones cs) from rfl, e, lc]
              decide
            · rw [slen_list, e, lc]
              decide
            · rw [e]
              exact oc
      · exact ⟨_, rfl, s0.trans s1, B1, s1 _ _ hr1, sg_six⟩
    obtain ⟨z, rfl, s2, B2, hr2, sg⟩ := hM
    -- begin
    refine ⟨_, rfl, (show 2 ≤ sizeLine by decide), fun p hp => ?_⟩
    have s3' := Same.new (o := .lst [.int 50, .int 99999]) hp
    have B3 := B2.mono s3'
    have hP : hid b l (upd H2 p (.lst [.int 50, .int 99999])) p = some (.lst [.int 50, .int 99999]) := hid_at B2 hp
    have s3 := s2.trans (Same.hid s3')
    have hr3 := Same.hid (b := b) (l := l) s3' _ _ hr2
    generalize upd H2 p (.lst [.int 50, .int 99999]) = H3 at B3 hP s3 hr3 ⊢
    refine ⟨_, rfl, _, l, _, rfl, B3, by decide, by decide, fun H4 r4 s4 B4 a4 b4 => ?_⟩
    have hP4 : SqL K H4 p [.int 50, .int 99999] := .inl (.inl (hid_same _ _ (s4 _ _ hP)))
    refine ⟨rfl, .inr ⟨_, rfl, p, _, _, .int (if decide (V.int r4 = V.int 1) = true then 99999 else 50), rfl, rfl, hP4, ?_, ?_⟩⟩
    · by_cases c : decide (V.int r4 = V.int 1) = true
      · rw [if_pos c, if_pos c]
        exact atI_nat (j := 1) rfl
      · rw [if_neg c, if_neg c]
        exact atI_nat (j := 0) rfl
    have hk : (if decide (V.int r4 = V.int 1) = true then (99999 : Int) else 50) = 99999 ∨ (if decide (V.int r4 = V.int 1) = true then (99999 : Int) else 50) = 50 := by
      by_cases c : decide (V.int r4 = V.int 1) = true
      · rw [if_pos c]
        exact .inl rfl
      · rw [if_neg c]
        exact .inr rfl
    generalize (if decide (V.int r4 = V.int 1) = true then (99999 : Int) else 50) = k at hk ⊢
    refine ⟨_, l, _, rfl, B4, by omega, by omega, fun H5 vb xb s5 B5 db tb => ?_⟩
    have tb9 : Tm 99999 xb := by
      refine ⟨tb.iz, tb.lo, Rat.le_trans tb.hi (Rat.intCast_le_intCast.mpr (by omega)), tb.sz, fun h => absurd h (by decide), tb.dn⟩
    have s5' := (s3.trans s4).trans s5
    have hr5 := s5 _ _ (s4 _ _ hr3)
    -- end
    refine ⟨_, rfl, (show 2 ≤ sizeLine by decide), fun p6 hp6 => ?_⟩
    have t6 := Same.new (o := .tup [.int 1, .int 3]) hp6
    have dh : Dp K (upd H5 p6 (.tup [.int 1, .int 3])) (.ref p6) (dF (Rat.divInt 1 3)) := dF_mk (.inl (.inl upd_same))
    have B6 := B5.mono t6
    have hr6 := Same.hid (b := b) (l := l) t6 _ _ hr5
    have s6 := s5'.trans (Same.hid t6)
    have db6 := dp_mono t6 _ _ db
    generalize upd H5 p6 (.tup [.int 1, .int 3]) = H6 at dh B6 hr6 s6 db6 ⊢
    refine ⟨_, rfl, _, l, _, rfl, B6, by decide, by decide, fun H7 vt xt s7 B7 dt tt => ?_⟩
    have cb : CueB xb xt := ⟨tb9, tt⟩
    have dh7 := frac_keep dh B6 s7
    have db7 := frac_keep db6 B6 s7
    have hr7 := s7 _ _ hr6
    have s7' := s6.trans s7
    have z3 : Sz 2 (Rat.divInt 1 3) := sz_divInt (by decide) (by decide) (by decide)
    refine ⟨_, _, _, _, 2, 17, rfl, dh7, dt, z3, tt.sz, by decide, trivial, fun H8 v8 s8 d8 => ?_⟩
    refine ⟨_, _, _, _, 17, 20, rfl, dp_mono s8 _ _ db7, d8, tb9.sz, sz_add z3 tt.sz, by decide, trivial, fun H9 ve s9 de => ?_⟩
    have B9 := B7.mono (s8.trans s9)
    have db9 := dp_mono (s8.trans s9) _ _ db7
    have hr9 := Same.hid (b := b) (l := l) (s8.trans s9) _ _ hr7
    have s9' := s7'.trans (Same.hid (s8.trans s9))
    have de : Dp K H9 ve (dF (cEnd xb xt)) := de
    clear dh7 db7 db6 db dh d8 dt s8 s9 s7 s6 s5 s4 s3 s2 s7' s5' B7 B6 B5 B4 B3 B2 hr7 hr6 hr5 hr3 hr2 hP hP4
    -- how many words
    refine ⟨_, rfl, _, l, _, rfl, B9, by decide, by decide, fun Ha ra sa Ba aa ba => ?_⟩
    refine ⟨_, rfl, _, l, _, rfl, Ba, by decide, by decide, fun Hb rb sb Bb ab bb => ?_⟩
    refine ⟨(show 2 ≤ sizeLine by decide), fun pc hpc => ?_⟩
    have tc := Same.new (o := .lst [.int ra, .int rb]) hpc
    have Bc := Bb.mono tc
    have hPc : hid b l (upd Hb pc (.lst [.int ra, .int rb])) pc = some (.lst [.int ra, .int rb]) := hid_at Bb hpc
    refine ⟨_, rfl, _, l, _, rfl, Bc, by decide, by decide, fun Hd rd sd Bd' ad bd => ?_⟩
    have hPd : SqL K Hd pc [.int ra, .int rb] := .inl (.inl (hid_same _ _ (sd _ _ hPc)))
    have s9d := ((sa.trans sb).trans (Same.hid tc)).trans sd
    have hrd := s9d _ _ hr9
    have dbd := frac_keep db9 B9 s9d
    have ded := frac_keep de B9 s9d
    refine ⟨rfl, .inr ⟨_, rfl, pc, _, _, .int (if decide (V.int rd = V.int 1) = true then rb else ra), rfl, rfl, hPd, ?_, ?_⟩⟩
    · by_cases c : decide (V.int rd = V.int 1) = true
      · rw [if_pos c, if_pos c]
        exact atI_nat (j := 1) rfl
      · rw [if_neg c, if_neg c]
        exact atI_nat (j := 0) rfl
    have hk : 0 ≤ (if decide (V.int rd = V.int 1) = true then rb else ra) ∧ (if decide (V.int rd = V.int 1) = true then rb else ra) ≤ 11 := by
      split <;> omega
    generalize (if decide (V.int rd = V.int 1) = true then rb else ra) = m at hk ⊢
    refine ⟨m, rfl, by omega, by omega, for_range (lo := 0) (n := m.toNat) (fun i σ H' => ∃ (c4 c7 c8 : Option V) (ys : List V) (bs : List (Int × Str)), σ = [some (.ref b), some (.int n), some (.ref r), some (.str z), c4, some vb, some ve, c7, c8, none, none, none, none] ∧ Same (hid b l H) (hid b l H') ∧ Bx H' b l ∧ hid b l H' r = some (.lst ys) ∧ DpAll K H' ys (bs.map dIS) ∧ bs.length = i ∧ (∀ x ∈ bs, 0 ≤ x.1 ∧ x.1 ≤ 10 ∧ WordOk x.2) ∧ Dp K H' vb (dF xb) ∧ Dp K H' ve (dF (cEnd xb xt))) ⟨none, none, none, [], [], rfl, s9'.trans s9d, Bd', hrd, .nil, rfl, (fun x hx => nomatch hx), dbd, ded⟩ (fun i σ H' hi h => ?_) (fun σ H' h => ?_)⟩
    · obtain ⟨c4, c7, c8, ys, bs, rfl, s1, B1, hr1, da, hl, ok, db, de⟩ := h
      have ly : ys.length = i := by rw [dpa_len da, List.length_map, hl]
      -- many
      refine ⟨_, rfl, (show 2 ≤ sizeLine by decide), fun p2 hp2 => ?_⟩
      have t2 := Same.new (o := .lst [.int 4, .int 20]) hp2
      have B2 := B1.mono t2
      have hP2 : hid b l (upd H' p2 (.lst [.int 4, .int 20])) p2 = some (.lst [.int 4, .int 20]) := hid_at B1 hp2
      refine ⟨_, rfl, _, l, _, rfl, B2, by decide, by decide, fun H3 r3 s3 B3 a3 b3 => ?_⟩
      have hP3 : SqL K H3 p2 [.int 4, .int 20] := .inl (.inl (hid_same _ _ (s3 _ _ hP2)))
      refine ⟨rfl, .inr ⟨_, rfl, p2, _, _, .int (if decide (V.int r3 = V.int 1) = true then 20 else 4), rfl, rfl, hP3, ?_, ?_⟩⟩
      · by_cases c : decide (V.int r3 = V.int 1) = true
        · rw [if_pos c, if_pos c]
          exact atI_nat (j := 1) rfl
        · rw [if_neg c, if_neg c]
          exact atI_nat (j := 0) rfl
      have hk3 : (if decide (V.int r3 = V.int 1) = true then (20 : Int) else 4) = 20 ∨ (if decide (V.int r3 = V.int 1) = true then (20 : Int) else 4) = 4 := by
        by_cases c : decide (V.int r3 = V.int 1) = true
        · rw [if_pos c]
          exact .inl rfl
        · rw [if_neg c]
          exact .inr rfl
      generalize (if decide (V.int r3 = V.int 1) = true then (20 : Int) else 4) = k3 at hk3 ⊢
      refine ⟨_, l, _, rfl, B3, by omega, by omega, fun H4 r4 s4 B4 a4 b4 => ?_⟩
      have s14 := (Same.hid (b := b) (l := l) t2).trans (s3.trans s4)
      have hr4 := s14 _ _ hr1
      have da4 := keepA da (tupA_dIS _) B1.lb B1.ll s14
      have db4 := frac_keep db B1 s14
      have de4 := frac_keep de B1 s14
      refine ⟨_, _, rfl, rfl, ?_⟩
      -- word
      refine ⟨⟨_, rfl⟩, _, rfl, 1 + r4, rfl, by omega, by omega, fun D hD => ?_⟩
      refine lc_range (lo := 0) (n := (1 + r4).toNat) (fun i H' => Same (hid b l H4) (hid b l H') ∧ Bx H' b l ∧ ∃ cs : List Nat, hid b l H' D = some (.lst ((ones cs).map V.str)) ∧ cs.length = i ∧ ∀ x ∈ cs, 97 ≤ x ∧ x ≤ 122) ⟨Same.hid (Same.new hD), B4.mono (Same.new hD), [], hid_at B4 hD, rfl, fun y hy => by cases hy⟩ (fun j H5 hj h => ?_) (fun H5 h => ?_)
      · obtain ⟨s5, B5, cs, hz, lc, oc⟩ := h
        refine ⟨rfl, ?_⟩
        have lz : z.length ≤ sizeLine := le1000 (by have := sg.l10; omega)
        have z10 := sg.l10
        have z0 := sg.l0
        refine ⟨_, rfl, _, rfl, _, rfl, z, rfl, lz, b, l, _, rfl, B5, by omega, by omega, fun H6 sg6 s6 B6 g0 g1 => ?_⟩
        obtain ⟨c, hc, mc⟩ := sgn_mem (xs := z.cps.toList) g0 g1
        have hz6 := s6 _ _ hz
        refine ⟨_, _, c, rfl, rfl, lz, hc, _, hid_same _ _ hz6, le1000 (by rw [List.length_map]; unfold ones; rw [List.length_map]; omega), ?_⟩
        refine ⟨(hid_upd hz6).2 H4 (fun a x _ ha => s6 _ _ (s5 _ _ ha)) hD, bx_upd B6 hz6, cs ++ [c], ?_, by rw [List.length_append, lc]; rfl, mem_snoc oc (sg.abc c mc)⟩
        unfold ones
        rw [List.map_append, List.map_append]
        exact (hid_upd hz6).1
      · obtain ⟨s5, B5, cs, hz, lc, oc⟩ := h
        refine ⟨_, D, ones cs, rfl, rfl, .inl (.inl (.inl (hid_same _ _ hz))), ?_, ?_⟩
        · rw [ones_sum]
          show cs.length + (ones cs).length * 0 ≤ 16777216
          omega
        rw [TL.join_eq]
        have e := join_ones cs
        have wok : WordOk (Str.join "" (ones cs)) := ⟨by rw [slen_list, e, lc]; omega, by rw [slen_list, e, lc]; omega, by rw [e]; exact oc⟩
        generalize Str.join "" (ones cs) = word at wok
        have hr5 := s5 _ _ hr4
        have da5 := keepA da4 (tupA_dIS _) B4.lb B4.ll s5
        have db5 := frac_keep db4 B4 s5
        have de5 := frac_keep de4 B4 s5
        refine ⟨_, rfl, .inl ⟨rfl, _, .inl (.inl (hid_same _ _ hr5))⟩, _, rfl, b, l, _, rfl, B5, by decide, by decide, fun H6 at6 s6 B6 a6 b6 => ?_⟩
        have hr6 := s6 _ _ hr5
        have da6 := keepA da5 (tupA_dIS _) B5.lb B5.ll s6
        have db6 := frac_keep db5 B5 s6
        have de6 := frac_keep de5 B5 s6
        refine ⟨_, rfl, (show 2 ≤ sizeLine by decide), fun p7 hp7 => ?_⟩
        have t7 := Same.new (o := .tup [.int at6, .str word]) hp7
        have dn : Dp K (upd H6 p7 (.tup [.int at6, .str word])) (.ref p7) (dIS (at6, word)) := .tup (.inl (.inl upd_same)) (.cons (.int _) (.cons (.str _) .nil))
        have B7 := B6.mono t7
        have hr7 := Same.hid (b := b) (l := l) t7 _ _ hr6
        have da7 := dpa_mono t7 _ _ da6
        have db7 := dp_mono t7 _ _ db6
        have de7 := dp_mono t7 _ _ de6
        have s17 := (s14.trans (s5.trans s6)).trans (Same.hid t7)
        generalize upd H6 p7 (.tup [.int at6, .str word]) = H7 at dn B7 hr7 da7 db7 de7 s17 ⊢
        have Lr : IsL H7 r := ⟨_, hid_same _ _ hr7⟩
        refine ⟨r, ys, _, rfl, rfl, hid_same _ _ hr7, small1000 (by omega), ?_⟩
        refine ⟨_, _, _, ys ++ [.ref p7], bs ++ [(at6, word)], rfl, (hid_upd hr7).2 H (fun a x _ ha => s17 _ _ (s1 _ _ ha)) hr0, bx_upd B7 hr7, (hid_upd hr7).1, ?_, by rw [List.length_append, hl]; rfl, mem_snoc ok ⟨a6, by omega, wok⟩, keepU db7 rfl Lr, keepU de7 rfl Lr⟩
        rw [List.map_append]
        exact dpa_snoc (keepAU da7 (tupA_dIS _) Lr) (keepU dn rfl Lr)
    · obtain ⟨c4, c7, c8, ys, bs, rfl, s1, B1, hr1, da, hl, ok, db, de⟩ := h
      have hl11 : bs.length ≤ 11 := by omega
      have cok := cue_ok (n := n) cb ok hl11
      -- far
      refine ⟨_, rfl, _, rfl, _, _, _, _, 32, 17, rfl, de, db, cb.te.sz, tb9.sz, by decide, trivial, fun H2 vf s2 df => ?_⟩
      have zf : Sz 50 (cEnd xb xt - xb) := (sz_sub cb.te.sz tb9.sz)
      -- words
      refine ⟨_, rfl, r, ys, bs, rfl, .inl (.inl (s2 _ _ (hid_same _ _ hr1))), dpa_mono s2 _ _ da, dIS_alike _, dIS_sortable _, fun x _ => (by decide : 1 ≤ 60), fun yw pw hpw dw => ?_⟩
      have tw := Same.new (o := .lst yw) hpw
      have hw : (upd H2 pw (.lst yw)) pw = some (.lst yw) := upd_same
      have s2w := s2.trans tw
      have dw := dpa_mono tw _ _ dw
      have df := dp_mono tw _ _ df
      generalize upd H2 pw (.lst yw) = H3 at tw hw s2w dw df ⊢
      have lw : yw.length ≤ 11 := by rw [dpa_len dw, List.length_map, (List.mergeSort_perm bs _).length_eq]; exact hl11
      refine ⟨pw, rfl, ⟨_, .inl (.inl hw)⟩, fun D hD => ?_⟩
      have sD := Same.new (o := .lst []) hD
      have db3 := dp_mono s2w _ _ db
      refine lc_list (K := K) (a := pw) (xs := yw) (fun i H' => ∃ acc, H' D = some (.lst acc) ∧ Same H3 (hid D D H') ∧ acc.length = i ∧ DpAll K (hid D D H') acc (((cWords xb xt bs).take i).map dW)) ⟨[], upd_same, hid_old sD hD, rfl, .nil⟩ (fun i H' hi h => ?_) (fun i y H' hy h => ?_) (fun H' h => ?_)
      · obtain ⟨acc, hd, s4, la, dd⟩ := h
        exact .inl (.inl (hid_same _ _ (s4 _ _ hw)))
      · obtain ⟨acc, hd, s4, la, dd⟩ := h
        have s4' : Same H3 H' := s4.trans hid_same
        obtain ⟨x, hx, dx⟩ := dpa_map dw hy
        have hi : i < yw.length := (List.getElem?_eq_some_iff.mp hy).1
        have okx := ok x ((List.mergeSort_perm bs _).mem_iff.mp (List.mem_of_getElem? hx))
        obtain ⟨pt, rfl, hpt⟩ := dIS_at (dp_mono s4' _ _ dx)
        refine ⟨pt, _, rfl, hpt, rfl, _, _, rfl, _, _, rfl, rfl, rfl, ?_⟩
        refine ⟨_, rfl, _, rfl, _, rfl, _, rfl, _, _, rfl, by decide, p20 (by decide), fun H5 v5 s5 d5 => ?_⟩
        have z5 : Sz 4 (Rat.divInt x.1 11) := sz_divInt (by omega) (by decide) (by decide)
        refine ⟨_, _, _, _, 50, 4, rfl, dp_mono (s4'.trans s5) _ _ df, d5, zf, z5, by decide, trivial, fun H6 v6 s6 d6 => ?_⟩
        refine ⟨_, _, _, _, 17, 54, rfl, dp_mono ((s4'.trans s5).trans s6) _ _ db3, d6, tb9.sz, sz_mul zf z5, by decide, trivial, fun H7 v7 s7 d7 => ?_⟩
        refine ⟨(show 2 ≤ sizeLine by decide), fun pn hn => ?_⟩
        have t8 := Same.new (o := .tup [.str x.2, v7]) hn
        have s48 := ((s5.trans s6).trans s7).trans t8
        have hd8 := s48 _ _ hd
        have dn : Dp K (upd H7 pn (.tup [.str x.2, v7])) (.ref pn) (dW (x.2, cAt xb xt x.1)) := dW_mk (.inl (.inl upd_same)) (dp_mono t8 _ _ d7)
        generalize upd H7 pn (.tup [.str x.2, v7]) = H8 at hd8 dn s48 ⊢
        have LD : IsL H8 D := ⟨_, hd8⟩
        refine ⟨acc, hd8, small1000 (by omega), acc ++ [.ref pn], upd_same, ?_, by rw [List.length_append, la]; rfl, ?_⟩
        · rw [hid_b]
          exact s4.trans (Same.hid s48)
        · rw [hid_b, take_more (x := (x.2, cAt xb xt x.1)) (by unfold cWords; rw [List.getElem?_map, hx]; rfl), List.map_append]
          exact dpa_snoc (dpa_mono (Same.hid s48) _ _ dd) (dp_hid LD LD _ _ rfl dn)
      · obtain ⟨acc, hd, s4, la, dd⟩ := h
        have s4' : Same H3 H' := s4.trans hid_same
        have lcw : (cWords xb xt bs).length = yw.length := by
          unfold cWords
          rw [List.length_map, dpa_len dw, List.length_map]
        rw [← lcw, List.take_length] at dd
        have s14 := s2w.trans s4'
        refine ⟨_, rfl, _, rfl, _, rfl, _, rfl, (show 4 ≤ sizeLine by decide), fun p9 hp9 => ?_⟩
        have t9 := Same.new (o := .tup [.int n, vb, ve, .ref D]) hp9
        have s19 := s14.trans t9
        have B9 := B1.mono s19
        refine q _ (.ref p9) (n, xb, cEnd xb xt, cWords xb xt bs) D (s1.trans (Same.hid s19)) B9 ?_ ⟨p9, vb, ve, acc, rfl, .inl (.inl upd_same), dp_mono s19 _ _ db, dp_mono s19 _ _ de, t9 _ _ hd, dpa_mono t9 _ _ (dpa_mono hid_same _ _ dd)⟩ rfl cok
        -- D is new
        have hD1 : H3 D = none := hD
        have hn1 := s2w.free hD1
        cases hh : H D with
        | none => rfl
        | some o =>
          exfalso
          obtain ⟨bx, bst, e1, e2⟩ := B.ex
          obtain ⟨bx', bst', e1', e2'⟩ := B1.ex
          by_cases z1 : D = b
          · rw [z1, e1'] at hn1
            cases hn1
          · by_cases z2 : D = l
            · rw [z2, e2'] at hn1
              cases hn1
            · have : hid b l H D = some o := by
                unfold hid
                rw [if_neg (fun z => z.elim z1 z2)]
                exact hh
              have := hid_same _ _ (s1 _ _ this)
              rw [hn1] at this
              cases this
structure CuesOk (cs : List Cue) : Prop where
  each : ∀ c ∈ cs, CueOk c ∧ 0 < c.1 ∧ c.1 ≤ 90000000
  rise : cs.Pairwise fun c d => c.1 < d.1
  len : cs.length ≤ 8
def spCues (K : PySem.W.Frag) : Sp := fun vs H Q _ => ∃ (b l : Addr), vs = [.ref b] ∧ Bx H b l ∧ ∀ H' p ys (cs : List Cue), Same (hid b l H) (hid b l H') → Bx H' b l → H p = none → hid b l H' p = some (.lst ys) → DpAll K (R.hidL [b, l, p] H') ys (cs.map dC) → CuesOk cs → Q (.ref p) H'
theorem hid_sub {b l r : Addr} {H H' : Hp} (s : Same (hid b l H) (hid b l H')) : Same (R.hidL [b, l, r] H) (R.hidL [b, l, r] H') := hid_hidL (by simp) (by simp) s
theorem pw_snoc {α : Type} {R : α → α → Prop} {xs : List α} {x : α} (h : xs.Pairwise R) (hx : ∀ y ∈ xs, R y x) : (xs ++ [x]).Pairwise R := by
  rw [List.pairwise_append]
  exact ⟨h, List.pairwise_singleton _ _, fun a ha b hb => by rw [List.mem_singleton.mp hb]; exact hx a ha⟩
theorem cl_Lcues (T : Txt K mg) : Cl P w K mg base CX0 4 "_law_cues" (spCues K) := by
  have c_Ltake := cl_Ltake (P := P) (w := w) (base := base) T
  have c_Lcue := cl_Lcue (P := P) (w := w) (base := base) T
  refine T.d_Lcues.cl sc_Lcues (fun vs H Q E h => ?_) (fun f cdv A outer s H vs Q E hr h => ?_)
  · obtain ⟨b, l, rfl, _⟩ := h
    rfl
  · obtain ⟨b, l, rfl, B, q⟩ := h
    refine ⟨_, (pss_cons (ps_set (i := 1) sc_Lcues.nd rfl (.inl rfl) (pe_lst pa_nil))
      (pss_cons (ps_set (i := 2) sc_Lcues.nd rfl (.inl rfl) pe_int)
      (pss_cons (ps_for PassesOwn.never rfl (pi_range1 (by rfl) T.m_range (pa_cons (pe_ix ix_list (pe_lst (pa_cons (pe_cl c_Ltake hr (by decide) (by rfl) (pa_cons (pv 0) (pa_cons pe_int pa_nil))) (pa_cons (pe_cl c_Ltake hr (by decide) (by rfl) (pa_cons (pv 0) (pa_cons pe_int pa_nil))) pa_nil))) (pe_callTy call_int1 (by rfl) T.m_int (by decide +kernel) (pa_cons (pe_cmpR op_eq (pe_cl c_Ltake hr (by decide) (by rfl) (pa_cons (pv 0) (pa_cons pe_int pa_nil))) pe_int (nomark _)) pa_nil)) (fun _ _ => rfl)) pa_nil)) (pg_name (i := 3) sc_Lcues.nd rfl (.inl rfl))
        (pss_cons (ps_set (i := 2) sc_Lcues.nd rfl (.inl rfl) (pe_op op_add (pe_op op_add (pv 2) pe_int) (pe_ix ix_list (pe_lst (pa_cons (pe_cl c_Ltake hr (by decide) (by rfl) (pa_cons (pv 0) (pa_cons pe_int pa_nil))) (pa_cons (pe_cl c_Ltake hr (by decide) (by rfl) (pa_cons (pv 0) (pa_cons pe_int pa_nil))) pa_nil))) (pe_callTy call_int1 (by rfl) T.m_int (by decide +kernel) (pa_cons (pe_cmpR op_eq (pe_cl c_Ltake hr (by decide) (by rfl) (pa_cons (pv 0) (pa_cons pe_int pa_nil))) pe_int (nomark _)) pa_nil)) (fun _ _ => rfl))))
      (pss_one (ps_expr (pe_bm PySem.F.plainAttrs_list PySem.F.slot_list_append PySem.F.type_list_append mt_append (pv 1) (pa_cons (pe_cl c_Lcue hr (by decide) (by rfl) (pa_cons (pv 0) (pa_cons (pv 2) pa_nil))) pa_nil))))))
      (pss_one (ps_ret (pv 1)))))), ?_⟩
    refine ⟨Nat.zero_le _, fun r hr0 => ?_⟩
    have s0' := Same.new (o := .lst []) hr0
    have B0 := B.mono s0'
    have hr1 : hid b l (upd H r (.lst [])) r = some (.lst []) := hid_at B hr0
    have s0 : Same (hid b l H) (hid b l (upd H r (.lst []))) := Same.hid s0'
    generalize upd H r (.lst []) = H0 at s0 B0 hr1 ⊢
    refine ⟨_, rfl, _, l, _, rfl, B0, by decide, by decide, fun Ha ra sa Ba aa ba => ?_⟩
    refine ⟨_, rfl, _, l, _, rfl, Ba, by decide, by decide, fun Hb rb sb Bb ab bb => ?_⟩
    refine ⟨(show 2 ≤ sizeLine by decide), fun pc hpc => ?_⟩
    have tc := Same.new (o := .lst [.int ra, .int rb]) hpc
    have Bc := Bb.mono tc
    have hPc : hid b l (upd Hb pc (.lst [.int ra, .int rb])) pc = some (.lst [.int ra, .int rb]) := hid_at Bb hpc
    refine ⟨_, rfl, _, l, _, rfl, Bc, by decide, by decide, fun Hd rd sd Bd' ad bd => ?_⟩
    have hPd : SqL K Hd pc [.int ra, .int rb] := .inl (.inl (hid_same _ _ (sd _ _ hPc)))
    have s9d := ((sa.trans sb).trans (Same.hid tc)).trans sd
    have hrd := s9d _ _ hr1
    refine ⟨rfl, .inr ⟨_, rfl, pc, _, _, .int (if decide (V.int rd = V.int 1) = true then rb else ra), rfl, rfl, hPd, ?_, ?_⟩⟩
    · by_cases c : decide (V.int rd = V.int 1) = true
      · rw [if_pos c, if_pos c]
        exact atI_nat (j := 1) rfl
      · rw [if_neg c, if_neg c]
        exact atI_nat (j := 0) rfl
    have hk : 0 ≤ (if decide (V.int rd = V.int 1) = true then rb else ra) ∧ (if decide (V.int rd = V.int 1) = true then rb else ra) ≤ 8 := by
      split <;> omega
    generalize (if decide (V.int rd = V.int 1) = true then rb else ra) = m at hk ⊢
    refine ⟨m, rfl, by omega, by omega, for_range (lo := 0) (n := m.toNat) (fun i σ H' => ∃ (c3 : Option V) (N : Int) (ys : List V) (cs : List Cue), σ = [some (.ref b), some (.ref r), some (.int N), c3] ∧ Same (hid b l H) (hid b l H') ∧ Bx H' b l ∧ hid b l H' r = some (.lst ys) ∧ DpAll K (R.hidL [b, l, r] H') ys (cs.map dC) ∧ cs.length = i ∧ 0 ≤ N ∧ N ≤ 10000001 * i ∧ (∀ c ∈ cs, CueOk c ∧ 0 < c.1 ∧ c.1 ≤ N) ∧ cs.Pairwise (fun c d => c.1 < d.1)) ⟨none, 0, [], [], rfl, s0.trans s9d, Bd', hrd, .nil, rfl, by decide, by omega, (fun c hc => nomatch hc), .nil⟩ (fun i σ H' hi h => ?_) (fun σ H' h => ?_)⟩
    · obtain ⟨c3, N, ys, cs, rfl, s1, B1, hr1, da, hl, N0, N1, ok, rise⟩ := h
      have ly : ys.length = i := by rw [dpa_len da, List.length_map, hl]
      refine ⟨_, rfl, _, _, rfl, rfl, _, rfl, _, l, _, rfl, B1, by decide, by decide, fun H2 r2 s2 B2 a2 b2 => ?_⟩
      refine ⟨_, rfl, _, l, _, rfl, B2, by decide, by decide, fun H3 r3 s3 B3 a3 b3 => ?_⟩
      refine ⟨(show 2 ≤ sizeLine by decide), fun p4 hp4 => ?_⟩
      have t4 := Same.new (o := .lst [.int r2, .int r3]) hp4
      have B4 := B3.mono t4
      have hP4 : hid b l (upd H3 p4 (.lst [.int r2, .int r3])) p4 = some (.lst [.int r2, .int r3]) := hid_at B3 hp4
      refine ⟨_, rfl, _, l, _, rfl, B4, by decide, by decide, fun H5 r5 s5 B5 a5 b5 => ?_⟩
      have hP5 : SqL K H5 p4 [.int r2, .int r3] := .inl (.inl (hid_same _ _ (s5 _ _ hP4)))
      have s15 := ((s2.trans s3).trans (Same.hid t4)).trans s5
      refine ⟨rfl, .inr ⟨_, rfl, p4, _, _, .int (if decide (V.int r5 = V.int 1) = true then r3 else r2), rfl, rfl, hP5, ?_, ?_⟩⟩
      · by_cases c : decide (V.int r5 = V.int 1) = true
        · rw [if_pos c, if_pos c]
          exact atI_nat (j := 1) rfl
        · rw [if_neg c, if_neg c]
          exact atI_nat (j := 0) rfl
      have hk5 : 0 ≤ (if decide (V.int r5 = V.int 1) = true then r3 else r2) ∧ (if decide (V.int r5 = V.int 1) = true then r3 else r2) < 10000000 := by
        split <;> omega
      generalize (if decide (V.int r5 = V.int 1) = true then r3 else r2) = k5 at hk5 ⊢
      refine ⟨_, _, rfl, rfl, ?_⟩
      have hr5 := s15 _ _ hr1
      refine ⟨_, rfl, .inl ⟨rfl, _, .inl (.inl (hid_same _ _ hr5))⟩, _, rfl, _, rfl, b, l, _, rfl, B5, fun H6 v c al s6 B6 nal ca ec okc => ?_⟩
      have hr6 := s6 _ _ hr5
      have s16 := s15.trans s6
      have nt6 : ∀ a ∈ [b, l, r], NoT H6 a := by
        obtain ⟨x1, x2, e1, e2⟩ := B6.ex
        intro a ha
        simp only [List.mem_cons, List.not_mem_nil, or_false] at ha
        rcases ha with z | z | z <;> rw [z]
        · exact NoT.lst e1
        · exact NoT.lst e2
        · exact NoT.lst (hid_same _ _ hr6)
      have nal3 : al ∉ [b, l, r] := by
        obtain ⟨x1, x2, e1, e2⟩ := B5.ex
        intro ha
        simp only [List.mem_cons, List.not_mem_nil, or_false] at ha
        rcases ha with z | z | z
        · rw [z, e1] at nal
          cases nal
        · rw [z, e2] at nal
          cases nal
        · rw [z, hid_same _ _ hr5] at nal
          cases nal
      have dc := ca.dp nt6 nal3
      have da6 := dpa_mono (hid_sub s16) _ _ da
      refine ⟨r, ys, _, rfl, rfl, hid_same _ _ hr6, small1000 (by omega), ?_⟩
      have ec : c.1 = N + 1 + k5 := ec
      refine ⟨_, _, ys ++ [v], cs ++ [c], rfl, (hid_upd hr6).2 H (fun a x _ ha => s16 _ _ (s1 _ _ ha)) hr0, bx_upd B6 hr6, (hid_upd hr6).1, ?_, by rw [List.length_append, hl]; rfl, by omega, by omega, ?_, ?_⟩
      · rw [hidL_upd (by simp), List.map_append]
        exact dpa_snoc da6 dc
      · refine mem_snoc (fun d hd => ?_) ⟨okc, by omega, by omega⟩
        obtain ⟨o1, o2, o3⟩ := ok d hd
        exact ⟨o1, o2, by omega⟩
      · refine pw_snoc rise fun d hd => ?_
        have := (ok d hd).2.2
        omega
    · obtain ⟨c3, N, ys, cs, rfl, s1, B1, hr1, da, hl, N0, N1, ok, rise⟩ := h
      refine ⟨_, rfl, q _ r ys cs s1 B1 hr0 hr1 da ⟨fun c hc => ?_, rise, by omega⟩⟩
      obtain ⟨o1, o2, o3⟩ := ok c hc
      exact ⟨o1, o2, by omega⟩
/-! ### the lines of cues -/
def lineC (c : Cue) : Str := ("cue " : Str) ++ (sI c.1 ++ ((" from " : Str) ++ (framesT c.2.1 ++ ((" to " : Str) ++ framesT c.2.2.1))))
def lineW (x : Wd) : Str := ("  " : Str) ++ (x.1 ++ ((" at " : Str) ++ framesT x.2))
def linesOf (c : Cue) : List Str := lineC c :: c.2.2.2.map lineW
def linesM (cs : List Cue) : List Str := cs.flatMap linesOf
theorem linesM_more {cs : List Cue} {i : Nat} {c : Cue} (h : cs[i]? = some c) : linesM (cs.take (i + 1)) = linesM (cs.take i) ++ linesOf c := by
  unfold linesM
  rw [take_more h, List.flatMap_append]
  simp
theorem TB.bd {x : Rat} (h : TB x) : Bd (10 ^ 30) x := ⟨h.num.1, by have := h.num; omega, by have := h.dn; omega⟩
theorem fr_len {x : Rat} (h : TB x) : (framesT x).length ≤ 93 := by
  have := mix_len h.bd
  unfold framesT
  rw [slen]
  show _ + 1 ≤ 93
  omega
theorem slen_lit : ("cue " : Str).length = 4 ∧ (" from " : Str).length = 6 ∧ (" to " : Str).length = 4 ∧ ("  " : Str).length = 2 ∧ (" at " : Str).length = 4 ∧ ("f" : Str).length = 1 ∧ ("f to " : Str).length = 5 ∧ ("\n" : Str).length = 1 := ⟨rfl, rfl, rfl, rfl, rfl, rfl, rfl, rfl⟩
theorem lineC_len {c : Cue} (h : CueOk c) (h0 : 0 ≤ c.1) (h1 : c.1 < 10 ^ 30) : (lineC c).length ≤ 240 := by
  have a1 := fr_len h.tb
  have a2 := fr_len h.te
  have a3 := sI_len h0 h1
  obtain ⟨e1, e2, e3, e4, e5, e6, e7, e8⟩ := slen_lit
  unfold lineC
  simp only [slen, e1, e2, e3]
  omega
theorem lineW_len {x : Wd} (h : WordOk x.1) (t : TB x.2) : (lineW x).length ≤ 240 := by
  have a1 := fr_len t
  have a2 := h.l20
  obtain ⟨e1, e2, e3, e4, e5, e6, e7, e8⟩ := slen_lit
  unfold lineW
  simp only [slen, e4, e5]
  omega
theorem linesOf_each {c : Cue} (h : CueOk c) (h0 : 0 ≤ c.1) (h1 : c.1 < 10 ^ 30) : ∀ s ∈ linesOf c, s.length ≤ 240 := by
  intro s hs
  rcases List.mem_cons.mp hs with z | z
  · rw [z]
    exact lineC_len h h0 h1
  · obtain ⟨x, hx, rfl⟩ := List.mem_map.mp z
    obtain ⟨w1, w2, _⟩ := h.ws x hx
    exact lineW_len w1 w2
theorem linesM_each {cs : List Cue} (h : ∀ c ∈ cs, CueOk c ∧ 0 < c.1 ∧ c.1 ≤ 90000000) : ∀ s ∈ linesM cs, s.length ≤ 240 := by
  intro s hs
  obtain ⟨c, hc, hs⟩ := List.mem_flatMap.mp hs
  obtain ⟨o1, o2, o3⟩ := h c hc
  exact linesOf_each o1 (by omega) (by omega) s hs
theorem linesM_len : ∀ {cs : List Cue}, (∀ c ∈ cs, CueOk c ∧ 0 < c.1 ∧ c.1 ≤ 90000000) → (linesM cs).length ≤ 12 * cs.length
  | [], _ => Nat.le_refl _
  | c :: cs, h => by
    have h1 := (h c List.mem_cons_self).1.wn
    have h2 := linesM_len (cs := cs) fun d hd => h d (List.mem_cons_of_mem _ hd)
    show (linesOf c ++ linesM cs).length ≤ 12 * (cs.length + 1)
    rw [List.length_append]
    show (c.2.2.2.map lineW).length + 1 + _ ≤ _
    rw [List.length_map]
    omega
theorem sum_le : ∀ {ys : List Str}, (∀ s ∈ ys, s.length ≤ 240) → (ys.map (·.length)).sum ≤ 240 * ys.length
  | [], _ => Nat.le_refl _
  | s :: r, h => by
    have h1 := h s List.mem_cons_self
    have h2 := sum_le (ys := r) fun d hd => h d (List.mem_cons_of_mem _ hd)
    show s.length + (r.map (·.length)).sum ≤ 240 * (r.length + 1)
    omega
def spWritten (K : PySem.W.Frag) : Sp := fun vs H Q _ => ∃ (v : V) (cs : List Cue), vs = [v] ∧ Dp K H v (dCs cs) ∧ CuesOk cs ∧ ∀ H', Same H H' → Q (.str (Str.join "\n" (linesM cs))) H'
def spLines (K : PySem.W.Frag) : Sp := fun vs H Q _ => ∃ (v : V) (cs : List Cue), vs = [v] ∧ Dp K H v (dCs cs) ∧ CuesOk cs ∧ ∀ H' p, Same H H' → H p = none → H' p = some (.lst ((linesM cs).map V.str)) → Q (.ref p) H'
theorem szl {n : Nat} (h : n ≤ 1000) : n ≤ sizeLine := Nat.le_trans h (by decide)
/-! ### two tables may grow; all else stays -/
structure Ts (P0 P1 : Addr) (H : Hp) : Prop where
  n : P0 ≠ P1
  t0 : GxR.TabG H P0
  t1 : GxR.TabG H P1
def Tb2 (P0 P1 : Addr) (H H' : Hp) : Prop := Ts P0 P1 H' ∧ ∀ a o, a ≠ P0 → a ≠ P1 → H a = some o → H' a = some o
theorem Tb2.refl {P0 P1 : Addr} {H : Hp} (t : Ts P0 P1 H) : Tb2 P0 P1 H H := ⟨t, fun _ _ _ _ h => h⟩
theorem Tb2.trans {P0 P1 : Addr} {H H1 H2 : Hp} (a : Tb2 P0 P1 H H1) (b : Tb2 P0 P1 H1 H2) : Tb2 P0 P1 H H2 := ⟨b.1, fun x o n m h => b.2 x o n m (a.2 x o n m h)⟩
theorem Tb2.same {P0 P1 : Addr} {H H' : Hp} (t : Ts P0 P1 H) (s : Same H H') : Tb2 P0 P1 H H' := ⟨⟨t.n, tabG_same t.t0 s, tabG_same t.t1 s⟩, fun a o _ _ h => s a o h⟩
theorem Tb2.of0 {P0 P1 : Addr} {H H' : Hp} (t : Ts P0 P1 H) (s : Tb P0 H H') : Tb2 P0 P1 H H' := ⟨⟨t.n, s.1, let ⟨ps, h, q⟩ := t.t1; ⟨ps, s.2 _ _ t.n.symm h, q⟩⟩, fun a o n _ h => s.2 a o n h⟩
theorem Tb2.of1 {P0 P1 : Addr} {H H' : Hp} (t : Ts P0 P1 H) (s : Tb P1 H H') : Tb2 P0 P1 H H' := ⟨⟨t.n, (let ⟨ps, h, q⟩ := t.t0; ⟨ps, s.2 _ _ t.n h, q⟩), s.1⟩, fun a o _ m h => s.2 a o m h⟩
theorem Tb2.at {P0 P1 a : Addr} {H H' : Hp} {o : HO} (t : Ts P0 P1 H) (s : Tb2 P0 P1 H H') (h : H a = some o) (ho : ∀ q, o ≠ .tbl q) : H' a = some o := by
  refine s.2 a o (fun e => ?_) (fun e => ?_) h
  · obtain ⟨ps, hp, _⟩ := t.t0
    rw [e, hp] at h
    exact ho _ (Option.some.inj h).symm
  · obtain ⟨ps, hp, _⟩ := t.t1
    rw [e, hp] at h
    exact ho _ (Option.some.inj h).symm
theorem tb2_list {K : PySem.W.Frag} {P0 P1 a : Addr} {H H' : Hp} {xs : List V} (t : Ts P0 P1 H) (s : Tb2 P0 P1 H H') (h : SqL K H a xs) : SqL K H' a xs := by
  rcases h with (h | ⟨o, h⟩) | h
  · exact .inl (.inl (s.at t h (fun _ z => nomatch z)))
  · exact .inl (.inr ⟨o, s.at t h (fun _ z => nomatch z)⟩)
  · exact .inr h
theorem tb2_tup {K : PySem.W.Frag} {P0 P1 a : Addr} {H H' : Hp} {xs : List V} (t : Ts P0 P1 H) (s : Tb2 P0 P1 H H') (h : SqT K H a xs) : SqT K H' a xs := by
  rcases h with (h | ⟨o, h⟩) | h
  · exact .inl (.inl (s.at t h (fun _ z => nomatch z)))
  · exact .inl (.inr ⟨o, s.at t h (fun _ z => nomatch z)⟩)
  · exact .inr h
theorem tb2_dF {K : PySem.W.Frag} {P0 P1 : Addr} {H H' : Hp} {v : V} {q : Rat} (t : Ts P0 P1 H) (s : Tb2 P0 P1 H H') (h : Dp K H v (dF q)) : Dp K H' v (dF q) := by
  obtain ⟨a, rfl, h2⟩ := dF_at h
  exact dF_mk (tb2_tup t s h2)
theorem dW_of {K : PySem.W.Frag} {H : Hp} {v : V} {x : Wd} (h : Dp K H v (dW x)) : ∃ a vt, v = .ref a ∧ SqT K H a [.str x.1, vt] ∧ Dp K H vt (dF x.2) := by
  unfold dW at h
  cases h with
  | tup hs ha =>
    cases ha with
    | cons h1 h2 =>
      cases h1
      cases h2 with
      | cons h3 h4 =>
        cases h4
        exact ⟨_, _, rfl, hs, h3⟩
theorem tb2_dW {K : PySem.W.Frag} {P0 P1 : Addr} {H H' : Hp} {v : V} {x : Wd} (t : Ts P0 P1 H) (s : Tb2 P0 P1 H H') (h : Dp K H v (dW x)) : Dp K H' v (dW x) := by
  obtain ⟨a, vt, rfl, h1, h2⟩ := dW_of h
  exact .tup (tb2_tup t s h1) (.cons (.str _) (.cons (tb2_dF t s h2) .nil))
theorem tb2_dWs {K : PySem.W.Frag} {P0 P1 : Addr} {H H' : Hp} (t : Ts P0 P1 H) (s : Tb2 P0 P1 H H') : ∀ {vs : List V} {ws : List Wd}, DpAll K H vs (ws.map dW) → DpAll K H' vs (ws.map dW)
  | _, [], h => by
    cases h
    exact .nil
  | _, _ :: _, h => by
    cases h with
    | cons h1 h2 => exact .cons (tb2_dW t s h1) (tb2_dWs t s h2)
theorem word_is {x : Str} (h : WordOk x) : isWordM x = true := by
  unfold isWordM
  rw [decide_eq_true (show 1 ≤ x.length from h.l0), decide_eq_true h.l20, Bool.true_and, Bool.true_and, List.all_eq_true]
  intro c hc
  have := h.abc c hc
  unfold low26
  rw [decide_eq_true this.1, decide_eq_true this.2]
  rfl
theorem word_no32 {x : Str} (h : WordOk x) : 32 ∉ tl x := fun z => by
  have := h.abc 32 z
  omega
theorem TB.whole {x : Rat} (h : TB x) : qw x ≤ 100100 := by
  have h2 : x * (x.den : Rat) ≤ 100100 * (x.den : Rat) := Rat.mul_le_mul_of_nonneg_right h.hi Rat.natCast_nonneg
  rw [mul_den] at h2
  have h3 : (x.num : Rat) ≤ ((100100 * (x.den : Int) : Int) : Rat) := by
    rw [Rat.intCast_mul, Rat.intCast_natCast]
    exact h2
  have h4 := Rat.intCast_le_intCast.mp h3
  have hd : (0 : Int) < (x.den : Int) := by have := x.den_pos; omega
  exact Int.ediv_le_of_le_mul hd h4
theorem tb_frames {x : Rat} (h : TB x) : rdFrames (framesT x) = some x := by
  have hd := h.dn
  have hq := h.whole
  obtain ⟨e1, e2⟩ := fr_back (q := x) h.num.1 (by omega) (by omega)
  unfold rdFrames
  rw [if_pos e1]
  exact e2
theorem rest_len {x : Wd} (h : WordOk x.1) (t : TB x.2) : (x.1 ++ ((" at " : Str) ++ framesT x.2)).length ≤ 240 := by
  have a1 := fr_len t
  have a2 := h.l20
  obtain ⟨e1, e2, e3, e4, e5, e6, e7, e8⟩ := slen_lit
  simp only [slen, e5]
  omega
theorem bd_parts {n m k : Int} {q : Rat} (h0 : 0 ≤ q.num) (hw : qw q < n) (hd : (q.den : Int) < m) (hk : n * m ≤ k) (n0 : 0 ≤ n) (m1 : m ≤ k) : Bd k q := by
  have hp := den_pos q
  refine ⟨h0, ?_, by omega⟩
  have h1 := Int.mul_ediv_add_emod q.num (q.den : Int)
  have h2 := Int.emod_lt_of_pos q.num hp
  have h3 : qw q = q.num / (q.den : Int) := rfl
  rw [← h3] at h1
  have w0 : 0 ≤ qw q := by rw [h3]; exact Int.ediv_nonneg h0 (by omega)
  have h4 : (q.den : Int) * (qw q + 1) ≤ m * n := Int.mul_le_mul (by omega) (by omega) (by omega) (by omega)
  have h5 : (q.den : Int) * (qw q + 1) = (q.den : Int) * qw q + (q.den : Int) := by rw [Int.mul_add, Int.mul_one]
  have h6 : m * n = n * m := Int.mul_comm _ _
  omega
/-! ### lines read: what each adds to the cues of the lines ahead -/
structure RB (x : Rat) : Prop where
  n : 0 ≤ x.num
  w : qw x < 10 ^ 9
  d : (x.den : Int) < 10 ^ 9
theorem frames_rb {x : Str} {q : Rat} (h : rdFrames x = some q) : x = framesT q ∧ RB q := by
  unfold rdFrames at h
  by_cases hf : Txt.endswith x "f" = true
  · rw [if_pos hf] at h
    obtain ⟨e, h1, h2, h3⟩ := mix_of h
    refine ⟨?_, h1, h2, h3⟩
    unfold framesT
    rw [← e]
    exact ends_cut (c := 102) hf
  · rw [if_neg hf] at h
    cases h
theorem RB.back {q : Rat} (h : RB q) : rdFrames (framesT q) = some q := by
  obtain ⟨e1, e2⟩ := fr_back h.n h.w h.d
  unfold rdFrames
  rw [if_pos e1]
  exact e2
theorem TB.rb {x : Rat} (h : TB x) : RB x := ⟨h.num.1, by have := h.whole; omega, by have := h.dn; omega⟩
theorem RB.bd {x : Rat} (h : RB x) : Bd (10 ^ 30) x := bd_parts h.n h.w h.d (by decide) (by decide) (by decide)
theorem RB.sz {x : Rat} (h : RB x) : Sz 100 x := bd100 h.bd
theorem RB.fl {x : Rat} (h : RB x) : (framesT x).length ≤ 93 := by
  have := mix_len h.bd
  unfold framesT
  rw [slen]
  show _ + 1 ≤ 93
  omega
theorem rdFrames_none : rdFrames Str.empty = none := by
  cases e : rdFrames Str.empty with
  | none => rfl
  | some q =>
    have := (frames_rb e).1
    have := congrArg tl this
    unfold framesT at this
    rw [tl_app] at this
    have := congrArg List.length this
    rw [List.length_append] at this
    have : (0 : Nat) = _ + 1 := this
    omega
/-- a word's line behind its two blanks -/
def rdWord (x : Str) : Option Wd := match rdFrames (Txt.partition x " at ").2.2 with
  | none => none
  | some t => if isWordM (Txt.partition x " at ").1 = true then some ((Txt.partition x " at ").1, t) else none
/-- a cue's line behind its first word -/
def rdHead (x : Str) : Option (Int × Rat × Rat) := match rdNum (Txt.partition x " from ").1 with
  | none => none
  | some n => match rdFrames (Txt.partition (Txt.partition x " from ").2.2 " to ").1 with
    | none => none
    | some b => match rdFrames (Txt.partition (Txt.partition x " from ").2.2 " to ").2.2 with
      | none => none
      | some e => some (n, b, e)
def lowC (cs : List Cue) (n : Int) : Prop := ∀ c, cs.getLast? = some c → c.1 < n
instance (cs : List Cue) (n : Int) : Decidable (lowC cs n) := by
  unfold lowC
  cases cs.getLast? with
  | none => exact .isTrue fun c h => by cases h
  | some d => exact if h : d.1 < n then .isTrue fun c e => by cases e; exact h else .isFalse fun z => h (z d rfl)
def early (c : Cue) : Rat := match c.2.2.2.getLast? with
  | none => c.2.1
  | some w => w.2
def putW (c : Cue) (w : Wd) : Cue := (c.1, c.2.1, c.2.2.1, c.2.2.2 ++ [w])
def stepM (cs : List Cue) (l : Str) : Option (List Cue) :=
  if Txt.startswith l "cue " = true then (match rdHead (cutS l (some ((4 : Nat) : Int)) none) with
    | none => none
    | some h => if lowC cs h.1 ∧ h.2.1 < h.2.2 then some (cs ++ [(h.1, h.2.1, h.2.2, [])]) else none)
  else if Txt.startswith l "  " = true then (match cs.getLast? with
    | none => none
    | some c => match rdWord (cutS l (some ((2 : Nat) : Int)) none) with
      | none => none
      | some w => if early c ≤ w.2 ∧ w.2 < c.2.2.1 then some (cs.dropLast ++ [putW c w]) else none)
  else none
theorem word_of {x : Str} (h : isWordM x = true) : WordOk x := by
  unfold isWordM at h
  rw [Bool.and_eq_true, Bool.and_eq_true, decide_eq_true_eq, decide_eq_true_eq, List.all_eq_true] at h
  refine ⟨h.1.1, h.1.2, fun c hc => ?_⟩
  have := h.2 c hc
  unfold low26 at this
  rw [Bool.and_eq_true, decide_eq_true_eq, decide_eq_true_eq] at this
  exact this
theorem rdWord_some {x : Str} {w : Wd} (h : rdWord x = some w) : x = w.1 ++ ((" at " : Str) ++ framesT w.2) ∧ WordOk w.1 ∧ RB w.2 := by
  unfold rdWord at h
  rcases part_back x " at " (by decide) with e | ⟨a, b, e1, e⟩
  · rw [e] at h
    dsimp only at h
    rw [rdFrames_none] at h
    cases h
  · rw [e] at h
    dsimp only at h
    cases hf : rdFrames b with
    | none =>
      rw [hf] at h
      cases h
    | some t =>
      rw [hf] at h
      dsimp only at h
      obtain ⟨h1, h2⟩ := frames_rb hf
      by_cases hw : isWordM a = true
      · rw [if_pos hw] at h
        cases h
        exact ⟨by rw [e1, ← h1], word_of hw, h2⟩
      · rw [if_neg hw] at h
        cases h
theorem rdWord_back {w : Wd} (h : WordOk w.1) (t : RB w.2) : rdWord (w.1 ++ ((" at " : Str) ++ framesT w.2)) = some w := by
  unfold rdWord
  rw [lnW_at w.2 (word_no32 h)]
  dsimp only
  rw [t.back]
  dsimp only
  rw [if_pos (word_is h)]
theorem rdHead_some {x : Str} {h : Int × Rat × Rat} (q : rdHead x = some h) : x = sI h.1 ++ ((" from " : Str) ++ (framesT h.2.1 ++ ((" to " : Str) ++ framesT h.2.2))) ∧ 0 ≤ h.1 ∧ h.1 < 10 ^ 9 ∧ RB h.2.1 ∧ RB h.2.2 := by
  unfold rdHead at q
  rcases part_back x " from " (by decide) with e | ⟨a, b, e1, e⟩
  · rw [e] at q
    dsimp only at q
    have e0 : Txt.partition Str.empty " to " = (Str.empty, Str.empty, Str.empty) := by decide +kernel
    rw [e0] at q
    dsimp only at q
    rw [rdFrames_none] at q
    cases hn : rdNum x with
    | none =>
      rw [hn] at q
      cases q
    | some n =>
      rw [hn] at q
      cases q
  · rw [e] at q
    dsimp only at q
    cases hn : rdNum a with
    | none =>
      rw [hn] at q
      cases q
    | some n =>
      rw [hn] at q
      dsimp only at q
      rcases part_back b " to " (by decide) with e' | ⟨c, d, e2, e'⟩
      · rw [e'] at q
        dsimp only at q
        rw [rdFrames_none] at q
        cases hb : rdFrames b with
        | none =>
          rw [hb] at q
          cases q
        | some n =>
          rw [hb] at q
          cases q
      · rw [e'] at q
        dsimp only at q
        cases hb : rdFrames c with
        | none =>
          rw [hb] at q
          cases q
        | some y =>
          rw [hb] at q
          dsimp only at q
          cases hd : rdFrames d with
          | none =>
            rw [hd] at q
            cases q
          | some z =>
            rw [hd] at q
            cases q
            obtain ⟨n1, n2, n3⟩ := rdNum_some hn
            obtain ⟨b1, b2⟩ := frames_rb hb
            obtain ⟨d1, d2⟩ := frames_rb hd
            refine ⟨?_, n2, n3, b2, d2⟩
            dsimp only
            rw [e1, e2, ← n1, ← b1, ← d1]
theorem rdHead_back {n : Int} {b e : Rat} (n0 : 0 ≤ n) (n1 : n < 10 ^ 9) (hb : RB b) (he : RB e) : rdHead (sI n ++ ((" from " : Str) ++ (framesT b ++ ((" to " : Str) ++ framesT e)))) = some (n, b, e) := by
  unfold rdHead
  rw [lnC_from n0]
  dsimp only
  rw [lnC_to hb.n]
  dsimp only
  rw [rdNum_sI n0 n1]
  dsimp only
  rw [hb.back]
  dsimp only
  rw [he.back]
/-- a cue that was read -/
structure CG (c : Cue) : Prop where
  n0 : 0 ≤ c.1
  n1 : c.1 < 10 ^ 9
  b : RB c.2.1
  e : RB c.2.2.1
  lt : c.2.1 < c.2.2.1
  ws : ∀ x ∈ c.2.2.2, WordOk x.1 ∧ RB x.2 ∧ c.2.1 ≤ x.2 ∧ x.2 < c.2.2.1
  ord : c.2.2.2.Pairwise fun x y => x.2 ≤ y.2
structure CsG (cs : List Cue) : Prop where
  each : ∀ c ∈ cs, CG c
  rise : cs.Pairwise fun c d => c.1 < d.1
theorem CsG.nil : CsG [] := ⟨fun _ h => (by cases h), .nil⟩
theorem linesM_app (a b : List Cue) : linesM (a ++ b) = linesM a ++ linesM b := by
  unfold linesM
  rw [List.flatMap_append]
theorem linesM_one (c : Cue) : linesM [c] = lineC c :: c.2.2.2.map lineW := by
  show linesOf c ++ [] = _
  rw [List.append_nil]
  rfl
theorem early_le {c : Cue} (h : CG c) : ∀ x ∈ c.2.2.2, x.2 ≤ early c := by
  intro x hx
  unfold early
  rcases List.eq_nil_or_concat c.2.2.2 with e | ⟨pre, w, e⟩
  · rw [e] at hx
    cases hx
  · rw [List.concat_eq_append] at e
    rw [e, List.getLast?_concat]
    dsimp only
    have o := h.ord
    rw [e, List.pairwise_append] at o
    rw [e] at hx
    rcases List.mem_append.mp hx with z | z
    · exact o.2.2 x z w (by simp)
    · rw [List.mem_singleton.mp z]
      exact Rat.le_refl
theorem early_ge {c : Cue} (h : CG c) : c.2.1 ≤ early c ∧ RB (early c) := by
  unfold early
  rcases List.eq_nil_or_concat c.2.2.2 with e | ⟨pre, w, e⟩
  · rw [e]
    exact ⟨Rat.le_refl, h.b⟩
  · rw [List.concat_eq_append] at e
    rw [e, List.getLast?_concat]
    obtain ⟨_, h1, h2, _⟩ := h.ws w (by rw [e]; simp)
    exact ⟨h2, h1⟩
theorem putW_good {c : Cue} {w : Wd} (h : CG c) (hw : WordOk w.1) (ht : RB w.2) (h1 : early c ≤ w.2) (h2 : w.2 < c.2.2.1) : CG (putW c w) := by
  refine ⟨h.n0, h.n1, h.b, h.e, h.lt, fun x hx => ?_, ?_⟩
  · rcases List.mem_append.mp (show x ∈ c.2.2.2 ++ [w] from hx) with z | z
    · exact h.ws x z
    · rw [List.mem_singleton.mp z]
      exact ⟨hw, ht, Rat.le_trans (early_ge h).1 h1, h2⟩
  · show (c.2.2.2 ++ [w]).Pairwise _
    rw [List.pairwise_append]
    refine ⟨h.ord, List.pairwise_singleton _ _, fun x hx y hy => ?_⟩
    rw [List.mem_singleton.mp hy]
    exact Rat.le_trans (early_le h x hx) h1
theorem linesM_putW (init : List Cue) (c : Cue) (w : Wd) : linesM (init ++ [putW c w]) = linesM (init ++ [c]) ++ [lineW w] := by
  rw [linesM_app, linesM_app, linesM_one, linesM_one]
  show linesM init ++ (lineC c :: (c.2.2.2 ++ [w]).map lineW) = _
  simp
/-- a line that is taken: what the cues are behind it -/
theorem step_some {cs cs' : List Cue} {l : Str} (G : CsG cs) (h : stepM cs l = some cs') : CsG cs' ∧ linesM cs' = linesM cs ++ [l] ∧ cs' ≠ [] := by
  unfold stepM at h
  by_cases h1 : Txt.startswith l "cue " = true
  · rw [if_pos h1] at h
    have e1 := starts_back (n := 4) rfl h1
    cases hh : rdHead (cutS l (some ((4 : Nat) : Int)) none) with
    | none =>
      rw [hh] at h
      cases h
    | some q =>
      rw [hh] at h
      dsimp only at h
      obtain ⟨e2, n0, n1, b, e⟩ := rdHead_some hh
      by_cases hc : lowC cs q.1 ∧ q.2.1 < q.2.2
      · rw [if_pos hc] at h
        cases h
        refine ⟨⟨fun c hm => ?_, ?_⟩, ?_, by simp⟩
        · rcases List.mem_append.mp hm with z | z
          · exact G.each c z
          · rw [List.mem_singleton.mp z]
            exact ⟨n0, n1, b, e, hc.2, (fun x hx => by cases hx), .nil⟩
        · rw [List.pairwise_append]
          refine ⟨G.rise, List.pairwise_singleton _ _, fun x hx y hy => ?_⟩
          rw [List.mem_singleton.mp hy]
          rcases List.eq_nil_or_concat cs with z | ⟨pre, c, z⟩
          · rw [z] at hx
            cases hx
          · rw [List.concat_eq_append] at z
            have lo := hc.1 c (by rw [z, List.getLast?_concat])
            rw [z] at hx
            rcases List.mem_append.mp hx with y1 | y1
            · have rs := G.rise
              rw [z, List.pairwise_append] at rs
              have := rs.2.2 x y1 c (by simp)
              exact Int.lt_trans this lo
            · rw [List.mem_singleton.mp y1]
              exact lo
        · rw [linesM_app, linesM_one]
          show linesM cs ++ [lineC (q.1, q.2.1, q.2.2, [])] = _
          unfold lineC
          dsimp only
          rw [← e2]
          rw [show ("cue " : Str) ++ cutS l (some ((4 : Nat) : Int)) none = l from e1.symm]
      · rw [if_neg hc] at h
        cases h
  · rw [if_neg h1] at h
    by_cases h2 : Txt.startswith l "  " = true
    · rw [if_pos h2] at h
      have e1 := starts_back (n := 2) rfl h2
      rcases List.eq_nil_or_concat cs with z | ⟨init, c, z⟩
      · rw [z] at h
        cases h
      · rw [List.concat_eq_append] at z
        subst z
        rw [List.getLast?_concat, List.dropLast_concat] at h
        dsimp only at h
        cases hw : rdWord (cutS l (some ((2 : Nat) : Int)) none) with
        | none =>
          rw [hw] at h
          cases h
        | some w =>
          rw [hw] at h
          dsimp only at h
          obtain ⟨e2, wk, tb⟩ := rdWord_some hw
          by_cases hc : early c ≤ w.2 ∧ w.2 < c.2.2.1
          · rw [if_pos hc] at h
            cases h
            have rs := G.rise
            rw [List.pairwise_append] at rs
            refine ⟨⟨fun d hm => ?_, ?_⟩, ?_, by simp⟩
            · rcases List.mem_append.mp hm with y | y
              · exact G.each d (List.mem_append.mpr (.inl y))
              · rw [List.mem_singleton.mp y]
                exact putW_good (G.each c (by simp)) wk tb hc.1 hc.2
            · rw [List.pairwise_append]
              refine ⟨rs.1, List.pairwise_singleton _ _, fun x hx y hy => ?_⟩
              rw [List.mem_singleton.mp hy]
              exact rs.2.2 x hx c (by simp)
            · rw [linesM_putW]
              congr 1
              unfold lineW
              rw [← e2]
              rw [show ("  " : Str) ++ cutS l (some ((2 : Nat) : Int)) none = l from e1.symm]
          · rw [if_neg hc] at h
            cases h
    · rw [if_neg h2] at h
      cases h
def runM (cs : List Cue) (ls : List Str) : Option (List Cue) := ls.foldlM stepM cs
theorem runM_app (cs : List Cue) (a b : List Str) : runM cs (a ++ b) = (runM cs a).bind fun c => runM c b := by
  unfold runM
  rw [List.foldlM_append]
  rfl
theorem runM_one (cs : List Cue) (l : Str) : runM cs [l] = stepM cs l := by
  unfold runM
  rw [List.foldlM_cons]
  show (stepM cs l).bind (fun c => some c) = _
  cases stepM cs l with
  | none => rfl
  | some _ => rfl
theorem run_good {ls : List Str} : ∀ {cs cs' : List Cue}, CsG cs → runM cs ls = some cs' → CsG cs' ∧ linesM cs' = linesM cs ++ ls := by
  induction ls with
  | nil =>
    intro cs cs' G h
    cases h
    exact ⟨G, (List.append_nil _).symm⟩
  | cons l r ih =>
    intro cs cs' G h
    have h' : (stepM cs l).bind (fun c => runM c r) = some cs' := h
    cases e : stepM cs l with
    | none =>
      rw [e] at h'
      cases h'
    | some c =>
      rw [e] at h'
      obtain ⟨g1, e1, _⟩ := step_some G e
      obtain ⟨g2, e2⟩ := ih g1 h'
      refine ⟨g2, ?_⟩
      rw [e2, e1]
      simp
theorem Tb2.free {P0 P1 a : Addr} {H H' : Hp} (s : Tb2 P0 P1 H H') (h : H' a = none) : H a = none := by
  cases e : H a with
  | none => rfl
  | some o =>
    exfalso
    by_cases n0 : a = P0
    · obtain ⟨ps, hp, _⟩ := s.1.t0
      rw [← n0, h] at hp
      cases hp
    · by_cases n1 : a = P1
      · obtain ⟨ps, hp, _⟩ := s.1.t1
        rw [← n1, h] at hp
        cases hp
      · rw [s.2 a o n0 n1 e] at h
        cases h
/-- a line is refused: by a time that is none, or by its number -/
def Out (P0 P1 C CN : Addr) (n : Nat) (H : Hp) (E : XK) : Prop := (∀ H', Tb2 P0 P1 H H' → E (.ref C) none H') ∧ ∀ H' d, Tb2 P0 P1 H H' → H d = none → H' d = some (.xd [("line", .int (n : Int))]) → E (.ref CN) (some d) H'
theorem Out.note {P0 P1 C CN : Addr} {n : Nat} {H H1 : Hp} {E : XK} (o : Out P0 P1 C CN n H E) (t : Tb2 P0 P1 H H1) (d : Addr) (hd : H1 d = none) : E (.ref CN) (some d) (upd H1 d (.xd [("line", .int (n : Int))])) :=
  o.2 _ d (t.trans (Tb2.same t.1 (Same.new hd))) (t.free hd) upd_same
def spReadWordX (K : PySem.W.Frag) (P0 P1 C CN : Addr) : Sp := fun vs H Q E => ∃ (x : Str) (n : Nat) (v1 v2 : V) (e1 e2 : Rat), vs = [.str x, .int (n : Int), v1, v2] ∧ x.length ≤ 1000 ∧ n ≤ 100000 ∧ Dp K H v1 (dF e1) ∧ Dp K H v2 (dF e2) ∧ Sz 100 e1 ∧ Sz 100 e2 ∧ Ts P0 P1 H ∧
  (∀ y, rdWord x = some y → e1 ≤ y.2 → y.2 < e2 → ∀ H' z, Tb2 P0 P1 H H' → Dp K H' z (dW y) → Q z H') ∧ ((∀ y, rdWord x = some y → ¬ (e1 ≤ y.2 ∧ y.2 < e2)) → Out P0 P1 C CN n H E)
theorem cl_read_word (T : Txt K mg) {c P0 C c1 P1 CN : Addr} (D : Dfc K mg "read_number" s_read_number ["word"] c) (TB0 : GxR.TabB base mg c P0) (e_BadTime : ExcT K mg "BadTime" C) (D1 : Dfc K mg "is_word" s_is_word ["text"] c1) (TB1 : GxR.TabB base mg c1 P1) (N : NtX P w K mg base "BadNote" CN) : Cl P w K mg base (L2N.CX P w) 6 "read_word" (spReadWordX K P0 P1 C CN) := by
  have c_read_frames := cl_read_frames (P := P) (w := w) (base := base) T D TB0 e_BadTime
  have c_is_word := cl_is_word (P := P) (w := w) (base := base) T D1 TB1
  have c_is_below := cl_is_below (P := P) (w := w) (base := base) T
  refine T.d_read_word.clXN sc_read_word (fun vs H Q E h => ?_) (fun f cdv A outer s H vs Q E hr h => ?_)
  · obtain ⟨x, n, v1, v2, e1, e2, rfl, _⟩ := h
    rfl
  · obtain ⟨x, n, v1, v2, e1, e2, rfl, lx, n9, d1, d2, z1, z2, ts, q, o⟩ := h
    refine ⟨_, (pss_cons (ps_asg (pe_partition (pv 0) pe_str) (pg_tup rfl (pgs_cons (pg_name (i := 4) sc_read_word.nd rfl (.inl rfl)) (pgs_cons (pg_name (i := 5) sc_read_word.nd rfl (.inl rfl)) (pgs_cons (pg_name (i := 6) sc_read_word.nd rfl (.inl rfl)) pgs_nil)))))
      (pss_cons (ps_set (i := 7) sc_read_word.nd rfl (.inl rfl) (pe_clSN c_read_frames hr (by decide) (by rfl) (L2N.takes_of rfl rfl rfl rfl) (pa_cons (pv 6) pa_nil)))
      (pss_cons (ps_if (pt_not (pt_val (pe_cl c_is_word hr (by decide) (by rfl) (pa_cons (pv 4) pa_nil))))
        (pss_one (L2N.ps_raise rfl (L2N.takes_of rfl rfl rfl rfl) (L2H.PMk5.pmk (pmk_note N (room0 hr (by decide)) (by rfl) (pa_cons (pv 1) pa_nil)))))
        pss_nil)
      (pss_cons (ps_if (PW.pt (pw_or (pt_val (pe_cl c_is_below hr (by decide) (by rfl) (pa_cons (pv 7) (pa_cons (pv 2) pa_nil)))) (pw_or1 (pt_not (pt_val (pe_cl c_is_below hr (by decide) (by rfl) (pa_cons (pv 7) (pa_cons (pv 3) pa_nil))))))))
        (pss_one (L2N.ps_raise rfl (L2N.takes_of rfl rfl rfl rfl) (L2H.PMk5.pmk (pmk_note N (room0 hr (by decide)) (by rfl) (pa_cons (pv 1) pa_nil)))))
        pss_nil)
      (pss_one (ps_ret (pe_tup (pa_cons (pv 4) (pa_cons (pv 7) pa_nil))))))))), ?_⟩
    have pl := part_le x " at " (by decide)
    have er : rdWord x = (match rdFrames (Txt.partition x " at ").2.2 with
      | none => none
      | some t => if isWordM (Txt.partition x " at ").1 = true then some ((Txt.partition x " at ").1, t) else none) := rfl
    refine ⟨_, rfl, ⟨_, rfl⟩, _, _, rfl, rfl, rfl, le1000 lx, fun p hp => ?_⟩
    generalize Txt.partition x " at " = pr at pl er ⊢
    have t1 := Tb2.same ts (Same.new (o := .tup [.str pr.1, .str pr.2.1, .str pr.2.2]) hp)
    refine ⟨p, _, rfl, .inl (.inl upd_same), rfl, _, _, rfl, _, _, rfl, _, _, rfl, rfl, ?_⟩
    generalize upd H p (.tup [.str pr.1, .str pr.2.1, .str pr.2.2]) = H1 at t1 ⊢
    refine ⟨_, rfl, pr.2.2, rfl, by omega, t1.1.t0, fun y hy H2 v3 t2 d3 => ?_, fun hn H2 t2 => (o (fun y hy => by rw [er, hn] at hy; cases hy)).1 _ (t1.trans (Tb2.of0 t1.1 t2))⟩
    rw [hy] at er
    dsimp only at er
    have t12 := t1.trans (Tb2.of0 t1.1 t2)
    have zy := (frames_rb hy).2.sz
    refine ⟨_, rfl, pr.1, rfl, by omega, t12.1.t1, fun H3 t3 => ?_⟩
    have t13 := t12.trans (Tb2.of1 t12.1 t3)
    have d3' := tb2_dF t12.1 (Tb2.of1 t12.1 t3) d3
    by_cases hw : isWordM pr.1 = true
    · rw [hw]
      rw [if_pos hw] at er
      refine ⟨_, rfl, iteN rfl ?_⟩
      refine ⟨_, rfl, _, rfl, _, _, _, _, 100, 100, rfl, d3', tb2_dF ts t13 d1, zy, z1, by omega, _, rfl, ?_⟩
      by_cases b1 : y < e1
      · refine iteY (decide_eq_true b1) (iteY rfl ?_)
        have o' := o fun w hw => by
          rw [er] at hw
          cases hw
          exact fun z => absurd z.1 (Rat.not_le.mpr b1)
        exact ⟨_, rfl, note_reads n9 fun d hd => o'.note t13 d hd⟩
      · refine iteN (decide_eq_false b1) ?_
        refine ⟨_, rfl, _, rfl, _, _, _, _, 100, 100, rfl, d3', tb2_dF ts t13 d2, zy, z2, by omega, _, rfl, ?_⟩
        by_cases b2 : y < e2
        · rw [decide_eq_true b2]
          refine iteN rfl ?_
          refine ⟨_, rfl, _, rfl, (show 2 ≤ sizeLine by decide), fun p4 n4 => ?_⟩
          have s4 := Same.new (o := .tup [.str pr.1, v3]) n4
          exact q _ er (Rat.not_lt.mp b1) b2 _ _ (t13.trans (Tb2.same t13.1 s4)) (.tup (.inl (.inl upd_same)) (.cons (.str _) (.cons (dp_mono s4 _ _ d3') .nil)))
        · rw [decide_eq_false b2]
          refine iteY rfl ?_
          have o' := o fun w hw => by
            rw [er] at hw
            cases hw
            exact fun z => absurd z.2 b2
          exact ⟨_, rfl, note_reads n9 fun d hd => o'.note t13 d hd⟩
    · have hw' : isWordM pr.1 = false := by
        cases e : isWordM pr.1 with
        | false => rfl
        | true => exact absurd e hw
      rw [hw']
      rw [if_neg hw] at er
      refine ⟨_, rfl, iteY rfl ?_⟩
      have o' := o fun w hw => by
        rw [er] at hw
        cases hw
      exact ⟨_, rfl, note_reads n9 fun d hd => o'.note t13 d hd⟩
/-- a list of cues so far: it is empty, or its last one's number is told -/
def LastI (K : PySem.W.Frag) (H : Hp) (ys : List V) (cs : List Cue) : Prop := (ys = [] ∧ cs = []) ∨ ∃ pre a v1 v2 v3 init c, ys = pre ++ [.ref a] ∧ cs = init ++ [c] ∧ SqT K H a [.int c.1, v1, v2, v3]
def spReadCueX (K : PySem.W.Frag) (P0 P1 C CN : Addr) : Sp := fun vs H Q E => ∃ (x : Str) (n : Nat) (r : Addr) (ys : List V) (cs : List Cue), vs = [.str x, .int (n : Int), .ref r] ∧ x.length ≤ 1000 ∧ n ≤ 100000 ∧ H r = some (.lst ys) ∧ LastI K H ys cs ∧ Ts P0 P1 H ∧
  (∀ h, rdHead x = some h → lowC cs h.1 → h.2.1 < h.2.2 → ∀ H' p v1 v2 al, Tb2 P0 P1 H H' → H al = none → H' al = some (.lst []) → SqT K H' p [.int h.1, v1, v2, .ref al] → Dp K H' v1 (dF h.2.1) → Dp K H' v2 (dF h.2.2) → Q (.ref p) H') ∧
  ((∀ h, rdHead x = some h → ¬ (lowC cs h.1 ∧ h.2.1 < h.2.2)) → Out P0 P1 C CN n H E)
theorem cl_read_cue (T : Txt K mg) {c P0 C P1 CN : Addr} (D : Dfc K mg "read_number" s_read_number ["word"] c) (TB0 : GxR.TabB base mg c P0) (e_BadTime : ExcT K mg "BadTime" C) (N : NtX P w K mg base "BadNote" CN) : Cl P w K mg base (L2N.CX P w) 6 "read_cue" (spReadCueX K P0 P1 C CN) := by
  have c_read_number := cl_read_number (P := P) (w := w) (base := base) T D TB0 e_BadTime
  have c_read_frames := cl_read_frames (P := P) (w := w) (base := base) T D TB0 e_BadTime
  have c_is_below := cl_is_below (P := P) (w := w) (base := base) T
  refine T.d_read_cue.clXN sc_read_cue (fun vs H Q E h => ?_) (fun f cdv A outer s H vs Q E hr h => ?_)
  · obtain ⟨x, n, r, ys, cs, rfl, _⟩ := h
    rfl
  · obtain ⟨x, n, r, ys, cs, rfl, lx, n9, hr0, ll, ts, q, o⟩ := h
    refine ⟨_, (pss_cons (ps_asg (pe_partition (pv 0) pe_str) (pg_tup rfl (pgs_cons (pg_name (i := 3) sc_read_cue.nd rfl (.inl rfl)) (pgs_cons (pg_name (i := 4) sc_read_cue.nd rfl (.inl rfl)) (pgs_cons (pg_name (i := 5) sc_read_cue.nd rfl (.inl rfl)) pgs_nil)))))
      (pss_cons (ps_asg (pe_partition (pv 5) pe_str) (pg_tup rfl (pgs_cons (pg_name (i := 6) sc_read_cue.nd rfl (.inl rfl)) (pgs_cons (pg_name (i := 4) sc_read_cue.nd rfl (.inl rfl)) (pgs_cons (pg_name (i := 7) sc_read_cue.nd rfl (.inl rfl)) pgs_nil)))))
      (pss_cons (ps_set (i := 8) sc_read_cue.nd rfl (.inl rfl) (pe_clSN c_read_number hr (by decide) (by rfl) (L2N.takes_of rfl rfl rfl rfl) (pa_cons (pv 3) pa_nil)))
      (pss_cons (ps_set (i := 9) sc_read_cue.nd rfl (.inl rfl) (pe_clSN c_read_frames hr (by decide) (by rfl) (L2N.takes_of rfl rfl rfl rfl) (pa_cons (pv 6) pa_nil)))
      (pss_cons (ps_set (i := 10) sc_read_cue.nd rfl (.inl rfl) (pe_clSN c_read_frames hr (by decide) (by rfl) (L2N.takes_of rfl rfl rfl rfl) (pa_cons (pv 7) pa_nil)))
      (pss_cons (ps_if (PW.pt (pw_and (pt_truth (pv 2) (by intro _; rfl)) (pw_and1 (pt_cmpR op_le (pv 8) (pe_ix ix_tup (pe_ix ix_list (pv 2) (pe_un un_neg pe_int) (fun _ _ => rfl)) pe_int (fun _ _ => rfl)) (nomark _)))))
        (pss_one (L2N.ps_raise rfl (L2N.takes_of rfl rfl rfl rfl) (L2H.PMk5.pmk (pmk_note N (room0 hr (by decide)) (by rfl) (pa_cons (pv 1) pa_nil)))))
        pss_nil)
      (pss_cons (ps_if (pt_not (pt_val (pe_cl c_is_below hr (by decide) (by rfl) (pa_cons (pv 9) (pa_cons (pv 10) pa_nil)))))
        (pss_one (L2N.ps_raise rfl (L2N.takes_of rfl rfl rfl rfl) (L2H.PMk5.pmk (pmk_note N (room0 hr (by decide)) (by rfl) (pa_cons (pv 1) pa_nil)))))
        pss_nil)
      (pss_one (ps_ret (pe_tup (pa_cons (pv 8) (pa_cons (pv 9) (pa_cons (pv 10) (pa_cons (pe_lst pa_nil) pa_nil)))))))))))))), ?_⟩
    have pl := part_le x " from " (by decide)
    have er : rdHead x = (match rdNum (Txt.partition x " from ").1 with
      | none => none
      | some n => match rdFrames (Txt.partition (Txt.partition x " from ").2.2 " to ").1 with
        | none => none
        | some b => match rdFrames (Txt.partition (Txt.partition x " from ").2.2 " to ").2.2 with
          | none => none
          | some e => some (n, b, e)) := rfl
    refine ⟨_, rfl, ⟨_, rfl⟩, _, _, rfl, rfl, rfl, le1000 lx, fun p hp => ?_⟩
    generalize Txt.partition x " from " = pr at pl er ⊢
    have t1 := Tb2.same ts (Same.new (o := .tup [.str pr.1, .str pr.2.1, .str pr.2.2]) hp)
    refine ⟨p, _, rfl, .inl (.inl upd_same), rfl, _, _, rfl, _, _, rfl, _, _, rfl, rfl, ?_⟩
    generalize upd H p (.tup [.str pr.1, .str pr.2.1, .str pr.2.2]) = H1 at t1 ⊢
    have pl2 := part_le pr.2.2 " to " (by decide)
    refine ⟨_, rfl, ⟨_, rfl⟩, _, _, rfl, rfl, rfl, le1000 (by omega), fun p2 hp2 => ?_⟩
    generalize Txt.partition pr.2.2 " to " = ps at pl2 er ⊢
    have t2 := t1.trans (Tb2.same t1.1 (Same.new (o := .tup [.str ps.1, .str ps.2.1, .str ps.2.2]) hp2))
    refine ⟨p2, _, rfl, .inl (.inl upd_same), rfl, _, _, rfl, _, _, rfl, _, _, rfl, rfl, ?_⟩
    generalize upd H1 p2 (.tup [.str ps.1, .str ps.2.1, .str ps.2.2]) = H2 at t2 ⊢
    refine ⟨_, rfl, pr.1, rfl, by omega, t2.1.t0, fun i hi H3 t3 => ?_, fun hn H3 t3 => (o (fun y hy => by rw [er, hn] at hy; cases hy)).1 _ (t2.trans (Tb2.of0 t2.1 t3))⟩
    rw [hi] at er
    dsimp only at er
    have u3 := t2.trans (Tb2.of0 t2.1 t3)
    refine ⟨_, rfl, ps.1, rfl, by omega, u3.1.t0, fun b hb H4 v4 t4 d4 => ?_, fun hn H4 t4 => (o (fun y hy => by rw [er, hn] at hy; cases hy)).1 _ (u3.trans (Tb2.of0 u3.1 t4))⟩
    rw [hb] at er
    dsimp only at er
    have u4 := u3.trans (Tb2.of0 u3.1 t4)
    refine ⟨_, rfl, ps.2.2, rfl, by omega, u4.1.t0, fun e he H5 v5 t5 d5 => ?_, fun hn H5 t5 => (o (fun y hy => by rw [er, hn] at hy; cases hy)).1 _ (u4.trans (Tb2.of0 u4.1 t5))⟩
    rw [he] at er
    dsimp only at er
    have u5 := u4.trans (Tb2.of0 u4.1 t5)
    have d4' := tb2_dF u4.1 (Tb2.of0 u4.1 t5) d4
    have hr5 := u5.at ts hr0 (fun _ z => nomatch z)
    have zb := (frames_rb hb).2.sz
    have ze := (frames_rb he).2.sz
    have no : ¬ (lowC cs i ∧ b < e) → Out P0 P1 C CN n H E := fun z => o fun h hh => by
      rw [er] at hh
      cases hh
      exact z
    rcases ll with ⟨rfl, rfl⟩ | ⟨pre, a, w1, w2, w3, init, c, rfl, rfl, ha⟩
    · refine ⟨_, rfl, _, .inl ⟨_, .inl (.inl hr5), rfl⟩, iteN rfl ?_⟩
      refine ⟨_, rfl, _, rfl, _, _, _, _, 100, 100, rfl, d4', d5, zb, ze, by omega, _, rfl, ?_⟩
      by_cases be : b < e
      · rw [decide_eq_true be]
        refine iteN rfl ?_
        refine ⟨_, rfl, _, rfl, _, rfl, Nat.zero_le _, fun al nal => ?_⟩
        have s6 := Same.new (o := .lst []) nal
        have hal : (upd H5 al (.lst [])) al = some (.lst []) := upd_same
        generalize upd H5 al (.lst []) = H6 at s6 hal ⊢
        refine ⟨(show 4 ≤ sizeLine by decide), fun pn npn => ?_⟩
        have s7 := Same.new (o := .tup [.int i, v4, v5, .ref al]) npn
        have s67 := s6.trans s7
        exact q _ er (fun c hc => by cases hc) be _ _ _ _ al (u5.trans (Tb2.same u5.1 s67)) (u5.free nal) (s7 _ _ hal) (.inl (.inl upd_same)) (dp_mono s67 _ _ d4') (dp_mono s67 _ _ d5)
      · rw [decide_eq_false be]
        refine iteY rfl ?_
        have o' := no fun z => be z.2
        exact ⟨_, rfl, note_reads n9 fun d hd => o'.note u5 d hd⟩
    · refine ⟨_, rfl, _, .inl ⟨_, .inl (.inl hr5), rfl⟩, iteY (by simp) ?_⟩
      have ha5 := tb2_tup ts u5 ha
      refine ⟨_, rfl, _, rfl, _, rfl, _, _, _, _, rfl, rfl, .inl (.inl hr5), atI_last _ _, _, _, _, _, rfl, rfl, ha5, atI_nat (j := 0) rfl, _, _, rfl, rfl, _, rfl, ?_⟩
      by_cases hm : i ≤ c.1
      · refine iteY (decide_eq_true hm) ?_
        have o' := no fun z => by
          have := z.1 c (List.getLast?_concat)
          omega
        exact ⟨_, rfl, note_reads n9 fun d hd => o'.note u5 d hd⟩
      · refine iteN (decide_eq_false hm) ?_
        refine ⟨_, rfl, _, rfl, _, _, _, _, 100, 100, rfl, d4', d5, zb, ze, by omega, _, rfl, ?_⟩
        by_cases be : b < e
        · rw [decide_eq_true be]
          refine iteN rfl ?_
          refine ⟨_, rfl, _, rfl, _, rfl, Nat.zero_le _, fun al nal => ?_⟩
          have s6 := Same.new (o := .lst []) nal
          have hal : (upd H5 al (.lst [])) al = some (.lst []) := upd_same
          generalize upd H5 al (.lst []) = H6 at s6 hal ⊢
          refine ⟨(show 4 ≤ sizeLine by decide), fun pn npn => ?_⟩
          have s7 := Same.new (o := .tup [.int i, v4, v5, .ref al]) npn
          have s67 := s6.trans s7
          refine q _ er (fun d hd => ?_) be _ _ _ _ al (u5.trans (Tb2.same u5.1 s67)) (u5.free nal) (s7 _ _ hal) (.inl (.inl upd_same)) (dp_mono s67 _ _ d4') (dp_mono s67 _ _ d5)
          rw [List.getLast?_concat] at hd
          cases hd
          show c.1 < i
          omega
        · rw [decide_eq_false be]
          refine iteY rfl ?_
          have o' := no fun z => be z.2
          exact ⟨_, rfl, note_reads n9 fun d hd => o'.note u5 d hd⟩
theorem step_cue {cs : List Cue} {l : Str} {h : Int × Rat × Rat} (h1 : Txt.startswith l "cue " = true) (h2 : rdHead (cutS l (some ((4 : Nat) : Int)) none) = some h) (h3 : lowC cs h.1) (h4 : h.2.1 < h.2.2) : stepM cs l = some (cs ++ [(h.1, h.2.1, h.2.2, [])]) := by
  unfold stepM
  rw [if_pos h1, h2]
  exact if_pos ⟨h3, h4⟩
theorem step_cue_no {cs : List Cue} {l : Str} (h1 : Txt.startswith l "cue " = true) (h2 : ∀ h, rdHead (cutS l (some ((4 : Nat) : Int)) none) = some h → ¬ (lowC cs h.1 ∧ h.2.1 < h.2.2)) : stepM cs l = none := by
  unfold stepM
  rw [if_pos h1]
  cases e : rdHead (cutS l (some ((4 : Nat) : Int)) none) with
  | none => rfl
  | some h => exact if_neg (h2 h e)
theorem step_word {init : List Cue} {c : Cue} {l : Str} {y : Wd} (h1 : Txt.startswith l "cue " = false) (h2 : Txt.startswith l "  " = true) (h3 : rdWord (cutS l (some ((2 : Nat) : Int)) none) = some y) (h4 : early c ≤ y.2) (h5 : y.2 < c.2.2.1) : stepM (init ++ [c]) l = some (init ++ [putW c y]) := by
  unfold stepM
  rw [if_neg (by rw [h1]; exact Bool.false_ne_true), if_pos h2, List.getLast?_concat, List.dropLast_concat]
  dsimp only
  rw [h3]
  exact if_pos ⟨h4, h5⟩
theorem step_word_no {init : List Cue} {c : Cue} {l : Str} (h1 : Txt.startswith l "cue " = false) (h2 : Txt.startswith l "  " = true) (h3 : ∀ y, rdWord (cutS l (some ((2 : Nat) : Int)) none) = some y → ¬ (early c ≤ y.2 ∧ y.2 < c.2.2.1)) : stepM (init ++ [c]) l = none := by
  unfold stepM
  rw [if_neg (by rw [h1]; exact Bool.false_ne_true), if_pos h2, List.getLast?_concat]
  dsimp only
  cases e : rdWord (cutS l (some ((2 : Nat) : Int)) none) with
  | none => rfl
  | some y => exact if_neg (h3 y e)
theorem step_no {cs : List Cue} {l : Str} (h1 : Txt.startswith l "cue " = false) (h2 : Txt.startswith l "  " = false ∨ cs = []) : stepM cs l = none := by
  unfold stepM
  rw [if_neg (by rw [h1]; exact Bool.false_ne_true)]
  by_cases h : Txt.startswith l "  " = true
  · rw [if_pos h]
    rcases h2 with h2 | h2
    · rw [h] at h2
      cases h2
    · rw [h2]
      rfl
  · exact if_neg h
def spReadLineX (K : PySem.W.Frag) (P0 P1 C CN : Addr) : Sp := fun vs H Q E => ∃ (l : Str) (n : Nat) (r : Addr) (ys : List V) (cs : List Cue), vs = [.str l, .int (n : Int), .ref r] ∧ l.length ≤ 1000 ∧ n ≤ 100000 ∧ H r = some (.lst ys) ∧ ys.length ≤ 900 ∧ Ts P0 P1 H ∧
  (∀ h : Int × Rat × Rat, stepM cs l = some (cs ++ [(h.1, h.2.1, h.2.2, [])]) → ∀ H' p v1 v2 al, Tb2 P0 P1 H H' → H al = none → H' al = some (.lst []) → SqT K H' p [.int h.1, v1, v2, .ref al] → Dp K H' v1 (dF h.2.1) → Dp K H' v2 (dF h.2.2) → H' r = some (.lst ys) → Q .non (upd H' r (.lst (ys ++ [.ref p])))) ∧
  (stepM cs l = none → Out P0 P1 C CN n H E) ∧
  ((ys = [] ∧ cs = []) ∨ ∃ pre a v1 v2 al ws init c, ys = pre ++ [.ref a] ∧ cs = init ++ [c] ∧ SqT K H a [.int c.1, v1, v2, .ref al] ∧ Dp K H v1 (dF c.2.1) ∧ Dp K H v2 (dF c.2.2.1) ∧ H al = some (.lst ws) ∧ DpAll K H ws (c.2.2.2.map dW) ∧ CG c ∧ ws.length ≤ 900 ∧
    ∀ y, stepM cs l = some (init ++ [putW c y]) → ∀ H' z, Tb2 P0 P1 H H' → Dp K H' z (dW y) → H' al = some (.lst ws) → Q .non (upd H' al (.lst (ws ++ [z]))))
theorem cl_read_line (T : Txt K mg) {c P0 C c1 P1 CN : Addr} (D : Dfc K mg "read_number" s_read_number ["word"] c) (TB0 : GxR.TabB base mg c P0) (e_BadTime : ExcT K mg "BadTime" C) (D1 : Dfc K mg "is_word" s_is_word ["text"] c1) (TB1 : GxR.TabB base mg c1 P1) (N : NtX P w K mg base "BadNote" CN) : Cl P w K mg base (L2N.CX P w) 7 "read_line" (spReadLineX K P0 P1 C CN) := by
  have c_read_cue := cl_read_cue (P := P) (w := w) (base := base) (P1 := P1) T D TB0 e_BadTime N
  have c_read_word := cl_read_word (P := P) (w := w) (base := base) T D TB0 e_BadTime D1 TB1 N
  refine T.d_read_line.clXN sc_read_line (fun vs H Q E h => ?_) (fun f cdv A outer s H vs Q E hr h => ?_)
  · obtain ⟨l, n, r, ys, cs, rfl, _⟩ := h
    rfl
  · obtain ⟨l, n, r, ys, cs, rfl, ll, n9, hr0, ly, ts, qc, o, hl⟩ := h
    refine ⟨_, (pss_one (ps_if (pt_val (pe_m1 PySem.F.slot_str_startswith PySem.F.type_str_startswith mt_startswith (pv 0) (pe_gl (by rfl) T.c_CUE)))
        (pss_one (ps_expr (pe_bm PySem.F.plainAttrs_list PySem.F.slot_list_append PySem.F.type_list_append mt_append (pv 2) (pa_cons (pe_clSN c_read_cue hr (by decide) (by rfl) (L2N.takes_of rfl rfl rfl rfl) (pa_cons (pe_slice sl_str (pv 0) (po_some (pe_callB call_len_str (by rfl) T.m_len (by decide +kernel) (pa_cons (pe_gl (by rfl) T.c_CUE) pa_nil))) po_none) (pa_cons (pv 1) (pa_cons (pv 2) pa_nil)))) pa_nil))))
        (pss_one (ps_if (PW.pt (pw_and (pt_val (pe_m1 PySem.F.slot_str_startswith PySem.F.type_str_startswith mt_startswith (pv 0) (pe_gl (by rfl) T.c_WORD))) (pw_and1 (pt_truth (pv 2) (by intro _; rfl)))))
        (pss_cons (ps_asg (pe_ix ix_list (pv 2) (pe_un un_neg pe_int) (fun _ _ => rfl)) (pg_tup rfl (pgs_cons (pg_name (i := 3) sc_read_line.nd rfl (.inl rfl)) (pgs_cons (pg_name (i := 4) sc_read_line.nd rfl (.inl rfl)) (pgs_cons (pg_name (i := 5) sc_read_line.nd rfl (.inl rfl)) (pgs_cons (pg_name (i := 6) sc_read_line.nd rfl (.inl rfl)) pgs_nil))))))
      (pss_cons (ps_set (i := 7) sc_read_line.nd rfl (.inl rfl) (pe_ifExp (pt_truth (pv 6) (by intro _; rfl)) (pe_ix ix_tup (pe_ix ix_list (pv 6) (pe_un un_neg pe_int) (fun _ _ => rfl)) pe_int (fun _ _ => rfl)) (pv 4)))
      (pss_one (ps_expr (pe_bm PySem.F.plainAttrs_list PySem.F.slot_list_append PySem.F.type_list_append mt_append (pv 6) (pa_cons (pe_clSN c_read_word hr (by decide) (by rfl) (L2N.takes_of rfl rfl rfl rfl) (pa_cons (pe_slice sl_str (pv 0) (po_some (pe_callB call_len_str (by rfl) T.m_len (by decide +kernel) (pa_cons (pe_gl (by rfl) T.c_WORD) pa_nil))) po_none) (pa_cons (pv 1) (pa_cons (pv 7) (pa_cons (pv 5) pa_nil))))) pa_nil))))))
        (pss_one (L2N.ps_raise rfl (L2N.takes_of rfl rfl rfl rfl) (L2H.PMk5.pmk (pmk_note N (room0 hr (by decide)) (by rfl) (pa_cons (pv 1) pa_nil))))))))), ?_⟩
    refine ⟨_, rfl, ⟨_, rfl⟩, _, _, rfl, rfl, _, rfl, ?_⟩
    by_cases f1 : Txt.startswith l "cue " = true
    · refine iteY f1 ?_
      refine ⟨_, rfl, .inl ⟨rfl, _, .inl (.inl hr0)⟩, ?_⟩
      refine ⟨_, rfl, _, rfl, (show 4 ≤ sizeLine by decide), ?_⟩
      refine ⟨_, rfl, l, rfl, le1000 ll, ?_⟩
      have lc : (cutS l (some ((4 : Nat) : Int)) none).length ≤ 1000 := Nat.le_trans (cutS_length _ _ _) ll
      have la : LastI K H ys cs := by
        rcases hl with h | ⟨pre, a, v1, v2, al, ws, init, c, e1, e2, h1, _⟩
        · exact .inl h
        · exact .inr ⟨pre, a, v1, v2, _, init, c, e1, e2, h1⟩
      refine ⟨_, rfl, _, rfl, cutS l (some ((4 : Nat) : Int)) none, n, r, ys, cs, rfl, lc, n9, hr0, la, ts, fun h e1 e2 e3 H' p v1 v2 al t1 na hal hp d1 d2 => ?_, fun z => o (step_cue_no f1 z)⟩
      have hr1 := t1.at ts hr0 (fun _ z => nomatch z)
      exact ⟨r, ys, _, rfl, rfl, hr1, small1000 (by omega), qc h (step_cue f1 e1 e2 e3) _ _ _ _ _ t1 na hal hp d1 d2 hr1⟩
    · have f1' : Txt.startswith l "cue " = false := by
        cases e : Txt.startswith l "cue " with
        | false => rfl
        | true => exact absurd e f1
      refine iteN f1' ?_
      refine ⟨_, rfl, ⟨_, rfl⟩, _, _, rfl, rfl, _, rfl, ?_⟩
      by_cases f2 : Txt.startswith l "  " = true
      · refine iteY f2 ?_
        rcases hl with ⟨rfl, rfl⟩ | ⟨pre, a, v1, v2, al, ws, init, c, rfl, rfl, ha, d1, d2, hal, dws, cg, lw, qw⟩
        · refine ⟨_, rfl, _, .inl ⟨_, .inl (.inl hr0), rfl⟩, iteN rfl ?_⟩
          have o' := o (step_no f1' (.inr rfl))
          exact ⟨_, rfl, note_reads n9 fun d hd => o'.note (Tb2.refl ts) d hd⟩
        · refine ⟨_, rfl, _, .inl ⟨_, .inl (.inl hr0), rfl⟩, iteY (by simp) ?_⟩
          refine ⟨_, rfl, _, rfl, _, _, _, _, rfl, rfl, .inl (.inl hr0), atI_last _ _, a, _, rfl, ha, rfl, _, _, rfl, _, _, rfl, _, _, rfl, _, _, rfl, rfl, ?_⟩
          have lc : (cutS l (some ((2 : Nat) : Int)) none).length ≤ 1000 := Nat.le_trans (cutS_length _ _ _) ll
          obtain ⟨_, eb⟩ := early_ge cg
          rcases List.eq_nil_or_concat c.2.2.2 with ew | ⟨wd', y, ew⟩
          · have ee : early c = c.2.1 := by
              unfold early
              rw [ew]
              rfl
            have ews : ws = [] := by
              rw [ew] at dws
              cases dws
              rfl
            subst ews
            refine ⟨_, rfl, _, .inl ⟨_, .inl (.inl hal), rfl⟩, iteN rfl ?_⟩
            refine ⟨_, rfl, ?_⟩
            refine ⟨_, rfl, .inl ⟨rfl, _, .inl (.inl hal)⟩, ?_⟩
            refine ⟨_, rfl, _, rfl, (show 2 ≤ sizeLine by decide), ?_⟩
            refine ⟨_, rfl, l, rfl, le1000 ll, ?_⟩
            refine ⟨_, rfl, _, rfl, _, rfl, cutS l (some ((2 : Nat) : Int)) none, n, _, _, c.2.1, c.2.2.1, rfl, lc, n9, d1, d2, cg.b.sz, cg.e.sz, ts, fun y hy h1 h2 H' z t1 dz => ?_, fun z => o (step_word_no f1' f2 (by rw [ee]; exact z))⟩
            have hal1 := t1.at ts hal (fun _ z => nomatch z)
            exact ⟨al, _, _, rfl, rfl, hal1, small1000 (by omega), qw y (step_word f1' f2 hy (by rw [ee]; exact h1) h2) _ _ t1 dz hal1⟩
          · rw [List.concat_eq_append] at ew
            have ee : early c = y.2 := by
              unfold early
              rw [ew, List.getLast?_concat]
            rw [ew, List.map_append] at dws
            obtain ⟨ws', v, rfl, _, dv⟩ := dpa_split dws
            obtain ⟨py, vt, rfl, hpy, dt⟩ := dW_of dv
            refine ⟨_, rfl, _, .inl ⟨_, .inl (.inl hal), rfl⟩, iteY (by simp) ?_⟩
            refine ⟨_, rfl, _, rfl, _, _, _, _, rfl, rfl, .inl (.inl hal), atI_last _ _, _, _, _, _, rfl, rfl, hpy, atI_nat (j := 1) rfl, ?_⟩
            refine ⟨_, rfl, .inl ⟨rfl, _, .inl (.inl hal)⟩, ?_⟩
            refine ⟨_, rfl, _, rfl, (show 2 ≤ sizeLine by decide), ?_⟩
            refine ⟨_, rfl, l, rfl, le1000 ll, ?_⟩
            refine ⟨_, rfl, _, rfl, _, rfl, cutS l (some ((2 : Nat) : Int)) none, n, _, _, y.2, c.2.2.1, rfl, lc, n9, dt, d2, by rw [← ee]; exact eb.sz, cg.e.sz, ts, fun y' hy h1 h2 H' z t1 dz => ?_, fun z => o (step_word_no f1' f2 (by rw [ee]; exact z))⟩
            have hal1 := t1.at ts hal (fun _ z => nomatch z)
            exact ⟨al, _, _, rfl, rfl, hal1, small1000 (by omega), qw y' (step_word f1' f2 hy (by rw [ee]; exact h1) h2) _ _ t1 dz hal1⟩
      · have f2' : Txt.startswith l "  " = false := by
          cases e : Txt.startswith l "  " with
          | false => rfl
          | true => exact absurd e f2
        refine iteN f2' (iteN rfl ?_)
        have o' := o (step_no f1' (.inl f2'))
        exact ⟨_, rfl, note_reads n9 fun d hd => o'.note (Tb2.refl ts) d hd⟩
inductive A2 {α β : Type} (R : α → β → Prop) : List α → List β → Prop
  | nil : A2 R [] []
  | cons {x : α} {y : β} {xs : List α} {ys : List β} : R x y → A2 R xs ys → A2 R (x :: xs) (y :: ys)
section
variable {α β : Type} {R R' : α → β → Prop}
theorem A2.mono (h : ∀ x y, R x y → R' x y) : ∀ {xs : List α} {ys : List β}, A2 R xs ys → A2 R' xs ys
  | _, _, .nil => .nil
  | _, _, .cons a b => .cons (h _ _ a) (A2.mono h b)
theorem A2.snoc {x : α} {y : β} (r : R x y) : ∀ {xs : List α} {ys : List β}, A2 R xs ys → A2 R (xs ++ [x]) (ys ++ [y])
  | _, _, .nil => .cons r .nil
  | _, _, .cons a b => .cons a (A2.snoc r b)
theorem A2.len : ∀ {xs : List α} {ys : List β}, A2 R xs ys → xs.length = ys.length
  | _, _, .nil => rfl
  | _, _, .cons _ b => by rw [List.length_cons, List.length_cons, A2.len b]
theorem A2.at : ∀ {xs : List α} {ys : List β} {i : Nat} {x : α}, A2 R xs ys → xs[i]? = some x → ∃ y, ys[i]? = some y ∧ R x y
  | _, _, _, _, .nil, h => by simp at h
  | _, _, 0, _, .cons a b, h => ⟨_, rfl, by
    have e := Option.some.inj h
    rw [← e]
    exact a⟩
  | _, _, i + 1, _, .cons a b, h => A2.at (i := i) b h
theorem A2.split {y : β} : ∀ {ys : List β} {xs : List α}, A2 R xs (ys ++ [y]) → ∃ xs' x, xs = xs' ++ [x] ∧ A2 R xs' ys ∧ R x y
  | [], _, .cons a .nil => ⟨[], _, rfl, .nil, a⟩
  | _ :: ys, _, .cons a b => by
    obtain ⟨xs', x, rfl, h1, h2⟩ := A2.split (ys := ys) b
    exact ⟨_ :: xs', x, rfl, .cons a h1, h2⟩
end
/-- a read cue at y; its words' list is new since H0 -/
def CAt (K : PySem.W.Frag) (H0 H : Hp) (y : V) (c : Cue) : Prop := ∃ a v1 v2 al ws, y = .ref a ∧ SqT K H a [.int c.1, v1, v2, .ref al] ∧ Dp K H v1 (dF c.2.1) ∧ Dp K H v2 (dF c.2.2.1) ∧ H0 al = none ∧ H al = some (.lst ws) ∧ DpAll K H ws (c.2.2.2.map dW)
theorem CAt.tb2 {P0 P1 : Addr} {H0 H H' : Hp} {y : V} {c : Cue} (t : Ts P0 P1 H) (s : Tb2 P0 P1 H H') (h : CAt K H0 H y c) : CAt K H0 H' y c := by
  obtain ⟨a, v1, v2, al, ws, e, h1, h2, h3, h4, h5, h6⟩ := h
  exact ⟨a, v1, v2, al, ws, e, tb2_tup t s h1, tb2_dF t s h2, tb2_dF t s h3, h4, s.at t h5 (fun _ z => nomatch z), tb2_dWs t s h6⟩
theorem CAt.mono {H0 H H' : Hp} {y : V} {c : Cue} (s : Same H H') (h : CAt K H0 H y c) : CAt K H0 H' y c := by
  obtain ⟨a, v1, v2, al, ws, e, h1, h2, h3, h4, h5, h6⟩ := h
  exact ⟨a, v1, v2, al, ws, e, Same.tup s h1, dp_mono s _ _ h2, dp_mono s _ _ h3, h4, s _ _ h5, dpa_mono s _ _ h6⟩
theorem CAt.dp {H0 H : Hp} {y : V} {c : Cue} (h : CAt K H0 H y c) : Dp K H y (dC c) := by
  obtain ⟨a, v1, v2, al, ws, rfl, h1, h2, h3, h4, h5, h6⟩ := h
  exact .tup h1 (.cons (.int _) (.cons h2 (.cons h3 (.cons (.lst (.inl (.inl h5)) h6) .nil))))
theorem ts_hidL {P0 P1 : Addr} {S : List Addr} {H : Hp} (t : Ts P0 P1 H) (n0 : P0 ∉ S) (n1 : P1 ∉ S) : Ts P0 P1 (R.hidL S H) := ⟨t.n, (let ⟨ps, h, q⟩ := t.t0; ⟨ps, hidL_at n0 h, q⟩), (let ⟨ps, h, q⟩ := t.t1; ⟨ps, hidL_at n1 h, q⟩)⟩
theorem tb2_hidL {P0 P1 : Addr} {S : List Addr} {H H' : Hp} (s : Tb2 P0 P1 H H') (n0 : P0 ∉ S) (n1 : P1 ∉ S) : Tb2 P0 P1 (R.hidL S H) (R.hidL S H') := ⟨ts_hidL s.1 n0 n1, fun a o x y h => by
  obtain ⟨h1, h2⟩ := hidL_ne h
  exact hidL_at h1 (s.2 a o x y h2)⟩
theorem Ts.lst0 {P0 P1 r : Addr} {H : Hp} {xs : List V} (t : Ts P0 P1 H) (h : H r = some (.lst xs)) : P0 ≠ r ∧ P1 ≠ r := by
  constructor
  · intro e
    obtain ⟨ps, hp, _⟩ := t.t0
    rw [e, h] at hp
    cases hp
  · intro e
    obtain ⟨ps, hp, _⟩ := t.t1
    rw [e, h] at hp
    cases hp
/-- a list that is told apart changes: the tables and all else stay -/
theorem Tb2.upd {P0 P1 r : Addr} {H H' : Hp} {xs ys : List V} (s : Tb2 P0 P1 H H') (hr : H r = none) (h : H' r = some (.lst xs)) : Tb2 P0 P1 H (L2.upd H' r (.lst ys)) := by
  obtain ⟨n0, n1⟩ := s.1.lst0 h
  refine ⟨⟨s.1.n, ?_, ?_⟩, fun a o x y ha => ?_⟩
  · obtain ⟨ps, hp, q⟩ := s.1.t0
    exact ⟨ps, by rw [upd_ne n0]; exact hp, q⟩
  · obtain ⟨ps, hp, q⟩ := s.1.t1
    exact ⟨ps, by rw [upd_ne n1]; exact hp, q⟩
  · rw [upd_ne (fun e => by rw [e, hr] at ha; cases ha)]
    exact s.2 a o x y ha
/-- the lines still to be read: the words of the last cue, and the cues behind it -/
theorem lines_step {cs : List Cue} {i : Nat} {l : Str} {ws : List Wd} {more : List Cue} (h : (linesM cs).drop i = ws.map lineW ++ linesM more) (hl : (linesM cs)[i]? = some l) :
    (∃ x ws', ws = x :: ws' ∧ l = lineW x ∧ (linesM cs).drop (i + 1) = ws'.map lineW ++ linesM more) ∨ (∃ c more', ws = [] ∧ more = c :: more' ∧ l = lineC c ∧ (linesM cs).drop (i + 1) = c.2.2.2.map lineW ++ linesM more') := by
  have e := drop_more hl
  rw [h] at e
  cases ws with
  | cons x ws' =>
    have e' : lineW x :: (ws'.map lineW ++ linesM more) = l :: (linesM cs).drop (i + 1) := e
    obtain ⟨e1, e2⟩ := List.cons.inj e'
    exact .inl ⟨x, ws', rfl, e1.symm, e2.symm⟩
  | nil =>
    cases more with
    | nil => cases (show ([] : List Str) = l :: (linesM cs).drop (i + 1) from e)
    | cons c more' =>
      have e' : lineC c :: (c.2.2.2.map lineW ++ linesM more') = l :: (linesM cs).drop (i + 1) := e
      obtain ⟨e1, e2⟩ := List.cons.inj e'
      exact .inr ⟨c, more', rfl, rfl, e1.symm, e2.symm⟩
theorem got_all {H0 H : Hp} {r al : Addr} {ys : List V} {init : List Cue} {a : Addr} {v1 v2 : V} {ws : List V} {c : Cue} {wd : List Wd} {zs : List V} (h1 : H r = some (.lst zs)) (h2 : A2 (CAt K H0 (R.hidL [r, al] H)) ys init) (h3 : SqT K H a [.int c.1, v1, v2, .ref al]) (h4 : Dp K H v1 (dF c.2.1)) (h5 : Dp K H v2 (dF c.2.2.1)) (h6 : H0 al = none) (h7 : al ≠ r) (h8 : H al = some (.lst ws)) (h9 : DpAll K H ws (wd.map dW)) (h10 : c.2.2.2 = wd) :
    A2 (CAt K H0 (R.hidL [r] H)) (ys ++ [.ref a]) (init ++ [c]) := by
  have nt : ∀ b ∈ [r], NoT H b := fun b hb => by
    rw [List.mem_singleton.mp hb]
    exact NoT.lst h1
  refine A2.snoc ?_ (h2.mono fun _ _ z => z.mono (hidL_more (by simp)))
  refine ⟨a, v1, v2, al, ws, rfl, hidL_tup nt h3, dp_hidL nt _ _ rfl h4, dp_hidL nt _ _ rfl h5, h6, hidL_at (by simpa using h7) h8, ?_⟩
  rw [h10]
  exact dpa_hidL nt _ _ (tupA_dW _) h9
theorem lst_tup {H : Hp} {r a : Addr} {xs zs : List V} {o : HO} (h : H r = some (.lst xs)) (k : SqT K H a zs) : SqT K (upd H r o) a zs := by
  have nt : ∀ b ∈ [r], NoT H b := fun b hb => by
    rw [List.mem_singleton.mp hb]
    exact NoT.lst h
  refine Same.tup (hidL_same (S := [r])) ?_
  rw [hidL_upd (by simp)]
  exact hidL_tup nt k
theorem lst_dp {H : Hp} {r : Addr} {xs : List V} {o : HO} {d : PyData} {v : V} (h : H r = some (.lst xs)) (hd : tupD d = true) (k : Dp K H v d) : Dp K (upd H r o) v d := by
  have nt : ∀ b ∈ [r], NoT H b := fun b hb => by
    rw [List.mem_singleton.mp hb]
    exact NoT.lst h
  refine dp_mono (hidL_same (S := [r])) _ _ ?_
  rw [hidL_upd (by simp)]
  exact dp_hidL nt _ _ hd k
theorem lst_dpa {H : Hp} {r : Addr} {xs : List V} {o : HO} {ds : List PyData} {vs : List V} (h : H r = some (.lst xs)) (hd : tupA ds = true) (k : DpAll K H vs ds) : DpAll K (upd H r o) vs ds := by
  have nt : ∀ b ∈ [r], NoT H b := fun b hb => by
    rw [List.mem_singleton.mp hb]
    exact NoT.lst h
  refine dpa_mono (hidL_same (S := [r])) _ _ ?_
  rw [hidL_upd (by simp)]
  exact dpa_hidL nt _ _ hd k
theorem Tb2.notIn {P0 P1 a : Addr} {H : Hp} (t : Ts P0 P1 H) (h : H a = none) : P0 ≠ a ∧ P1 ≠ a := by
  constructor
  · intro e
    obtain ⟨ps, hp, _⟩ := t.t0
    rw [e, h] at hp
    cases hp
  · intro e
    obtain ⟨ps, hp, _⟩ := t.t1
    rw [e, h] at hp
    cases hp
/-- what is read so far -/
def GotX (K : PySem.W.Frag) (H0 H : Hp) (r pl : Addr) (cs : List Cue) : Prop := (cs = [] ∧ H r = some (.lst [])) ∨
  ∃ (ys : List V) (init : List Cue) (a : Addr) (v1 v2 : V) (al : Addr) (ws : List V) (c : Cue), H r = some (.lst (ys ++ [.ref a])) ∧ A2 (CAt K H0 (R.hidL [r, al] H)) ys init ∧ SqT K H a [.int c.1, v1, v2, .ref al] ∧ Dp K H v1 (dF c.2.1) ∧ Dp K H v2 (dF c.2.2.1) ∧
    H0 al = none ∧ (al ≠ r ∧ al ≠ pl) ∧ H al = some (.lst ws) ∧ DpAll K H ws (c.2.2.2.map dW) ∧ cs = init ++ [c]
theorem GotX.mono {H0 H H' : Hp} {cs : List Cue} {r pl : Addr} (s : Same H H') (g : GotX K H0 H r pl cs) : GotX K H0 H' r pl cs := by
  rcases g with ⟨e0, h⟩ | ⟨ys, init, a, v1, v2, al, ws, c, h1, h2, h3, h4, h5, h6, h7, h8, h9, h10⟩
  · exact .inl ⟨e0, s _ _ h⟩
  · exact .inr ⟨ys, init, a, v1, v2, al, ws, c, s _ _ h1, h2.mono fun _ _ z => z.mono (Same.hidL s), Same.tup s h3, dp_mono s _ _ h4, dp_mono s _ _ h5, h6, h7, s _ _ h8, dpa_mono s _ _ h9, h10⟩
theorem GotX.all {H0 H : Hp} {cs : List Cue} {r pl : Addr} (g : GotX K H0 H r pl cs) : ∃ ys, H r = some (.lst ys) ∧ A2 (CAt K H0 (R.hidL [r] H)) ys cs := by
  rcases g with ⟨e0, h⟩ | ⟨ys, init, a, v1, v2, al, ws, c, h1, h2, h3, h4, h5, h6, h7, h8, h9, h10⟩
  · rw [e0]
    exact ⟨[], h, .nil⟩
  · rw [h10]
    exact ⟨_, h1, got_all h1 h2 h3 h4 h5 h6 h7.1 h8 h9 rfl⟩
/-- behind a cue's line -/
theorem gotC {P0 P1 : Addr} {H H4 H5 : Hp} {cs : List Cue} {r pl p al : Addr} {ysA : List V} {v1 v2 : V} {ls : List V} {h : Int × Rat × Rat} (nr : H r = none) (u4 : Tb2 P0 P1 H H4) (hl4 : H4 pl = some (.lst ls)) (npr : pl ≠ r)
    (hr4 : H4 r = some (.lst ysA)) (hA : A2 (CAt K H (R.hidL [r] H4)) ysA cs) (t5 : Tb2 P0 P1 H4 H5) (nal : H4 al = none) (hal : H5 al = some (.lst [])) (hp : SqT K H5 p [.int h.1, v1, v2, .ref al]) (d1 : Dp K H5 v1 (dF h.2.1)) (d2 : Dp K H5 v2 (dF h.2.2)) (hr5 : H5 r = some (.lst ysA)) :
    Tb2 P0 P1 H (upd H5 r (.lst (ysA ++ [.ref p]))) ∧ (upd H5 r (.lst (ysA ++ [.ref p]))) pl = some (.lst ls) ∧ GotX K H (upd H5 r (.lst (ysA ++ [.ref p]))) r pl (cs ++ [(h.1, h.2.1, h.2.2, [])]) := by
  have u5 := u4.trans t5
  have alr : al ≠ r := fun e => by rw [e, hr4] at nal; cases nal
  have alp : al ≠ pl := fun e => by rw [e, hl4] at nal; cases nal
  have hl5 := t5.at u4.1 hl4 (fun _ z => nomatch z)
  obtain ⟨n0, n1⟩ := u4.1.lst0 hr4
  obtain ⟨m0, m1⟩ := Tb2.notIn u4.1 nal
  refine ⟨u5.upd nr hr5, by rw [upd_ne npr]; exact hl5, .inr ⟨ysA, cs, p, v1, v2, al, [], (h.1, h.2.1, h.2.2, []), upd_same, ?_, lst_tup hr5 hp, lst_dp hr5 rfl d1, lst_dp hr5 rfl d2, u4.free nal, ⟨alr, alp⟩, by rw [upd_ne alr]; exact hal, .nil, rfl⟩⟩
  rw [hidL_upd (by simp)]
  have sA : Same (R.hidL [r] H4) (R.hidL [r, al] H4) := fun b o hb => by
    obtain ⟨h1, h2⟩ := hidL_ne hb
    refine hidL_at (fun z => ?_) h2
    rcases List.mem_cons.mp z with z | z
    · exact h1 (by rw [z]; simp)
    · rw [List.mem_singleton.mp z, nal] at h2
      cases h2
  have k0 : P0 ∉ [r, al] := by simp [n0, m0]
  have k1 : P1 ∉ [r, al] := by simp [n1, m1]
  exact hA.mono fun _ _ z => (z.mono sA).tb2 (ts_hidL u4.1 k0 k1) (tb2_hidL t5 k0 k1)
/-- behind a word's line -/
theorem gotW {P0 P1 : Addr} {H H4 H5 : Hp} {r pl : Addr} {ys : List V} {init : List Cue} {a : Addr} {v1 v2 : V} {al : Addr} {ws : List V} {c : Cue} {y : Wd} {z : V} {ls : List V} (u4 : Tb2 P0 P1 H H4) (hl4 : H4 pl = some (.lst ls))
    (h1 : H4 r = some (.lst (ys ++ [.ref a]))) (h2 : A2 (CAt K H (R.hidL [r, al] H4)) ys init) (h3 : SqT K H4 a [.int c.1, v1, v2, .ref al]) (h4 : Dp K H4 v1 (dF c.2.1)) (h5 : Dp K H4 v2 (dF c.2.2.1)) (h6 : H al = none) (h7 : al ≠ r ∧ al ≠ pl) (h8 : H4 al = some (.lst ws)) (h9 : DpAll K H4 ws (c.2.2.2.map dW)) (t5 : Tb2 P0 P1 H4 H5) (dz : Dp K H5 z (dW y)) (hal5 : H5 al = some (.lst ws)) :
    Tb2 P0 P1 H (upd H5 al (.lst (ws ++ [z]))) ∧ (upd H5 al (.lst (ws ++ [z]))) pl = some (.lst ls) ∧ GotX K H (upd H5 al (.lst (ws ++ [z]))) r pl (init ++ [putW c y]) := by
  have u5 := u4.trans t5
  have hl5 := t5.at u4.1 hl4 (fun _ z => nomatch z)
  have hr5 := t5.at u4.1 h1 (fun _ z => nomatch z)
  obtain ⟨n0, n1⟩ := u4.1.lst0 h1
  obtain ⟨m0, m1⟩ := u4.1.lst0 h8
  have k0 : P0 ∉ [r, al] := by simp [n0, m0]
  have k1 : P1 ∉ [r, al] := by simp [n1, m1]
  refine ⟨u5.upd h6 hal5, by rw [upd_ne h7.2.symm]; exact hl5, .inr ⟨ys, init, a, v1, v2, al, ws ++ [z], putW c y, by rw [upd_ne h7.1.symm]; exact hr5, ?_, lst_tup hal5 (tb2_tup u4.1 t5 h3), lst_dp hal5 rfl (tb2_dF u4.1 t5 h4), lst_dp hal5 rfl (tb2_dF u4.1 t5 h5), h6, h7, upd_same, ?_, rfl⟩⟩
  · rw [hidL_upd (by simp)]
    exact h2.mono fun _ _ z => z.tb2 (ts_hidL u4.1 k0 k1) (tb2_hidL t5 k0 k1)
  · show DpAll K _ _ ((c.2.2.2 ++ [y]).map dW)
    rw [List.map_append]
    exact lst_dpa hal5 (by rw [← List.map_append]; exact tupA_dW _) (dpa_snoc (tb2_dWs u4.1 t5 h9) dz)
theorem linesM_ge : ∀ (cs : List Cue), cs.length ≤ (linesM cs).length ∧ ∀ c ∈ cs, c.2.2.2.length ≤ (linesM cs).length
  | [] => ⟨Nat.le_refl _, fun _ h => by cases h⟩
  | c :: cs => by
    obtain ⟨h1, h2⟩ := linesM_ge cs
    have e : linesM (c :: cs) = linesOf c ++ linesM cs := rfl
    have e2 : (linesOf c).length = c.2.2.2.length + 1 := by
      unfold linesOf
      rw [List.length_cons, List.length_map]
    rw [e, List.length_append, e2]
    refine ⟨by rw [List.length_cons]; omega, fun d hd => ?_⟩
    rcases List.mem_cons.mp hd with z | z
    · rw [z]
      omega
    · have := h2 d z
      omega
def spReadCuesX (K : PySem.W.Frag) (P0 P1 CN : Addr) : Sp := fun vs H Q E => ∃ (x : Str) (ls : List Str), vs = [.str x] ∧ Txt.split x "\n" = ls ∧ x.length + 2 ≤ sizeLine ∧ (∀ l ∈ ls, l.length ≤ 1000) ∧ ls.length ≤ 800 ∧ Ts P0 P1 H ∧
  (x = Str.empty → ∀ H' p, Tb2 P0 P1 H H' → H p = none → H' p = some (.lst []) → Q (.ref p) H') ∧
  (x ≠ Str.empty → ∀ cs, runM [] ls = some cs → ∀ H' p ys, Tb2 P0 P1 H H' → H p = none → H' p = some (.lst ys) → A2 (CAt K H (R.hidL [p] H')) ys cs → Q (.ref p) H') ∧
  (x ≠ Str.empty → ∀ (i : Nat) l cs, runM [] (ls.take i) = some cs → ls[i]? = some l → stepM cs l = none → ∀ H' d, Tb2 P0 P1 H H' → H d = none → H' d = some (.xd [("line", .int (i : Int))]) → E (.ref CN) (some d) H')
theorem cl_read_cues (T : Txt K mg) {c P0 C c1 P1 CN : Addr} (D : Dfc K mg "read_number" s_read_number ["word"] c) (TB0 : GxR.TabB base mg c P0) (e_BadTime : ExcT K mg "BadTime" C) (D1 : Dfc K mg "is_word" s_is_word ["text"] c1) (TB1 : GxR.TabB base mg c1 P1) (N : NtX P w K mg base "BadNote" CN) (xN : PySem.W.exmOne K (.ref CN) (.ref C) = some false) : Cl P w K mg base (L2.CX P w) 8 "read_cues" (spReadCuesX K P0 P1 CN) := by
  have c_read_line := cl_read_line (P := P) (w := w) (base := base) T D TB0 e_BadTime D1 TB1 N
  refine T.d_read_cues.clX sc_read_cues (fun vs H Q E h => ?_) (fun f cdv A outer s H vs Q E hr h => ?_)
  · obtain ⟨x, ls, rfl, _⟩ := h
    rfl
  · obtain ⟨x, ls, rfl, hb, lx, lls, nls, ts, q0, q1, qE⟩ := h
    refine ⟨_, (pss_cons (ps_if (pt_cmpR op_eq (pv 0) pe_str (nomark _))
        (pss_one (ps_ret (pe_lst pa_nil)))
        pss_nil)
      (pss_cons (ps_set (i := 1) sc_read_cues.nd rfl (.inl rfl) (pe_lst pa_nil))
      (pss_cons (ps_for (passes_of rfl) rfl (pi_enum (by rfl) T.m_enumerate (pa_cons (pe_split (pv 0) pe_str) pa_nil)) (pg_tup rfl (pgs_cons (pg_name (i := 2) sc_read_cues.nd rfl (.inl rfl)) (pgs_cons (pg_name (i := 3) sc_read_cues.nd rfl (.inl rfl)) pgs_nil)))
        (pss_one (ps_tryX rfl rfl ⟨rfl, by decide, .inl e_BadTime.g⟩ (L2H.passesAt_of rfl) (takes_of rfl rfl rfl rfl) (fun W pn xe tkN tkX ps => (pss_one (ps_expr (pe_clSN c_read_line hr (by decide) (by rfl) tkN (pa_cons (pv 3) (pa_cons (pv 2) (pa_cons (pv 1) pa_nil)))))))
        (fun ax oe cls dx pn hz hf tkS hot => (pss_one (L2H.ps_raiseHN hot tkS (pmk_noteK (K := K) rfl N (roomS hr _ (by decide)) (by rfl) (pa_cons (pv 2) pa_nil))))))))
      (pss_one (ps_ret (pv 1)))))), ?_⟩
    refine ⟨_, rfl, rfl, _, rfl, ?_⟩
    by_cases hx : x = Str.empty
    · refine iteY (decide_eq_true (congrArg V.str hx)) ?_
      refine ⟨Nat.zero_le _, fun p np => ?_⟩
      exact q0 hx _ p (Tb2.same ts (Same.new np)) np upd_same
    · refine iteN (decide_eq_false fun z => hx (V.str.inj z)) ?_
      have q1 := q1 hx
      have qE := qE hx
      refine ⟨Nat.zero_le _, fun r nr => ?_⟩
      have s1 := Same.new (o := .lst []) nr
      have hr1 : (upd H r (.lst [])) r = some (.lst []) := upd_same
      have u1 := Tb2.same ts s1
      generalize upd H r (.lst []) = H1 at s1 hr1 u1 ⊢
      refine ⟨_, rfl, ⟨_, rfl⟩, x, _, rfl, rfl, rfl, lx, fun pl npl => ?_⟩
      rw [hb]
      have s2 := Same.new (o := .lst (ls.map V.str)) npl
      have hl2 : (upd H1 pl (.lst (ls.map V.str))) pl = some (.lst (ls.map V.str)) := upd_same
      have hr2 := s2 _ _ hr1
      have u2 := u1.trans (Tb2.same u1.1 s2)
      have npr : pl ≠ r := fun e => by rw [e, hr1] at npl; cases npl
      generalize upd H1 pl (.lst (ls.map V.str)) = H2 at s2 hl2 hr2 u2 ⊢
      refine ⟨pl, _, rfl, .inl (.inl hl2), for_it (walk_enum (K := K) (a := pl) (xs := ls.map V.str)) (fun i σ H' => ∃ (c2 c3 : Option V), σ = [some (.str x), some (.ref r), c2, c3] ∧ Tb2 P0 P1 H H' ∧ H' pl = some (.lst (ls.map V.str)) ∧ ∃ cs, runM [] (ls.take i) = some cs ∧ GotX K H H' r pl cs) ⟨none, none, rfl, u2, hl2, [], rfl, .inl ⟨rfl, hr2⟩⟩ (fun i σ H' _ h => ?_) (fun i v σ H' H'' hi h hv => ?_) (fun σ H' h => ?_)⟩
      · obtain ⟨c2, c3, rfl, u3, hl3, g⟩ := h
        exact .inl (.inl hl3)
      · obtain ⟨c2, c3, rfl, u3, hl3, cs, hcs, g⟩ := h
        obtain ⟨TT, xi, yi, rfl, nT, rfl, e1, e2⟩ := hv
        obtain ⟨l, hl, rfl⟩ : ∃ l, ls[i]? = some l ∧ yi = V.str l := by
          have e2 : (ls.map V.str)[i]? = some yi := e2
          rw [List.getElem?_map] at e2
          cases e : ls[i]? with
          | none =>
            rw [e] at e2
            cases e2
          | some l =>
            rw [e] at e2
            exact ⟨l, rfl, (Option.some.inj e2).symm⟩
        have s4 := Same.new (o := .tup [xi, .str l]) nT
        refine ⟨TT, _, rfl, .inl (.inl upd_same), rfl, _, _, rfl, _, _, rfl, rfl, ?_⟩
        have g4 := g.mono s4
        have u4 := u3.trans (Tb2.same u3.1 s4)
        have hl4 := s4 _ _ hl3
        generalize upd H' TT (.tup [xi, .str l]) = H4 at s4 g4 u4 hl4 ⊢
        have hil : i < ls.length := (List.getElem?_eq_some_iff.mp hl).1
        have i9 : i ≤ 100000 := by omega
        obtain ⟨G, eG⟩ := run_good CsG.nil hcs
        have eG : linesM cs = ls.take i := eG
        have lg := linesM_ge cs
        have lm : (linesM cs).length ≤ 800 := by
          rw [eG, List.length_take]
          omega
        have rn : ∀ cs', stepM cs l = some cs' → runM [] (ls.take (i + 1)) = some cs' := fun cs' e => by
          rw [take_more hl, runM_app, hcs]
          show runM cs [l] = _
          rw [runM_one, e]
        have exi : xi = V.int (i : Int) := (Option.some.inj e1).symm
        subst exi
        obtain ⟨ysA, hrA, hA⟩ := g4.all
        have lA := hA.len
        have ll1 := lls l (List.mem_of_getElem? hl)
        refine ⟨_, rfl, _, rfl, _, rfl, l, i, r, ysA, cs, rfl, ll1, i9, hrA, by omega, u4.1, fun h hs H5 p v1 v2 al t5 nal hal hp d1 d2 hr5 => ?_, fun hn => ⟨fun H5 t5 => ?_, fun H5 d t5 hd hd5 => ?_⟩, ?_⟩
        · obtain ⟨k1, k2, k3⟩ := gotC nr u4 hl4 npr hrA hA t5 nal hal hp d1 d2 hr5
          exact ⟨_, _, rfl, k1, k2, _, rn _ hs, k3⟩
        · refine ⟨true, e_BadTime.e, fun _ a na => ⟨_, rfl, note_reads i9 fun d hd => ?_⟩, fun z => by cases z⟩
          have u5 := u4.trans t5
          exact qE i l cs hcs hl hn _ d (u5.trans (Tb2.same u5.1 (Same.new hd))) (u5.free hd) upd_same
        · exact ⟨false, xN, (fun z => by cases z), fun _ => qE i l cs hcs hl hn _ d (u4.trans t5) (u4.free hd) hd5⟩
        · rcases g4 with ⟨e0, h1⟩ | ⟨ys, init, a, v1, v2, al, ws, c, h1, h2, h3, h4, h5, h6, h7, h8, h9, h10⟩
          · refine .inl ⟨?_, e0⟩
            rw [hrA] at h1
            exact HO.lst.inj (Option.some.inj h1)
          · have ea : ysA = ys ++ [.ref a] := by
              rw [hrA] at h1
              exact HO.lst.inj (Option.some.inj h1)
            have cg := G.each c (by rw [h10]; simp)
            have lw : ws.length ≤ 900 := by
              have a1 := dpa_len h9
              rw [List.length_map] at a1
              have := lg.2 c (by rw [h10]; simp)
              omega
            refine .inr ⟨ys, a, v1, v2, al, ws, init, c, ea, h10, h3, h4, h5, h8, h9, cg, lw, fun y hs H5 z t5 dz hal5 => ?_⟩
            obtain ⟨k1, k2, k3⟩ := gotW u4 hl4 h1 h2 h3 h4 h5 h6 h7 h8 h9 t5 dz hal5
            exact ⟨_, _, rfl, k1, k2, _, rn _ hs, k3⟩
      · obtain ⟨c2, c3, rfl, u3, hl3, cs, hcs, g⟩ := h
        rw [List.length_map, List.take_length] at hcs
        obtain ⟨ys, h1, h2⟩ := g.all
        exact ⟨_, rfl, q1 cs hcs _ r ys u3 nr h1 h2⟩
theorem cl_Lmixed (T : Txt K mg) : Cl P w K mg base CX0 1 "_law_mixed" (spMix K (10 ^ 30) mixT) := by
  refine T.d_Lmixed.cl sc_Lmixed (fun vs H Q E h => ?_) (fun f cdv A outer s H vs Q E hr h => ?_)
  · obtain ⟨v, q, rfl, _⟩ := h
    rfl
  · obtain ⟨v, x, rfl, hv, bd, q⟩ := h
    obtain ⟨a, rfl, h0⟩ := dF_at hv
    have e1 : (fun i j : Int => V.int (i.fdiv j)) x.num (x.den : Int) = .int (qw x) := by
      show V.int (x.num.fdiv (x.den : Int)) = _
      rw [qf]
    have e2 : (fun i j : Int => V.int (i.fmod j)) x.num (x.den : Int) = .int (qr x) := by
      show V.int (x.num.fmod (x.den : Int)) = _
      rw [qm]
    have gw := qw_rg bd
    have gr := qr_rg bd
    have l1 := sI_len gw.1 gw.2
    have l2 := sI_len gr.1 gr.2
    have l3 := sI_len (show 0 ≤ (x.den : Int) by omega) bd.den
    refine ⟨_, (pss_cons (ps_set (i := 1) sc_Lmixed.nd rfl (.inl rfl) (pe_op op_fdivX (pe_ix ix_tup (pv 0) pe_int (fun _ _ => rfl)) (pe_ix ix_tup (pv 0) pe_int (fun _ _ => rfl))))
      (pss_cons (ps_set (i := 2) sc_Lmixed.nd rfl (.inl rfl) (pe_op op_modN (pe_ix ix_tup (pv 0) pe_int (fun _ _ => rfl)) (pe_ix ix_tup (pv 0) pe_int (fun _ _ => rfl))))
      (pss_cons (ps_if (pt_cmpR op_eq (pv 2) pe_int (nomark _))
        (pss_one (ps_ret (pe_callTy call_str_int (by rfl) T.m_str (by decide +kernel) (pa_cons (pv 1) pa_nil))))
        pss_nil)
      (pss_one (ps_ret (pe_op op_add_str (pe_op op_add_str (pe_op op_add_str (pe_op op_add_str (pe_callTy call_str_int (by rfl) T.m_str (by decide +kernel) (pa_cons (pv 1) pa_nil)) pe_str) (pe_callTy call_str_int (by rfl) T.m_str (by decide +kernel) (pa_cons (pv 2) pa_nil))) pe_str) (pe_callTy call_str_int (by rfl) T.m_str (by decide +kernel) (pa_cons (pe_ix ix_tup (pv 0) pe_int (fun _ _ => rfl)) pa_nil)))))))), ?_⟩
    refine ⟨_, rfl, _, _, _, _, rfl, rfl, h0, atI_nat (j := 0) rfl, _, rfl, _, _, _, _, rfl, rfl, h0, atI_nat (j := 1) rfl, _, _, rfl, rfl, cdq bd, ?_⟩
    rw [e1]
    refine ⟨_, rfl, _, _, _, _, rfl, rfl, h0, atI_nat (j := 0) rfl, _, rfl, _, _, _, _, rfl, rfl, h0, atI_nat (j := 1) rfl, _, _, rfl, rfl, den_ne x, ?_⟩
    rw [e2]
    refine ⟨_, rfl, rfl, _, rfl, ite2 (fun z => ?_) (fun z => ?_)⟩
    · have e : qr x = 0 := V.int.inj (of_decide_eq_true z)
      refine ⟨_, rfl, _, rfl, lg gw.1 gw.2, ?_⟩
      unfold mixT rs at q
      rw [if_pos e, sapp_nil] at q
      exact q
    · have e : qr x ≠ 0 := fun e => z (by rw [e]; rfl)
      unfold mixT rs at q
      rw [if_neg e] at q
      refine ⟨_, rfl, _, rfl, lg gw.1 gw.2, _, _, rfl, rfl, sz60 (show (sI (qw x)).length + 1 ≤ 1000 by omega), ?_⟩
      refine ⟨_, rfl, _, rfl, lg gr.1 gr.2, _, _, rfl, rfl, sz60 (by rw [slen]; show (sI (qw x)).length + 1 + (sI (qr x)).length ≤ 1000; omega), ?_⟩
      refine ⟨_, _, rfl, rfl, sz60 (by rw [slen, slen]; show (sI (qw x)).length + 1 + (sI (qr x)).length + 1 ≤ 1000; omega), ?_⟩
      refine ⟨_, rfl, _, _, _, _, rfl, rfl, h0, atI_nat (j := 1) rfl, _, rfl, lg (show 0 ≤ (x.den : Int) by omega) bd.den, _, _, rfl, rfl, sz60 (by rw [slen, slen, slen]; show (sI (qw x)).length + 1 + (sI (qr x)).length + 1 + (sI (x.den : Int)).length ≤ 1000; omega), ?_⟩
      show Q (.str ((((sI (qw x) ++ (" " : Str)) ++ sI (qr x)) ++ ("/" : Str)) ++ sI (x.den : Int))) H
      rw [sapp, sapp, sapp]
      exact q
/-- cues that can be written as lines -/
structure CL (c : Cue) : Prop where
  n0 : 0 ≤ c.1
  n1 : c.1 < 10 ^ 30
  b : Bd (10 ^ 30) c.2.1
  e : Bd (10 ^ 30) c.2.2.1
  ws : ∀ x ∈ c.2.2.2, x.1.length ≤ 20 ∧ Bd (10 ^ 30) x.2
structure LsOk (cs : List Cue) : Prop where
  each : ∀ c ∈ cs, CL c
  len : (linesM cs).length ≤ 900
theorem lines_upto {cs : List Cue} {i : Nat} {c : Cue} (h : cs[i]? = some c) : (linesM (cs.take i)).length + (c.2.2.2.length + 1) ≤ (linesM cs).length := by
  have e : linesM cs = linesM (cs.take (i + 1)) ++ linesM (cs.drop (i + 1)) := by
    rw [← linesM_app, List.take_append_drop]
  rw [e, linesM_more h, List.length_append, List.length_append]
  unfold linesOf
  rw [List.length_cons, List.length_map]
  omega
theorem CuesOk.ls {cs : List Cue} (h : CuesOk cs) : LsOk cs := by
  refine ⟨fun c hc => ?_, ?_⟩
  · obtain ⟨o, n0, n1⟩ := h.each c hc
    exact ⟨by omega, by omega, o.tb.bd, o.te.bd, fun x hx => ⟨(o.ws x hx).1.l20, (o.ws x hx).2.1.bd⟩⟩
  · have := linesM_len h.each
    have := h.len
    omega
theorem CsG.ls {cs : List Cue} (h : CsG cs) (hl : (linesM cs).length ≤ 900) : LsOk cs := by
  refine ⟨fun c hc => ?_, hl⟩
  have o := h.each c hc
  exact ⟨o.n0, by have := o.n1; omega, o.b.bd, o.e.bd, fun x hx => ⟨(o.ws x hx).1.l20, (o.ws x hx).2.1.bd⟩⟩
def spLinesX (K : PySem.W.Frag) : Sp := fun vs H Q _ => ∃ (v : V) (cs : List Cue), vs = [v] ∧ Dp K H v (dCs cs) ∧ LsOk cs ∧ ∀ H' p, Same H H' → H p = none → H' p = some (.lst ((linesM cs).map V.str)) → Q (.ref p) H'
theorem cl_Llines (T : Txt K mg) : Cl P w K mg base CX0 2 "_law_lines" (spLinesX K) := by
  have c_Lmixed := cl_Lmixed (P := P) (w := w) (base := base) T
  refine T.d_Llines.cl sc_Llines (fun vs H Q E h => ?_) (fun f cdv A outer s H vs Q E hr h => ?_)
  · obtain ⟨v, cs, rfl, _⟩ := h
    rfl
  · obtain ⟨v, cs, rfl, hv, ok, q⟩ := h
    obtain ⟨a, vs, rfl, h0, ha⟩ := dCs_at hv
    have el : vs.length = cs.length := by rw [dpa_len ha, List.length_map]
    have lcs := ok.len
    obtain ⟨e1, e2, e3, e4, e5, e6, e7, e8⟩ := slen_lit
    refine ⟨_, (pss_cons (ps_set (i := 1) sc_Llines.nd rfl (.inl rfl) (pe_lst pa_nil))
      (pss_cons (ps_for PassesOwn.never rfl (pi_list (pv 0)) (pg_tup rfl (pgs_cons (pg_name (i := 2) sc_Llines.nd rfl (.inl rfl)) (pgs_cons (pg_name (i := 3) sc_Llines.nd rfl (.inl rfl)) (pgs_cons (pg_name (i := 4) sc_Llines.nd rfl (.inl rfl)) (pgs_cons (pg_name (i := 5) sc_Llines.nd rfl (.inl rfl)) pgs_nil)))))
        (pss_cons (ps_set (i := 6) sc_Llines.nd rfl (.inl rfl) (pe_op op_add_str (pe_op op_add_str (pe_op op_add_str pe_str (pe_callTy call_str_int (by rfl) T.m_str (by decide +kernel) (pa_cons (pv 2) pa_nil))) pe_str) (pe_cl c_Lmixed hr (by decide) (by rfl) (pa_cons (pv 3) pa_nil))))
      (pss_cons (ps_expr (pe_bm PySem.F.plainAttrs_list PySem.F.slot_list_append PySem.F.type_list_append mt_append (pv 1) (pa_cons (pe_op op_add_str (pe_op op_add_str (pe_op op_add_str (pv 6) pe_str) (pe_cl c_Lmixed hr (by decide) (by rfl) (pa_cons (pv 4) pa_nil))) pe_str) pa_nil)))
      (pss_one (ps_set (i := 1) sc_Llines.nd rfl (.inl rfl) (pe_op op_cat (pv 1) (pe_lc (own := [("_law_word", 8), ("_law_time_here", 7)]) (g := (gTup K 2 (gCons (gName 8) (gCons (gName 7) gNil)))) (tt := tYes) (by rfl) sc_Llines.nd (pi_list (pv 5)) (blkOk_by (N := ["_law_cues_here", "_law_lines_here", "_law_number", "_law_begin", "_law_end", "_law_words", "_law_head", "_law_time_here", "_law_word"]) (sc := defScope s_Llines) (by decide +kernel)) (fun _ _ _ _ _ => (pg_tup rfl (pgs_cons (pg_name (i := 8) sc_Llines.nd rfl (Or.inl rfl)) (pgs_cons (pg_name (i := 7) sc_Llines.nd rfl (Or.inl rfl)) pgs_nil)))) (fun _ _ _ _ _ => pts_nil) (fun _ _ _ _ _ => (pe_op op_add_str (pe_op op_add_str (pe_op op_add_str (pe_op op_add_str pe_str (pv 8)) pe_str) (pe_cl c_Lmixed hr (by decide) (by rfl) (pa_cons (pv 7) pa_nil))) pe_str)))))))))
      (pss_one (ps_ret (pv 1))))), ?_⟩
    refine ⟨Nat.zero_le _, fun r hr0 => ?_⟩
    have s0 := Same.new (o := .lst []) hr0
    refine ⟨_, rfl, a, rfl, ⟨_, s0.seq h0⟩, for_list (K := K) (a := a) (xs := vs) (fun i σ H' => ∃ (r : Addr) (c2 c3 c4 c5 c6 : Option V), σ = [some (.ref a), some (.ref r), c2, c3, c4, c5, c6, none, none] ∧ Same H H' ∧ H r = none ∧ H' r = some (.lst ((linesM (cs.take i)).map V.str))) ⟨r, none, none, none, none, none, rfl, s0, hr0, upd_same⟩ (fun i σ H' _ h => ?_) (fun i y σ H' hy h => ?_) (fun σ H' h => ?_)⟩
    · obtain ⟨r, c2, c3, c4, c5, c6, rfl, s1, hr0, hr1⟩ := h
      exact s1.seq h0
    · clear hr0 s0
      obtain ⟨r, c2, c3, c4, c5, c6, rfl, s1, hr0, hr1⟩ := h
      obtain ⟨c, hc, dc⟩ := dpa_map ha hy
      have hi : i < cs.length := (List.getElem?_eq_some_iff.mp hc).1
      have okc := ok.each c (List.mem_of_getElem? hc)
      have n0 := okc.n0
      have n1 := okc.n1
      have ll := lines_upto hc
      obtain ⟨pt, v1, v2, al, ws, rfl, hpt, d1, d2, hal, dws⟩ := dC_at dc
      have dwl : ws.length = c.2.2.2.length := by rw [dpa_len dws, List.length_map]
      have a1 := mix_len okc.b
      have a2 := mix_len okc.e
      have a3 := sI_len (i := c.1) (by omega) (by omega)
      refine ⟨pt, _, rfl, Same.tup s1 hpt, rfl, _, _, rfl, _, _, rfl, _, _, rfl, _, _, rfl, rfl, ?_⟩
      refine ⟨_, rfl, _, rfl, lg (by omega) (by omega), _, _, rfl, rfl, szl (show ("cue " : Str).length + (sI c.1).length ≤ 1000 by rw [e1]; omega), ?_⟩
      refine ⟨_, _, rfl, rfl, szl (show (("cue " : Str) ++ sI c.1).length + (" from " : Str).length ≤ 1000 by rw [slen, e1, e2]; omega), ?_⟩
      refine ⟨_, rfl, _, c.2.1, rfl, dp_mono s1 _ _ d1, okc.b, _, _, rfl, rfl, szl (show ((("cue " : Str) ++ sI c.1) ++ (" from " : Str)).length + (mixT c.2.1).length ≤ 1000 by rw [slen, slen, e1, e2]; omega), ?_⟩
      refine ⟨_, rfl, .inl ⟨rfl, _, .inl (.inl hr1)⟩, ?_⟩
      refine ⟨_, rfl, _, _, rfl, rfl, szl (show (((("cue " : Str) ++ sI c.1) ++ (" from " : Str)) ++ mixT c.2.1).length + ("f to " : Str).length ≤ 1000 by rw [slen, slen, slen, e1, e2, e7]; omega), ?_⟩
      refine ⟨_, rfl, _, c.2.2.1, rfl, dp_mono s1 _ _ d2, okc.e, _, _, rfl, rfl, szl (show ((((("cue " : Str) ++ sI c.1) ++ (" from " : Str)) ++ mixT c.2.1) ++ ("f to " : Str)).length + (mixT c.2.2.1).length ≤ 1000 by rw [slen, slen, slen, slen, e1, e2, e7]; omega), ?_⟩
      refine ⟨_, _, rfl, rfl, szl (show (((((("cue " : Str) ++ sI c.1) ++ (" from " : Str)) ++ mixT c.2.1) ++ ("f to " : Str)) ++ mixT c.2.2.1).length + ("f" : Str).length ≤ 1000 by rw [slen, slen, slen, slen, slen, e1, e2, e7, e6]; omega), ?_⟩
      have eC : (((((("cue " : Str) ++ sI c.1) ++ (" from " : Str)) ++ mixT c.2.1) ++ ("f to " : Str)) ++ mixT c.2.2.1) ++ ("f" : Str) = lineC c := by
        unfold lineC framesT
        rw [show ("f to " : Str) = ("f" : Str) ++ (" to " : Str) by decide +kernel]
        simp only [sapp]
      refine ⟨r, _, .str (lineC c), rfl, congrArg (fun z => [V.str z]) eC, hr1, small1000 (by rw [List.length_map]; omega), ?_⟩
      have s2 : Same H (upd H' r (.lst ((linesM (cs.take i)).map V.str ++ [.str (lineC c)]))) := fun b o hb => by
        rw [upd_ne (ne_of_none hb hr0)]
        exact s1 _ _ hb
      have hr2 : (upd H' r (.lst ((linesM (cs.take i)).map V.str ++ [.str (lineC c)]))) r = some (.lst ((linesM (cs.take i)).map V.str ++ [.str (lineC c)])) := upd_same
      generalize upd H' r (.lst ((linesM (cs.take i)).map V.str ++ [.str (lineC c)])) = H2 at s2 hr2 ⊢
      -- the words' lines
      refine ⟨_, rfl, _, rfl, al, rfl, ⟨_, s2.seq hal⟩, fun D hD => ?_⟩
      have sD := Same.new (o := .lst []) hD
      refine lc_list (K := K) (a := al) (xs := ws) (fun j H'' => ∃ acc, H'' D = some (.lst acc) ∧ Same H2 (hid D D H'') ∧ acc = ((c.2.2.2.take j).map lineW).map V.str) ⟨[], upd_same, hid_old sD hD, rfl⟩ (fun j H'' hj h => ?_) (fun j y H'' hy h => ?_) (fun H'' h => ?_)
      · obtain ⟨acc, hd, s3, ea⟩ := h
        exact (s2.trans (s3.trans hid_same)).seq hal
      · obtain ⟨acc, hd, s3, ea⟩ := h
        have s3' := s2.trans (s3.trans hid_same)
        obtain ⟨x, hx, dx⟩ := dpa_map dws hy
        have hj : j < c.2.2.2.length := (List.getElem?_eq_some_iff.mp hx).1
        obtain ⟨wok, wtb⟩ := okc.ws x (List.mem_of_getElem? hx)
        obtain ⟨px, vt, rfl, hpx, dt⟩ := dW_at (dp_mono s3' _ _ dx)
        have b1 := mix_len wtb
        have b2 := wok
        refine ⟨px, _, rfl, hpx, rfl, _, _, rfl, _, _, rfl, rfl, rfl, ?_⟩
        refine ⟨_, rfl, _, _, rfl, rfl, szl (show ("  " : Str).length + x.1.length ≤ 1000 by rw [e4]; omega), ?_⟩
        refine ⟨_, _, rfl, rfl, szl (show (("  " : Str) ++ x.1).length + (" at " : Str).length ≤ 1000 by rw [slen, e4, e5]; omega), ?_⟩
        refine ⟨_, rfl, _, x.2, rfl, dt, wtb, _, _, rfl, rfl, szl (show ((("  " : Str) ++ x.1) ++ (" at " : Str)).length + (mixT x.2).length ≤ 1000 by rw [slen, slen, e4, e5]; omega), ?_⟩
        refine ⟨_, _, rfl, rfl, szl (show (((("  " : Str) ++ x.1) ++ (" at " : Str)) ++ mixT x.2).length + ("f" : Str).length ≤ 1000 by rw [slen, slen, slen, e4, e5, e6]; omega), ?_⟩
        have eW : (((("  " : Str) ++ x.1) ++ (" at " : Str)) ++ mixT x.2) ++ ("f" : Str) = lineW x := by
          unfold lineW framesT
          simp only [sapp]
        refine ⟨acc, hd, small1000 (by rw [ea, List.length_map, List.length_map, List.length_take]; omega), acc ++ [V.str (((((("  " : Str) ++ x.1) ++ (" at " : Str)) ++ mixT x.2)) ++ ("f" : Str))], upd_same, ?_, ?_⟩
        · rw [hid_b]
          exact s3
        · rw [eW, take_more hx, ea]
          simp
      · obtain ⟨acc, hd, s3, ea⟩ := h
        have s3' : Same H2 H'' := s3.trans hid_same
        rw [dwl, List.take_length] at ea
        subst ea
        refine ⟨r, D, _, _, rfl, rfl, s3' _ _ hr2, hd, Nat.le_trans (show ((linesM (cs.take i)).map V.str ++ [V.str (lineC c)]).length + ((c.2.2.2.map lineW).map V.str).length ≤ 1000 by rw [List.length_append, List.length_map, List.length_map, List.length_map]; show _ + 1 + _ ≤ 1000; omega) (by decide), fun pn hn => ?_⟩
        have t4 := Same.new (o := .lst ((linesM (cs.take i)).map V.str ++ [V.str (lineC c)] ++ (c.2.2.2.map lineW).map V.str)) hn
        refine ⟨pn, _, _, _, _, _, rfl, (s2.trans s3').trans t4, (s2.trans s3').free hn, ?_⟩
        rw [upd_same, linesM_more hc]
        unfold linesOf
        simp
    · obtain ⟨r, c2, c3, c4, c5, c6, rfl, s1, hr0, hr1⟩ := h
      rw [el, List.take_length] at hr1
      exact ⟨_, rfl, q _ r s1 hr0 hr1⟩
def spGood (K : PySem.W.Frag) : Sp := fun vs H Q _ => ∃ (v : V) (cs : List Cue), vs = [v] ∧ Dp K H v (dCs cs) ∧ CsG cs ∧ ∀ H', Same H H' → Q (.bl true) H'
theorem dr_more {α : Type} {xs : List α} {i : Nat} {x : α} (h : xs[i]? = some x) : xs.drop i = x :: xs.drop (i + 1) := by
  obtain ⟨hi, e⟩ := List.getElem?_eq_some_iff.mp h
  rw [List.drop_eq_getElem_cons hi, e]
theorem cl_Lgood (T : Txt K mg) : Cl P w K mg base CX0 2 "_law_good" (spGood K) := by
  have c_Llow := cl_Llow (P := P) (w := w) (base := base) T
  refine T.d_Lgood.cl sc_Lgood (fun vs H Q E h => ?_) (fun f cdv A outer s H vs Q E hr h => ?_)
  · obtain ⟨v, cs, rfl, _⟩ := h
    rfl
  · obtain ⟨v, cs, rfl, hv, G, q⟩ := h
    obtain ⟨a, vs, rfl, h0, ha⟩ := dCs_at hv
    refine ⟨_, (pss_cons (ps_set (i := 1) sc_Lgood.nd rfl (.inl rfl) (pe_un un_neg pe_int))
      (pss_cons (ps_for PassesOwn.never rfl (pi_list (pv 0)) (pg_name (i := 2) sc_Lgood.nd rfl (.inl rfl))
        (pss_cons (ps_if (PW.pt (pw_or (pt_not (pt_val (pe_callB call_isi (by rfl) T.m_isinstance (by decide +kernel) (pa_cons (pv 2) (pa_cons (pe_bltn (v := .ty "tuple") (by rfl) T.m_tuple (by decide +kernel) rfl) pa_nil))))) (pw_or (pt_cmpR op_ne (pe_callB call_len_seq (by rfl) T.m_len (by decide +kernel) (pa_cons (pv 2) pa_nil)) pe_int (nomark _)) (pw_or (pt_not (pt_val (pe_callB call_isi (by rfl) T.m_isinstance (by decide +kernel) (pa_cons (pe_ix ix_tup (pv 2) pe_int (fun _ _ => rfl)) (pa_cons (pe_bltn (v := .ty "int") (by rfl) T.m_int (by decide +kernel) rfl) pa_nil))))) (pw_or1 (pt_cmpR op_le (pe_ix ix_tup (pv 2) pe_int (fun _ _ => rfl)) (pv 1) (nomark _)))))))
        (pss_one (ps_ret pe_bl))
        pss_nil)
      (pss_cons (ps_set (i := 1) sc_Lgood.nd rfl (.inl rfl) (pe_ix ix_tup (pv 2) pe_int (fun _ _ => rfl)))
      (pss_cons (ps_if (PW.pt (pw_or (pt_not (pt_val (pe_cl c_Llow hr (by decide) (by rfl) (pa_cons (pe_ix ix_tup (pv 2) pe_int (fun _ _ => rfl)) (pa_cons (pe_ix ix_tup (pv 2) pe_int (fun _ _ => rfl)) pa_nil))))) (pw_or1 (pt_not (pt_val (pe_callB call_isi (by rfl) T.m_isinstance (by decide +kernel) (pa_cons (pe_ix ix_tup (pv 2) pe_int (fun _ _ => rfl)) (pa_cons (pe_bltn (v := .ty "list") (by rfl) T.m_list (by decide +kernel) rfl) pa_nil))))))))
        (pss_one (ps_ret pe_bl))
        pss_nil)
      (pss_cons (ps_set (i := 3) sc_Lgood.nd rfl (.inl rfl) (pe_ix ix_tup (pv 2) pe_int (fun _ _ => rfl)))
      (pss_one (ps_for PassesOwn.never rfl (pi_list (pe_ix ix_tup (pv 2) pe_int (fun _ _ => rfl))) (pg_tup rfl (pgs_cons (pg_name (i := 4) sc_Lgood.nd rfl (.inl rfl)) (pgs_cons (pg_name (i := 5) sc_Lgood.nd rfl (.inl rfl)) pgs_nil)))
        (pss_cons (ps_if (PW.pt (pw_or (pt_not (pt_val (pe_callB call_isi (by rfl) T.m_isinstance (by decide +kernel) (pa_cons (pv 4) (pa_cons (pe_bltn (v := .ty "str") (by rfl) T.m_str (by decide +kernel) rfl) pa_nil))))) (pw_or1 (pt_not (pt_chain op_lt op_le pe_int (pe_callB call_len_str (by rfl) T.m_len (by decide +kernel) (pa_cons (pv 4) pa_nil)) pe_int)))))
        (pss_one (ps_ret pe_bl))
        pss_nil)
      (pss_cons (ps_if (PW.pt (pw_or (pt_val (pe_cl c_Llow hr (by decide) (by rfl) (pa_cons (pv 5) (pa_cons (pv 3) pa_nil)))) (pw_or1 (pt_not (pt_val (pe_cl c_Llow hr (by decide) (by rfl) (pa_cons (pv 5) (pa_cons (pe_ix ix_tup (pv 2) pe_int (fun _ _ => rfl)) pa_nil))))))))
        (pss_one (ps_ret pe_bl))
        pss_nil)
      (pss_cons (ps_if (pt_cmpR (op_neD hr.units) (pe_lc (own := [("_law_sign", 6)]) (g := (gName 6)) (by rfl) sc_Lgood.nd (pi_str (pv 4)) (blkOk_by (N := ["_law_cues_here", "_law_last", "_law_cue_here", "_law_at", "_law_word", "_law_time_here", "_law_sign"]) (sc := defScope s_Lgood) (by decide +kernel)) (fun _ _ _ _ _ => (pg_name (i := 6) sc_Lgood.nd rfl (Or.inl rfl))) (fun _ _ _ _ _ => (pts_one (pt_cmpR op_notIn_sign (pv 6) pe_str rfl))) (fun _ _ _ _ _ => (pv 6))) (pe_lst pa_nil) (nomark _))
        (pss_one (ps_ret pe_bl))
        pss_nil)
      (pss_one (ps_set (i := 3) sc_Lgood.nd rfl (.inl rfl) (pv 5)))))))))))))
      (pss_one (ps_ret pe_bl)))), ?_⟩
    refine ⟨_, rfl, ?_⟩
    refine ⟨_, rfl, a, rfl, ⟨_, h0⟩, for_list (K := K) (a := a) (xs := vs) (fun i σ H' => ∃ (last : Int) (c2 c3 c4 c5 : Option V), σ = [some (.ref a), some (.int last), c2, c3, c4, c5, none] ∧ Same H H' ∧ ∀ d ∈ cs.drop i, last < d.1) ⟨-1, none, none, none, none, rfl, Same.refl _, fun d hd => ?_⟩ (fun i σ H' _ h => ?_) (fun i y σ H' hy h => ?_) (fun σ H' h => ?_)⟩
    · have := (G.each d (List.mem_of_mem_drop hd)).n0
      omega
    · obtain ⟨last, c2, c3, c4, c5, rfl, s1, hl⟩ := h
      exact s1.seq h0
    · obtain ⟨last, c2, c3, c4, c5, rfl, s1, hl⟩ := h
      obtain ⟨c, hc, dc⟩ := dpa_map ha hy
      have okc := G.each c (List.mem_of_getElem? hc)
      have er := dr_more hc
      have hlc := hl c (by rw [er]; exact List.mem_cons_self)
      have rs := G.rise.sublist (List.drop_sublist i cs)
      rw [er, List.pairwise_cons] at rs
      obtain ⟨pt, v1, v2, al, ws, rfl, hpt0, d10, d20, hal0, dws0⟩ := dC_at dc
      have hpt := Same.tup s1 hpt0
      have d1 := dp_mono s1 _ _ d10
      have d2 := dp_mono s1 _ _ d20
      have hal := s1.seq hal0
      refine ⟨_, rfl, _, _, _, _, _, rfl, .ty _, tyT hpt, kit_ty (r := true) (by decide +kernel), _, rfl, iteN rfl ?_⟩
      refine ⟨_, rfl, _, _, rfl, .inr hpt, rfl, _, rfl, iteN rfl ?_⟩
      refine ⟨_, rfl, _, _, _, _, rfl, rfl, hpt, atI_nat (j := 0) rfl, _, _, _, _, _, rfl, .ty _, .base (.int _), kit_ty (r := true) (by decide +kernel), _, rfl, iteN rfl ?_⟩
      refine ⟨_, rfl, _, _, _, _, rfl, rfl, hpt, atI_nat (j := 0) rfl, _, rfl, _, _, rfl, rfl, _, rfl, iteN (decide_eq_false (by omega)) ?_⟩
      refine ⟨_, rfl, _, _, _, _, rfl, rfl, hpt, atI_nat (j := 0) rfl, ?_⟩
      refine ⟨_, rfl, _, _, _, _, rfl, rfl, hpt, atI_nat (j := 1) rfl, _, rfl, _, _, _, _, rfl, rfl, hpt, atI_nat (j := 2) rfl, _, _, _, _, 100, 100, rfl, d1, d2, okc.b.sz, okc.e.sz, by omega, _, rfl, ?_⟩
      rw [decide_eq_true okc.lt]
      refine iteN rfl ?_
      refine ⟨_, rfl, _, _, _, _, rfl, rfl, hpt, atI_nat (j := 3) rfl, _, _, _, _, _, rfl, .ty _, tyL hal, kit_ty (r := true) (by decide +kernel), _, rfl, iteN rfl ?_⟩
      refine ⟨_, rfl, _, _, _, _, rfl, rfl, hpt, atI_nat (j := 1) rfl, ?_⟩
      refine ⟨_, rfl, _, _, _, _, rfl, rfl, hpt, atI_nat (j := 3) rfl, al, rfl, ⟨_, hal⟩, for_list (K := K) (a := al) (xs := ws) (fun j σ H2 => ∃ (va : V) (t : Rat) (c4 c5 : Option V), σ = [some (.ref a), some (.int c.1), some (.ref pt), some va, c4, c5, none] ∧ Same H' H2 ∧ Dp K H2 va (dF t) ∧ RB t ∧ ∀ x ∈ c.2.2.2.drop j, t ≤ x.2) ⟨v1, c.2.1, _, _, rfl, Same.refl _, d1, okc.b, fun x hx => (okc.ws x (List.mem_of_mem_drop hx)).2.2.1⟩ (fun j σ H2 _ h => ?_) (fun j y σ H2 hy h => ?_) (fun σ H2 h => ?_)⟩
      · obtain ⟨va, t, c4, c5, rfl, s2, dva, rb, hle⟩ := h
        exact s2.seq hal
      · obtain ⟨va, t, c4, c5, rfl, s2, dva, rb, hle⟩ := h
        obtain ⟨x, hx, dx⟩ := dpa_map dws0 hy
        obtain ⟨wok, wrb, wb, we⟩ := okc.ws x (List.mem_of_getElem? hx)
        have ex := dr_more hx
        have hlx := hle x (by rw [ex]; exact List.mem_cons_self)
        have od := okc.ord.sublist (List.drop_sublist j c.2.2.2)
        rw [ex, List.pairwise_cons] at od
        have s12 := s1.trans s2
        obtain ⟨px, vt, rfl, hpx, dt⟩ := dW_at (dp_mono s12 _ _ dx)
        have hpt2 := Same.tup s2 hpt
        have l0 := wok.l0
        have l20 := wok.l20
        refine ⟨px, _, rfl, hpx, rfl, _, _, rfl, _, _, rfl, rfl, ?_⟩
        refine ⟨_, rfl, _, _, _, _, _, rfl, .ty _, .base (.str _), kit_ty (r := true) (by decide +kernel), _, rfl, iteN rfl ?_⟩
        refine ⟨_, rfl, _, rfl, le1000 (by omega), _, _, rfl, rfl, _, rfl, iteY (decide_eq_true (by omega)) ?_⟩
        refine ⟨_, _, rfl, rfl, _, rfl, ?_⟩
        rw [decide_eq_true (show (x.1.length : Int) ≤ 20 by omega)]
        refine iteN rfl ?_
        refine ⟨_, rfl, _, rfl, _, _, _, _, 100, 100, rfl, dt, dva, wrb.sz, rb.sz, by omega, _, rfl, iteN (decide_eq_false (Rat.not_lt.mpr hlx)) ?_⟩
        refine ⟨_, rfl, _, rfl, _, _, _, _, rfl, rfl, hpt2, atI_nat (j := 2) rfl, _, _, _, _, 100, 100, rfl, dt, dp_mono s2 _ _ d2, wrb.sz, okc.e.sz, by omega, _, rfl, ?_⟩
        rw [decide_eq_true we]
        refine iteN rfl ?_
        refine ⟨_, rfl, _, rfl, fun D hD => ?_⟩
        have sD := Same.new (o := .lst []) hD
        have hDD : (upd H2 D (.lst [])) D = some (.lst []) := upd_same
        refine lc_it walk_str (fun i Hx => Hx = upd H2 D (.lst [])) rfl (fun _ _ _ _ => trivial) (fun i z Hx Hy hi h hz => ?_) (fun Hx h => ?_)
        · obtain ⟨rfl, ch, hch, rfl⟩ := hz
          subst h
          have mc := wok.abc ch (by
            have := List.mem_of_getElem? (l := x.1.cps.toList) (i := i) (a := ch) (by rw [Array.getElem?_toList]; exact hch)
            exact this)
          refine ⟨rfl, ?_⟩
          refine ⟨_, rfl, ch, _, rfl, rfl, _, rfl, iteN ?_ rfl⟩
          rw [let_low]
          unfold low26
          rw [decide_eq_true mc.1, decide_eq_true mc.2]
          rfl
        · subst h
          refine ⟨Nat.zero_le _, fun p2 hp2 => ?_⟩
          have s3 := Same.new (o := .lst []) hp2
          refine ⟨.list [], .list [], .lst (.inl (.inl (s3 _ _ hDD))) .nil, .lst (.inl (.inl upd_same)) .nil, rfl, rfl, _, rfl, iteN rfl ?_⟩
          refine ⟨_, rfl, ?_⟩
          have s23 := sD.trans s3
          exact ⟨_, x.2, _, _, rfl, s2.trans s23, dp_mono s23 _ _ dt, wrb, fun y hy => od.1 y hy⟩
      · obtain ⟨va, t, c4, c5, rfl, s2, dva, rb, hle⟩ := h
        exact ⟨c.1, _, _, _, _, rfl, s1.trans s2, fun d hd => rs.1 d hd⟩
    · obtain ⟨last, c2, c3, c4, c5, rfl, s1, hl⟩ := h
      exact q _ s1
def none1 : List Str := ["", " ", "cue", "cue 1", "cue 1 from 2f", "cue 1 from 2f to", "cue 1 from 2f to 2f", "cue 1 from 3f to 2f"]
def none2 : List Str := ["cue x from 1f to 2f", "cue 01 from 1f to 2f", "cue -1 from 1f to 2f", "cue 1 from 1s to 2f"]
def none3 : List Str := ["cue 1 from 1 to 2f", "cue 1 from 1f to 2f ", "Cue 1 from 1f to 2f", " cue 1 from 1f to 2f", "  a"]
def none4 : List Str := ["  a at 1", "  at 1f", "  A at 1f", "  a at 1 2/4f", "   a at 1f", "  a at  1f", "  a b at 1f"]
def noneL : List Str := (((none1 ++ none2) ++ none3) ++ none4) ++ (["cue 1234567890 from 1f to 2f"] : List Str)
def spNone : Sp := fun vs H Q _ => ∃ (b l : Addr), vs = [.ref b] ∧ Bx H b l ∧ ∀ H' x, Same (hid b l H) (hid b l H') → Bx H' b l → x ∈ noneL → Q (.str x) H'
theorem cl_Lnone (T : Txt K mg) : Cl P w K mg base CX0 2 "_law_none" spNone := by
  have c_Ltake := cl_Ltake (P := P) (w := w) (base := base) T
  refine T.d_Lnone.cl sc_Lnone (fun vs H Q E h => ?_) (fun f cdv A outer s H vs Q E hr h => ?_)
  · obtain ⟨b, l, rfl, _⟩ := h
    rfl
  · obtain ⟨b, l, rfl, B, q⟩ := h
    refine ⟨_, (pss_cons (ps_set (i := 1) sc_Lnone.nd rfl (.inl rfl) (pe_lst (pa_cons pe_str (pa_cons pe_str (pa_cons pe_str (pa_cons pe_str (pa_cons pe_str (pa_cons pe_str (pa_cons pe_str (pa_cons pe_str pa_nil))))))))))
      (pss_cons (ps_set (i := 1) sc_Lnone.nd rfl (.inl rfl) (pe_op op_cat (pv 1) (pe_lst (pa_cons pe_str (pa_cons pe_str (pa_cons pe_str (pa_cons pe_str pa_nil)))))))
      (pss_cons (ps_set (i := 1) sc_Lnone.nd rfl (.inl rfl) (pe_op op_cat (pv 1) (pe_lst (pa_cons pe_str (pa_cons pe_str (pa_cons pe_str (pa_cons pe_str (pa_cons pe_str pa_nil))))))))
      (pss_cons (ps_set (i := 1) sc_Lnone.nd rfl (.inl rfl) (pe_op op_cat (pv 1) (pe_lst (pa_cons pe_str (pa_cons pe_str (pa_cons pe_str (pa_cons pe_str (pa_cons pe_str (pa_cons pe_str (pa_cons pe_str pa_nil))))))))))
      (pss_cons (ps_expr (pe_bm PySem.F.plainAttrs_list PySem.F.slot_list_append PySem.F.type_list_append mt_append (pv 1) (pa_cons pe_str pa_nil)))
      (pss_one (ps_ret (pe_ix ix_list (pv 1) (pe_cl c_Ltake hr (by decide) (by rfl) (pa_cons (pv 0) (pa_cons pe_int pa_nil))) (fun _ _ => rfl))))))))), ?_⟩
    obtain ⟨l1, e1⟩ : ∃ y : List V, y = none1.map V.str := ⟨_, rfl⟩
    have k1 : l1.length = 8 := by
      rw [e1]
      rfl
    obtain ⟨l2, e2⟩ : ∃ y : List V, y = none2.map V.str := ⟨_, rfl⟩
    have k2 : l2.length = 4 := by
      rw [e2]
      rfl
    obtain ⟨l3, e3⟩ : ∃ y : List V, y = none3.map V.str := ⟨_, rfl⟩
    have k3 : l3.length = 5 := by
      rw [e3]
      rfl
    obtain ⟨l4, e4⟩ : ∃ y : List V, y = none4.map V.str := ⟨_, rfl⟩
    have k4 : l4.length = 7 := by
      rw [e4]
      rfl
    have szs : ∀ {n : Nat}, n ≤ 24 → n ≤ sizeLine := fun h => Nat.le_trans h (by decide)
    refine ⟨(show 8 ≤ sizeLine by decide), fun p1 n1 => ?_⟩
    have hx1 : ∀ X : Hp, X = upd H p1 (.lst [.str "", .str " ", .str "cue", .str "cue 1", .str "cue 1 from 2f", .str "cue 1 from 2f to", .str "cue 1 from 2f to 2f", .str "cue 1 from 3f to 2f"]) → Same H X ∧ X p1 = some (.lst l1) := fun X eX => by
      rw [eX, e1]
      exact ⟨Same.new n1, upd_same⟩
    generalize eX1 : upd H p1 (.lst [.str "", .str " ", .str "cue", .str "cue 1", .str "cue 1 from 2f", .str "cue 1 from 2f to", .str "cue 1 from 2f to 2f", .str "cue 1 from 3f to 2f"]) = H1 at ⊢
    obtain ⟨s1, h1⟩ := hx1 _ eX1.symm
    clear hx1 eX1
    refine ⟨_, rfl, (show 4 ≤ sizeLine by decide), fun p2 n2 => ?_⟩
    have hx2 : ∀ X : Hp, X = upd H1 p2 (.lst [.str "cue x from 1f to 2f", .str "cue 01 from 1f to 2f", .str "cue -1 from 1f to 2f", .str "cue 1 from 1s to 2f"]) → Same H1 X ∧ X p2 = some (.lst l2) := fun X eX => by
      rw [eX, e2]
      exact ⟨Same.new n2, upd_same⟩
    generalize eX2 : upd H1 p2 (.lst [.str "cue x from 1f to 2f", .str "cue 01 from 1f to 2f", .str "cue -1 from 1f to 2f", .str "cue 1 from 1s to 2f"]) = H2 at ⊢
    obtain ⟨s2, h2⟩ := hx2 _ eX2.symm
    clear hx2 eX2
    refine ⟨p1, p2, _, _, rfl, rfl, s2 _ _ h1, h2, szs (by omega), fun p3 n3 => ?_⟩
    have s3 := Same.new (o := .lst (l1 ++ l2)) n3
    have h3 : (upd H2 p3 (.lst (l1 ++ l2))) p3 = some (.lst (l1 ++ l2)) := upd_same
    generalize upd H2 p3 (.lst (l1 ++ l2)) = H3 at s3 h3 ⊢
    refine ⟨_, rfl, (show 5 ≤ sizeLine by decide), fun p4 n4 => ?_⟩
    have hx3 : ∀ X : Hp, X = upd H3 p4 (.lst [.str "cue 1 from 1 to 2f", .str "cue 1 from 1f to 2f ", .str "Cue 1 from 1f to 2f", .str " cue 1 from 1f to 2f", .str "  a"]) → Same H3 X ∧ X p4 = some (.lst l3) := fun X eX => by
      rw [eX, e3]
      exact ⟨Same.new n4, upd_same⟩
    generalize eX3 : upd H3 p4 (.lst [.str "cue 1 from 1 to 2f", .str "cue 1 from 1f to 2f ", .str "Cue 1 from 1f to 2f", .str " cue 1 from 1f to 2f", .str "  a"]) = H4 at ⊢
    obtain ⟨s4, h4⟩ := hx3 _ eX3.symm
    clear hx3 eX3
    refine ⟨p3, p4, _, _, rfl, rfl, s4 _ _ h3, h4, szs (by rw [List.length_append]; omega), fun p5 n5 => ?_⟩
    have s5 := Same.new (o := .lst (l1 ++ l2 ++ l3)) n5
    have h5 : (upd H4 p5 (.lst (l1 ++ l2 ++ l3))) p5 = some (.lst (l1 ++ l2 ++ l3)) := upd_same
    generalize upd H4 p5 (.lst (l1 ++ l2 ++ l3)) = H5 at s5 h5 ⊢
    refine ⟨_, rfl, (show 7 ≤ sizeLine by decide), fun p6 n6 => ?_⟩
    have hx4 : ∀ X : Hp, X = upd H5 p6 (.lst [.str "  a at 1", .str "  at 1f", .str "  A at 1f", .str "  a at 1 2/4f", .str "   a at 1f", .str "  a at  1f", .str "  a b at 1f"]) → Same H5 X ∧ X p6 = some (.lst l4) := fun X eX => by
      rw [eX, e4]
      exact ⟨Same.new n6, upd_same⟩
    generalize eX4 : upd H5 p6 (.lst [.str "  a at 1", .str "  at 1f", .str "  A at 1f", .str "  a at 1 2/4f", .str "   a at 1f", .str "  a at  1f", .str "  a b at 1f"]) = H6 at ⊢
    obtain ⟨s6, h6⟩ := hx4 _ eX4.symm
    clear hx4 eX4
    refine ⟨p5, p6, _, _, rfl, rfl, s6 _ _ h5, h6, szs (by rw [List.length_append, List.length_append]; omega), fun p7 n7 => ?_⟩
    have sA : Same H H6 := ((((s1.trans s2).trans s3).trans s4).trans s5).trans s6
    have nA : H p7 = none := sA.free n7
    have s7 := Same.new (o := .lst (l1 ++ l2 ++ l3 ++ l4)) n7
    have h7 : (upd H6 p7 (.lst (l1 ++ l2 ++ l3 ++ l4))) p7 = some (.lst (l1 ++ l2 ++ l3 ++ l4)) := upd_same
    generalize upd H6 p7 (.lst (l1 ++ l2 ++ l3 ++ l4)) = H7 at s7 h7 ⊢
    have sB := sA.trans s7
    refine ⟨_, rfl, .inl ⟨rfl, _, .inl (.inl h7)⟩, ?_⟩
    refine ⟨p7, _, _, rfl, rfl, h7, Nat.lt_of_le_of_lt (show (l1 ++ l2 ++ l3 ++ l4).length ≤ 24 by rw [List.length_append, List.length_append, List.length_append]; omega) (by decide), ?_⟩
    have sC : Same H (upd H7 p7 (.lst (l1 ++ l2 ++ l3 ++ l4 ++ [.str "cue 1234567890 from 1f to 2f"]))) := fun a o ha => by
      rw [upd_ne (ne_of_none ha nA)]
      exact sB _ _ ha
    have h8 : (upd H7 p7 (.lst (l1 ++ l2 ++ l3 ++ l4 ++ [.str "cue 1234567890 from 1f to 2f"]))) p7 = some (.lst (l1 ++ l2 ++ l3 ++ l4 ++ [.str "cue 1234567890 from 1f to 2f"])) := upd_same
    generalize upd H7 p7 (.lst (l1 ++ l2 ++ l3 ++ l4 ++ [.str "cue 1234567890 from 1f to 2f"])) = H8 at sC h8 ⊢
    have eL : l1 ++ l2 ++ l3 ++ l4 ++ [.str "cue 1234567890 from 1f to 2f"] = noneL.map V.str := by
      unfold noneL
      rw [List.map_append, List.map_append, List.map_append, List.map_append, ← e1, ← e2, ← e3, ← e4]
      rfl
    rw [eL] at h8
    have h8' := hid_new B nA h8
    refine ⟨_, rfl, _, rfl, b, l, _, rfl, B.mono sC, by decide, by decide, fun H9 n s9 B9 g0 g1 => ?_⟩
    obtain ⟨k, rfl⟩ : ∃ k : Nat, n = (k : Int) := ⟨n.toNat, by omega⟩
    have lk : k < noneL.length := show k < 25 by omega
    have hk : (noneL.map V.str)[k]? = some (.str noneL[k]) := by
      rw [List.getElem?_map, List.getElem?_eq_getElem lk]
      rfl
    exact ⟨_, _, _, _, rfl, rfl, .inl (.inl (hid_same _ _ (s9 _ _ h8'))), atI_nat (j := k) hk, q _ _ ((Same.hid sC).trans s9) B9 (List.getElem_mem lk)⟩
def spSpoiltX : Sp := fun vs H Q _ => ∃ (b l : Addr) (x : Str), vs = [.ref b, .str x] ∧ Bx H b l ∧ x.length ≤ 900 ∧ 10 ∉ tl x ∧ ∀ H' (y : Str), Same (hid b l H) (hid b l H') → Bx H' b l → y.length ≤ 903 → 10 ∉ tl y → Q (.str y) H'
theorem sgn_at {xs : List Nat} {r : Int} (h0 : 0 ≤ r) (h1 : r < (xs.length : Int)) : ∃ c, atI xs r = some c := by
  obtain ⟨n, rfl⟩ : ∃ n : Nat, r = (n : Int) := ⟨r.toNat, by omega⟩
  exact ⟨_, atI_nat (List.getElem?_eq_getElem (show n < xs.length by omega))⟩
theorem cl_Lspoilt (T : Txt K mg) : Cl P w K mg base CX0 2 "_law_spoilt" spSpoiltX := by
  have c_Ltake := cl_Ltake (P := P) (w := w) (base := base) T
  refine T.d_Lspoilt.cl sc_Lspoilt (fun vs H Q E h => ?_) (fun f cdv A outer s H vs Q E hr h => ?_)
  · obtain ⟨b, l, x, rfl, _⟩ := h
    rfl
  · obtain ⟨b, l, x, rfl, B, hx, h10, q⟩ := h
    refine ⟨_, (pss_cons (ps_for PassesOwn.never rfl (pi_range1 (by rfl) T.m_range (pa_cons (pe_op op_add pe_int (pe_cl c_Ltake hr (by decide) (by rfl) (pa_cons (pv 0) (pa_cons pe_int pa_nil)))) pa_nil)) (pg_name (i := 2) sc_Lspoilt.nd rfl (.inl rfl))
        (pss_cons (ps_set (i := 3) sc_Lspoilt.nd rfl (.inl rfl) (pe_cl c_Ltake hr (by decide) (by rfl) (pa_cons (pv 0) (pa_cons (pe_op op_add (pe_callB call_len_str (by rfl) T.m_len (by decide +kernel) (pa_cons (pv 1) pa_nil)) pe_int) pa_nil))))
      (pss_cons (ps_set (i := 4) sc_Lspoilt.nd rfl (.inl rfl) (pe_ix ix_str pe_str (pe_cl c_Ltake hr (by decide) (by rfl) (pa_cons (pv 0) (pa_cons pe_int pa_nil))) (fun _ _ => rfl)))
      (pss_cons (ps_set (i := 5) sc_Lspoilt.nd rfl (.inl rfl) (pe_cl c_Ltake hr (by decide) (by rfl) (pa_cons (pv 0) (pa_cons pe_int pa_nil))))
      (pss_cons (ps_set (i := 6) sc_Lspoilt.nd rfl (.inl rfl) (pe_slice sl_str (pv 1) (po_some (pe_op op_add (pv 3) (pe_ix ix_list (pe_lst (pa_cons pe_int (pa_cons pe_int (pa_cons pe_int pa_nil)))) (pv 5) (fun _ _ => rfl)))) po_none))
      (pss_one (ps_set (i := 1) sc_Lspoilt.nd rfl (.inl rfl) (pe_op op_add_str (pe_op op_add_str (pe_slice sl_str (pv 1) po_none (po_some (pv 3))) (pe_ix ix_list (pe_lst (pa_cons pe_str (pa_cons (pv 4) (pa_cons (pv 4) pa_nil)))) (pv 5) (fun _ _ => rfl))) (pv 6)))))))))
      (pss_one (ps_ret (pv 1)))), ?_⟩
    refine ⟨_, rfl, b, l, _, rfl, B, by decide, by decide, fun H1 n s1 B1 n0 n1 => ?_⟩
    refine ⟨_, _, rfl, rfl, 1 + n, rfl, by omega, by omega, for_range (lo := 0) (n := (1 + n).toNat) (fun i σ H' => ∃ (t : Str) (c2 c3 c4 c5 c6 : Option V), σ = [some (.ref b), some (.str t), c2, c3, c4, c5, c6] ∧ Same (hid b l H) (hid b l H') ∧ Bx H' b l ∧ t.length ≤ 900 + i ∧ 10 ∉ tl t) ⟨x, none, none, none, none, none, rfl, s1, B1, hx, h10⟩ (fun i σ H' hi h => ?_) (fun σ H' h => ?_)⟩
    · obtain ⟨t, c2, c3, c4, c5, c6, rfl, s2, B2, lt, t10⟩ := h
      have hi3 : i ≤ 2 := by omega
      have lz : t.length ≤ sizeLine := le1000 (by omega)
      refine ⟨_, rfl, _, rfl, t, rfl, lz, _, _, rfl, rfl, b, l, _, rfl, B2, by omega, by omega, fun H3 at' s3 B3 a0 a1 => ?_⟩
      refine ⟨_, rfl, b, l, _, rfl, B3, by decide, by decide, fun H4 sg s4 B4 g0 g1 => ?_⟩
      obtain ⟨c, hc⟩ := sgn_at (xs := ("a0 129f/to" : Str).cps.toList) g0 g1
      have c10 : c ≠ 10 := by
        obtain ⟨k, rfl⟩ : ∃ k : Nat, sg = (k : Int) := ⟨sg.toNat, by omega⟩
        have hk : k < 10 := by omega
        have hm : c ∈ ("a0 129f/to" : Str).cps.toList := by
          have e := atI_nat (xs := ("a0 129f/to" : Str).cps.toList) (j := k) (List.getElem?_eq_getElem (show k < ("a0 129f/to" : Str).cps.toList.length from hk))
          rw [e] at hc
          cases hc
          exact List.getElem_mem _
        intro z
        rw [z] at hm
        exact absurd hm (by decide +kernel)
      refine ⟨_, _, c, rfl, rfl, (show 10 ≤ sizeLine by decide), hc, ?_⟩
      refine ⟨_, rfl, b, l, _, rfl, B4, by decide, by decide, fun H5 cu s5 B5 u0 u1 => ?_⟩
      have sA := ((s2.trans s3).trans s4).trans s5
      obtain ⟨an, rfl⟩ : ∃ an : Nat, at' = (an : Int) := ⟨at'.toNat, by omega⟩
      obtain ⟨cn, rfl⟩ : ∃ cn : Nat, cu = (cn : Int) := ⟨cu.toNat, by omega⟩
      obtain ⟨wd, hw, lw, w10⟩ : ∃ wd : Str, [V.str "", .str ⟨#[c]⟩, .str ⟨#[c]⟩][cn]? = some (.str wd) ∧ (tl wd).length ≤ 1 ∧ 10 ∉ tl wd := by
        have h1 : 10 ∉ tl (⟨#[c]⟩ : Str) := by
          show 10 ∉ [c]
          simp [Ne.symm c10]
        match cn, u1 with
        | 0, _ => exact ⟨_, rfl, Nat.zero_le _, by decide⟩
        | 1, _ => exact ⟨_, rfl, Nat.le_refl _, h1⟩
        | 2, _ => exact ⟨_, rfl, Nat.le_refl _, h1⟩
        | k + 3, h => omega
      obtain ⟨dn, hd⟩ : ∃ dn : Nat, [V.int 1, .int 0, .int 1][cn]? = some (.int (dn : Int)) := by
        match cn, u1 with
        | 0, _ => exact ⟨1, rfl⟩
        | 1, _ => exact ⟨0, rfl⟩
        | 2, _ => exact ⟨1, rfl⟩
        | k + 3, h => omega
      have k1 := cut_take t an
      have k2 := cut_from t (an + dn)
      have lt' := len_tl' t
      refine ⟨_, rfl, _, rfl, (show 3 ≤ sizeLine by decide), fun p2 hp2 => ?_⟩
      have t7 := Same.new (o := .lst [.int 1, .int 0, .int 1]) hp2
      have hP2 : SqL K (upd H5 p2 (.lst [.int 1, .int 0, .int 1])) p2 [.int 1, .int 0, .int 1] := .inl (.inl upd_same)
      have B7 := B5.mono t7
      generalize upd H5 p2 (.lst [.int 1, .int 0, .int 1]) = H7 at t7 hP2 B7 ⊢
      refine ⟨_, rfl, _, _, _, _, rfl, rfl, hP2, atI_nat (j := cn) hd, _, _, rfl, rfl, _, rfl, _, rfl, lz, ?_⟩
      refine ⟨_, rfl, _, rfl, _, rfl, _, rfl, lz, _, rfl, _, rfl, (show 3 ≤ sizeLine by decide), fun p hp => ?_⟩
      have t6 := Same.new (o := .lst [.str "", .str ⟨#[c]⟩, .str ⟨#[c]⟩]) hp
      have hP : SqL K (upd H7 p (.lst [.str "", .str ⟨#[c]⟩, .str ⟨#[c]⟩])) p [.str "", .str ⟨#[c]⟩, .str ⟨#[c]⟩] := .inl (.inl upd_same)
      have B6 := B7.mono t6
      generalize upd H7 p (.lst [.str "", .str ⟨#[c]⟩, .str ⟨#[c]⟩]) = H6 at t6 hP B6 ⊢
      have e1 := len_tl' (cutS t none (some (an : Int)))
      have e2 := len_tl' (cutS t (some ((an + dn : Nat) : Int)) none)
      have e3 := len_tl' wd
      rw [k1, List.length_take] at e1
      rw [k2, List.length_drop] at e2
      refine ⟨_, rfl, _, _, _, _, rfl, rfl, hP, atI_nat (j := cn) hw, _, _, rfl, rfl, le1000 (by omega), ?_⟩
      refine ⟨_, rfl, _, _, rfl, rfl, le1000 (show (cutS t none (some (an : Int)) ++ wd).length + (cutS t (some ((an + dn : Nat) : Int)) none).length ≤ 1000 by rw [slen]; omega), ?_⟩
      refine ⟨_, _, _, _, _, _, rfl, sA.trans (Same.hid (t7.trans t6)), B6, ?_, ?_⟩
      · rw [slen, slen]
        show (cutS t none (some (an : Int))).length + wd.length + (cutS t (some ((an + dn : Nat) : Int)) none).length ≤ 900 + (i + 1)
        omega
      · show 10 ∉ tl ((cutS t none (some (an : Int)) ++ wd) ++ cutS t (some ((an + dn : Nat) : Int)) none)
        rw [tl_app, tl_app, k1, k2]
        intro z
        rcases List.mem_append.mp z with z | z
        · rcases List.mem_append.mp z with z | z
          · exact t10 (List.mem_of_mem_take z)
          · exact w10 z
        · exact t10 (List.mem_of_mem_drop z)
    · obtain ⟨t, c2, c3, c4, c5, c6, rfl, s2, B2, lt, t10⟩ := h
      exact ⟨_, rfl, q _ _ s2 B2 (by omega) t10⟩
/-! ### drawn cues are read back; lines that come too late or too early are not -/
theorem CuesOk.g {cs : List Cue} (h : CuesOk cs) : CsG cs := by
  refine ⟨fun c hc => ?_, h.rise⟩
  obtain ⟨o, n0, n1⟩ := h.each c hc
  exact ⟨by omega, by omega, o.tb.rb, o.te.rb, o.lt, fun x hx => ⟨(o.ws x hx).1, (o.ws x hx).2.1.rb, (o.ws x hx).2.2⟩, o.ord⟩
theorem step_lineC {cs : List Cue} {c : Cue} (h : CG c) (lo : lowC cs c.1) : stepM cs (lineC c) = some (cs ++ [(c.1, c.2.1, c.2.2.1, [])]) := by
  have e1 : Txt.startswith (lineC c) "cue " = true := lnC_starts
  have e2 : cutS (lineC c) (some ((4 : Nat) : Int)) none = sI c.1 ++ ((" from " : Str) ++ (framesT c.2.1 ++ ((" to " : Str) ++ framesT c.2.2.1))) := lnC_cut
  exact step_cue (h := (c.1, c.2.1, c.2.2.1)) e1 (by rw [e2]; exact rdHead_back h.n0 h.n1 h.b h.e) lo h.lt
theorem step_lineC_no {cs : List Cue} {c : Cue} (h : CG c) (lo : ¬ lowC cs c.1) : stepM cs (lineC c) = none := by
  have e1 : Txt.startswith (lineC c) "cue " = true := lnC_starts
  have e2 : cutS (lineC c) (some ((4 : Nat) : Int)) none = sI c.1 ++ ((" from " : Str) ++ (framesT c.2.1 ++ ((" to " : Str) ++ framesT c.2.2.1))) := lnC_cut
  refine step_cue_no e1 fun q hq z => ?_
  rw [e2, rdHead_back h.n0 h.n1 h.b h.e] at hq
  cases hq
  exact lo z.1
theorem step_lineW {init : List Cue} {c : Cue} {y : Wd} (hw : WordOk y.1) (ht : RB y.2) (h1 : early c ≤ y.2) (h2 : y.2 < c.2.2.1) : stepM (init ++ [c]) (lineW y) = some (init ++ [putW c y]) := by
  have e1 : Txt.startswith (lineW y) "cue " = false := lnW_not _
  have e2 : Txt.startswith (lineW y) "  " = true := lnW_starts _
  have e3 : cutS (lineW y) (some ((2 : Nat) : Int)) none = y.1 ++ ((" at " : Str) ++ framesT y.2) := lnW_cut _
  exact step_word e1 e2 (by rw [e3]; exact rdWord_back hw ht) h1 h2
theorem step_lineW_no {init : List Cue} {c : Cue} {y : Wd} (hw : WordOk y.1) (ht : RB y.2) (h : ¬ (early c ≤ y.2 ∧ y.2 < c.2.2.1)) : stepM (init ++ [c]) (lineW y) = none := by
  have e1 : Txt.startswith (lineW y) "cue " = false := lnW_not _
  have e2 : Txt.startswith (lineW y) "  " = true := lnW_starts _
  have e3 : cutS (lineW y) (some ((2 : Nat) : Int)) none = y.1 ++ ((" at " : Str) ++ framesT y.2) := lnW_cut _
  refine step_word_no e1 e2 fun z hz => ?_
  rw [e3, rdWord_back hw ht] at hz
  cases hz
  exact h
theorem runM_cons (cs : List Cue) (l : Str) (r : List Str) : runM cs (l :: r) = (stepM cs l).bind fun c => runM c r := rfl
theorem run_words {init : List Cue} {n : Int} {b e : Rat} : ∀ (w' wd : List Wd), (∀ x ∈ w', WordOk x.1 ∧ RB x.2 ∧ b ≤ x.2 ∧ x.2 < e) → (wd ++ w').Pairwise (fun x y => x.2 ≤ y.2) → runM (init ++ [(n, b, e, wd)]) (w'.map lineW) = some (init ++ [(n, b, e, wd ++ w')])
  | [], wd, _, _ => by
    rw [List.append_nil]
    rfl
  | y :: w', wd, h, o => by
    obtain ⟨h1, h2, h3, h4⟩ := h y List.mem_cons_self
    have le : early (n, b, e, wd) ≤ y.2 := by
      unfold early
      rcases List.eq_nil_or_concat wd with z | ⟨pre, v, z⟩
      · rw [z]
        exact h3
      · rw [List.concat_eq_append] at z
        dsimp only
        rw [z, List.getLast?_concat]
        rw [z, List.pairwise_append] at o
        exact o.2.2 v (by simp) y (by simp)
    rw [List.map_cons, runM_cons, step_lineW h1 h2 le h4]
    show runM (init ++ [(n, b, e, wd ++ [y])]) (w'.map lineW) = _
    rw [run_words w' (wd ++ [y]) (fun x hx => h x (List.mem_cons_of_mem _ hx)) (by rw [List.append_assoc]; exact o)]
    rw [List.append_assoc]
    rfl
theorem low_of {cs : List Cue} {c : Cue} (h : (cs ++ [c]).Pairwise fun c d => c.1 < d.1) : lowC cs c.1 := by
  intro d hd
  rw [List.pairwise_append] at h
  exact h.2.2 d (List.mem_of_getLast? hd) c (by simp)
theorem run_head {init : List Cue} {c : Cue} (hc : CG c) (lo : lowC init c.1) (r : List Str) : runM init (lineC c :: r) = runM (init ++ [(c.1, c.2.1, c.2.2.1, [])]) r := by
  rw [runM_cons, step_lineC hc lo, Option.bind_some]
theorem run_cues {more : List Cue} : ∀ {init : List Cue}, (∀ c ∈ more, CG c) → (init ++ more).Pairwise (fun c d => c.1 < d.1) → runM init (linesM more) = some (init ++ more) := by
  induction more with
  | nil =>
    intro init _ _
    rw [List.append_nil]
    rfl
  | cons c more ih =>
    intro init h o
    have hc := h c List.mem_cons_self
    have o2 : ((init ++ [c]) ++ more).Pairwise (fun c d => c.1 < d.1) := by
      rw [List.append_assoc]
      exact o
    have e : linesM (c :: more) = lineC c :: (c.2.2.2.map lineW ++ linesM more) := rfl
    have e2 : runM (init ++ [(c.1, c.2.1, c.2.2.1, [])]) (c.2.2.2.map lineW) = some (init ++ [(c.1, c.2.1, c.2.2.1, c.2.2.2)]) := run_words (init := init) (n := c.1) (b := c.2.1) (e := c.2.2.1) c.2.2.2 [] hc.ws hc.ord
    have e3 : runM (init ++ [(c.1, c.2.1, c.2.2.1, c.2.2.2)]) (linesM more) = some (init ++ [c] ++ more) := ih (fun d hd => h d (List.mem_cons_of_mem _ hd)) o2
    rw [e, run_head hc (low_of (List.pairwise_append.mp o2).1), runM_app, e2, Option.bind_some, e3, List.append_assoc, List.singleton_append]
theorem run_all {cs : List Cue} (G : CsG cs) : runM [] (linesM cs) = some cs := run_cues (init := []) G.each G.rise
/-- the last one's number never falls -/
theorem step_last {st st' : List Cue} {l : Str} (h : stepM st l = some st') {d : Cue} (hd : st.getLast? = some d) : ∃ d', st'.getLast? = some d' ∧ d.1 ≤ d'.1 := by
  unfold stepM at h
  by_cases h1 : Txt.startswith l "cue " = true
  · rw [if_pos h1] at h
    cases hh : rdHead (cutS l (some ((4 : Nat) : Int)) none) with
    | none =>
      rw [hh] at h
      cases h
    | some q =>
      rw [hh] at h
      dsimp only at h
      by_cases hc : lowC st q.1 ∧ q.2.1 < q.2.2
      · rw [if_pos hc] at h
        cases h
        exact ⟨_, List.getLast?_concat, Int.le_of_lt (hc.1 d hd)⟩
      · rw [if_neg hc] at h
        cases h
  · rw [if_neg h1] at h
    by_cases h2 : Txt.startswith l "  " = true
    · rw [if_pos h2, hd] at h
      dsimp only at h
      cases hw : rdWord (cutS l (some ((2 : Nat) : Int)) none) with
      | none =>
        rw [hw] at h
        cases h
      | some w =>
        rw [hw] at h
        dsimp only at h
        by_cases hc : early d ≤ w.2 ∧ w.2 < d.2.2.1
        · rw [if_pos hc] at h
          cases h
          exact ⟨_, List.getLast?_concat, Int.le_refl _⟩
        · rw [if_neg hc] at h
          cases h
    · rw [if_neg h2] at h
      cases h
theorem run_last {ls : List Str} : ∀ {st st' : List Cue}, runM st ls = some st' → ∀ {d : Cue}, st.getLast? = some d → ∃ d', st'.getLast? = some d' ∧ d.1 ≤ d'.1 := by
  induction ls with
  | nil =>
    intro st st' h d hd
    cases h
    exact ⟨d, hd, Int.le_refl _⟩
  | cons l r ih =>
    intro st st' h d hd
    have h' : (stepM st l).bind (fun c => runM c r) = some st' := h
    cases e : stepM st l with
    | none =>
      rw [e] at h'
      cases h'
    | some c =>
      rw [e] at h'
      obtain ⟨d1, h1, l1⟩ := step_last e hd
      obtain ⟨d2, h2, l2⟩ := ih h' h1
      exact ⟨d2, h2, Int.le_trans l1 l2⟩
/-! the places of the cues' lines -/
def hPos (cs : List Cue) (k : Nat) : Nat := (linesM (cs.take k)).length
theorem lines_at {cs : List Cue} {k : Nat} {c : Cue} (h : cs[k]? = some c) : linesM cs = linesM (cs.take k) ++ lineC c :: (c.2.2.2.map lineW ++ linesM (cs.drop (k + 1))) := by
  have e : cs = cs.take k ++ c :: cs.drop (k + 1) := by
    rw [← dr_more h, List.take_append_drop]
  conv => lhs; rw [e]
  rw [linesM_app]
  rfl
theorem take_head {cs : List Cue} {k : Nat} {c : Cue} (h : cs[k]? = some c) (m : Nat) : (linesM cs).take (hPos cs k + 1 + m) = linesM (cs.take k) ++ lineC c :: (c.2.2.2.map lineW ++ linesM (cs.drop (k + 1))).take m := by
  conv => lhs; rw [lines_at h]
  unfold hPos
  rw [Nat.add_assoc, List.take_length_add_append, Nat.add_comm 1 m, List.take_succ_cons]
theorem rise_at {cs : List Cue} (G : CsG cs) {k : Nat} {c : Cue} (h : cs[k]? = some c) : lowC (cs.take k) c.1 := by
  refine low_of ?_
  rw [← take_more h]
  exact G.rise.sublist (List.take_sublist _ _)
theorem run_take {cs : List Cue} (G : CsG cs) {k : Nat} {c : Cue} (h : cs[k]? = some c) (r : List Str) : runM [] (linesM (cs.take k) ++ lineC c :: r) = runM (cs.take k ++ [(c.1, c.2.1, c.2.2.1, [])]) r := by
  have e : runM [] (linesM (cs.take k)) = some (cs.take k) := run_all ⟨fun d hd => G.each d (List.mem_of_mem_take hd), G.rise.sublist (List.take_sublist _ _)⟩
  rw [runM_app, e]
  exact run_head (G.each c (List.mem_of_getElem? h)) (rise_at G h) r
/-- a cue's line once more, behind itself -/
theorem odd0 {cs : List Cue} (G : CsG cs) {k : Nat} {c : Cue} (h : cs[k]? = some c) (m : Nat) {st : List Cue} (hs : runM [] ((linesM cs).take (hPos cs k + 1 + m)) = some st) : stepM st (lineC c) = none := by
  rw [take_head h m, run_take G h] at hs
  obtain ⟨d, hd, le⟩ := run_last hs List.getLast?_concat
  refine step_lineC_no (G.each c (List.mem_of_getElem? h)) fun z => ?_
  have := z d hd
  have le : c.1 ≤ d.1 := le
  omega
theorem wordA : WordOk "a" := ⟨by decide, by decide, by decide⟩
/-- a word at the cue's end -/
theorem odd1 {cs : List Cue} (G : CsG cs) {k : Nat} {c : Cue} (h : cs[k]? = some c) {st : List Cue} (hs : runM [] ((linesM cs).take (hPos cs k + 1)) = some st) : stepM st (lineW ("a", c.2.2.1)) = none := by
  have e := take_head h 0
  rw [Nat.add_zero, List.take_zero] at e
  rw [e, run_take G h] at hs
  cases hs
  exact step_lineW_no wordA (G.each c (List.mem_of_getElem? h)).e fun z => absurd z.2 (Rat.lt_irrefl)
/-- a word ahead of the cue's begin -/
theorem odd2 {cs : List Cue} (G : CsG cs) {k : Nat} {c : Cue} (h : cs[k]? = some c) (h0 : c.2.1 ≠ 0) {st : List Cue} (hs : runM [] ((linesM cs).take (hPos cs k + 1)) = some st) : stepM st (lineW ("a", 0)) = none := by
  have e := take_head h 0
  rw [Nat.add_zero, List.take_zero] at e
  rw [e, run_take G h] at hs
  cases hs
  have hb := (G.each c (List.mem_of_getElem? h)).b
  refine step_lineW_no wordA ⟨by decide, by decide, by decide⟩ fun z => h0 ?_
  have z1 : c.2.1 ≤ 0 := z.1
  have z2 : 0 ≤ c.2.1 := Rat.num_nonneg.mp hb.n
  exact Rat.le_antisymm z1 z2
theorem odd3 {st : List Cue} (hs : runM [] ([] : List Str) = some st) (y : Wd) : stepM st (lineW y) = none := by
  cases hs
  exact step_no (lnW_not _) (.inr rfl)
def isHead (l : Str) : Bool := decide (V.str (cutS l none (some 3)) = V.str "cue")
theorem isHead_eq (l : Str) : isHead l = ((tl l).take 3 == [99, 117, 101]) := by
  unfold isHead
  rw [Bool.eq_iff_iff, decide_eq_true_eq, beq_iff_eq]
  have e : tl (cutS l none (some 3)) = (tl l).take 3 := cut_take l 3
  constructor
  · intro h
    have := congrArg tl (V.str.inj h)
    rw [e] at this
    exact this
  · intro h
    exact congrArg V.str (str_ext (e.trans h))
theorem head_C (c : Cue) : isHead (lineC c) = true := by
  rw [isHead_eq]
  unfold lineC
  rw [tl_app]
  rfl
theorem head_W (y : Wd) : isHead (lineW y) = false := by
  rw [isHead_eq]
  unfold lineW
  rw [tl_app]
  show (List.take 3 ([32, 32] ++ _) == [99, 117, 101]) = false
  cases tl (y.1 ++ ((" at " : Str) ++ framesT y.2)) with
  | nil => rfl
  | cons a r => rfl
def headsF : Nat → List Str → List Nat
  | _, [] => []
  | n, l :: r => (if isHead l = true then [n] else []) ++ headsF (n + 1) r
theorem headsF_app : ∀ (a b : List Str) (n : Nat), headsF n (a ++ b) = headsF n a ++ headsF (n + a.length) b
  | [], b, n => rfl
  | l :: a, b, n => by
    show (if isHead l = true then [n] else []) ++ headsF (n + 1) (a ++ b) = _
    rw [headsF_app a b (n + 1), ← List.append_assoc]
    show headsF n (l :: a) ++ _ = _
    rw [show n + 1 + a.length = n + (l :: a).length by rw [List.length_cons]; omega]
theorem headsF_snoc (a : List Str) (l : Str) : headsF 0 (a ++ [l]) = headsF 0 a ++ (if isHead l = true then [a.length] else []) := by
  rw [headsF_app, Nat.zero_add]
  show _ ++ ((if isHead l = true then [a.length] else []) ++ []) = _
  rw [List.append_nil]
theorem headsF_words : ∀ (ws : List Wd) (n : Nat), headsF n (ws.map lineW) = []
  | [], _ => rfl
  | y :: ws, n => by
    show (if isHead (lineW y) = true then [n] else []) ++ headsF (n + 1) (ws.map lineW) = []
    rw [head_W, headsF_words ws]
    rfl
theorem headsF_of (c : Cue) (n : Nat) : headsF n (linesOf c) = [n] := by
  show (if isHead (lineC c) = true then [n] else []) ++ headsF (n + 1) (c.2.2.2.map lineW) = [n]
  rw [head_C, headsF_words]
  rfl
theorem headsF_at : ∀ (cs : List Cue) (n : Nat), headsF n (linesM cs) = (List.range cs.length).map fun k => n + hPos cs k
  | [], _ => rfl
  | c :: cs, n => by
    have e : linesM (c :: cs) = linesOf c ++ linesM cs := rfl
    rw [e, headsF_app, headsF_of, headsF_at cs, List.length_cons, List.range_succ_eq_map, List.map_cons, List.map_map]
    show n :: _ = n :: _
    congr 1
    refine List.map_congr_left fun k _ => ?_
    show n + (linesOf c).length + hPos cs k = n + hPos (c :: cs) (k + 1)
    have : hPos (c :: cs) (k + 1) = (linesOf c).length + hPos cs k := by
      unfold hPos
      rw [List.take_succ_cons]
      show (linesOf c ++ linesM (cs.take k)).length = _
      rw [List.length_append]
    rw [this]
    omega
/-- lines with one that is none at its place -/
structure Bad (ls ls' : List Str) (at' : Int) : Prop where
  ex : ∃ (k : Nat) (bad : Str), at' = (k : Int) ∧ k ≤ ls.length ∧ ls' = ls.take k ++ [bad] ++ ls.drop k ∧ 10 ∉ tl bad ∧ bad.length ≤ 1000 ∧ ∀ st, runM [] (ls.take k) = some st → stepM st bad = none
theorem cutV_to (xs : List V) (n : Nat) : cutV xs none (some (n : Int)) = xs.take n := by
  show (xs.drop (HT.sIx xs.length 0 none)).take (HT.sIx xs.length xs.length (some (n : Int)) - HT.sIx xs.length 0 none) = _
  rw [HT.sIx_none, HT.sIx_nat, List.drop_zero, Nat.sub_zero]
  by_cases c : n ≤ xs.length
  · rw [Nat.min_eq_left c]
  · rw [Nat.min_eq_right (by omega), List.take_of_length_le (Nat.le_refl _), List.take_of_length_le (by omega)]
theorem cutV_fr (xs : List V) (n : Nat) : cutV xs (some (n : Int)) none = xs.drop n := by
  show (xs.drop (HT.sIx xs.length 0 (some (n : Int)))).take (HT.sIx xs.length xs.length none - HT.sIx xs.length 0 (some (n : Int))) = _
  rw [HT.sIx_none, HT.sIx_nat]
  by_cases c : n ≤ xs.length
  · rw [Nat.min_eq_left c, List.take_of_length_le]
    rw [List.length_drop]
    omega
  · rw [Nat.min_eq_right (by omega), Nat.sub_self, List.take_zero, List.drop_eq_nil_of_le (by omega)]
theorem ins_eq (ls : List Str) (n : Nat) (x : Str) : cutV (ls.map V.str) none (some (n : Int)) ++ [V.str x] ++ cutV (ls.map V.str) (some (n : Int)) none = (ls.take n ++ [x] ++ ls.drop n).map V.str := by
  rw [cutV_to, cutV_fr, List.map_append, List.map_append, List.map_take, List.map_drop]
  rfl
theorem headsF_len : ∀ (ls : List Str) (n : Nat), (headsF n ls).length ≤ ls.length
  | [], _ => Nat.le_refl _
  | l :: r, n => by
    have := headsF_len r (n + 1)
    show ((if isHead l = true then [n] else []) ++ headsF (n + 1) r).length ≤ r.length + 1
    rw [List.length_append]
    split
    · show 1 + _ ≤ _
      omega
    · show 0 + _ ≤ _
      omega
theorem ints_dp {K : PySem.W.Frag} {H : Hp} : ∀ hs : List Nat, DpAll K H (hs.map fun n : Nat => V.int (n : Int)) (hs.map fun n : Nat => PyData.int (n : Int))
  | [] => .nil
  | n :: hs => .cons (.int _) (ints_dp hs)
theorem eqv_ints (hs : List Nat) : PyData.eqv (.list (hs.map fun n : Nat => PyData.int (n : Int))) (.list []) = hs.isEmpty := by
  cases hs with
  | nil => rfl
  | cons n hs => rfl
theorem shp_ints (hs : List Nat) : SeqAt.shaped (.list (hs.map fun n : Nat => PyData.int (n : Int))) = true := by
  have e : hs.map (fun n : Nat => PyData.int (n : Int)) = (hs.map fun n : Nat => (n : Int)).map PyData.int := by
    rw [List.map_map]
    rfl
  rw [e]
  exact shaped_ints _
theorem lineA (q : Rat) : (("  a at " : Str) ++ mixT q) ++ ("f" : Str) = lineW ("a", q) := by
  unfold lineW framesT
  refine str_ext ?_
  simp only [tl_app, List.append_assoc]
  rfl
theorem lineA0 : ("  a at 0f" : Str) = lineW ("a", 0) := by decide +kernel
def spOdd (K : PySem.W.Frag) : Sp := fun vs H Q _ => ∃ (b l pl : Addr) (v : V) (cs : List Cue) (LS : List Str), vs = [.ref b, v, .ref pl] ∧ Bx H b l ∧ Dp K (hid b l H) v (dCs cs) ∧ linesM cs = LS ∧ hid b l H pl = some (.lst (LS.map V.str)) ∧ CuesOk cs ∧
  ∀ H' p pl' ls' at', Same (hid b l H) (hid b l H') → Bx H' b l → SqT K H' p [.ref pl', .int at'] → hid b l H' pl' = some (.lst (ls'.map V.str)) → ((ls' = LS ∧ at' = -1) ∨ Bad LS ls' at') → Q (.ref p) H'
theorem cl_Lodd (T : Txt K mg) : Cl P w K mg base CX0 2 "_law_odd" (spOdd K) := by
  have c_Ltake := cl_Ltake (P := P) (w := w) (base := base) T
  have c_Lmixed := cl_Lmixed (P := P) (w := w) (base := base) T
  refine T.d_Lodd.cl sc_Lodd (fun vs H Q E h => ?_) (fun f cdv A outer s H vs Q E hr h => ?_)
  · obtain ⟨b, l, pl, v, cs, LS, rfl, _⟩ := h
    rfl
  · obtain ⟨b, l, pl, v, cs, LS, rfl, B, dv, eLS, hpl, ok, q⟩ := h
    have G := ok.g
    have lLS : LS.length ≤ 96 := by
      have := linesM_len ok.each
      have := ok.len
      rw [← eLS]
      omega
    refine ⟨_, (pss_cons (ps_setLc (i := 3) (own := [("_law_k", 9)]) (g := (gName 9)) (by rfl) sc_Lodd.nd rfl rfl (sw_true rfl rfl rfl (by decide +kernel)) (pi_range1 (by rfl) T.m_range (pa_cons (pe_callB call_len_seq (by rfl) T.m_len (by decide +kernel) (pa_cons (pv 2) pa_nil)) pa_nil)) (blkOk_by (N := ["_law_box", "_law_cues_here", "_law_lines_here", "_law_heads", "_law_pick", "_law_head", "_law_way", "_law_at", "_law_word", "_law_k"]) (sc := defScope s_Lodd) (by decide +kernel)) (fun _ _ _ _ _ => (pg_name (i := 9) sc_Lodd.nd rfl (Or.inl rfl))) (fun _ _ _ _ _ => (pts_one (pt_cmpR op_eq (pe_slice sl_str (pe_ix (ix_listK (K := K) rfl) (pv 2) (pv 9) (fun _ _ => rfl)) po_none (po_some pe_int)) pe_str (nomark _)))) (fun _ _ _ _ _ => (pv 9)))
      (pss_cons (ps_if (pt_cmpR (op_eqD hr.units) (pv 3) (pe_lst pa_nil) (nomark _))
        (pss_one (ps_ret (pe_tup (pa_cons (pv 2) (pa_cons (pe_un un_neg pe_int) pa_nil)))))
        pss_nil)
      (pss_cons (ps_set (i := 4) sc_Lodd.nd rfl (.inl rfl) (pe_cl c_Ltake hr (by decide) (by rfl) (pa_cons (pv 0) (pa_cons (pe_callB call_len_seq (by rfl) T.m_len (by decide +kernel) (pa_cons (pv 3) pa_nil)) pa_nil))))
      (pss_cons (ps_set (i := 5) sc_Lodd.nd rfl (.inl rfl) (pe_ix ix_list (pv 3) (pv 4) (fun _ _ => rfl)))
      (pss_cons (ps_set (i := 6) sc_Lodd.nd rfl (.inl rfl) (pe_cl c_Ltake hr (by decide) (by rfl) (pa_cons (pv 0) (pa_cons pe_int pa_nil))))
      (pss_cons (ps_if (pt_cmpR op_eq (pv 6) pe_int (nomark _))
        (pss_cons (ps_set (i := 7) sc_Lodd.nd rfl (.inl rfl) (pe_op op_add (pe_op op_add (pv 5) pe_int) (pe_cl c_Ltake hr (by decide) (by rfl) (pa_cons (pv 0) (pa_cons (pe_op op_sub (pe_callB call_len_seq (by rfl) T.m_len (by decide +kernel) (pa_cons (pv 2) pa_nil)) (pv 5)) pa_nil)))))
      (pss_one (ps_ret (pe_tup (pa_cons (pe_op op_cat (pe_op op_cat (pe_slice sl_list (pv 2) po_none (po_some (pv 7))) (pe_lst (pa_cons (pe_ix ix_list (pv 2) (pv 5) (fun _ _ => rfl)) pa_nil))) (pe_slice sl_list (pv 2) (po_some (pv 7)) po_none)) (pa_cons (pv 7) pa_nil))))))
        pss_nil)
      (pss_cons (ps_if (pt_cmpR op_eq (pv 6) pe_int (nomark _))
        (pss_cons (ps_set (i := 8) sc_Lodd.nd rfl (.inl rfl) (pe_op op_add_str (pe_op op_add_str pe_str (pe_cl c_Lmixed hr (by decide) (by rfl) (pa_cons (pe_ix ix_tup (pe_ix ix_list (pv 1) (pv 4) (fun _ _ => rfl)) pe_int (fun _ _ => rfl)) pa_nil))) pe_str))
      (pss_one (ps_ret (pe_tup (pa_cons (pe_op op_cat (pe_op op_cat (pe_slice sl_list (pv 2) po_none (po_some (pe_op op_add (pv 5) pe_int))) (pe_lst (pa_cons (pv 8) pa_nil))) (pe_slice sl_list (pv 2) (po_some (pe_op op_add (pv 5) pe_int)) po_none)) (pa_cons (pe_op op_add (pv 5) pe_int) pa_nil))))))
        pss_nil)
      (pss_cons (ps_set (i := 7) sc_Lodd.nd rfl (.inl rfl) (pe_ix ix_list (pe_lst (pa_cons pe_int (pa_cons (pe_op op_add (pv 5) pe_int) pa_nil))) (pe_callTy call_int1 (by rfl) T.m_int (by decide +kernel) (pa_cons (pe_cmpR (op_neD hr.units) (pe_ix ix_tup (pe_ix ix_list (pv 1) (pv 4) (fun _ _ => rfl)) pe_int (fun _ _ => rfl)) (pe_tup (pa_cons pe_int (pa_cons pe_int pa_nil))) (nomark _)) pa_nil)) (fun _ _ => rfl)))
      (pss_one (ps_ret (pe_tup (pa_cons (pe_op op_cat (pe_op op_cat (pe_slice sl_list (pv 2) po_none (po_some (pv 7))) (pe_lst (pa_cons pe_str pa_nil))) (pe_slice sl_list (pv 2) (po_some (pv 7)) po_none)) (pa_cons (pv 7) pa_nil))))))))))))), ?_⟩
    refine ⟨_, rfl, _, _, rfl, .inl (.inl (.inl (hid_same _ _ hpl))), (((LS.map V.str).length : Nat) : Int), rfl, (by rw [List.length_map]; omega), (by rw [List.length_map]; omega), fun D hD => ?_⟩
    have nD : pl ≠ D := fun e => by
      rw [← e, hid_same _ _ hpl] at hD
      cases hD
    refine lc_range (lo := 0) (n := (LS.map V.str).length) (fun i H' => ∃ acc, H' D = some (.lst acc) ∧ Same H (hid D D H') ∧ acc = (headsF 0 (LS.take i)).map fun n : Nat => V.int (n : Int)) ⟨[], upd_same, hid_old (Same.new hD) hD, rfl⟩ (fun i H' hi h => ?_) (fun H' h => ?_)
    · obtain ⟨acc, hd, s1, ea⟩ := h
      have hi : i < LS.length := by
        rw [List.length_map] at hi
        exact hi
      have ei : (0 : Int) + (i : Int) = (i : Int) := Int.zero_add _
      rw [ei]
      obtain ⟨x, hx⟩ : ∃ x, LS[i]? = some x := ⟨_, List.getElem?_eq_getElem hi⟩
      have hxm : (LS.map V.str)[i]? = some (.str x) := by
        rw [List.getElem?_map, hx]
        rfl
      have lx : x.length ≤ 240 := linesM_each ok.each x (by rw [eLS]; exact List.mem_of_getElem? hx)
      have la : acc.length ≤ 96 := by
        rw [ea, List.length_map]
        have := headsF_len (LS.take i) 0
        rw [List.length_take] at this
        omega
      have e9 := headsF_snoc (LS.take i) x
      rw [← take_more hx, List.length_take, Nat.min_eq_left (by omega)] at e9
      refine ⟨rfl, ?_⟩
      refine ⟨_, rfl, _, rfl, _, _, _, _, rfl, rfl, .inl (.inl (hid_same _ _ (s1 _ _ (hid_same _ _ hpl)))), atI_nat (j := i) hxm, _, rfl, _, rfl, le1000 (by omega), rfl, _, rfl, ?_⟩
      change if isHead x = true then _ else _
      by_cases c : isHead x = true
      · rw [if_pos c] at e9
        refine iteY c ⟨_, rfl, acc, hd, small1000 (by omega), _, upd_same, by rw [hid_b]; exact s1, ?_⟩
        rw [e9, ea, List.map_append]
        rfl
      · rw [if_neg c, List.append_nil] at e9
        have c' : isHead x = false := by
          cases e : isHead x with
          | false => rfl
          | true => exact absurd e c
        exact iteN c' ⟨acc, hd, s1, by rw [e9, ea]⟩
    obtain ⟨acc, hd, s1', ea⟩ := h
    have s1 : Same H H' := s1'.trans hid_same
    rw [List.length_map, List.take_length, ← eLS, headsF_at] at ea
    have B1 := B.mono s1
    have hd1 : hid b l H' D = some (.lst acc) := hid_new B hD hd
    have hpl1 := Same.hid s1 _ _ hpl
    have dv1 := dp_mono (Same.hid s1) _ _ dv
    have lacc : acc.length = cs.length := by
      rw [ea, List.length_map, List.length_map, List.length_range]
    refine ⟨_, rfl, Nat.zero_le _, fun p0 n0 => ?_⟩
    have s2 := Same.new (o := .lst []) n0
    have h2 : (upd H' p0 (.lst [])) p0 = some (.lst []) := upd_same
    have B2 := B1.mono s2
    have hd2 := Same.hid s2 _ _ hd1
    have hpl2 := Same.hid s2 _ _ hpl1
    have dv2 := dp_mono (Same.hid (b := b) (l := l) s2) _ _ dv1
    have sA : Same (hid b l H) (hid b l (upd H' p0 (.lst []))) := Same.hid (s1.trans s2)
    generalize upd H' p0 (.lst []) = H2 at s2 h2 B2 hd2 hpl2 dv2 sA ⊢
    have dL : Dp K H2 (.ref D) (.list (((List.range cs.length).map fun k => 0 + hPos cs k).map fun n : Nat => PyData.int (n : Int))) := .lst (.inl (.inl (by rw [← ea]; exact hid_same _ _ hd2))) (ints_dp _)
    refine ⟨_, _, dL, .lst (.inl (.inl h2)) .nil, shp_ints _, rfl, _, rfl, ?_⟩
    rw [eqv_ints]
    by_cases hc : cs = []
    · subst hc
      refine iteY rfl ?_
      refine ⟨_, rfl, _, rfl, (show 2 ≤ sizeLine by decide), fun p n => ?_⟩
      have s3 := Same.new (o := .tup [.ref pl, .int (-1)]) n
      exact q _ p pl LS (-1) (sA.trans (Same.hid s3)) (B2.mono s3) (.inl (.inl upd_same)) (Same.hid s3 _ _ hpl2) (.inl ⟨rfl, rfl⟩)
    have hcl : 0 < cs.length := List.length_pos_iff.mpr hc
    have hcl8 := ok.len
    have hne : ((List.range cs.length).map fun k => 0 + hPos cs k).isEmpty = false := by
      cases e : cs.length with
      | zero => omega
      | succ n => 
        rw [List.range_succ_eq_map]
        rfl
    refine iteN hne ?_
    refine ⟨_, rfl, _, rfl, _, _, rfl, .inl (.inl (.inl (hid_same _ _ hd2))), b, l, _, rfl, B2, by omega, by omega, fun H3 pk s3 B3 k0 k1 => ?_⟩
    obtain ⟨k, rfl⟩ : ∃ k : Nat, pk = (k : Int) := ⟨pk.toNat, by omega⟩
    have hk : k < cs.length := by omega
    obtain ⟨c, hck⟩ : ∃ c, cs[k]? = some c := ⟨_, List.getElem?_eq_getElem hk⟩
    have hd3 := s3 _ _ hd2
    have hacc : acc[k]? = some (.int ((hPos cs k : Nat) : Int)) := by
      rw [ea, List.getElem?_map, List.getElem?_map, List.getElem?_range hk]
      show some (V.int (((0 + hPos cs k : Nat)) : Int)) = _
      rw [Nat.zero_add]
    refine ⟨_, rfl, _, rfl, _, _, _, _, rfl, rfl, .inl (.inl (hid_same _ _ hd3)), atI_nat (j := k) hacc, ?_⟩
    refine ⟨_, rfl, b, l, _, rfl, B3, by decide, by decide, fun H4 wy s4 B4 w0 w1 => ?_⟩
    have sB := (sA.trans s3).trans s4
    have hpl4 := s4 _ _ (s3 _ _ hpl2)
    have dv4 := dp_mono hid_same _ _ (dp_mono s4 _ _ (dp_mono s3 _ _ dv2))
    obtain ⟨av, vs, rfl, hav, dvs⟩ := dCs_at dv4
    have lvs : vs.length = cs.length := by rw [dpa_len dvs, List.length_map]
    obtain ⟨vc, hvc⟩ : ∃ vc, vs[k]? = some vc := ⟨_, List.getElem?_eq_getElem (show k < vs.length by omega)⟩
    obtain ⟨c', hc', dc⟩ := dpa_map dvs hvc
    obtain rfl : c = c' := Option.some.inj (hck.symm.trans hc')
    obtain ⟨pt, v1, v2, al, wv, rfl, hpt, d1, d2, hal, dwv⟩ := dC_at dc
    have lat := lines_at hck
    have hhd : hPos cs k < LS.length := by
      rw [← eLS, lat, List.length_append, List.length_cons]
      unfold hPos
      omega
    have hx : LS[hPos cs k]? = some (lineC c) := by
      rw [← eLS, lat]
      unfold hPos
      rw [List.getElem?_append_right (Nat.le_refl _), Nat.sub_self]
      rfl
    have hxm : (LS.map V.str)[hPos cs k]? = some (.str (lineC c)) := by
      rw [List.getElem?_map, hx]
      rfl
    obtain ⟨okc, cn0, cn1⟩ := ok.each c (List.mem_of_getElem? hck)
    have bads : ∀ {n : Nat} {bad : Str}, n ≤ LS.length → 10 ∉ tl bad → bad.length ≤ 1000 → (∀ st, runM [] (LS.take n) = some st → stepM st bad = none) → Bad LS (LS.take n ++ [bad] ++ LS.drop n) (n : Int) := fun a1 a2 a3 a4 => ⟨_, _, rfl, a1, rfl, a2, a3, a4⟩
    have a10 : ∀ q : Rat, 0 ≤ q.num → 10 ∉ tl (lineW ("a", q)) := fun q hq => lnW_line (show 10 ∉ tl ("a" : Str) by decide) hq
    refine ⟨_, rfl, rfl, _, rfl, ite2 (fun z => ?_) (fun z => ?_)⟩
    · -- its line again
      refine ⟨_, rfl, _, _, rfl, rfl, _, rfl, _, rfl, _, _, rfl, .inl (.inl (.inl (hid_same _ _ hpl4))), _, rfl, _, _, rfl, rfl, b, l, _, rfl, B4, by rw [List.length_map]; omega, by rw [List.length_map]; omega, fun H5 m s5 B5 m0 m1 => ?_⟩
      rw [List.length_map] at m1
      obtain ⟨mn, rfl⟩ : ∃ mn : Nat, m = (mn : Int) := ⟨m.toNat, by omega⟩
      refine ⟨_, _, rfl, rfl, ?_⟩
      have hpl5 := s5 _ _ hpl4
      refine ⟨_, rfl, _, rfl, _, rfl, pl, _, rfl, .inl (.inl (hid_same _ _ hpl5)), fun u1 un1 => ?_⟩
      have us1 := Same.new (o := .lst (cutV (LS.map V.str) none (some (((hPos cs k : Nat) : Int) + 1 + ((mn : Nat) : Int))))) un1
      have uh1 : (upd H5 u1 (.lst (cutV (LS.map V.str) none (some (((hPos cs k : Nat) : Int) + 1 + ((mn : Nat) : Int)))))) u1 = some (.lst (cutV (LS.map V.str) none (some (((hPos cs k : Nat) : Int) + 1 + ((mn : Nat) : Int))))) := upd_same
      generalize upd H5 u1 (.lst (cutV (LS.map V.str) none (some (((hPos cs k : Nat) : Int) + 1 + ((mn : Nat) : Int))))) = uH1 at us1 uh1 ⊢
      have ul1 := cutV_length (LS.map V.str) none (some (((hPos cs k : Nat) : Int) + 1 + ((mn : Nat) : Int)))
      have ul2 := cutV_length (LS.map V.str) (some (((hPos cs k : Nat) : Int) + 1 + ((mn : Nat) : Int))) none
      rw [List.length_map] at ul1 ul2
      refine ⟨_, rfl, _, rfl, _, _, _, _, rfl, rfl, .inl (.inl (us1 _ _ (hid_same _ _ hpl5))), atI_nat (j := hPos cs k) hxm, (show 1 ≤ sizeLine by decide), fun u2 un2 => ?_⟩
      have us2 := Same.new (o := .lst [.str (lineC c)]) un2
      have uh2 : (upd uH1 u2 (.lst [.str (lineC c)])) u2 = some (.lst [.str (lineC c)]) := upd_same
      generalize upd uH1 u2 (.lst [.str (lineC c)]) = uH2 at us2 uh2 ⊢
      refine ⟨u1, u2, _, _, rfl, rfl, us2 _ _ uh1, uh2, szl (show (cutV (LS.map V.str) none (some (((hPos cs k : Nat) : Int) + 1 + ((mn : Nat) : Int)))).length + 1 ≤ 1000 by omega), fun u3 un3 => ?_⟩
      have us3 := Same.new (o := .lst (cutV (LS.map V.str) none (some (((hPos cs k : Nat) : Int) + 1 + ((mn : Nat) : Int))) ++ [.str (lineC c)])) un3
      have uh3 : (upd uH2 u3 (.lst (cutV (LS.map V.str) none (some (((hPos cs k : Nat) : Int) + 1 + ((mn : Nat) : Int))) ++ [.str (lineC c)]))) u3 = some (.lst (cutV (LS.map V.str) none (some (((hPos cs k : Nat) : Int) + 1 + ((mn : Nat) : Int))) ++ [.str (lineC c)])) := upd_same
      generalize upd uH2 u3 (.lst (cutV (LS.map V.str) none (some (((hPos cs k : Nat) : Int) + 1 + ((mn : Nat) : Int))) ++ [.str (lineC c)])) = uH3 at us3 uh3 ⊢
      have us13 := (us1.trans us2).trans us3
      refine ⟨_, rfl, _, rfl, _, rfl, pl, _, rfl, .inl (.inl (us13 _ _ (hid_same _ _ hpl5))), fun u4 un4 => ?_⟩
      have us4 := Same.new (o := .lst (cutV (LS.map V.str) (some (((hPos cs k : Nat) : Int) + 1 + ((mn : Nat) : Int))) none)) un4
      have uh4 : (upd uH3 u4 (.lst (cutV (LS.map V.str) (some (((hPos cs k : Nat) : Int) + 1 + ((mn : Nat) : Int))) none))) u4 = some (.lst (cutV (LS.map V.str) (some (((hPos cs k : Nat) : Int) + 1 + ((mn : Nat) : Int))) none)) := upd_same
      generalize upd uH3 u4 (.lst (cutV (LS.map V.str) (some (((hPos cs k : Nat) : Int) + 1 + ((mn : Nat) : Int))) none)) = uH4 at us4 uh4 ⊢
      refine ⟨u3, u4, _, _, rfl, rfl, us4 _ _ uh3, uh4, szl (show (cutV (LS.map V.str) none (some (((hPos cs k : Nat) : Int) + 1 + ((mn : Nat) : Int))) ++ [V.str (lineC c)]).length + (cutV (LS.map V.str) (some (((hPos cs k : Nat) : Int) + 1 + ((mn : Nat) : Int))) none).length ≤ 1000 by rw [List.length_append]; show _ + 1 + _ ≤ 1000; omega), fun u5 un5 => ?_⟩
      have un5' := ((us13.trans us4)).free un5
      have us5 := ((us13.trans us4)).trans (Same.new (o := .lst (cutV (LS.map V.str) none (some (((hPos cs k : Nat) : Int) + 1 + ((mn : Nat) : Int))) ++ [.str (lineC c)] ++ cutV (LS.map V.str) (some (((hPos cs k : Nat) : Int) + 1 + ((mn : Nat) : Int))) none)) un5)
      have uh5 : (upd uH4 u5 (.lst (cutV (LS.map V.str) none (some (((hPos cs k : Nat) : Int) + 1 + ((mn : Nat) : Int))) ++ [.str (lineC c)] ++ cutV (LS.map V.str) (some (((hPos cs k : Nat) : Int) + 1 + ((mn : Nat) : Int))) none))) u5 = some (.lst (cutV (LS.map V.str) none (some (((hPos cs k : Nat) : Int) + 1 + ((mn : Nat) : Int))) ++ [.str (lineC c)] ++ cutV (LS.map V.str) (some (((hPos cs k : Nat) : Int) + 1 + ((mn : Nat) : Int))) none)) := upd_same
      generalize upd uH4 u5 (.lst (cutV (LS.map V.str) none (some (((hPos cs k : Nat) : Int) + 1 + ((mn : Nat) : Int))) ++ [.str (lineC c)] ++ cutV (LS.map V.str) (some (((hPos cs k : Nat) : Int) + 1 + ((mn : Nat) : Int))) none)) = H6 at us5 uh5 ⊢
      rw [show ((hPos cs k : Nat) : Int) + 1 + ((mn : Nat) : Int) = ((hPos cs k + 1 + mn : Nat) : Int) from rfl, ins_eq] at uh5
      refine ⟨_, rfl, (show 2 ≤ sizeLine by decide), fun p n => ?_⟩
      have s7 := Same.new (o := .tup [.ref u5, .int (((hPos cs k : Nat) : Int) + 1 + ((mn : Nat) : Int))]) n
      refine q _ p u5 _ _ ((sB.trans s5).trans (Same.hid (us5.trans s7))) (B5.mono (us5.trans s7)) (.inl (.inl upd_same)) (Same.hid s7 _ _ (hid_new B5 un5' uh5)) (.inr (bads (n := hPos cs k + 1 + mn) (by omega) ?_ ?_ fun st hs => ?_))
      · exact lnC_line (by omega) okc.tb.num.1 okc.te.num.1
      · have := lineC_len okc (by omega) (by omega)
        omega
      · rw [← eLS] at hs
        exact odd0 G hck mn hs
    · refine ⟨_, rfl, rfl, _, rfl, ite2 (fun z => ?_) (fun z => ?_)⟩
      · -- a word at its end
        have a2 := mix_len okc.te.bd
        refine ⟨_, rfl, _, rfl, _, _, _, _, rfl, rfl, hav, atI_nat (j := k) hvc, _, _, _, _, rfl, rfl, hpt, atI_nat (j := 2) rfl, _, c.2.2.1, rfl, d2, okc.te.bd, ?_⟩
        refine ⟨_, _, rfl, rfl, szl (show ("  a at " : Str).length + (mixT c.2.2.1).length ≤ 1000 from Nat.le_trans (Nat.add_le_add_left a2 _) (by decide)), ?_⟩
        refine ⟨_, _, rfl, rfl, szl (show (("  a at " : Str) ++ mixT c.2.2.1).length + ("f" : Str).length ≤ 1000 by rw [slen]; exact Nat.le_trans (Nat.add_le_add_right (Nat.add_le_add_left a2 _) _) (by decide)), ?_⟩
        rw [lineA]
        have lw : (lineW ("a", c.2.2.1)).length ≤ 240 := lineW_len wordA okc.te
        generalize eW : lineW ("a", c.2.2.1) = W at lw ⊢
        refine ⟨_, rfl, _, rfl, _, _, rfl, rfl, _, rfl, pl, _, rfl, .inl (.inl (hid_same _ _ hpl4)), fun u1 un1 => ?_⟩
        have us1 := Same.new (o := .lst (cutV (LS.map V.str) none (some (((hPos cs k : Nat) : Int) + 1)))) un1
        have uh1 : (upd H4 u1 (.lst (cutV (LS.map V.str) none (some (((hPos cs k : Nat) : Int) + 1))))) u1 = some (.lst (cutV (LS.map V.str) none (some (((hPos cs k : Nat) : Int) + 1)))) := upd_same
        generalize upd H4 u1 (.lst (cutV (LS.map V.str) none (some (((hPos cs k : Nat) : Int) + 1)))) = uH1 at us1 uh1 ⊢
        have ul1 := cutV_length (LS.map V.str) none (some (((hPos cs k : Nat) : Int) + 1))
        have ul2 := cutV_length (LS.map V.str) (some (((hPos cs k : Nat) : Int) + 1)) none
        rw [List.length_map] at ul1 ul2
        refine ⟨_, rfl, (show 1 ≤ sizeLine by decide), fun u2 un2 => ?_⟩
        have us2 := Same.new (o := .lst [.str W]) un2
        have uh2 : (upd uH1 u2 (.lst [.str W])) u2 = some (.lst [.str W]) := upd_same
        generalize upd uH1 u2 (.lst [.str W]) = uH2 at us2 uh2 ⊢
        refine ⟨u1, u2, _, _, rfl, rfl, us2 _ _ uh1, uh2, szl (show (cutV (LS.map V.str) none (some (((hPos cs k : Nat) : Int) + 1))).length + 1 ≤ 1000 by omega), fun u3 un3 => ?_⟩
        have us3 := Same.new (o := .lst (cutV (LS.map V.str) none (some (((hPos cs k : Nat) : Int) + 1)) ++ [.str W])) un3
        have uh3 : (upd uH2 u3 (.lst (cutV (LS.map V.str) none (some (((hPos cs k : Nat) : Int) + 1)) ++ [.str W]))) u3 = some (.lst (cutV (LS.map V.str) none (some (((hPos cs k : Nat) : Int) + 1)) ++ [.str W])) := upd_same
        generalize upd uH2 u3 (.lst (cutV (LS.map V.str) none (some (((hPos cs k : Nat) : Int) + 1)) ++ [.str W])) = uH3 at us3 uh3 ⊢
        have us13 := (us1.trans us2).trans us3
        refine ⟨_, rfl, _, rfl, _, _, rfl, rfl, _, rfl, pl, _, rfl, .inl (.inl (us13 _ _ (hid_same _ _ hpl4))), fun u4 un4 => ?_⟩
        have us4 := Same.new (o := .lst (cutV (LS.map V.str) (some (((hPos cs k : Nat) : Int) + 1)) none)) un4
        have uh4 : (upd uH3 u4 (.lst (cutV (LS.map V.str) (some (((hPos cs k : Nat) : Int) + 1)) none))) u4 = some (.lst (cutV (LS.map V.str) (some (((hPos cs k : Nat) : Int) + 1)) none)) := upd_same
        generalize upd uH3 u4 (.lst (cutV (LS.map V.str) (some (((hPos cs k : Nat) : Int) + 1)) none)) = uH4 at us4 uh4 ⊢
        refine ⟨u3, u4, _, _, rfl, rfl, us4 _ _ uh3, uh4, szl (show (cutV (LS.map V.str) none (some (((hPos cs k : Nat) : Int) + 1)) ++ [V.str W]).length + (cutV (LS.map V.str) (some (((hPos cs k : Nat) : Int) + 1)) none).length ≤ 1000 by rw [List.length_append]; show _ + 1 + _ ≤ 1000; omega), fun u5 un5 => ?_⟩
        have un5' := ((us13.trans us4)).free un5
        have us5 := ((us13.trans us4)).trans (Same.new (o := .lst (cutV (LS.map V.str) none (some (((hPos cs k : Nat) : Int) + 1)) ++ [.str W] ++ cutV (LS.map V.str) (some (((hPos cs k : Nat) : Int) + 1)) none)) un5)
        have uh5 : (upd uH4 u5 (.lst (cutV (LS.map V.str) none (some (((hPos cs k : Nat) : Int) + 1)) ++ [.str W] ++ cutV (LS.map V.str) (some (((hPos cs k : Nat) : Int) + 1)) none))) u5 = some (.lst (cutV (LS.map V.str) none (some (((hPos cs k : Nat) : Int) + 1)) ++ [.str W] ++ cutV (LS.map V.str) (some (((hPos cs k : Nat) : Int) + 1)) none)) := upd_same
        generalize upd uH4 u5 (.lst (cutV (LS.map V.str) none (some (((hPos cs k : Nat) : Int) + 1)) ++ [.str W] ++ cutV (LS.map V.str) (some (((hPos cs k : Nat) : Int) + 1)) none)) = H6 at us5 uh5 ⊢
        rw [show ((hPos cs k : Nat) : Int) + 1 = ((hPos cs k + 1 : Nat) : Int) from rfl, ins_eq] at uh5
        refine ⟨_, rfl, _, _, rfl, rfl, (show 2 ≤ sizeLine by decide), fun p n => ?_⟩
        have s7 := Same.new (o := .tup [.ref u5, .int (((hPos cs k : Nat) : Int) + 1)]) n
        refine q _ p u5 _ _ (sB.trans (Same.hid (us5.trans s7))) (B4.mono (us5.trans s7)) (.inl (.inl upd_same)) (Same.hid s7 _ _ (hid_new B4 un5' uh5)) (.inr (bads (n := hPos cs k + 1) (by omega) ?_ (by omega) fun st hs => ?_))
        · rw [← eW]
          exact a10 _ okc.te.num.1
        · rw [← eLS] at hs
          rw [← eW]
          exact odd1 G hck hs
      · -- a word ahead of its begin, or of all
        refine ⟨_, rfl, _, _, rfl, rfl, (show 2 ≤ sizeLine by decide), fun p1 n1 => ?_⟩
        have s6 := Same.new (o := .lst [.int 0, .int (((hPos cs k : Nat) : Int) + 1)]) n1
        have h6 : (upd H4 p1 (.lst [.int 0, .int (((hPos cs k : Nat) : Int) + 1)])) p1 = some (.lst [.int 0, .int (((hPos cs k : Nat) : Int) + 1)]) := upd_same
        generalize upd H4 p1 (.lst [.int 0, .int (((hPos cs k : Nat) : Int) + 1)]) = H6 at s6 h6 ⊢
        have hav6 := s6.seq hav
        have hpt6 := Same.tup s6 hpt
        refine ⟨_, rfl, _, rfl, _, _, _, _, rfl, rfl, hav6, atI_nat (j := k) hvc, _, _, _, _, rfl, rfl, hpt6, atI_nat (j := 1) rfl, (show 2 ≤ sizeLine by decide), fun p2 n2 => ?_⟩
        have s7 := Same.new (o := .tup [.int 0, .int 1]) n2
        have e7 : Dp K (upd H6 p2 (.tup [.int 0, .int 1])) (.ref p2) (.tuple [.int 0, .int 1]) := .tup (.inl (.inl upd_same)) (.cons (.int _) (.cons (.int _) .nil))
        generalize upd H6 p2 (.tup [.int 0, .int 1]) = H7 at s7 e7 ⊢
        have s67 := s6.trans s7
        have B7 := B4.mono s67
        have hpl7 := Same.hid s67 _ _ hpl4
        have sC := sB.trans (Same.hid s67)
        refine ⟨_, _, dp_mono s67 _ _ d1, e7, rfl, rfl, ?_⟩
        rw [eqv_pair]
        have h8 := s7 _ _ h6
        by_cases c0 : c.2.1 = 0
        · have ed : (!(decide (c.2.1.num = 0) && decide ((c.2.1.den : Int) = 1))) = false := by
            rw [c0]
            rfl
          rw [ed]
          refine .inr ⟨_, rfl, _, _, _, _, rfl, rfl, .inl (.inl h8), atI_nat (j := 0) rfl, ?_⟩
          rw [lineA0]
          have lw : (lineW ("a", 0)).length ≤ 240 := by decide +kernel
          generalize eW : lineW ("a", 0) = W at lw ⊢
          refine ⟨_, rfl, _, rfl, _, rfl, pl, _, rfl, .inl (.inl (hid_same _ _ hpl7)), fun u1 un1 => ?_⟩
          have us1 := Same.new (o := .lst (cutV (LS.map V.str) none (some ((0 : Nat) : Int)))) un1
          have uh1 : (upd H7 u1 (.lst (cutV (LS.map V.str) none (some ((0 : Nat) : Int))))) u1 = some (.lst (cutV (LS.map V.str) none (some ((0 : Nat) : Int)))) := upd_same
          generalize upd H7 u1 (.lst (cutV (LS.map V.str) none (some ((0 : Nat) : Int)))) = uH1 at us1 uh1 ⊢
          have ul1 := cutV_length (LS.map V.str) none (some ((0 : Nat) : Int))
          have ul2 := cutV_length (LS.map V.str) (some ((0 : Nat) : Int)) none
          rw [List.length_map] at ul1 ul2
          refine ⟨(show 1 ≤ sizeLine by decide), fun u2 un2 => ?_⟩
          have us2 := Same.new (o := .lst [.str W]) un2
          have uh2 : (upd uH1 u2 (.lst [.str W])) u2 = some (.lst [.str W]) := upd_same
          generalize upd uH1 u2 (.lst [.str W]) = uH2 at us2 uh2 ⊢
          refine ⟨u1, u2, _, _, rfl, rfl, us2 _ _ uh1, uh2, szl (show (cutV (LS.map V.str) none (some ((0 : Nat) : Int))).length + 1 ≤ 1000 by omega), fun u3 un3 => ?_⟩
          have us3 := Same.new (o := .lst (cutV (LS.map V.str) none (some ((0 : Nat) : Int)) ++ [.str W])) un3
          have uh3 : (upd uH2 u3 (.lst (cutV (LS.map V.str) none (some ((0 : Nat) : Int)) ++ [.str W]))) u3 = some (.lst (cutV (LS.map V.str) none (some ((0 : Nat) : Int)) ++ [.str W])) := upd_same
          generalize upd uH2 u3 (.lst (cutV (LS.map V.str) none (some ((0 : Nat) : Int)) ++ [.str W])) = uH3 at us3 uh3 ⊢
          have us13 := (us1.trans us2).trans us3
          refine ⟨_, rfl, _, rfl, _, rfl, pl, _, rfl, .inl (.inl (us13 _ _ (hid_same _ _ hpl7))), fun u4 un4 => ?_⟩
          have us4 := Same.new (o := .lst (cutV (LS.map V.str) (some ((0 : Nat) : Int)) none)) un4
          have uh4 : (upd uH3 u4 (.lst (cutV (LS.map V.str) (some ((0 : Nat) : Int)) none))) u4 = some (.lst (cutV (LS.map V.str) (some ((0 : Nat) : Int)) none)) := upd_same
          generalize upd uH3 u4 (.lst (cutV (LS.map V.str) (some ((0 : Nat) : Int)) none)) = uH4 at us4 uh4 ⊢
          refine ⟨u3, u4, _, _, rfl, rfl, us4 _ _ uh3, uh4, szl (show (cutV (LS.map V.str) none (some ((0 : Nat) : Int)) ++ [V.str W]).length + (cutV (LS.map V.str) (some ((0 : Nat) : Int)) none).length ≤ 1000 by rw [List.length_append]; show _ + 1 + _ ≤ 1000; omega), fun u5 un5 => ?_⟩
          have un5' := ((us13.trans us4)).free un5
          have us5 := ((us13.trans us4)).trans (Same.new (o := .lst (cutV (LS.map V.str) none (some ((0 : Nat) : Int)) ++ [.str W] ++ cutV (LS.map V.str) (some ((0 : Nat) : Int)) none)) un5)
          have uh5 : (upd uH4 u5 (.lst (cutV (LS.map V.str) none (some ((0 : Nat) : Int)) ++ [.str W] ++ cutV (LS.map V.str) (some ((0 : Nat) : Int)) none))) u5 = some (.lst (cutV (LS.map V.str) none (some ((0 : Nat) : Int)) ++ [.str W] ++ cutV (LS.map V.str) (some ((0 : Nat) : Int)) none)) := upd_same
          generalize upd uH4 u5 (.lst (cutV (LS.map V.str) none (some ((0 : Nat) : Int)) ++ [.str W] ++ cutV (LS.map V.str) (some ((0 : Nat) : Int)) none)) = H9 at us5 uh5 ⊢
          rw [ins_eq] at uh5
          refine ⟨_, rfl, (show 2 ≤ sizeLine by decide), fun p n => ?_⟩
          have s9 := Same.new (o := .tup [.ref u5, .int ((0 : Nat) : Int)]) n
          refine q _ p u5 _ _ (sC.trans (Same.hid (us5.trans s9))) (B7.mono (us5.trans s9)) (.inl (.inl upd_same)) (Same.hid s9 _ _ (hid_new B7 un5' uh5)) (.inr (bads (n := 0) (by omega) ?_ (by omega) fun st hs => ?_))
          · rw [← eW]
            exact a10 _ (by decide)
          · rw [← eW]
            exact odd3 hs _
        · have ed : (!(decide (c.2.1.num = 0) && decide ((c.2.1.den : Int) = 1))) = true := by
            rw [decide_eq_false (fun z => c0 (Rat.num_eq_zero.mp z))]
            rfl
          rw [ed]
          refine .inr ⟨_, rfl, _, _, _, _, rfl, rfl, .inl (.inl h8), atI_nat (j := 1) rfl, ?_⟩
          rw [lineA0]
          have lw : (lineW ("a", 0)).length ≤ 240 := by decide +kernel
          generalize eW : lineW ("a", 0) = W at lw ⊢
          refine ⟨_, rfl, _, rfl, _, rfl, pl, _, rfl, .inl (.inl (hid_same _ _ hpl7)), fun u1 un1 => ?_⟩
          have us1 := Same.new (o := .lst (cutV (LS.map V.str) none (some (((hPos cs k : Nat) : Int) + 1)))) un1
          have uh1 : (upd H7 u1 (.lst (cutV (LS.map V.str) none (some (((hPos cs k : Nat) : Int) + 1))))) u1 = some (.lst (cutV (LS.map V.str) none (some (((hPos cs k : Nat) : Int) + 1)))) := upd_same
          generalize upd H7 u1 (.lst (cutV (LS.map V.str) none (some (((hPos cs k : Nat) : Int) + 1)))) = uH1 at us1 uh1 ⊢
          have ul1 := cutV_length (LS.map V.str) none (some (((hPos cs k : Nat) : Int) + 1))
          have ul2 := cutV_length (LS.map V.str) (some (((hPos cs k : Nat) : Int) + 1)) none
          rw [List.length_map] at ul1 ul2
          refine ⟨(show 1 ≤ sizeLine by decide), fun u2 un2 => ?_⟩
          have us2 := Same.new (o := .lst [.str W]) un2
          have uh2 : (upd uH1 u2 (.lst [.str W])) u2 = some (.lst [.str W]) := upd_same
          generalize upd uH1 u2 (.lst [.str W]) = uH2 at us2 uh2 ⊢
          refine ⟨u1, u2, _, _, rfl, rfl, us2 _ _ uh1, uh2, szl (show (cutV (LS.map V.str) none (some (((hPos cs k : Nat) : Int) + 1))).length + 1 ≤ 1000 by omega), fun u3 un3 => ?_⟩
          have us3 := Same.new (o := .lst (cutV (LS.map V.str) none (some (((hPos cs k : Nat) : Int) + 1)) ++ [.str W])) un3
          have uh3 : (upd uH2 u3 (.lst (cutV (LS.map V.str) none (some (((hPos cs k : Nat) : Int) + 1)) ++ [.str W]))) u3 = some (.lst (cutV (LS.map V.str) none (some (((hPos cs k : Nat) : Int) + 1)) ++ [.str W])) := upd_same
          generalize upd uH2 u3 (.lst (cutV (LS.map V.str) none (some (((hPos cs k : Nat) : Int) + 1)) ++ [.str W])) = uH3 at us3 uh3 ⊢
          have us13 := (us1.trans us2).trans us3
          refine ⟨_, rfl, _, rfl, _, rfl, pl, _, rfl, .inl (.inl (us13 _ _ (hid_same _ _ hpl7))), fun u4 un4 => ?_⟩
          have us4 := Same.new (o := .lst (cutV (LS.map V.str) (some (((hPos cs k : Nat) : Int) + 1)) none)) un4
          have uh4 : (upd uH3 u4 (.lst (cutV (LS.map V.str) (some (((hPos cs k : Nat) : Int) + 1)) none))) u4 = some (.lst (cutV (LS.map V.str) (some (((hPos cs k : Nat) : Int) + 1)) none)) := upd_same
          generalize upd uH3 u4 (.lst (cutV (LS.map V.str) (some (((hPos cs k : Nat) : Int) + 1)) none)) = uH4 at us4 uh4 ⊢
          refine ⟨u3, u4, _, _, rfl, rfl, us4 _ _ uh3, uh4, szl (show (cutV (LS.map V.str) none (some (((hPos cs k : Nat) : Int) + 1)) ++ [V.str W]).length + (cutV (LS.map V.str) (some (((hPos cs k : Nat) : Int) + 1)) none).length ≤ 1000 by rw [List.length_append]; show _ + 1 + _ ≤ 1000; omega), fun u5 un5 => ?_⟩
          have un5' := ((us13.trans us4)).free un5
          have us5 := ((us13.trans us4)).trans (Same.new (o := .lst (cutV (LS.map V.str) none (some (((hPos cs k : Nat) : Int) + 1)) ++ [.str W] ++ cutV (LS.map V.str) (some (((hPos cs k : Nat) : Int) + 1)) none)) un5)
          have uh5 : (upd uH4 u5 (.lst (cutV (LS.map V.str) none (some (((hPos cs k : Nat) : Int) + 1)) ++ [.str W] ++ cutV (LS.map V.str) (some (((hPos cs k : Nat) : Int) + 1)) none))) u5 = some (.lst (cutV (LS.map V.str) none (some (((hPos cs k : Nat) : Int) + 1)) ++ [.str W] ++ cutV (LS.map V.str) (some (((hPos cs k : Nat) : Int) + 1)) none)) := upd_same
          generalize upd uH4 u5 (.lst (cutV (LS.map V.str) none (some (((hPos cs k : Nat) : Int) + 1)) ++ [.str W] ++ cutV (LS.map V.str) (some (((hPos cs k : Nat) : Int) + 1)) none)) = H9 at us5 uh5 ⊢
          rw [show ((hPos cs k : Nat) : Int) + 1 = ((hPos cs k + 1 : Nat) : Int) from rfl, ins_eq] at uh5
          refine ⟨_, rfl, (show 2 ≤ sizeLine by decide), fun p n => ?_⟩
          have s9 := Same.new (o := .tup [.ref u5, .int (((hPos cs k : Nat) : Int) + 1)]) n
          refine q _ p u5 _ _ (sC.trans (Same.hid (us5.trans s9))) (B7.mono (us5.trans s9)) (.inl (.inl upd_same)) (Same.hid s9 _ _ (hid_new B7 un5' uh5)) (.inr (bads (n := hPos cs k + 1) (by omega) ?_ (by omega) fun st hs => ?_))
          · rw [← eW]
            exact a10 _ (by decide)
          · rw [← eLS] at hs
            rw [← eW]
            exact odd2 G hck c0 hs
def noStep (x : Str) : Bool := if Txt.startswith x "cue " = true then (match rdHead (cutS x (some ((4 : Nat) : Int)) none) with
    | none => true
    | some h => !decide (h.2.1 < h.2.2))
  else if Txt.startswith x "  " = true then (rdWord (cutS x (some ((2 : Nat) : Int)) none)).isNone else true
theorem noStep_ok {x : Str} (h : noStep x = true) (st : List Cue) : stepM st x = none := by
  unfold noStep at h
  by_cases h1 : Txt.startswith x "cue " = true
  · rw [if_pos h1] at h
    refine step_cue_no h1 fun q hq z => ?_
    rw [hq] at h
    dsimp only at h
    rw [decide_eq_true z.2] at h
    cases h
  · rw [if_neg h1] at h
    have h1' : Txt.startswith x "cue " = false := by
      cases e : Txt.startswith x "cue " with
      | false => rfl
      | true => exact absurd e h1
    by_cases h2 : Txt.startswith x "  " = true
    · rw [if_pos h2] at h
      rcases List.eq_nil_or_concat st with z | ⟨init, c, z⟩
      · exact step_no h1' (.inr z)
      · rw [z, List.concat_eq_append]
        refine step_word_no h1' h2 fun y hy => ?_
        rw [hy] at h
        cases h
    · have h2' : Txt.startswith x "  " = false := by
        cases e : Txt.startswith x "  " with
        | false => rfl
        | true => exact absurd e h2
      exact step_no h1' (.inl h2')
theorem none_all : noneL.all (fun x => noStep x && !decide (10 ∈ tl x) && decide (x.length ≤ 1000)) = true := by decide +kernel
theorem none_no {x : Str} (h : x ∈ noneL) : (∀ st, stepM st x = none) ∧ 10 ∉ tl x ∧ x.length ≤ 1000 := by
  have := List.all_eq_true.mp none_all x h
  rw [Bool.and_eq_true, Bool.and_eq_true] at this
  refine ⟨noStep_ok this.1.1, fun z => ?_, of_decide_eq_true this.2⟩
  have t := this.1.2
  rw [decide_eq_true z] at t
  cases t
theorem joinL_le : ∀ {ps : List (List Nat)}, (TL.joinL [10] ps).length ≤ (ps.map (·.length)).sum + ps.length
  | [] => Nat.le_refl _
  | [p] => by
    show p.length ≤ (p.length + 0) + 1
    omega
  | p :: r :: t => by
    have := joinL_le (ps := r :: t)
    show (p ++ ([10] ++ TL.joinL [10] (r :: t))).length ≤ (p.length + ((r :: t).map (·.length)).sum) + ((r :: t).length + 1)
    rw [List.length_append, List.length_append]
    show p.length + (1 + _) ≤ _
    omega
theorem cues_in {K : PySem.W.Frag} {b l p : Addr} {H : Hp} {ys : List V} {cs : List Cue} (hp : hid b l H p = some (.lst ys)) (da : DpAll K (R.hidL [b, l, p] H) ys (cs.map dC)) : Dp K (hid b l H) (.ref p) (dCs cs) := by
  refine .lst (.inl (.inl hp)) (dpa_mono (fun a o h => ?_) _ _ da)
  obtain ⟨h1, h2⟩ := hidL_ne h
  unfold hid
  rw [if_neg]
  · exact h2
  · rintro (z | z)
    · exact h1 (by rw [z]; simp)
    · exact h1 (by rw [z]; simp)
theorem ts_hid {P0 P1 b l : Addr} {H H' : Hp} (t : Ts P0 P1 H) (B : Bx H b l) (s : Same (hid b l H) (hid b l H')) : Ts P0 P1 H' := by
  obtain ⟨xb, hb⟩ := B.lb
  obtain ⟨xl, hl⟩ := B.ll
  obtain ⟨n0, n1⟩ := t.lst0 hb
  obtain ⟨m0, m1⟩ := t.lst0 hl
  have key : ∀ a o, a ≠ b → a ≠ l → H a = some o → H' a = some o := fun a o x y h => by
    refine hid_same _ _ (s a o ?_)
    unfold hid
    rw [if_neg (by rintro (z | z) <;> contradiction)]
    exact h
  refine ⟨t.n, ?_, ?_⟩
  · obtain ⟨ps, h, q⟩ := t.t0
    exact ⟨ps, key _ _ n0 m0 h, q⟩
  · obtain ⟨ps, h, q⟩ := t.t1
    exact ⟨ps, key _ _ n1 m1 h, q⟩
theorem cats_dp {H0 H : Hp} : ∀ {ys : List V} {cs : List Cue}, A2 (CAt K H0 H) ys cs → DpAll K H ys (cs.map dC)
  | _, _, .nil => .nil
  | _, _, .cons a b => .cons a.dp (cats_dp b)
theorem line_no10 {cs : List Cue} (h : CuesOk cs) : ∀ l ∈ linesM cs, 10 ∉ tl l := by
  intro l hl
  obtain ⟨c, hc, hl⟩ := List.mem_flatMap.mp hl
  obtain ⟨o1, o2, o3⟩ := h.each c hc
  rcases List.mem_cons.mp hl with z | z
  · rw [z]
    exact lnC_line (by omega) o1.tb.num.1 o1.te.num.1
  · obtain ⟨x, hx, rfl⟩ := List.mem_map.mp z
    obtain ⟨w1, w2, _⟩ := o1.ws x hx
    exact lnW_line (fun y => by have := w1.abc 10 y; omega) w2.num.1
/-! ### the law -/
structure LsN (ls : List Str) : Prop where
  len : ls.length ≤ 200
  each : ∀ x ∈ ls, 10 ∉ tl x ∧ x.length ≤ 1000
theorem LsN.sum {ls : List Str} (h : LsN ls) : (ls.map (·.length)).sum ≤ 1000 * ls.length := by
  have key : ∀ ys : List Str, (∀ x ∈ ys, x.length ≤ 1000) → (ys.map (·.length)).sum ≤ 1000 * ys.length := by
    intro ys
    induction ys with
    | nil => exact fun _ => Nat.le_refl _
    | cons s r ih =>
      intro h
      have h1 := h s List.mem_cons_self
      have h2 := ih fun d hd => h d (List.mem_cons_of_mem _ hd)
      show s.length + (r.map (·.length)).sum ≤ 1000 * (r.length + 1)
      omega
  exact key ls fun x hx => (h.each x hx).2
theorem LsN.text {ls : List Str} (h : LsN ls) : (Txt.join "\n" ls).length ≤ 201000 := by
  rw [TL.join_eq, len_tl', TL.tl_join]
  have e : tl ("\n" : Str) = [10] := rfl
  rw [e]
  have l0 := joinL_le (ps := ls.map tl)
  rw [List.map_map, List.length_map] at l0
  have e2 : ls.map ((fun x => x.length) ∘ tl) = ls.map (·.length) := List.map_congr_left fun x _ => (len_tl' x).symm
  rw [e2] at l0
  have := h.sum
  have := h.len
  omega
theorem CuesOk.lsN {cs : List Cue} (h : CuesOk cs) : LsN (linesM cs) ∧ (linesM cs).length ≤ 96 := by
  have a := linesM_len h.each
  have b := h.len
  refine ⟨⟨by omega, fun x hx => ⟨line_no10 h x hx, ?_⟩⟩, by omega⟩
  have := linesM_each h.each x hx
  omega
theorem Bad.lsN {LS ls : List Str} {i : Int} (B : Bad LS ls i) (h : LsN LS) (h9 : LS.length ≤ 96) : LsN ls ∧ ls ≠ [] := by
  obtain ⟨k, bad, _, hk, rfl, b1, b2, _⟩ := B.ex
  refine ⟨⟨?_, fun x hx => ?_⟩, by simp⟩
  · rw [List.length_append, List.length_append, List.length_take, List.length_drop]
    show _ + 1 + _ ≤ 200
    omega
  · rcases List.mem_append.mp hx with hx | hx
    · rcases List.mem_append.mp hx with hx | hx
      · exact h.each x (List.mem_of_mem_take hx)
      · rw [List.mem_singleton.mp hx]
        exact ⟨b1, b2⟩
    · exact h.each x (List.mem_of_mem_drop hx)
theorem run_pre {cs c : List Cue} {a b : List Str} (h : runM cs (a ++ b) = some c) : ∃ d, runM cs a = some d := by
  rw [runM_app] at h
  cases e : runM cs a with
  | none =>
    rw [e] at h
    cases h
  | some d => exact ⟨d, rfl⟩
/-- the line that is none is the one at fault -/
theorem bad_at {cs : List Cue} (G : CsG cs) {ls : List Str} {at' : Int} (B : Bad (linesM cs) ls at') {i : Nat} {l : Str} {st : List Cue} (h1 : runM [] (ls.take i) = some st) (h2 : ls[i]? = some l) (h3 : stepM st l = none) : at' = (i : Int) := by
  obtain ⟨k, bad, rfl, hk, rfl, _, _, hb⟩ := B.ex
  have hT : ((linesM cs).take k).length = k := by
    rw [List.length_take]
    omega
  obtain ⟨st0, h0⟩ : ∃ d, runM [] ((linesM cs).take k) = some d := run_pre (b := (linesM cs).drop k) (by rw [List.take_append_drop]; exact run_all G)
  have hb0 := hb st0 h0
  generalize (linesM cs).take k = T at hT h0 hb0 h1 h2
  generalize (linesM cs).drop k = Dr at h1 h2
  rw [List.append_assoc] at h1 h2
  rcases Nat.lt_trichotomy i k with c | c | c
  · exfalso
    have hi : i < T.length := by omega
    rw [List.take_append_of_le_length (by omega)] at h1
    rw [List.getElem?_append_left hi] at h2
    have e : T.take (i + 1) = T.take i ++ [l] := take_more h2
    obtain ⟨d, hd⟩ := run_pre (a := T.take (i + 1)) (b := T.drop (i + 1)) (by rw [List.take_append_drop]; exact h0)
    rw [e, runM_app, h1, Option.bind_some, runM_one, h3] at hd
    cases hd
  · rw [c]
  · exfalso
    obtain ⟨m, rfl⟩ : ∃ m, i = T.length + (m + 1) := ⟨i - T.length - 1, by omega⟩
    rw [List.take_length_add_append, List.singleton_append, List.take_succ_cons, runM_app, h0, Option.bind_some, runM_cons, hb0] at h1
    cases h1
theorem bad_none {cs : List Cue} (G : CsG cs) {ls : List Str} {at' : Int} (B : Bad (linesM cs) ls at') {st : List Cue} : runM [] ls ≠ some st := by
  intro h
  obtain ⟨k, bad, rfl, hk, rfl, _, _, hb⟩ := B.ex
  obtain ⟨st0, h0⟩ : ∃ d, runM [] ((linesM cs).take k) = some d := run_pre (b := (linesM cs).drop k) (by rw [List.take_append_drop]; exact run_all G)
  rw [List.append_assoc, runM_app, h0, Option.bind_some, List.singleton_append, runM_cons, hb st0 h0] at h
  cases h
theorem join_none {ls : List Str} (h : Txt.join "\n" ls = Str.empty) (hne : ls ≠ []) : ls = [Str.empty] := by
  rw [TL.join_eq] at h
  have e := congrArg tl h
  rw [TL.tl_join] at e
  cases ls with
  | nil => exact absurd rfl hne
  | cons x r =>
    cases r with
    | nil =>
      have e : tl x = [] := e
      rw [str_ext (a := x) (b := Str.empty) e]
    | cons y r =>
      have e : tl x ++ (tl ("\n" : Str) ++ TL.joinL (tl ("\n" : Str)) (tl y :: r.map tl)) = [] := e
      have e2 := congrArg List.length e
      rw [List.length_append, List.length_append] at e2
      have e3 : (tl ("\n" : Str)).length = 1 := rfl
      rw [e3] at e2
      have e4 : ([] : List Nat).length = 0 := rfl
      omega
theorem sp_empty : Txt.split Str.empty "\n" = [Str.empty] := by decide +kernel
theorem jn_nil : Txt.join "\n" ([] : List Str) = Str.empty := rfl
def spLaw (K : PySem.W.Frag) (P0 P1 : Addr) : Sp := fun vs H Q _ => ∃ (a : Addr) (ns : List Int), vs = [.ref a] ∧ SqL K H a (ns.map V.int) ∧ ns.length ≤ 63 ∧ Ts P0 P1 H ∧ ∀ H', Q (.bl true) H'
/-- what is asked of the classes of errors -/
structure NtF (K : PySem.W.Frag) (C CR CN : Addr) : Prop where
  xN : PySem.W.exmOne K (.ref CN) (.ref C) = some false
  xR : PySem.W.exmOne K (.ref CN) (.ref CR) = some true
  xC : ExcC K CN
  xF : XfC K CN
  no : PySem.W.findIn K (.ref CN) "line" = some none
  kT : PySem.W.kitOne K (.ref CN) (.ref C) = some false
  kV : PySem.W.kitOne K (.ref CN) (.type "ValueError") = some true
/-- behind the choice of the lines -/
def Chosen (P0 P1 a b p1 : Addr) (LS : List Str) (σ : L2.St) (H : Hp) : Prop := ∃ (pl : Addr) (ls : List Str) (at' wy : Int) (nh : Bool) (c7 : Option V), σ = [some (.ref a), some (.ref b), some (.ref p1), some (.ref pl), some (.int at'), some (.int wy), some (.bl nh), c7, none, none, none] ∧ Ts P0 P1 H ∧ H pl = some (.lst (ls.map V.str)) ∧ LsN ls ∧ (nh = true → Bad LS ls at')
theorem in12 (wy : Int) : inV (.int wy) [.int 1, .int 2] = (decide (wy = 1) || decide (wy = 2)) := by
  show ((eqV (.int 1) (.int wy)) || ((eqV (.int 2) (.int wy)) || false)) = _
  rw [Bool.or_false]
  congr 1
  · exact decide_eq_decide.mpr ⟨fun h => h.symm, fun h => h.symm⟩
  · exact decide_eq_decide.mpr ⟨fun h => h.symm, fun h => h.symm⟩
theorem ok_law {f : Addr} {fd : FuncData} (F : Fun K "law" "law" s_law f fd) (T : Txt K mg) {c P0 C CR CN c1 P1 : Addr} (D : Dfc K mg "read_number" s_read_number ["word"] c) (TB0 : GxR.TabB base mg c P0) (e_BadTime : ExcT K mg "BadTime" C) (e_ReelError : ExcT K mg "ReelError" CR) (D1 : Dfc K mg "is_word" s_is_word ["text"] c1) (TB1 : GxR.TabB base mg c1 P1) (N : NtX P w K mg base "BadNote" CN) (X : NtF K C CR CN) : FnOk P w K mg base CX0 9 f fd ["_law_script"] (spLaw K P0 P1) := by
  have c_Lbegun := cl_Lbegun (P := P) (w := w) (base := base) T
  have c_Ltake := cl_Ltake (P := P) (w := w) (base := base) T
  have c_Lcues := cl_Lcues (P := P) (w := w) (base := base) T
  have c_Llines := cl_Llines (P := P) (w := w) (base := base) T
  have c_Lnone := cl_Lnone (P := P) (w := w) (base := base) T
  have c_Lodd := cl_Lodd (P := P) (w := w) (base := base) T
  have c_Lspoilt := cl_Lspoilt (P := P) (w := w) (base := base) T
  have c_Lgood := cl_Lgood (P := P) (w := w) (base := base) T
  have c_read_cues := cl_read_cues (P := P) (w := w) (base := base) T D TB0 e_BadTime D1 TB1 N X.xN
  have xC := X.xC
  have xF := X.xF
  have n_line := X.no
  have g_BadNote := N.g
  have g_BadTime := e_BadTime.g
  refine F.ok sc_law (fun vs H Q E h => ?_) (fun cdv A outer s H vs Q E hr h => ?_)
  · obtain ⟨a, ns, rfl, _⟩ := h
    rfl
  · obtain ⟨a, ns, rfl, hS, hlen, ts, q⟩ := h
    refine ⟨_, (pss_cons (ps_set (i := 1) sc_law.nd rfl (.inl rfl) (pe_cl c_Lbegun hr (by decide) (by rfl) (pa_cons (pv 0) pa_nil)))
      (pss_cons (ps_set (i := 2) sc_law.nd rfl (.inl rfl) (pe_cl c_Lcues hr (by decide) (by rfl) (pa_cons (pv 1) pa_nil)))
      (pss_cons (ps_set (i := 3) sc_law.nd rfl (.inl rfl) (pe_cl c_Llines hr (by decide) (by rfl) (pa_cons (pv 2) pa_nil)))
      (pss_cons (ps_set (i := 4) sc_law.nd rfl (.inl rfl) (pe_cl c_Ltake hr (by decide) (by rfl) (pa_cons (pv 1) (pa_cons (pe_op op_add (pe_callB call_len_seq (by rfl) T.m_len (by decide +kernel) (pa_cons (pv 3) pa_nil)) pe_int) pa_nil))))
      (pss_cons (ps_set (i := 5) sc_law.nd rfl (.inl rfl) (pe_cl c_Ltake hr (by decide) (by rfl) (pa_cons (pv 1) (pa_cons pe_int pa_nil))))
      (pss_cons (ps_set (i := 6) sc_law.nd rfl (.inl rfl) (pe_cmpR op_in_seq (pv 5) (pe_tup (pa_cons pe_int (pa_cons pe_int pa_nil))) rfl))
      (Evl.pss_cut (ps_if (pt_val (pv 6))
        (pss_one (ps_set (i := 3) sc_law.nd rfl (.inl rfl) (pe_op op_cat (pe_op op_cat (pe_slice sl_list (pv 3) po_none (po_some (pv 4))) (pe_lst (pa_cons (pe_cl c_Lnone hr (by decide) (by rfl) (pa_cons (pv 1) pa_nil)) pa_nil))) (pe_slice sl_list (pv 3) (po_some (pv 4)) po_none))))
        (pss_one (ps_if (pt_cmpR op_gt (pv 5) pe_int (nomark _))
        (pss_cons (ps_asg (pe_cl c_Lodd hr (by decide) (by rfl) (pa_cons (pv 1) (pa_cons (pv 2) (pa_cons (pv 3) pa_nil)))) (pg_tup rfl (pgs_cons (pg_name (i := 3) sc_law.nd rfl (.inl rfl)) (pgs_cons (pg_name (i := 4) sc_law.nd rfl (.inl rfl)) pgs_nil))))
      (pss_one (ps_set (i := 6) sc_law.nd rfl (.inl rfl) (pe_cmpR op_ge (pv 4) pe_int (nomark _)))))
        (pss_one (ps_if (PW.pt (pw_and (pt_cmpR op_gt (pv 5) pe_int (nomark _)) (pw_and1 (pt_cmpR op_lt (pv 4) (pe_callB call_len_seq (by rfl) T.m_len (by decide +kernel) (pa_cons (pv 3) pa_nil)) (nomark _)))))
        (pss_cons (ps_set (i := 7) sc_law.nd rfl (.inl rfl) (pe_ix ix_list (pv 3) (pe_cl c_Ltake hr (by decide) (by rfl) (pa_cons (pv 1) (pa_cons (pe_callB call_len_seq (by rfl) T.m_len (by decide +kernel) (pa_cons (pv 3) pa_nil)) pa_nil))) (fun _ _ => rfl)))
      (Evl.pss_cut (ps_if (pt_cmpR op_lt (pv 5) pe_int (nomark _))
        (pss_one (ps_set (i := 7) sc_law.nd rfl (.inl rfl) (pe_cl c_Lspoilt hr (by decide) (by rfl) (pa_cons (pv 1) (pa_cons (pe_ix ix_list (pv 3) (pv 4) (fun _ _ => rfl)) pa_nil)))))
        pss_nil)
      (pss_one (ps_set (i := 3) sc_law.nd rfl (.inl rfl) (pe_op op_cat (pe_op op_cat (pe_slice sl_list (pv 3) po_none (po_some (pv 4))) (pe_lst (pa_cons (pv 7) pa_nil))) (pe_slice sl_list (pv 3) (po_some (pe_op op_add (pv 4) (pe_cl c_Ltake hr (by decide) (by rfl) (pa_cons (pv 1) (pa_cons pe_int pa_nil))))) po_none))))))
        pss_nil)))))
      (pss_cons (ps_set (i := 8) sc_law.nd rfl (.inl rfl) (pe_join pe_str (pv 3)))
      (Evl.pss_cut (ps_try_as (i := 10) rfl rfl sc_law.nd rfl rfl ⟨rfl, by decide, .inl e_ReelError.g⟩ takes0 (fun W pn xe tk ps => (pss_one (ps_set (i := 9) sc_law.nd rfl (.inl rfl) (pe_clS c_read_cues hr (by decide) (by rfl) tk (pa_cons (pv 8) pa_nil)))))
        (fun ax oe cls dx pn hz hf => (pss_cons (ps_if (PW.pt (pw_or (pt_not (pt_val (pe_callB (call_isY xC hz hf) (by rfl) T.m_isinstance (by decide +kernel) (pa_cons (pv 10) (pa_cons (pe_gC (by rfl) g_BadNote) pa_nil))))) (pw_or1 (pt_val (pe_callB (call_isY xC hz hf) (by rfl) T.m_isinstance (by decide +kernel) (pa_cons (pv 10) (pa_cons (pe_gC (by rfl) g_BadTime) pa_nil)))))))
        (pss_one (ps_ret pe_bl))
        pss_nil)
      (pss_cons (ps_if (pt_not (pt_val (pe_callB (call_isY xC hz hf) (by rfl) T.m_isinstance (by decide +kernel) (pa_cons (pv 10) (pa_cons (pe_bltn (v := .ty "ValueError") (by rfl) T.m_ValueError (by decide +kernel) rfl) pa_nil)))))
        (pss_one (ps_ret pe_bl))
        pss_nil)
      (pss_cons (ps_if (PW.pt (pw_or (pt_not (pt_val (pe_callB (call_isiK (K := K) rfl) (by rfl) T.m_isinstance (by decide +kernel) (pa_cons (pe_xf xF n_line hz hf (pv 10)) (pa_cons (pe_bltn (v := .ty "int") (by rfl) T.m_int (by decide +kernel) rfl) pa_nil))))) (pw_or1 (pt_val (pe_callB (call_isiK (K := K) rfl) (by rfl) T.m_isinstance (by decide +kernel) (pa_cons (pe_xf xF n_line hz hf (pv 10)) (pa_cons (pe_bltn (v := .ty "bool") (by rfl) T.m_bool (by decide +kernel) rfl) pa_nil)))))))
        (pss_one (ps_ret pe_bl))
        pss_nil)
      (pss_cons (ps_if (pt_not (pt_chain op_le op_lt pe_int (pe_xf xF n_line hz hf (pv 10)) (pe_callB (call_len_seqK (K := K) rfl) (by rfl) T.m_len (by decide +kernel) (pa_cons (pv 3) pa_nil))))
        (pss_one (ps_ret pe_bl))
        pss_nil)
      (pss_one (ps_ret (pe_or (pe_not (pv 6)) (pe_one (pe_cmpR op_eq (pe_xf xF n_line hz hf (pv 10)) (pv 4) (nomark _))))))))))))
      (pss_cons (ps_if (PW.pt (pw_or (pt_not (pt_val (pe_callB call_isi (by rfl) T.m_isinstance (by decide +kernel) (pa_cons (pv 9) (pa_cons (pe_bltn (v := .ty "list") (by rfl) T.m_list (by decide +kernel) rfl) pa_nil))))) (pw_or1 (PW.pt (pw_and (pt_val (pv 6)) (pw_and1 (pt_cmpR (op_neD hr.units) (pv 3) (pe_lst (pa_cons pe_str pa_nil)) (nomark _))))))))
        (pss_one (ps_ret pe_bl))
        pss_nil)
      (pss_one (ps_ret (pe_and (pe_cl c_Lgood hr (by decide) (by rfl) (pa_cons (pv 9) pa_nil)) (pe_one (pe_cmpR op_eq (pe_join pe_str (pe_cl c_Llines hr (by decide) (by rfl) (pa_cons (pv 9) pa_nil))) (pv 8) (nomark _)))))))))))))))), ?_⟩
    refine ⟨_, rfl, a, ns, rfl, hS, fun H1 b l s1 nb nl B1 => ?_⟩
    have t1 : Ts P0 P1 H1 := (Tb2.same ts s1).1
    refine ⟨_, rfl, b, l, rfl, B1, fun H2 p1 y1 cs s2 B2 np1 hp1 da1 ok => ?_⟩
    have t2 := ts_hid t1 B1 s2
    have d2 := cues_in hp1 da1
    have G := ok.g
    obtain ⟨okL, l96⟩ := ok.lsN
    refine ⟨_, rfl, _, cs, rfl, dp_mono hid_same _ _ d2, ok.ls, fun H3 pl s3 npl hpl => ?_⟩
    have B3 := B2.mono s3
    have t3 := (Tb2.same t2 s3).1
    have d3 := dp_mono (Same.hid (b := b) (l := l) s3) _ _ d2
    have hpl3 := hid_new B2 npl hpl
    obtain ⟨LS, eLS⟩ : ∃ LS, linesM cs = LS := ⟨_, rfl⟩
    rw [eLS] at hpl3 okL l96
    have lm : (LS.map V.str).length = LS.length := List.length_map ..
    refine ⟨_, rfl, _, rfl, _, _, rfl, .inl (.inl (.inl (hid_same _ _ hpl3))), _, _, rfl, rfl, b, l, _, rfl, B3, by omega, by omega, fun H4 at0 s4 B4 a0 a1 => ?_⟩
    rw [lm] at a1
    have t4 := ts_hid t3 B3 s4
    have d4 := dp_mono s4 _ _ d3
    have hpl4 := s4 _ _ hpl3
    refine ⟨_, rfl, b, l, _, rfl, B4, by decide, by decide, fun H5 wy s5 B5 w0 w1 => ?_⟩
    have t5 := ts_hid t4 B4 s5
    have d5 := dp_mono s5 _ _ d4
    have hpl5 := s5 _ _ hpl4
    obtain ⟨an, rfl⟩ : ∃ an : Nat, at0 = (an : Int) := ⟨at0.toNat, by omega⟩
    have han : an ≤ LS.length := by omega
    refine ⟨_, rfl, (show 2 ≤ sizeLine by decide), fun p6 n6 => ?_⟩
    have s6 := Same.new (o := .tup [.int 1, .int 2]) n6
    have h6 : SqT K (upd H5 p6 (.tup [.int 1, .int 2])) p6 [.int 1, .int 2] := .inl (.inl upd_same)
    have B6 := B5.mono s6
    have t6 := (Tb2.same t5 s6).1
    have d6 := dp_mono (Same.hid (b := b) (l := l) s6) _ _ d5
    have hpl6 := Same.hid s6 _ _ hpl5
    generalize upd H5 p6 (.tup [.int 1, .int 2]) = H6 at s6 h6 B6 t6 d6 hpl6 ⊢
    refine ⟨p6, _, rfl, .inr h6, rfl, rfl, ?_⟩
    refine ⟨Chosen P0 P1 a b p1 LS, ?_, fun σ H7 mid => ?_⟩
    · -- the lines that are chosen
      have ev : (if false = true then !inV (.int wy) [.int 1, .int 2] else inV (.int wy) [.int 1, .int 2]) = (decide (wy = 1) || decide (wy = 2)) := in12 wy
      have c1 : (cutV (LS.map V.str) none (some (an : Int))).length ≤ 96 := by
        have := cutV_length (LS.map V.str) none (some (an : Int))
        omega
      by_cases hn : (decide (wy = 1) || decide (wy = 2)) = true
      · refine ⟨_, rfl, _, rfl, iteY (ev.trans hn) ?_⟩
        refine ⟨_, rfl, _, rfl, _, rfl, pl, _, rfl, .inl (.inl (hid_same _ _ hpl6)), fun u1 un1 => ?_⟩
        have us1 := Same.new (o := .lst (cutV (LS.map V.str) none (some (an : Int)))) un1
        have uh1 := hid_at (o := .lst (cutV (LS.map V.str) none (some (an : Int)))) B6 un1
        generalize upd H6 u1 (.lst (cutV (LS.map V.str) none (some (an : Int)))) = HA at us1 uh1 ⊢
        have BA := B6.mono us1
        refine ⟨_, rfl, b, l, rfl, BA, fun HB x sB BB hx => ?_⟩
        obtain ⟨x1, x2, x3⟩ := none_no hx
        have tB := ts_hid (Tb2.same t6 us1).1 BA sB
        have uB1 := sB _ _ uh1
        have plB := sB _ _ (Same.hid us1 _ _ hpl6)
        refine ⟨(show 1 ≤ sizeLine by decide), fun u2 un2 => ?_⟩
        have us2 := Same.new (o := .lst [.str x]) un2
        have uh2 : (upd HB u2 (.lst [.str x])) u2 = some (.lst [.str x]) := upd_same
        generalize upd HB u2 (.lst [.str x]) = HC at us2 uh2 ⊢
        refine ⟨u1, u2, _, _, rfl, rfl, us2 _ _ (hid_same _ _ uB1), uh2, szl (show (cutV (LS.map V.str) none (some (an : Int))).length + 1 ≤ 1000 by omega), fun u3 un3 => ?_⟩
        have us3 := Same.new (o := .lst (cutV (LS.map V.str) none (some (an : Int)) ++ [.str x])) un3
        have uh3 : (upd HC u3 (.lst (cutV (LS.map V.str) none (some (an : Int)) ++ [.str x]))) u3 = some (.lst (cutV (LS.map V.str) none (some (an : Int)) ++ [.str x])) := upd_same
        generalize upd HC u3 (.lst (cutV (LS.map V.str) none (some (an : Int)) ++ [.str x])) = HD at us3 uh3 ⊢
        have us23 := us2.trans us3
        refine ⟨_, rfl, _, rfl, _, rfl, pl, _, rfl, .inl (.inl (us23 _ _ (hid_same _ _ plB))), fun u4 un4 => ?_⟩
        have us4 := Same.new (o := .lst (cutV (LS.map V.str) (some (an : Int)) none)) un4
        have uh4 : (upd HD u4 (.lst (cutV (LS.map V.str) (some (an : Int)) none))) u4 = some (.lst (cutV (LS.map V.str) (some (an : Int)) none)) := upd_same
        generalize upd HD u4 (.lst (cutV (LS.map V.str) (some (an : Int)) none)) = HE at us4 uh4 ⊢
        have l2 := cutV_length (LS.map V.str) (some (an : Int)) none
        refine ⟨u3, u4, _, _, rfl, rfl, us4 _ _ uh3, uh4, szl (show (cutV (LS.map V.str) none (some (an : Int)) ++ [V.str x]).length + (cutV (LS.map V.str) (some (an : Int)) none).length ≤ 1000 by rw [List.length_append]; show _ + 1 + _ ≤ 1000; omega), fun u5 un5 => ?_⟩
        have us5 := (us23.trans us4).trans (Same.new (o := .lst (cutV (LS.map V.str) none (some (an : Int)) ++ [.str x] ++ cutV (LS.map V.str) (some (an : Int)) none)) un5)
        have uh5 : (upd HE u5 (.lst (cutV (LS.map V.str) none (some (an : Int)) ++ [.str x] ++ cutV (LS.map V.str) (some (an : Int)) none))) u5 = some (.lst (cutV (LS.map V.str) none (some (an : Int)) ++ [.str x] ++ cutV (LS.map V.str) (some (an : Int)) none)) := upd_same
        generalize upd HE u5 (.lst (cutV (LS.map V.str) none (some (an : Int)) ++ [.str x] ++ cutV (LS.map V.str) (some (an : Int)) none)) = HF at us5 uh5 ⊢
        rw [ins_eq] at uh5
        have bad : Bad LS (LS.take an ++ [x] ++ LS.drop an) (an : Int) := ⟨_, _, rfl, han, rfl, x2, x3, fun st _ => x1 st⟩
        exact ⟨u5, _, _, _, _, _, rfl, (Tb2.same tB us5).1, uh5, (bad.lsN okL l96).1, fun _ => bad⟩
      · have hn' : (decide (wy = 1) || decide (wy = 2)) = false := by
          cases e : (decide (wy = 1) || decide (wy = 2)) with
          | false => rfl
          | true => exact absurd e hn
        have ev' := ev.trans hn'
        refine ⟨_, rfl, _, rfl, iteN ev' ?_⟩
        refine ⟨_, rfl, _, _, rfl, rfl, _, rfl, ite2 (fun z => ?_) (fun z => ?_)⟩
        · refine ⟨_, rfl, _, rfl, _, rfl, b, l, pl, _, cs, LS, rfl, B6, d6, eLS, hpl6, ok, fun H7 p pl' ls' at' s7 B7 hp hpl' hb => ?_⟩
          refine ⟨p, _, rfl, hp, rfl, _, _, rfl, _, _, rfl, rfl, ?_⟩
          refine ⟨_, rfl, _, _, rfl, rfl, ?_⟩
          refine ⟨pl', ls', at', wy, _, none, rfl, ts_hid t6 B6 s7, hid_same _ _ hpl', ?_, fun h => ?_⟩
          · rcases hb with ⟨rfl, _⟩ | hb
            · exact okL
            · exact (hb.lsN okL l96).1
          · rcases hb with ⟨_, rfl⟩ | hb
            · exact absurd h (by decide)
            · exact hb
        · have done : ∀ v : Option V, Chosen P0 P1 a b p1 LS [some (.ref a), some (.ref b), some (.ref p1), some (.ref pl), some (.int (an : Int)), some (.int wy), some (.bl (if false = true then !inV (.int wy) [.int 1, .int 2] else inV (.int wy) [.int 1, .int 2])), v, none, none, none] H6 := fun v => ⟨pl, LS, _, _, _, _, rfl, t6, hid_same _ _ hpl6, okL, fun h => by rw [ev'] at h; cases h⟩
          refine ⟨_, rfl, _, _, rfl, rfl, _, rfl, ite2 (fun z2 => ?_) (fun z2 => ?_)⟩
          · refine ⟨_, rfl, _, rfl, _, _, rfl, .inl (.inl (.inl (hid_same _ _ hpl6))), _, _, rfl, rfl, _, rfl, ite2 (fun z3 => ?_) (fun z3 => ?_)⟩
            · have z3 : ((an : Nat) : Int) < (((LS.map V.str).length : Nat) : Int) := of_decide_eq_true z3
              have han2 : an < LS.length := by omega
              refine ⟨_, rfl, _, rfl, _, rfl, _, _, rfl, .inl (.inl (.inl (hid_same _ _ hpl6))), b, l, _, rfl, B6, by omega, by omega, fun H7 r s7 B7 r0 r1 => ?_⟩
              rw [lm] at r1
              obtain ⟨rn, rfl⟩ : ∃ rn : Nat, r = (rn : Int) := ⟨r.toNat, by omega⟩
              have t7 := ts_hid t6 B6 s7
              have hpl7 := s7 _ _ hpl6
              obtain ⟨x, hx⟩ : ∃ x, LS[rn]? = some x := ⟨_, List.getElem?_eq_getElem (by omega)⟩
              obtain ⟨y, hy⟩ : ∃ y, LS[an]? = some y := ⟨_, List.getElem?_eq_getElem han2⟩
              have hxm : (LS.map V.str)[rn]? = some (.str x) := by
                rw [List.getElem?_map, hx]
                rfl
              have hym : (LS.map V.str)[an]? = some (.str y) := by
                rw [List.getElem?_map, hy]
                rfl
              have ly : y.length ≤ 240 := linesM_each ok.each y (by rw [eLS]; exact List.mem_of_getElem? hy)
              refine ⟨_, _, _, _, rfl, rfl, .inl (.inl (hid_same _ _ hpl7)), atI_nat (j := rn) hxm, ?_⟩
              refine ⟨fun σ H8 => ∃ x : Str, σ = [some (.ref a), some (.ref b), some (.ref p1), some (.ref pl), some (.int (an : Int)), some (.int wy), some (.bl (if false = true then !inV (.int wy) [.int 1, .int 2] else inV (.int wy) [.int 1, .int 2])), some (.str x), none, none, none] ∧ Ts P0 P1 H8 ∧ hid b l H8 pl = some (.lst (LS.map V.str)) ∧ Bx H8 b l ∧ 10 ∉ tl x ∧ x.length ≤ 1000, ?_, fun σ H8 mid => ?_⟩
              · refine ⟨_, rfl, _, _, rfl, rfl, _, rfl, ite2 (fun z4 => ?_) (fun z4 => ?_)⟩
                · refine ⟨_, rfl, _, rfl, _, rfl, _, _, _, _, rfl, rfl, .inl (.inl (hid_same _ _ hpl7)), atI_nat (j := an) hym, b, l, y, rfl, B7, by omega, (okL.each y (List.mem_of_getElem? hy)).1, fun H8 y' s8 B8 ly' y10 => ?_⟩
                  exact ⟨y', rfl, ts_hid t7 B7 s8, s8 _ _ hpl7, B8, y10, by omega⟩
                · obtain ⟨o1, o2⟩ := okL.each x (List.mem_of_getElem? hx)
                  exact ⟨x, rfl, t7, hpl7, B7, o1, o2⟩
              · clear hx hxm hy hym ly
                obtain ⟨x, rfl, t8, hpl8, B8, x10, lx⟩ := mid
                refine ⟨_, rfl, _, rfl, _, rfl, pl, _, rfl, .inl (.inl (hid_same _ _ hpl8)), fun u1 un1 => ?_⟩
                have us1 := Same.new (o := .lst (cutV (LS.map V.str) none (some (an : Int)))) un1
                have uh1 : (upd H8 u1 (.lst (cutV (LS.map V.str) none (some (an : Int))))) u1 = some (.lst (cutV (LS.map V.str) none (some (an : Int)))) := upd_same
                generalize upd H8 u1 (.lst (cutV (LS.map V.str) none (some (an : Int)))) = HA at us1 uh1 ⊢
                refine ⟨_, rfl, (show 1 ≤ sizeLine by decide), fun u2 un2 => ?_⟩
                have us2 := Same.new (o := .lst [.str x]) un2
                have uh2 : (upd HA u2 (.lst [.str x])) u2 = some (.lst [.str x]) := upd_same
                generalize upd HA u2 (.lst [.str x]) = HC at us2 uh2 ⊢
                refine ⟨u1, u2, _, _, rfl, rfl, us2 _ _ uh1, uh2, szl (show (cutV (LS.map V.str) none (some (an : Int))).length + 1 ≤ 1000 by omega), fun u3 un3 => ?_⟩
                have us13 := (us1.trans us2).trans (Same.new (o := .lst (cutV (LS.map V.str) none (some (an : Int)) ++ [.str x])) un3)
                have uh3 := hid_at (o := .lst (cutV (LS.map V.str) none (some (an : Int)) ++ [.str x])) (B8.mono (us1.trans us2)) un3
                generalize upd HC u3 (.lst (cutV (LS.map V.str) none (some (an : Int)) ++ [.str x])) = HD at us13 uh3 ⊢
                have BD := B8.mono us13
                refine ⟨_, rfl, _, rfl, _, rfl, b, l, _, rfl, BD, by decide, by decide, fun HE r sE BE r0 r1 => ?_⟩
                obtain ⟨rn, rfl⟩ : ∃ rn : Nat, r = (rn : Int) := ⟨r.toNat, by omega⟩
                have tE := ts_hid (Tb2.same t8 us13).1 BD sE
                have plE := sE _ _ (Same.hid us13 _ _ hpl8)
                have uE3 := sE _ _ uh3
                refine ⟨_, _, rfl, rfl, _, rfl, pl, _, rfl, .inl (.inl (hid_same _ _ plE)), fun u4 un4 => ?_⟩
                have us4 := Same.new (o := .lst (cutV (LS.map V.str) (some ((an : Int) + (rn : Int))) none)) un4
                have uh4 : (upd HE u4 (.lst (cutV (LS.map V.str) (some ((an : Int) + (rn : Int))) none))) u4 = some (.lst (cutV (LS.map V.str) (some ((an : Int) + (rn : Int))) none)) := upd_same
                generalize upd HE u4 (.lst (cutV (LS.map V.str) (some ((an : Int) + (rn : Int))) none)) = HF at us4 uh4 ⊢
                have l2 := cutV_length (LS.map V.str) (some ((an : Int) + (rn : Int))) none
                refine ⟨u3, u4, _, _, rfl, rfl, us4 _ _ (hid_same _ _ uE3), uh4, szl (show (cutV (LS.map V.str) none (some (an : Int)) ++ [V.str x]).length + (cutV (LS.map V.str) (some ((an : Int) + (rn : Int))) none).length ≤ 1000 by rw [List.length_append]; show _ + 1 + _ ≤ 1000; omega), fun u5 un5 => ?_⟩
                have us5 := us4.trans (Same.new (o := .lst (cutV (LS.map V.str) none (some (an : Int)) ++ [.str x] ++ cutV (LS.map V.str) (some ((an : Int) + (rn : Int))) none)) un5)
                have uh5 : (upd HF u5 (.lst (cutV (LS.map V.str) none (some (an : Int)) ++ [.str x] ++ cutV (LS.map V.str) (some ((an : Int) + (rn : Int))) none))) u5 = some (.lst (cutV (LS.map V.str) none (some (an : Int)) ++ [.str x] ++ cutV (LS.map V.str) (some ((an : Int) + (rn : Int))) none)) := upd_same
                generalize upd HF u5 (.lst (cutV (LS.map V.str) none (some (an : Int)) ++ [.str x] ++ cutV (LS.map V.str) (some ((an : Int) + (rn : Int))) none)) = HG at us5 uh5 ⊢
                have el : cutV (LS.map V.str) none (some (an : Int)) ++ [V.str x] ++ cutV (LS.map V.str) (some ((an : Int) + (rn : Int))) none = (LS.take an ++ [x] ++ LS.drop (an + rn)).map V.str := by
                  rw [show (an : Int) + (rn : Int) = ((an + rn : Nat) : Int) from rfl, cutV_to, cutV_fr, List.map_append, List.map_append, List.map_take, List.map_drop]
                  rfl
                rw [el] at uh5
                refine ⟨u5, _, _, _, _, _, rfl, (Tb2.same tE us5).1, uh5, ⟨?_, fun y hy => ?_⟩, fun h => by rw [ev'] at h; cases h⟩
                · rw [List.length_append, List.length_append, List.length_take, List.length_drop]
                  show _ + 1 + _ ≤ 200
                  omega
                · rcases List.mem_append.mp hy with hy | hy
                  · rcases List.mem_append.mp hy with hy | hy
                    · exact okL.each y (List.mem_of_mem_take hy)
                    · rw [List.mem_singleton.mp hy]
                      exact ⟨x10, lx⟩
                  · exact okL.each y (List.mem_of_mem_drop hy)
            · exact done _
          · exact iteN rfl (done _)
    · obtain ⟨pl', ls, at', wy', nh, c7, rfl, t7, hpl7, okl, hbad⟩ := mid
      have lsum := okl.sum
      have llen := okl.len
      have ltx := okl.text
      have big : (202000 : Nat) ≤ sizeLine := by decide
      refine ⟨⟨_, rfl⟩, _, rfl, _, pl', ls, rfl, rfl, .inl (.inl (.inl hpl7)), ?_, ?_⟩
      · rw [slen_lit.2.2.2.2.2.2.2]
        omega
      obtain ⟨lsp, hsp, each, nsp, hls⟩ : ∃ lsp, Txt.split (Txt.join "\n" ls) "\n" = lsp ∧ (∀ x ∈ lsp, x.length ≤ 1000) ∧ lsp.length ≤ 800 ∧ (Txt.join "\n" ls ≠ Str.empty → lsp = ls) := by
        by_cases e : ls = []
        · rw [e, jn_nil]
          exact ⟨_, sp_empty, (fun x hx => by rw [List.mem_singleton.mp hx]; decide), by decide, fun z => absurd rfl z⟩
        · exact ⟨ls, lines_back e (fun x hx => (okl.each x hx).1), fun x hx => (okl.each x hx).2, by omega, fun _ => rfl⟩
      refine ⟨fun σ H8 => ∃ (pt : Addr) (ys : List V) (cs' : List Cue), σ = [some (.ref a), some (.ref b), some (.ref p1), some (.ref pl'), some (.int at'), some (.int wy'), some (.bl nh), c7, some (.str (Txt.join "\n" ls)), some (.ref pt), none] ∧ H8 pt = some (.lst ys) ∧ Dp K H8 (.ref pt) (dCs cs') ∧ CsG cs' ∧ (linesM cs').length ≤ 200 ∧ Txt.join "\n" (linesM cs') = Txt.join "\n" ls ∧ LsN (linesM cs') ∧ H8 pl' = some (.lst (ls.map V.str)) ∧ (nh = true → ls = [Str.empty]), ?_, fun σ H8 mid => ?_⟩
      · refine ⟨_, rfl, Txt.join "\n" ls, lsp, rfl, hsp, by omega, each, nsp, t7, fun hx H8 pt u8 npt hpt => ?_, fun hx cs' hcs H8 pt ys u8 npt hpt hA => ?_, fun hx i l' st h1 h2 h3 H8 d u8 nd hd => ?_⟩
        · exact ⟨pt, [], [], rfl, hpt, .lst (.inl (.inl hpt)) .nil, CsG.nil, Nat.zero_le _, jn_nil.trans hx.symm, ⟨Nat.zero_le _, fun _ h => by cases h⟩, u8.at t7 hpl7 (fun _ z => nomatch z), fun hn => join_none hx ((hbad hn).lsN okL l96).2⟩
        · rw [hls hx] at hcs
          obtain ⟨G', eL⟩ := run_good CsG.nil hcs
          have eL : linesM cs' = ls := eL
          refine ⟨pt, ys, cs', rfl, hpt, .lst (.inl (.inl hpt)) (dpa_mono hidL_same _ _ (cats_dp hA)), G', by rw [eL]; exact llen, by rw [eL], by rw [eL]; exact okl, u8.at t7 hpl7 (fun _ z => nomatch z), fun hn => ?_⟩
          have hb := hbad hn
          rw [← eLS] at hb
          exact absurd hcs (bad_none G hb)
        · rw [hls hx] at h1 h2
          have hpl8 := u8.at t7 hpl7 (fun _ z => nomatch z)
          have hil : i < ls.length := (List.getElem?_eq_some_iff.mp h2).1
          have lml : (ls.map V.str).length = ls.length := List.length_map ..
          refine ⟨true, X.xR, fun _ a0 na0 => ?_, fun z => Bool.noConfusion z⟩
          refine ⟨_, rfl, rfl, ⟨d, _, rfl, hd⟩, _, _, _, rfl, (fun u r => r), kit_self, _, rfl, iteN rfl ?_⟩
          refine ⟨_, rfl, rfl, ⟨d, _, rfl, hd⟩, _, _, _, rfl, (fun u r => r), X.kT, _, rfl, iteN rfl ?_⟩
          refine ⟨_, rfl, rfl, ⟨d, _, rfl, hd⟩, _, _, _, rfl, (fun u r => r), X.kV, _, rfl, iteN rfl ?_⟩
          refine ⟨_, rfl, rfl, rfl, d, _, _, rfl, hd, rfl, _, _, _, _, _, rfl, .ty _, .base (.int _), kit_ty (r := true) (by decide +kernel), _, rfl, iteN rfl ?_⟩
          refine ⟨_, rfl, rfl, rfl, d, _, _, rfl, hd, rfl, _, _, _, _, _, rfl, .ty _, .base (.int _), kit_ty (r := false) (by decide +kernel), _, rfl, iteN rfl ?_⟩
          refine ⟨_, rfl, rfl, rfl, d, _, _, rfl, hd, rfl, _, _, rfl, rfl, _, rfl, iteY (decide_eq_true (by omega)) ?_⟩
          refine ⟨_, rfl, _, _, rfl, .inl (.inl (.inl hpl8)), _, _, rfl, rfl, _, rfl, ?_⟩
          rw [decide_eq_true (show ((i : Nat) : Int) < (((ls.map V.str).length : Nat) : Int) by omega)]
          refine iteN rfl ?_
          cases nh with
          | false => exact ⟨_, rfl, _, rfl, _, rfl, iteY rfl (q _)⟩
          | true =>
            have hb := hbad rfl
            rw [← eLS] at hb
            have e := bad_at G hb h1 h2 h3
            refine ⟨_, rfl, _, rfl, _, rfl, iteN rfl ?_⟩
            refine ⟨_, rfl, rfl, rfl, d, _, _, rfl, hd, rfl, _, rfl, rfl, ?_⟩
            rw [decide_eq_true (show V.int ((i : Nat) : Int) = V.int at' by rw [e])]
            exact q _
      · obtain ⟨pt, ys, cs', rfl, hpt, dpt, G', l9, ej, okc', hpl8, hnh⟩ := mid
        refine ⟨_, rfl, _, _, _, _, _, rfl, .ty _, tyL (.inl (.inl hpt)), kit_ty (r := true) (by decide +kernel), _, rfl, iteN rfl ?_⟩
        have lsum' := okc'.sum
        cases nh with
        | false =>
          refine ⟨_, rfl, _, rfl, iteN rfl (iteN rfl ?_)⟩
          refine ⟨_, rfl, _, cs', rfl, dpt, G', fun H9 s9 => ⟨_, rfl, iteY rfl ?_⟩⟩
          refine ⟨⟨_, rfl⟩, _, rfl, _, cs', rfl, dp_mono s9 _ _ (dpt), G'.ls (by omega), fun H10 p10 s10 n10 h10 => ?_⟩
          refine ⟨_, p10, linesM cs', rfl, rfl, .inl (.inl (.inl h10)), ?_, ?_⟩
          · rw [slen_lit.2.2.2.2.2.2.2]
            omega
          · refine ⟨_, rfl, rfl, ?_⟩
            rw [decide_eq_true (congrArg V.str ej)]
            exact q _
        | true =>
          refine ⟨_, rfl, _, rfl, iteY rfl ?_⟩
          have e1 := hnh rfl
          rw [e1] at hpl8
          refine ⟨_, rfl, (show 1 ≤ sizeLine by decide), fun p n => ?_⟩
          have s9' := Same.new (o := .lst [.str ""]) n
          have d1 : Dp K (upd H8 p (.lst [.str ""])) (.ref pl') (.list [.str ""]) := .lst (.inl (.inl (s9' _ _ hpl8))) (.cons (.str _) .nil)
          have d2 : Dp K (upd H8 p (.lst [.str ""])) (.ref p) (.list [.str ""]) := .lst (.inl (.inl upd_same)) (.cons (.str _) .nil)
          generalize upd H8 p (.lst [.str ""]) = H8' at s9' d1 d2 ⊢
          refine ⟨_, _, d1, d2, by decide +kernel, by decide +kernel, _, rfl, iteN rfl ?_⟩
          refine ⟨_, rfl, _, cs', rfl, dp_mono s9' _ _ dpt, G', fun H9 s9 => ⟨_, rfl, iteY rfl ?_⟩⟩
          refine ⟨⟨_, rfl⟩, _, rfl, _, cs', rfl, dp_mono s9 _ _ (dp_mono s9' _ _ dpt), G'.ls (by omega), fun H10 p10 s10 n10 h10 => ?_⟩
          refine ⟨_, p10, linesM cs', rfl, rfl, .inl (.inl (.inl h10)), ?_, ?_⟩
          · rw [slen_lit.2.2.2.2.2.2.2]
            omega
          · refine ⟨_, rfl, rfl, ?_⟩
            rw [decide_eq_true (congrArg V.str ej)]
            exact q _
end
theorem txt_mk {K : PySem.W.Frag} {h : Heap} {mg : Str → Option Value} (X : K.In h) (G : h.Ns mainGlobals mg)
    {f0 : Addr} {od0 an0 : Option Addr} {sl0 : Array (Option Value)} {oc0 kV0 dc0 pm0 cd0 ct0 : Value}
    (a0 : PySem.W.nsIn K mainGlobals "common_divisor" = some (some (.ref f0))) (l0 : K.lookup f0 = some ⟨oc0, od0, .func (PySem.W.fnOf "common_divisor" "common_divisor" (defArgs s_common_divisor) (defBody s_common_divisor) (defScope s_common_divisor) .none kV0 dc0 pm0 an0 cd0 ct0), sl0⟩) (c0 : PySem.W.codeIn K cd0 "common_divisor" = true) (k0 : PySem.W.keepIn K (.ref f0) = true)
    {f1 : Addr} {od1 an1 : Option Addr} {sl1 : Array (Option Value)} {oc1 kV1 dc1 pm1 cd1 ct1 : Value}
    (a1 : PySem.W.nsIn K mainGlobals "made" = some (some (.ref f1))) (l1 : K.lookup f1 = some ⟨oc1, od1, .func (PySem.W.fnOf "made" "made" (defArgs s_made) (defBody s_made) (defScope s_made) .none kV1 dc1 pm1 an1 cd1 ct1), sl1⟩) (c1 : PySem.W.codeIn K cd1 "made" = true) (k1 : PySem.W.keepIn K (.ref f1) = true)
    {f2 : Addr} {od2 an2 : Option Addr} {sl2 : Array (Option Value)} {oc2 kV2 dc2 pm2 cd2 ct2 : Value}
    (a2 : PySem.W.nsIn K mainGlobals "added" = some (some (.ref f2))) (l2 : K.lookup f2 = some ⟨oc2, od2, .func (PySem.W.fnOf "added" "added" (defArgs s_added) (defBody s_added) (defScope s_added) .none kV2 dc2 pm2 an2 cd2 ct2), sl2⟩) (c2 : PySem.W.codeIn K cd2 "added" = true) (k2 : PySem.W.keepIn K (.ref f2) = true)
    {f3 : Addr} {od3 an3 : Option Addr} {sl3 : Array (Option Value)} {oc3 kV3 dc3 pm3 cd3 ct3 : Value}
    (a3 : PySem.W.nsIn K mainGlobals "is_below" = some (some (.ref f3))) (l3 : K.lookup f3 = some ⟨oc3, od3, .func (PySem.W.fnOf "is_below" "is_below" (defArgs s_is_below) (defBody s_is_below) (defScope s_is_below) .none kV3 dc3 pm3 an3 cd3 ct3), sl3⟩) (c3 : PySem.W.codeIn K cd3 "is_below" = true) (k3 : PySem.W.keepIn K (.ref f3) = true)
    {f4 : Addr} {od4 an4 : Option Addr} {sl4 : Array (Option Value)} {oc4 kV4 dc4 pm4 cd4 ct4 : Value}
    (a4 : PySem.W.nsIn K mainGlobals "read_frames" = some (some (.ref f4))) (l4 : K.lookup f4 = some ⟨oc4, od4, .func (PySem.W.fnOf "read_frames" "read_frames" (defArgs s_read_frames) (defBody s_read_frames) (defScope s_read_frames) .none kV4 dc4 pm4 an4 cd4 ct4), sl4⟩) (c4 : PySem.W.codeIn K cd4 "read_frames" = true) (k4 : PySem.W.keepIn K (.ref f4) = true)
    {f5 : Addr} {od5 an5 : Option Addr} {sl5 : Array (Option Value)} {oc5 kV5 dc5 pm5 cd5 ct5 : Value}
    (a5 : PySem.W.nsIn K mainGlobals "read_mixed" = some (some (.ref f5))) (l5 : K.lookup f5 = some ⟨oc5, od5, .func (PySem.W.fnOf "read_mixed" "read_mixed" (defArgs s_read_mixed) (defBody s_read_mixed) (defScope s_read_mixed) .none kV5 dc5 pm5 an5 cd5 ct5), sl5⟩) (c5 : PySem.W.codeIn K cd5 "read_mixed" = true) (k5 : PySem.W.keepIn K (.ref f5) = true)
    {f6 : Addr} {od6 an6 : Option Addr} {sl6 : Array (Option Value)} {oc6 kV6 dc6 pm6 cd6 ct6 : Value}
    (a6 : PySem.W.nsIn K mainGlobals "read_rest" = some (some (.ref f6))) (l6 : K.lookup f6 = some ⟨oc6, od6, .func (PySem.W.fnOf "read_rest" "read_rest" (defArgs s_read_rest) (defBody s_read_rest) (defScope s_read_rest) .none kV6 dc6 pm6 an6 cd6 ct6), sl6⟩) (c6 : PySem.W.codeIn K cd6 "read_rest" = true) (k6 : PySem.W.keepIn K (.ref f6) = true)
    {f7 : Addr} {od7 an7 : Option Addr} {sl7 : Array (Option Value)} {oc7 kV7 dc7 pm7 cd7 ct7 : Value}
    (a7 : PySem.W.nsIn K mainGlobals "read_number" = some (some (.ref f7))) (l7 : K.lookup f7 = some ⟨oc7, od7, .func (PySem.W.fnOf "read_number" "read_number" (defArgs s_read_number) (defBody s_read_number) (defScope s_read_number) .none kV7 dc7 pm7 an7 cd7 ct7), sl7⟩) (c7 : PySem.W.codeIn K cd7 "read_number" = true) (k7 : PySem.W.keepIn K (.ref f7) = true)
    {f8 : Addr} {od8 an8 : Option Addr} {sl8 : Array (Option Value)} {oc8 kV8 dc8 pm8 cd8 ct8 : Value}
    (a8 : PySem.W.nsIn K mainGlobals "read_cues" = some (some (.ref f8))) (l8 : K.lookup f8 = some ⟨oc8, od8, .func (PySem.W.fnOf "read_cues" "read_cues" (defArgs s_read_cues) (defBody s_read_cues) (defScope s_read_cues) .none kV8 dc8 pm8 an8 cd8 ct8), sl8⟩) (c8 : PySem.W.codeIn K cd8 "read_cues" = true) (k8 : PySem.W.keepIn K (.ref f8) = true)
    {f9 : Addr} {od9 an9 : Option Addr} {sl9 : Array (Option Value)} {oc9 kV9 dc9 pm9 cd9 ct9 : Value}
    (a9 : PySem.W.nsIn K mainGlobals "read_line" = some (some (.ref f9))) (l9 : K.lookup f9 = some ⟨oc9, od9, .func (PySem.W.fnOf "read_line" "read_line" (defArgs s_read_line) (defBody s_read_line) (defScope s_read_line) .none kV9 dc9 pm9 an9 cd9 ct9), sl9⟩) (c9 : PySem.W.codeIn K cd9 "read_line" = true) (k9 : PySem.W.keepIn K (.ref f9) = true)
    {f10 : Addr} {od10 an10 : Option Addr} {sl10 : Array (Option Value)} {oc10 kV10 dc10 pm10 cd10 ct10 : Value}
    (a10 : PySem.W.nsIn K mainGlobals "read_cue" = some (some (.ref f10))) (l10 : K.lookup f10 = some ⟨oc10, od10, .func (PySem.W.fnOf "read_cue" "read_cue" (defArgs s_read_cue) (defBody s_read_cue) (defScope s_read_cue) .none kV10 dc10 pm10 an10 cd10 ct10), sl10⟩) (c10 : PySem.W.codeIn K cd10 "read_cue" = true) (k10 : PySem.W.keepIn K (.ref f10) = true)
    {f11 : Addr} {od11 an11 : Option Addr} {sl11 : Array (Option Value)} {oc11 kV11 dc11 pm11 cd11 ct11 : Value}
    (a11 : PySem.W.nsIn K mainGlobals "read_word" = some (some (.ref f11))) (l11 : K.lookup f11 = some ⟨oc11, od11, .func (PySem.W.fnOf "read_word" "read_word" (defArgs s_read_word) (defBody s_read_word) (defScope s_read_word) .none kV11 dc11 pm11 an11 cd11 ct11), sl11⟩) (c11 : PySem.W.codeIn K cd11 "read_word" = true) (k11 : PySem.W.keepIn K (.ref f11) = true)
    {f12 : Addr} {od12 an12 : Option Addr} {sl12 : Array (Option Value)} {oc12 kV12 dc12 pm12 cd12 ct12 : Value}
    (a12 : PySem.W.nsIn K mainGlobals "is_word" = some (some (.ref f12))) (l12 : K.lookup f12 = some ⟨oc12, od12, .func (PySem.W.fnOf "is_word" "is_word" (defArgs s_is_word) (defBody s_is_word) (defScope s_is_word) .none kV12 dc12 pm12 an12 cd12 ct12), sl12⟩) (c12 : PySem.W.codeIn K cd12 "is_word" = true) (k12 : PySem.W.keepIn K (.ref f12) = true)
    {f13 : Addr} {od13 an13 : Option Addr} {sl13 : Array (Option Value)} {oc13 kV13 dc13 pm13 cd13 ct13 : Value}
    (a13 : PySem.W.nsIn K mainGlobals "_law_begun" = some (some (.ref f13))) (l13 : K.lookup f13 = some ⟨oc13, od13, .func (PySem.W.fnOf "_law_begun" "_law_begun" (defArgs s_Lbegun) (defBody s_Lbegun) (defScope s_Lbegun) .none kV13 dc13 pm13 an13 cd13 ct13), sl13⟩) (c13 : PySem.W.codeIn K cd13 "_law_begun" = true) (k13 : PySem.W.keepIn K (.ref f13) = true)
    {f14 : Addr} {od14 an14 : Option Addr} {sl14 : Array (Option Value)} {oc14 kV14 dc14 pm14 cd14 ct14 : Value}
    (a14 : PySem.W.nsIn K mainGlobals "_law_take" = some (some (.ref f14))) (l14 : K.lookup f14 = some ⟨oc14, od14, .func (PySem.W.fnOf "_law_take" "_law_take" (defArgs s_Ltake) (defBody s_Ltake) (defScope s_Ltake) .none kV14 dc14 pm14 an14 cd14 ct14), sl14⟩) (c14 : PySem.W.codeIn K cd14 "_law_take" = true) (k14 : PySem.W.keepIn K (.ref f14) = true)
    {f15 : Addr} {od15 an15 : Option Addr} {sl15 : Array (Option Value)} {oc15 kV15 dc15 pm15 cd15 ct15 : Value}
    (a15 : PySem.W.nsIn K mainGlobals "_law_fr" = some (some (.ref f15))) (l15 : K.lookup f15 = some ⟨oc15, od15, .func (PySem.W.fnOf "_law_fr" "_law_fr" (defArgs s_Lfr) (defBody s_Lfr) (defScope s_Lfr) .none kV15 dc15 pm15 an15 cd15 ct15), sl15⟩) (c15 : PySem.W.codeIn K cd15 "_law_fr" = true) (k15 : PySem.W.keepIn K (.ref f15) = true)
    {f16 : Addr} {od16 an16 : Option Addr} {sl16 : Array (Option Value)} {oc16 kV16 dc16 pm16 cd16 ct16 : Value}
    (a16 : PySem.W.nsIn K mainGlobals "_law_sum" = some (some (.ref f16))) (l16 : K.lookup f16 = some ⟨oc16, od16, .func (PySem.W.fnOf "_law_sum" "_law_sum" (defArgs s_Lsum) (defBody s_Lsum) (defScope s_Lsum) .none kV16 dc16 pm16 an16 cd16 ct16), sl16⟩) (c16 : PySem.W.codeIn K cd16 "_law_sum" = true) (k16 : PySem.W.keepIn K (.ref f16) = true)
    {f17 : Addr} {od17 an17 : Option Addr} {sl17 : Array (Option Value)} {oc17 kV17 dc17 pm17 cd17 ct17 : Value}
    (a17 : PySem.W.nsIn K mainGlobals "_law_minus" = some (some (.ref f17))) (l17 : K.lookup f17 = some ⟨oc17, od17, .func (PySem.W.fnOf "_law_minus" "_law_minus" (defArgs s_Lminus) (defBody s_Lminus) (defScope s_Lminus) .none kV17 dc17 pm17 an17 cd17 ct17), sl17⟩) (c17 : PySem.W.codeIn K cd17 "_law_minus" = true) (k17 : PySem.W.keepIn K (.ref f17) = true)
    {f18 : Addr} {od18 an18 : Option Addr} {sl18 : Array (Option Value)} {oc18 kV18 dc18 pm18 cd18 ct18 : Value}
    (a18 : PySem.W.nsIn K mainGlobals "_law_times" = some (some (.ref f18))) (l18 : K.lookup f18 = some ⟨oc18, od18, .func (PySem.W.fnOf "_law_times" "_law_times" (defArgs s_Ltimes) (defBody s_Ltimes) (defScope s_Ltimes) .none kV18 dc18 pm18 an18 cd18 ct18), sl18⟩) (c18 : PySem.W.codeIn K cd18 "_law_times" = true) (k18 : PySem.W.keepIn K (.ref f18) = true)
    {f19 : Addr} {od19 an19 : Option Addr} {sl19 : Array (Option Value)} {oc19 kV19 dc19 pm19 cd19 ct19 : Value}
    (a19 : PySem.W.nsIn K mainGlobals "_law_low" = some (some (.ref f19))) (l19 : K.lookup f19 = some ⟨oc19, od19, .func (PySem.W.fnOf "_law_low" "_law_low" (defArgs s_Llow) (defBody s_Llow) (defScope s_Llow) .none kV19 dc19 pm19 an19 cd19 ct19), sl19⟩) (c19 : PySem.W.codeIn K cd19 "_law_low" = true) (k19 : PySem.W.keepIn K (.ref f19) = true)
    {f20 : Addr} {od20 an20 : Option Addr} {sl20 : Array (Option Value)} {oc20 kV20 dc20 pm20 cd20 ct20 : Value}
    (a20 : PySem.W.nsIn K mainGlobals "_law_time" = some (some (.ref f20))) (l20 : K.lookup f20 = some ⟨oc20, od20, .func (PySem.W.fnOf "_law_time" "_law_time" (defArgs s_Ltime) (defBody s_Ltime) (defScope s_Ltime) .none kV20 dc20 pm20 an20 cd20 ct20), sl20⟩) (c20 : PySem.W.codeIn K cd20 "_law_time" = true) (k20 : PySem.W.keepIn K (.ref f20) = true)
    {f21 : Addr} {od21 an21 : Option Addr} {sl21 : Array (Option Value)} {oc21 kV21 dc21 pm21 cd21 ct21 : Value}
    (a21 : PySem.W.nsIn K mainGlobals "_law_cue" = some (some (.ref f21))) (l21 : K.lookup f21 = some ⟨oc21, od21, .func (PySem.W.fnOf "_law_cue" "_law_cue" (defArgs s_Lcue) (defBody s_Lcue) (defScope s_Lcue) .none kV21 dc21 pm21 an21 cd21 ct21), sl21⟩) (c21 : PySem.W.codeIn K cd21 "_law_cue" = true) (k21 : PySem.W.keepIn K (.ref f21) = true)
    {f22 : Addr} {od22 an22 : Option Addr} {sl22 : Array (Option Value)} {oc22 kV22 dc22 pm22 cd22 ct22 : Value}
    (a22 : PySem.W.nsIn K mainGlobals "_law_cues" = some (some (.ref f22))) (l22 : K.lookup f22 = some ⟨oc22, od22, .func (PySem.W.fnOf "_law_cues" "_law_cues" (defArgs s_Lcues) (defBody s_Lcues) (defScope s_Lcues) .none kV22 dc22 pm22 an22 cd22 ct22), sl22⟩) (c22 : PySem.W.codeIn K cd22 "_law_cues" = true) (k22 : PySem.W.keepIn K (.ref f22) = true)
    {f23 : Addr} {od23 an23 : Option Addr} {sl23 : Array (Option Value)} {oc23 kV23 dc23 pm23 cd23 ct23 : Value}
    (a23 : PySem.W.nsIn K mainGlobals "_law_mixed" = some (some (.ref f23))) (l23 : K.lookup f23 = some ⟨oc23, od23, .func (PySem.W.fnOf "_law_mixed" "_law_mixed" (defArgs s_Lmixed) (defBody s_Lmixed) (defScope s_Lmixed) .none kV23 dc23 pm23 an23 cd23 ct23), sl23⟩) (c23 : PySem.W.codeIn K cd23 "_law_mixed" = true) (k23 : PySem.W.keepIn K (.ref f23) = true)
    {f24 : Addr} {od24 an24 : Option Addr} {sl24 : Array (Option Value)} {oc24 kV24 dc24 pm24 cd24 ct24 : Value}
    (a24 : PySem.W.nsIn K mainGlobals "_law_lines" = some (some (.ref f24))) (l24 : K.lookup f24 = some ⟨oc24, od24, .func (PySem.W.fnOf "_law_lines" "_law_lines" (defArgs s_Llines) (defBody s_Llines) (defScope s_Llines) .none kV24 dc24 pm24 an24 cd24 ct24), sl24⟩) (c24 : PySem.W.codeIn K cd24 "_law_lines" = true) (k24 : PySem.W.keepIn K (.ref f24) = true)
    {f25 : Addr} {od25 an25 : Option Addr} {sl25 : Array (Option Value)} {oc25 kV25 dc25 pm25 cd25 ct25 : Value}
    (a25 : PySem.W.nsIn K mainGlobals "_law_good" = some (some (.ref f25))) (l25 : K.lookup f25 = some ⟨oc25, od25, .func (PySem.W.fnOf "_law_good" "_law_good" (defArgs s_Lgood) (defBody s_Lgood) (defScope s_Lgood) .none kV25 dc25 pm25 an25 cd25 ct25), sl25⟩) (c25 : PySem.W.codeIn K cd25 "_law_good" = true) (k25 : PySem.W.keepIn K (.ref f25) = true)
    {f26 : Addr} {od26 an26 : Option Addr} {sl26 : Array (Option Value)} {oc26 kV26 dc26 pm26 cd26 ct26 : Value}
    (a26 : PySem.W.nsIn K mainGlobals "_law_none" = some (some (.ref f26))) (l26 : K.lookup f26 = some ⟨oc26, od26, .func (PySem.W.fnOf "_law_none" "_law_none" (defArgs s_Lnone) (defBody s_Lnone) (defScope s_Lnone) .none kV26 dc26 pm26 an26 cd26 ct26), sl26⟩) (c26 : PySem.W.codeIn K cd26 "_law_none" = true) (k26 : PySem.W.keepIn K (.ref f26) = true)
    {f27 : Addr} {od27 an27 : Option Addr} {sl27 : Array (Option Value)} {oc27 kV27 dc27 pm27 cd27 ct27 : Value}
    (a27 : PySem.W.nsIn K mainGlobals "_law_spoilt" = some (some (.ref f27))) (l27 : K.lookup f27 = some ⟨oc27, od27, .func (PySem.W.fnOf "_law_spoilt" "_law_spoilt" (defArgs s_Lspoilt) (defBody s_Lspoilt) (defScope s_Lspoilt) .none kV27 dc27 pm27 an27 cd27 ct27), sl27⟩) (c27 : PySem.W.codeIn K cd27 "_law_spoilt" = true) (k27 : PySem.W.keepIn K (.ref f27) = true)
    {f28 : Addr} {od28 an28 : Option Addr} {sl28 : Array (Option Value)} {oc28 kV28 dc28 pm28 cd28 ct28 : Value}
    (a28 : PySem.W.nsIn K mainGlobals "_law_odd" = some (some (.ref f28))) (l28 : K.lookup f28 = some ⟨oc28, od28, .func (PySem.W.fnOf "_law_odd" "_law_odd" (defArgs s_Lodd) (defBody s_Lodd) (defScope s_Lodd) .none kV28 dc28 pm28 an28 cd28 ct28), sl28⟩) (c28 : PySem.W.codeIn K cd28 "_law_odd" = true) (k28 : PySem.W.keepIn K (.ref f28) = true)
    {f29 : Addr} {od29 an29 : Option Addr} {sl29 : Array (Option Value)} {oc29 kV29 dc29 pm29 cd29 ct29 : Value}
    (a29 : PySem.W.nsIn K mainGlobals "law" = some (some (.ref f29))) (l29 : K.lookup f29 = some ⟨oc29, od29, .func (PySem.W.fnOf "law" "law" (defArgs s_law) (defBody s_law) (defScope s_law) .none kV29 dc29 pm29 an29 cd29 ct29), sl29⟩) (c29 : PySem.W.codeIn K cd29 "law" = true) (k29 : PySem.W.keepIn K (.ref f29) = true)
    (z_abs : PySem.W.nsIn K mainGlobals "abs" = some none)
    (z_all : PySem.W.nsIn K mainGlobals "all" = some none)
    (z_len : PySem.W.nsIn K mainGlobals "len" = some none)
    (z_int : PySem.W.nsIn K mainGlobals "int" = some none)
    (z_enumerate : PySem.W.nsIn K mainGlobals "enumerate" = some none)
    (z_list : PySem.W.nsIn K mainGlobals "list" = some none)
    (z_range : PySem.W.nsIn K mainGlobals "range" = some none)
    (z_sorted : PySem.W.nsIn K mainGlobals "sorted" = some none)
    (z_str : PySem.W.nsIn K mainGlobals "str" = some none)
    (z_isinstance : PySem.W.nsIn K mainGlobals "isinstance" = some none)
    (z_tuple : PySem.W.nsIn K mainGlobals "tuple" = some none)
    (z_ValueError : PySem.W.nsIn K mainGlobals "ValueError" = some none)
    (z_bool : PySem.W.nsIn K mainGlobals "bool" = some none)
    {C_BadTime : Addr} (ag_BadTime : PySem.W.nsIn K mainGlobals "BadTime" = some (some (.ref C_BadTime))) (ax_BadTime : PySem.W.excIn K C_BadTime [.type "ValueError", .type "Exception", .type "BaseException", .type "object"] "ValueError.__new__" = true) (ak_BadTime : PySem.W.keepIn K (.ref C_BadTime) = true) (ab_BadTime : PySem.W.subIn K (.ref C_BadTime) (.type "BaseException") = some true) (at_BadTime : PySem.W.typeIn K (.ref C_BadTime) = some (.type "type")) (ai_BadTime : PySem.W.isClsIn K C_BadTime = true) (as_BadTime : PySem.W.subIn K (.ref C_BadTime) (.ref C_BadTime) = some true)
    {C_BadNote : Addr} (ag_BadNote : PySem.W.nsIn K mainGlobals "BadNote" = some (some (.ref C_BadNote)))
    {C_ReelError : Addr} (ag_ReelError : PySem.W.nsIn K mainGlobals "ReelError" = some (some (.ref C_ReelError))) (ax_ReelError : PySem.W.excIn K C_ReelError [.type "ValueError", .type "Exception", .type "BaseException", .type "object"] "ValueError.__new__" = true) (ak_ReelError : PySem.W.keepIn K (.ref C_ReelError) = true) (ab_ReelError : PySem.W.subIn K (.ref C_ReelError) (.type "BaseException") = some true) (at_ReelError : PySem.W.typeIn K (.ref C_ReelError) = some (.type "type")) (ai_ReelError : PySem.W.isClsIn K C_ReelError = true) (as_ReelError : PySem.W.subIn K (.ref C_ReelError) (.ref C_ReelError) = some true)
    (hg_x_nc : PySem.W.findIn K (.ref C_BadNote) "__getattribute__" = some (some (.builtin "BaseException.__getattribute__"))) (hk_x_nc : PySem.W.findIn K (.ref C_BadNote) "__getattr__" = some none) (hs_x_nc : PySem.W.subIn K (.ref C_BadNote) (.type "BaseException") = some true) (hd_x_nc : PySem.W.hasDictIn K C_BadNote = true) (ha_x_nc : PySem.W.findIn K (.ref C_BadNote) "__class__" = some (some (.builtin "object.__class__"))) (hn_x_nc : PySem.W.specialIn K (.builtin "object.__class__") "__get__" = some (some (.builtin "getset_descriptor.__get__"))) (ht_x_nc : PySem.W.takesIn K (.builtin "object.__class__") = some true) (hm_x_nc : PySem.W.mroIn K C_BadNote (.type "object") = some true)
    (yb_x_nt : PySem.W.subIn K (.ref C_BadTime) (.type "BaseException") = some true) (ys_x_nt : PySem.W.subIn K (.ref C_BadNote) (.ref C_BadTime) = some false) (yi_x_nt : PySem.W.isClsIn K C_BadTime = true) (yt_x_nt : PySem.W.typeIn K (.ref C_BadTime) = some (.type "type"))
    (yb_x_nr : PySem.W.subIn K (.ref C_ReelError) (.type "BaseException") = some true) (ys_x_nr : PySem.W.subIn K (.ref C_BadNote) (.ref C_ReelError) = some true) (yi_x_nr : PySem.W.isClsIn K C_ReelError = true) (yt_x_nr : PySem.W.typeIn K (.ref C_ReelError) = some (.type "type"))
    (ys_x_nk : PySem.W.subIn K (.ref C_BadNote) (.ref C_BadTime) = some false) (yi_x_nk : PySem.W.isClsIn K C_BadTime = true) (yt_x_nk : PySem.W.typeIn K (.ref C_BadTime) = some (.type "type")) (yn_x_nk : (Value.ref C_BadNote == Value.ref C_BadTime) = false)
    (y_x_nv : PySem.W.subIn K (.ref C_BadNote) (.type "ValueError") = some true)
    (y_x_no : PySem.W.findIn K (.ref C_BadNote) "line" = some none)
    {p_NOUGHT : Addr} {t1_NOUGHT t2_NOUGHT : Tok} {n_NOUGHT : Nat} {od_NOUGHT : Option Addr} {sl_NOUGHT : Array (Option Value)} (y_NOUGHT : PySem.W.nsIn K mainGlobals "NOUGHT" = some (some (.ref p_NOUGHT))) (w_NOUGHT : K.lookup p_NOUGHT = some ⟨.type "tuple", od_NOUGHT, .seq #[.int 0 t1_NOUGHT, .int 1 t2_NOUGHT] n_NOUGHT, sl_NOUGHT⟩)
    {t_MOST_FIGURES : Tok} (y_MOST_FIGURES : PySem.W.nsIn K mainGlobals "MOST_FIGURES" = some (some (.int 9 t_MOST_FIGURES)))
    {t_FIGURES : Tok} (y_FIGURES : PySem.W.nsIn K mainGlobals "FIGURES" = some (some (.str "0123456789" t_FIGURES)))
    {t_CUE : Tok} (y_CUE : PySem.W.nsIn K mainGlobals "CUE" = some (some (.str "cue " t_CUE)))
    {t_WORD : Tok} (y_WORD : PySem.W.nsIn K mainGlobals "WORD" = some (some (.str "  " t_WORD)))
    {t_MOST_LETTERS : Tok} (y_MOST_LETTERS : PySem.W.nsIn K mainGlobals "MOST_LETTERS" = some (some (.int 20 t_MOST_LETTERS)))
    {t_LETTERS : Tok} (y_LETTERS : PySem.W.nsIn K mainGlobals "LETTERS" = some (some (.str "abcdefghijklmnopqrstuvwxyz" t_LETTERS))) : Txt K mg := by
  constructor
  · exact ⟨_, _, fun_mk (st := s_common_divisor) l0 c0 k0, PySem.W.mg_of X G a0, (fun_mk (st := s_common_divisor) l0 c0 k0).binds (ps := ["one", "two"]) fun _ _ _ _ _ _ us hl => match us, hl with | [_, _], _ => rfl⟩
  · exact ⟨_, _, fun_mk (st := s_made) l1 c1 k1, PySem.W.mg_of X G a1, (fun_mk (st := s_made) l1 c1 k1).binds (ps := ["top", "bottom"]) fun _ _ _ _ _ _ us hl => match us, hl with | [_, _], _ => rfl⟩
  · exact ⟨_, _, fun_mk (st := s_added) l2 c2 k2, PySem.W.mg_of X G a2, (fun_mk (st := s_added) l2 c2 k2).binds (ps := ["one", "two"]) fun _ _ _ _ _ _ us hl => match us, hl with | [_, _], _ => rfl⟩
  · exact ⟨_, _, fun_mk (st := s_is_below) l3 c3 k3, PySem.W.mg_of X G a3, (fun_mk (st := s_is_below) l3 c3 k3).binds (ps := ["one", "two"]) fun _ _ _ _ _ _ us hl => match us, hl with | [_, _], _ => rfl⟩
  · exact ⟨_, _, fun_mk (st := s_read_frames) l4 c4 k4, PySem.W.mg_of X G a4, (fun_mk (st := s_read_frames) l4 c4 k4).binds (ps := ["text"]) fun _ _ _ _ _ _ us hl => match us, hl with | [_], _ => rfl⟩
  · exact ⟨_, _, fun_mk (st := s_read_mixed) l5 c5 k5, PySem.W.mg_of X G a5, (fun_mk (st := s_read_mixed) l5 c5 k5).binds (ps := ["text"]) fun _ _ _ _ _ _ us hl => match us, hl with | [_], _ => rfl⟩
  · exact ⟨_, _, fun_mk (st := s_read_rest) l6 c6 k6, PySem.W.mg_of X G a6, (fun_mk (st := s_read_rest) l6 c6 k6).binds (ps := ["blank", "rest"]) fun _ _ _ _ _ _ us hl => match us, hl with | [_, _], _ => rfl⟩
  · exact ⟨_, _, fun_mk (st := s_read_number) l7 c7 k7, PySem.W.mg_of X G a7, (fun_mk (st := s_read_number) l7 c7 k7).binds (ps := ["word"]) fun _ _ _ _ _ _ us hl => match us, hl with | [_], _ => rfl⟩
  · exact ⟨_, _, fun_mk (st := s_read_cues) l8 c8 k8, PySem.W.mg_of X G a8, (fun_mk (st := s_read_cues) l8 c8 k8).binds (ps := ["text"]) fun _ _ _ _ _ _ us hl => match us, hl with | [_], _ => rfl⟩
  · exact ⟨_, _, fun_mk (st := s_read_line) l9 c9 k9, PySem.W.mg_of X G a9, (fun_mk (st := s_read_line) l9 c9 k9).binds (ps := ["line", "at", "cues"]) fun _ _ _ _ _ _ us hl => match us, hl with | [_, _, _], _ => rfl⟩
  · exact ⟨_, _, fun_mk (st := s_read_cue) l10 c10 k10, PySem.W.mg_of X G a10, (fun_mk (st := s_read_cue) l10 c10 k10).binds (ps := ["line", "at", "cues"]) fun _ _ _ _ _ _ us hl => match us, hl with | [_, _, _], _ => rfl⟩
  · exact ⟨_, _, fun_mk (st := s_read_word) l11 c11 k11, PySem.W.mg_of X G a11, (fun_mk (st := s_read_word) l11 c11 k11).binds (ps := ["line", "at", "earliest", "end"]) fun _ _ _ _ _ _ us hl => match us, hl with | [_, _, _, _], _ => rfl⟩
  · exact ⟨_, _, fun_mk (st := s_is_word) l12 c12 k12, PySem.W.mg_of X G a12, (fun_mk (st := s_is_word) l12 c12 k12).binds (ps := ["text"]) fun _ _ _ _ _ _ us hl => match us, hl with | [_], _ => rfl⟩
  · exact ⟨_, _, fun_mk (st := s_Lbegun) l13 c13 k13, PySem.W.mg_of X G a13, (fun_mk (st := s_Lbegun) l13 c13 k13).binds (ps := ["_law_script"]) fun _ _ _ _ _ _ us hl => match us, hl with | [_], _ => rfl⟩
  · exact ⟨_, _, fun_mk (st := s_Ltake) l14 c14 k14, PySem.W.mg_of X G a14, (fun_mk (st := s_Ltake) l14 c14 k14).binds (ps := ["_law_box", "_law_many"]) fun _ _ _ _ _ _ us hl => match us, hl with | [_, _], _ => rfl⟩
  · exact ⟨_, _, fun_mk (st := s_Lfr) l15 c15 k15, PySem.W.mg_of X G a15, (fun_mk (st := s_Lfr) l15 c15 k15).binds (ps := ["_law_top", "_law_bottom"]) fun _ _ _ _ _ _ us hl => match us, hl with | [_, _], _ => rfl⟩
  · exact ⟨_, _, fun_mk (st := s_Lsum) l16 c16 k16, PySem.W.mg_of X G a16, (fun_mk (st := s_Lsum) l16 c16 k16).binds (ps := ["_law_one", "_law_two"]) fun _ _ _ _ _ _ us hl => match us, hl with | [_, _], _ => rfl⟩
  · exact ⟨_, _, fun_mk (st := s_Lminus) l17 c17 k17, PySem.W.mg_of X G a17, (fun_mk (st := s_Lminus) l17 c17 k17).binds (ps := ["_law_one", "_law_two"]) fun _ _ _ _ _ _ us hl => match us, hl with | [_, _], _ => rfl⟩
  · exact ⟨_, _, fun_mk (st := s_Ltimes) l18 c18 k18, PySem.W.mg_of X G a18, (fun_mk (st := s_Ltimes) l18 c18 k18).binds (ps := ["_law_one", "_law_two"]) fun _ _ _ _ _ _ us hl => match us, hl with | [_, _], _ => rfl⟩
  · exact ⟨_, _, fun_mk (st := s_Llow) l19 c19 k19, PySem.W.mg_of X G a19, (fun_mk (st := s_Llow) l19 c19 k19).binds (ps := ["_law_one", "_law_two"]) fun _ _ _ _ _ _ us hl => match us, hl with | [_, _], _ => rfl⟩
  · exact ⟨_, _, fun_mk (st := s_Ltime) l20 c20 k20, PySem.W.mg_of X G a20, (fun_mk (st := s_Ltime) l20 c20 k20).binds (ps := ["_law_box", "_law_most"]) fun _ _ _ _ _ _ us hl => match us, hl with | [_, _], _ => rfl⟩
  · exact ⟨_, _, fun_mk (st := s_Lcue) l21 c21 k21, PySem.W.mg_of X G a21, (fun_mk (st := s_Lcue) l21 c21 k21).binds (ps := ["_law_box", "_law_number"]) fun _ _ _ _ _ _ us hl => match us, hl with | [_, _], _ => rfl⟩
  · exact ⟨_, _, fun_mk (st := s_Lcues) l22 c22 k22, PySem.W.mg_of X G a22, (fun_mk (st := s_Lcues) l22 c22 k22).binds (ps := ["_law_box"]) fun _ _ _ _ _ _ us hl => match us, hl with | [_], _ => rfl⟩
  · exact ⟨_, _, fun_mk (st := s_Lmixed) l23 c23 k23, PySem.W.mg_of X G a23, (fun_mk (st := s_Lmixed) l23 c23 k23).binds (ps := ["_law_time_here"]) fun _ _ _ _ _ _ us hl => match us, hl with | [_], _ => rfl⟩
  · exact ⟨_, _, fun_mk (st := s_Llines) l24 c24 k24, PySem.W.mg_of X G a24, (fun_mk (st := s_Llines) l24 c24 k24).binds (ps := ["_law_cues_here"]) fun _ _ _ _ _ _ us hl => match us, hl with | [_], _ => rfl⟩
  · exact ⟨_, _, fun_mk (st := s_Lgood) l25 c25 k25, PySem.W.mg_of X G a25, (fun_mk (st := s_Lgood) l25 c25 k25).binds (ps := ["_law_cues_here"]) fun _ _ _ _ _ _ us hl => match us, hl with | [_], _ => rfl⟩
  · exact ⟨_, _, fun_mk (st := s_Lnone) l26 c26 k26, PySem.W.mg_of X G a26, (fun_mk (st := s_Lnone) l26 c26 k26).binds (ps := ["_law_box"]) fun _ _ _ _ _ _ us hl => match us, hl with | [_], _ => rfl⟩
  · exact ⟨_, _, fun_mk (st := s_Lspoilt) l27 c27 k27, PySem.W.mg_of X G a27, (fun_mk (st := s_Lspoilt) l27 c27 k27).binds (ps := ["_law_box", "_law_line"]) fun _ _ _ _ _ _ us hl => match us, hl with | [_, _], _ => rfl⟩
  · exact ⟨_, _, fun_mk (st := s_Lodd) l28 c28 k28, PySem.W.mg_of X G a28, (fun_mk (st := s_Lodd) l28 c28 k28).binds (ps := ["_law_box", "_law_cues_here", "_law_lines_here"]) fun _ _ _ _ _ _ us hl => match us, hl with | [_, _, _], _ => rfl⟩
  · exact ⟨_, _, fun_mk (st := s_law) l29 c29 k29, PySem.W.mg_of X G a29, (fun_mk (st := s_law) l29 c29 k29).binds (ps := ["_law_script"]) fun _ _ _ _ _ _ us hl => match us, hl with | [_], _ => rfl⟩
  · exact PySem.W.mg_none_of X G z_abs
  · exact PySem.W.mg_none_of X G z_all
  · exact PySem.W.mg_none_of X G z_len
  · exact PySem.W.mg_none_of X G z_int
  · exact PySem.W.mg_none_of X G z_enumerate
  · exact PySem.W.mg_none_of X G z_list
  · exact PySem.W.mg_none_of X G z_range
  · exact PySem.W.mg_none_of X G z_sorted
  · exact PySem.W.mg_none_of X G z_str
  · exact PySem.W.mg_none_of X G z_isinstance
  · exact PySem.W.mg_none_of X G z_tuple
  · exact PySem.W.mg_none_of X G z_ValueError
  · exact PySem.W.mg_none_of X G z_bool
  · exact ⟨C_BadTime, PySem.W.mg_of X G ag_BadTime, ax_BadTime, ak_BadTime, ab_BadTime, at_BadTime, exm_gen ab_BadTime ai_BadTime at_BadTime as_BadTime⟩
  · exact ⟨C_BadNote, PySem.W.mg_of X G ag_BadNote⟩
  · exact ⟨C_ReelError, PySem.W.mg_of X G ag_ReelError, ax_ReelError, ak_ReelError, ab_ReelError, at_ReelError, exm_gen ab_ReelError ai_ReelError at_ReelError as_ReelError⟩
  · intro C h1; cases h1.symm.trans (PySem.W.mg_of X G ag_BadNote); exact ⟨hg_x_nc, hk_x_nc, hs_x_nc, hd_x_nc, ha_x_nc, hn_x_nc, ht_x_nc, hm_x_nc⟩
  · intro C C2 h1 h2; cases h1.symm.trans (PySem.W.mg_of X G ag_BadNote); cases h2.symm.trans (PySem.W.mg_of X G ag_BadTime); exact exm_gen yb_x_nt yi_x_nt yt_x_nt ys_x_nt
  · intro C C2 h1 h2; cases h1.symm.trans (PySem.W.mg_of X G ag_BadNote); cases h2.symm.trans (PySem.W.mg_of X G ag_ReelError); exact exm_gen yb_x_nr yi_x_nr yt_x_nr ys_x_nr
  · intro C C2 h1 h2; cases h1.symm.trans (PySem.W.mg_of X G ag_BadNote); cases h2.symm.trans (PySem.W.mg_of X G ag_BadTime); exact kit_gen ys_x_nk yi_x_nk yt_x_nk yn_x_nk
  · intro C h1; cases h1.symm.trans (PySem.W.mg_of X G ag_BadNote); exact kit_ve y_x_nv
  · intro C h1; cases h1.symm.trans (PySem.W.mg_of X G ag_BadNote); exact y_x_no
  · exact ⟨p_NOUGHT, ⟨_, PySem.W.mg_of X G y_NOUGHT, rfl⟩, fun H => .inr ⟨_, _, _, w_NOUGHT, rfl, rfl, (show 2 ≤ sizeLine by decide), .cons ⟨_, rfl⟩ (.cons ⟨_, rfl⟩ .nil)⟩⟩
  · exact ⟨_, PySem.W.mg_of X G y_MOST_FIGURES, ⟨_, rfl⟩⟩
  · exact ⟨_, PySem.W.mg_of X G y_FIGURES, ⟨_, rfl⟩⟩
  · exact ⟨_, PySem.W.mg_of X G y_CUE, ⟨_, rfl⟩⟩
  · exact ⟨_, PySem.W.mg_of X G y_WORD, ⟨_, rfl⟩⟩
  · exact ⟨_, PySem.W.mg_of X G y_MOST_LETTERS, ⟨_, rfl⟩⟩
  · exact ⟨_, PySem.W.mg_of X G y_LETTERS, ⟨_, rfl⟩⟩
abbrev s_bn : Stmt := inClass (topS 3) 0
theorem nt_mk {P : Program} {w : World} {K : PySem.W.Frag} {h : Heap} {mg : Str → Option Value} (X : K.In h) (G : h.Ns mainGlobals mg) {C fI cda cc : Addr} {nm cq : Str} {cN : Addr} {bs bm : List Value} {sn : List Str} {sub : List Value} {ab : Bool} {col : Option Bool} {dd : Option Addr} {k0 k1 k2 k3 k5 : Option Value}
    (ag : PySem.W.nsIn K mainGlobals "BadNote" = some (some (.ref C))) (lC : K.lookup C = some (excClassObj nm cq C cN bs bm true sn sub ab col dd k0 k1 k2 k3 k5 "ValueError.__new__")) (rv : PySem.HandSPX.refsVE bm = true)
    (sa : PySem.W.findIn K (.ref C) "__setattr__" = some (some (.builtin "object.__setattr__"))) (ex : PySem.W.subIn K (.ref C) (.type "BaseException") = some true) (ty : PySem.W.typeIn K (.ref C) = some (.type "type")) (kc : PySem.W.keepIn K (.ref C) = true)
    (ii : PySem.W.findIn K (.ref C) "__init__" = some (some (.ref fI))) (ti : PySem.W.typeIn K (.ref fI) = some (.type "function"))
    {oc kV dc pm ct : Value} {od an : Option Addr} {osl : Array (Option Value)} (lI : K.lookup fI = some ⟨oc, od, .func (PySem.W.ksFn "__init__" "BadNote.__init__" (defArgs s_bn) (defBody s_bn) (defScope s_bn) .none kV dc pm an (.ref cda) ct cc), osl⟩)
    (cI : PySem.W.codeIn K (.ref cda) "BadNote.__init__" = true) {cl : Value} {cld : Option Addr} {csl : Array (Option Value)} (lc : K.lookup cc = some ⟨cl, cld, .cell (some (.ref C)), csl⟩)
    {ccl : Value} {cdd : Option Addr} {vs : Array Value} {ccs : Array (Option Value)} {file : Str} {tf : Tok} (ld : K.lookup cda = some ⟨ccl, cdd, .fields vs, ccs⟩) (hv : vs[2]? = some (.str file tf)) (hf : ((P.main.file : Str) == file) = true)
    (me : PySem.W.mroIn K C (.ref C) = some true) (su : PySem.W.nsIn K mainGlobals "super" = some none) (tp : (P.main.scope.names.lookup ("super" : Str)).isSome = false) (ini : PySem.W.ks_superIn K C C "__init__" = some (some (.builtin "ValueError.__init__")))
    (ve : PySem.W.subIn K (.ref C) (.type "ValueError") = some true) (tpa : PySem.W.nsIn K cStatics "thirdparty.any" = some none) (no : PySem.W.findIn K (.ref C) "line" = some none) (base : Heap) : NtX P w K mg base "BadNote" C := by
  have O : OexC K C := ⟨⟨nm, cq, cN, bs, bm, sn, sub, ab, col, dd, k0, k1, k2, k3, k5, lC, rv⟩, sa, ex, ty, kc⟩
  refine ⟨O, PySem.W.mg_of X G ag, fI, _, ii, ti, fun s us _ hl => ?_, note_run (C := C) (cc := cc) ⟨O, ⟨_, _, _, lc⟩, ⟨_, _, _, _, _, _, ld, hv, hf⟩, me, PySem.W.mg_none_of X G su, tp, ini, ve, tpa, no⟩ lI (fun L => ⟨_, rfl⟩) cI rfl (by decide)⟩
  match us, hl with
  | [_, _], _ => exact .of_eq rfl
theorem law_mk {l : PySem.W.OpenLaw} {w : World} {K : PySem.W.Frag} {h : Heap} {mg : Str → Option Value} {fa f2 : Addr} (X : K.In h) (G : h.Ns mainGlobals mg) (hfa : mg "law" = some (.ref fa)) (T : Txt K mg)
    {od2 an2 : Option Addr} {sl2 : Array (Option Value)} {oc2 kV2 dc2 pm2 cd2 ct2 : Value}
    (a2 : PySem.W.nsIn K mainGlobals "law" = some (some (.ref f2))) (l2 : K.lookup f2 = some ⟨oc2, od2, .func (PySem.W.fnOf "law" "law" (defArgs s_law) (defBody s_law) (defScope s_law) .none kV2 dc2 pm2 an2 cd2 ct2), sl2⟩) (c2 : PySem.W.codeIn K cd2 "law" = true) (k2 : PySem.W.keepIn K (.ref f2) = true)
    (tabs : ∀ nm ∈ (["read_number", "is_word"] : List Str), ∀ f, mg nm = some (.ref f) → LamX.OwnTab K f h) {f3 c P0 : Addr} {od3 an3 : Option Addr} {sl3 : Array (Option Value)} {oc3 kV3 dc3 pm3 ct3 : Value}
    (a3 : PySem.W.nsIn K mainGlobals "read_number" = some (some (.ref f3))) (l3 : K.lookup f3 = some ⟨oc3, od3, .func (PySem.W.fnOf "read_number" "read_number" (defArgs s_read_number) (defBody s_read_number) (defScope s_read_number) .none kV3 dc3 pm3 an3 (.ref c) ct3), sl3⟩) (c3 : PySem.W.codeIn K (.ref c) "read_number" = true) (k3 : PySem.W.keepIn K (.ref f3) = true)
    {e3 : Value} {dd3 : Option Addr} {vs3 : Array Value} {sl4 : Array (Option Value)} (m3 : K.lookup c = some ⟨e3, dd3, .fields vs3, sl4⟩) (p3 : vs3[11]? = some (.ref P0)) (n3 : K.lookup P0 = none) (h3 : PySem.W.codeHdIn K c P0 = true)
    {f5 c' P1 : Addr} {od5 an5 : Option Addr} {sl5 : Array (Option Value)} {oc5 kV5 dc5 pm5 ct5 : Value}
    (a5 : PySem.W.nsIn K mainGlobals "is_word" = some (some (.ref f5))) (l5 : K.lookup f5 = some ⟨oc5, od5, .func (PySem.W.fnOf "is_word" "is_word" (defArgs s_is_word) (defBody s_is_word) (defScope s_is_word) .none kV5 dc5 pm5 an5 (.ref c') ct5), sl5⟩) (c5 : PySem.W.codeIn K (.ref c') "is_word" = true) (k5 : PySem.W.keepIn K (.ref f5) = true)
    {e5 : Value} {dd5 : Option Addr} {vs5 : Array Value} {sl6 : Array (Option Value)} (m5 : K.lookup c' = some ⟨e5, dd5, .fields vs5, sl6⟩) (p5 : vs5[11]? = some (.ref P1)) (n5 : K.lookup P1 = none) (h5 : PySem.W.codeHdIn K c' P1 = true) (hne : P0 ≠ P1) {CN : Addr} (hN : ∀ base : Heap, NtX l.prog w K mg base "BadNote" CN) :
    LamX.LawAtS l w K CX0 9 63 "_law_script" mg fa h := by
  have e := hfa.symm.trans (PySem.W.mg_of X G a2)
  cases e
  obtain ⟨C, eB⟩ := T.e_BadTime
  obtain ⟨CR, eR⟩ := T.e_ReelError
  have gN := (hN h).g
  have xC := T.x_nc CN gN
  have NF : NtF K C CR CN := ⟨T.x_nt CN C gN eB.g, T.x_nr CN CR gN eR.g, xC, ⟨xC.hg, xC.hk, xC.hs, xC.hd⟩, T.x_no CN gN, T.x_nk CN C gN eB.g, T.x_nv CN gN⟩
  have hf3 := PySem.W.mg_of X G a3
  have hf5 := PySem.W.mg_of X G a5
  have tP := tabs "read_number" (by simp) f3 hf3 c P0 _ _ _ _ _ _ l3 rfl rfl m3 p3
  have tP1 := tabs "is_word" (by simp) f5 hf5 c' P1 _ _ _ _ _ _ l5 rfl rfl m5 p5
  have D : Dfc K mg "read_number" s_read_number ["word"] c := ⟨⟨f3, oc3, od3, kV3, dc3, pm3, an3, ct3, sl3, l3, c3, k3, hf3, (fun_mk (st := s_read_number) l3 c3 k3).binds (ps := ["word"]) fun _ _ _ _ _ _ us hl => match us, hl with | [_], _ => rfl⟩⟩
  have D1 : Dfc K mg "is_word" s_is_word ["text"] c' := ⟨⟨f5, oc5, od5, kV5, dc5, pm5, an5, ct5, sl5, l5, c5, k5, hf5, (fun_mk (st := s_is_word) l5 c5 k5).binds (ps := ["text"]) fun _ _ _ _ _ _ us hl => match us, hl with | [_], _ => rfl⟩⟩
  have mem : ∀ {p : Addr × Addr}, p ∈ [(c, P0), (c', P1)] → p = (c, P0) ∨ p = (c', P1) := fun hp => by simpa using hp
  refine ⟨PySem.W.fnOf "law" "law" (defArgs s_law) (defBody s_law) (defScope s_law) .none kV2 dc2 pm2 an2 cd2 ct2, [(c, P0), (c', P1)], spLaw K P0 P1, fun p hp => ?_, fun p hp => ?_, fun p hp => ?_, fun s v => .of_eq rfl, fun H a ns hl hbits hT hS => ?_, fun base _ _ tb => ?_⟩
  · rcases mem hp with rfl | rfl
    · exact tP
    · exact tP1
  · rcases mem hp with rfl | rfl
    · exact n3
    · exact n5
  · rcases mem hp with rfl | rfl
    · exact PySem.W.codeHd_of_K X h3
    · exact PySem.W.codeHd_of_K X h5
  · exact ⟨a, ns, rfl, hS, hl, ⟨hne, ⟨#[], hT _ (List.mem_cons_self), trivial⟩, ⟨#[], hT _ (List.mem_cons_of_mem _ List.mem_cons_self), trivial⟩⟩, fun _ => rfl⟩
  · have t := tb _ (List.mem_cons_self)
    have t' := tb _ (List.mem_cons_of_mem _ List.mem_cons_self)
    exact ok_law (fun_mk (st := s_law) l2 c2 k2) T D ⟨t.code, t.bm, t.gP⟩ eB eR D1 ⟨t'.code, t'.bm, t'.gP⟩ (hN base) NF
end R
open PySem PySem.W PyProof.Rows
set_option maxHeartbeats 0 in
theorem PySem.Challenge.cw_reels_k19_whole_cues_read_holds : PySem.Challenge.rw_reels_k19_whole_cues_read.Holds := by
  w_on; o_law; k_head; (case hw => w_witness2)
  k_fill
  refine R.walk_tabs (l := PySem.Challenge.rw_reels_k19_whole_cues_read) (n := 63) (k := 9) (x := "_law_script") (CX := fun _ => L2.CX0) ["read_number", "is_word"] rfl (by decide) rfl ⟨rfl, by decide, by decide⟩ ?R (fun w h Y => PySem.W.kIn_of Y) ?F (fun _ _ _ _ _ h => h)
  case R =>
    intro nm hnm
    rcases List.mem_cons.mp hnm with rfl | hnm
    · first | rfl | decide +kernel
    · rw [List.mem_singleton.mp hnm]; first | rfl | decide +kernel
  case F =>
    intro w mg fa h KX G hmg tabs
    refine' R.law_mk KX G hmg (R.txt_mk KX G ?a0 ?l0 ?c0 ?k0 ?a1 ?l1 ?c1 ?k1 ?a2 ?l2 ?c2 ?k2 ?a3 ?l3 ?c3 ?k3 ?a4 ?l4 ?c4 ?k4 ?a5 ?l5 ?c5 ?k5 ?a6 ?l6 ?c6 ?k6 ?a7 ?l7 ?c7 ?k7 ?a8 ?l8 ?c8 ?k8 ?a9 ?l9 ?c9 ?k9 ?a10 ?l10 ?c10 ?k10 ?a11 ?l11 ?c11 ?k11 ?a12 ?l12 ?c12 ?k12 ?a13 ?l13 ?c13 ?k13 ?a14 ?l14 ?c14 ?k14 ?a15 ?l15 ?c15 ?k15 ?a16 ?l16 ?c16 ?k16 ?a17 ?l17 ?c17 ?k17 ?a18 ?l18 ?c18 ?k18 ?a19 ?l19 ?c19 ?k19 ?a20 ?l20 ?c20 ?k20 ?a21 ?l21 ?c21 ?k21 ?a22 ?l22 ?c22 ?k22 ?a23 ?l23 ?c23 ?k23 ?a24 ?l24 ?c24 ?k24 ?a25 ?l25 ?c25 ?k25 ?a26 ?l26 ?c26 ?k26 ?a27 ?l27 ?c27 ?k27 ?a28 ?l28 ?c28 ?k28 ?a29 ?l29 ?c29 ?k29 ?z_abs ?z_all ?z_len ?z_int ?z_enumerate ?z_list ?z_range ?z_sorted ?z_str ?z_isinstance ?z_tuple ?z_ValueError ?z_bool ?ag_BadTime ?ax_BadTime ?ak_BadTime ?ab_BadTime ?at_BadTime ?ai_BadTime ?as_BadTime ?ag_BadNote ?ag_ReelError ?ax_ReelError ?ak_ReelError ?ab_ReelError ?at_ReelError ?ai_ReelError ?as_ReelError  ?hg_x_nc ?hk_x_nc ?hs_x_nc ?hd_x_nc ?ha_x_nc ?hn_x_nc ?ht_x_nc ?hm_x_nc ?yb_x_nt ?ys_x_nt ?yi_x_nt ?yt_x_nt ?yb_x_nr ?ys_x_nr ?yi_x_nr ?yt_x_nr ?ys_x_nk ?yi_x_nk ?yt_x_nk ?yn_x_nk ?y_x_nv ?y_x_no ?y_NOUGHT ?w_NOUGHT ?y_MOST_FIGURES ?y_FIGURES ?y_CUE ?y_WORD ?y_MOST_LETTERS ?y_LETTERS) ?a29 ?l29 ?c29 ?k29 tabs ?ra ?rl ?rc ?rk ?rm ?rp ?rn ?rh ?sa ?sl ?sc ?sk ?sm ?sp ?sn ?sh ?sne (R.nt_mk KX G ?n_ag ?n_lC ?n_rv ?n_sa ?n_ex ?n_ty ?n_kc ?n_ii ?n_ti ?n_lI ?n_cI ?n_lc ?n_ld ?n_hv ?n_hf ?n_me ?n_su ?n_tp ?n_ini ?n_ve ?n_tpa ?n_no)
    (case ra => k_is); (case rl => k_is); (case rc => k_is); (case rk => k_is); (case rm => k_is); (case rp => rfl); (case rn => first | k_is | rfl); (case rh => first | k_is | rfl)
    (case sa => k_is); (case sl => k_is); (case sc => k_is); (case sk => k_is); (case sm => k_is); (case sp => rfl); (case sn => first | k_is | rfl); (case sh => first | k_is | rfl)
    (case sne => decide)
    (case n_ag => k_is); (case n_lC => k_is); (case n_rv => first | rfl | decide +kernel); (case n_sa => k_is); (case n_ex => k_is); (case n_ty => k_is); (case n_kc => k_is); (case n_ii => k_is); (case n_ti => k_is); (case n_lI => k_is); (case n_cI => k_is); (case n_lc => k_is); (case n_ld => k_is); (case n_hv => rfl); (case n_hf => first | rfl | decide +kernel); (case n_me => k_is); (case n_su => k_is); (case n_tp => first | rfl | decide +kernel); (case n_ini => first | ks_is | k_is); (case n_ve => k_is); (case n_tpa => k_is); (case n_no => k_is)
    (case a0 => k_is); (case l0 => k_is); (case c0 => k_is); (case k0 => k_is); (case a1 => k_is); (case l1 => k_is); (case c1 => k_is); (case k1 => k_is); (case a2 => k_is); (case l2 => k_is); (case c2 => k_is); (case k2 => k_is); (case a3 => k_is); (case l3 => k_is); (case c3 => k_is); (case k3 => k_is); (case a4 => k_is); (case l4 => k_is); (case c4 => k_is); (case k4 => k_is); (case a5 => k_is); (case l5 => k_is); (case c5 => k_is); (case k5 => k_is); (case a6 => k_is); (case l6 => k_is); (case c6 => k_is); (case k6 => k_is); (case a7 => k_is); (case l7 => k_is); (case c7 => k_is); (case k7 => k_is); (case a8 => k_is); (case l8 => k_is); (case c8 => k_is); (case k8 => k_is); (case a9 => k_is); (case l9 => k_is); (case c9 => k_is); (case k9 => k_is); (case a10 => k_is); (case l10 => k_is); (case c10 => k_is); (case k10 => k_is); (case a11 => k_is); (case l11 => k_is); (case c11 => k_is); (case k11 => k_is); (case a12 => k_is); (case l12 => k_is); (case c12 => k_is); (case k12 => k_is); (case a13 => k_is); (case l13 => k_is); (case c13 => k_is); (case k13 => k_is); (case a14 => k_is); (case l14 => k_is); (case c14 => k_is); (case k14 => k_is); (case a15 => k_is); (case l15 => k_is); (case c15 => k_is); (case k15 => k_is); (case a16 => k_is); (case l16 => k_is); (case c16 => k_is); (case k16 => k_is); (case a17 => k_is); (case l17 => k_is); (case c17 => k_is); (case k17 => k_is); (case a18 => k_is); (case l18 => k_is); (case c18 => k_is); (case k18 => k_is); (case a19 => k_is); (case l19 => k_is); (case c19 => k_is); (case k19 => k_is); (case a20 => k_is); (case l20 => k_is); (case c20 => k_is); (case k20 => k_is); (case a21 => k_is); (case l21 => k_is); (case c21 => k_is); (case k21 => k_is); (case a22 => k_is); (case l22 => k_is); (case c22 => k_is); (case k22 => k_is); (case a23 => k_is); (case l23 => k_is); (case c23 => k_is); (case k23 => k_is); (case a24 => k_is); (case l24 => k_is); (case c24 => k_is); (case k24 => k_is); (case a25 => k_is); (case l25 => k_is); (case c25 => k_is); (case k25 => k_is); (case a26 => k_is); (case l26 => k_is); (case c26 => k_is); (case k26 => k_is); (case a27 => k_is); (case l27 => k_is); (case c27 => k_is); (case k27 => k_is); (case a28 => k_is); (case l28 => k_is); (case c28 => k_is); (case k28 => k_is); (case a29 => k_is); (case l29 => k_is); (case c29 => k_is); (case k29 => k_is)
    (case z_abs => k_is); (case z_all => k_is); (case z_len => k_is); (case z_int => k_is); (case z_enumerate => k_is); (case z_list => k_is); (case z_range => k_is); (case z_sorted => k_is); (case z_str => k_is); (case z_isinstance => k_is); (case z_tuple => k_is); (case z_ValueError => k_is); (case z_bool => k_is)
    (case ag_BadTime => k_is); (case ax_BadTime => k_exc); (case ak_BadTime => k_is); (case ab_BadTime => k_is); (case at_BadTime => k_is); (case ai_BadTime => k_is); (case as_BadTime => first | rfl | k_is)
    (case ag_BadNote => k_is)
    (case ag_ReelError => k_is); (case ax_ReelError => k_exc); (case ak_ReelError => k_is); (case ab_ReelError => k_is); (case at_ReelError => k_is); (case ai_ReelError => k_is); (case as_ReelError => first | rfl | k_is)
    (case hg_x_nc => k_is); (case hk_x_nc => k_is); (case hs_x_nc => k_is); (case hd_x_nc => k_is); (case ha_x_nc => k_is); (case hn_x_nc => k_is); (case ht_x_nc => k_is); (case hm_x_nc => k_is)
    (case yb_x_nt => k_is); (case ys_x_nt => k_is); (case yi_x_nt => k_is); (case yt_x_nt => k_is)
    (case yb_x_nr => k_is); (case ys_x_nr => k_is); (case yi_x_nr => k_is); (case yt_x_nr => k_is)
    (case ys_x_nk => first | rfl | k_is); (case yi_x_nk => first | rfl | k_is); (case yt_x_nk => first | rfl | k_is); (case yn_x_nk => first | rfl | k_is)
    (case y_x_nv => k_is)
    (case y_x_no => k_is)
    (case y_NOUGHT => k_is); (case w_NOUGHT => k_is); (case y_MOST_FIGURES => k_is); (case y_FIGURES => k_is); (case y_CUE => k_is); (case y_WORD => k_is); (case y_MOST_LETTERS => k_is); (case y_LETTERS => k_is)
